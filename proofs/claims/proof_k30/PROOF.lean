import PyProof.Rows.All
import HandS.ForMost
import HandS.TupAny
import HandS.TupMul
import HandS.Deep
import HandS.Wide
import HandS.Small
import HandS.DictTup
import HandS.Zip
import HandS.Style
import HandS.TupSets
import KE.SortData
import PyProof.ReprRoads
import HandS.RaiseMore
import HandS.Conv
import HandS.Ends
import PySem.Challenge.RW_greenheld_k30_whole_lamps_never_cross
set_option Elab.async false
set_option linter.all false
set_option maxRecDepth 100000
set_option maxHeartbeats 4000000
/-! Dl1: values as data (tuples whole, objects by address), a view of the heap, readings over them. -/
namespace DL
open PySem PySem.Spec PyProof.Rows L2

/-- data: tuples are values, what changes is told by its address -/
inductive D where
  | non | bl (b : Bool) | int (i : Int) | str (x : Str) | ty (n : String) | tup (xs : List D) | rl (xs : List D) | ref (a : Addr)

/-- what is seen at an address -/
inductive DO where
  | lst (xs : List D)
  | dic (kvs : List (Key × D))
  | dit (kvs : List (List Key × D))

abbrev DW := Addr → Option DO
abbrev Env := List (Option D)
abbrev DK := D → DW → Prop
abbrev FE := Env → DW → DK → Prop
abbrev FT := Env → DW → (Bool → DW → Prop) → Prop
abbrev FA := Env → DW → (List D → DW → Prop) → Prop
structure DE where
  nx : Env → DW → Prop
  rt : DK
  bk : Env → DW → Prop := fun _ _ => False
  ct : Env → DW → Prop := fun _ _ => False
abbrev FS := DE → Env → DW → Prop

def wup (W : DW) (a : Addr) (o : DO) : DW := fun b => if b = a then some o else W b
theorem wup_same {W : DW} {a : Addr} {o : DO} : wup W a o a = some o := by unfold wup; rw [if_pos rfl]
theorem wup_ne {W : DW} {a b : Addr} {o : DO} (h : b ≠ a) : wup W a o b = W b := by unfold wup; rw [if_neg h]

/-- a list of the written part; a list that is only read -/
def KL (K : PySem.W.Frag) (a : Addr) (xs : List V) : Prop := ∃ (o : Obj) (its : Array Value) (n : Nat), K.lookup a = some o ∧ o.cls = .type "list" ∧ o.dict = none ∧ o.data = .seq its n ∧ its.size ≤ sizeLine ∧ Vals xs its.toList
def RdL (K : PySem.W.Frag) (H : Hp) (a : Addr) (vs : List V) : Prop := (∃ ob, H a = some (.frz ob (.lst vs))) ∨ KL K a vs
theorem RdL.sq {K : PySem.W.Frag} {H : Hp} {a : Addr} {vs : List V} (h : RdL K H a vs) : SqL K H a vs := by
  rcases h with ⟨ob, h⟩ | h
  · exact .inl (.inr ⟨ob, h⟩)
  · exact .inr h
mutual
def DV (K : PySem.W.Frag) (H : Hp) : D → V → Prop
  | .non, v => v = .non
  | .bl b, v => v = .bl b
  | .int i, v => v = .int i
  | .str x, v => v = .str x
  | .ty n, v => v = .ty n
  | .ref a, v => v = .ref a
  | .tup ds, v => ∃ a vs, v = .ref a ∧ SqT K H a vs ∧ DVs K H ds vs
  | .rl ds, v => ∃ a vs, v = .ref a ∧ RdL K H a vs ∧ DVs K H ds vs
def DVs (K : PySem.W.Frag) (H : Hp) : List D → List V → Prop
  | [], vs => vs = []
  | d :: ds, vs => ∃ v r, vs = v :: r ∧ DV K H d v ∧ DVs K H ds r
end

structure Ext (K : PySem.W.Frag) (H H' : Hp) : Prop where
  t : ∀ a xs, SqT K H a xs → SqT K H' a xs
  l : ∀ a ob xs, H a = some (.frz ob (.lst xs)) → H' a = some (.frz ob (.lst xs))
theorem Ext.refl {K : PySem.W.Frag} (H : Hp) : Ext K H H := ⟨fun _ _ h => h, fun _ _ _ h => h⟩
theorem Ext.trans {K : PySem.W.Frag} {H H1 H2 : Hp} (a : Ext K H H1) (b : Ext K H1 H2) : Ext K H H2 := ⟨fun c xs h => b.t c xs (a.t c xs h), fun c o xs h => b.l c o xs (a.l c o xs h)⟩
theorem RdL.ext {K : PySem.W.Frag} {H H' : Hp} {a : Addr} {vs : List V} (e : Ext K H H') (h : RdL K H a vs) : RdL K H' a vs := by
  rcases h with ⟨ob, h⟩ | h
  · exact .inl ⟨ob, e.l _ _ _ h⟩
  · exact .inr h

section
variable {K : PySem.W.Frag} {H H' H1 : Hp}
mutual
theorem DV.ext (e : Ext K H H') : ∀ {d : D} {v : V}, DV K H d v → DV K H' d v
  | .non, _, h => h
  | .bl _, _, h => h
  | .int _, _, h => h
  | .str _, _, h => h
  | .ty _, _, h => h
  | .ref _, _, h => h
  | .tup ds, v, h => by
    obtain ⟨a, vs, e1, h1, h2⟩ := h
    exact ⟨a, vs, e1, e.t a vs h1, DVs.ext e h2⟩
  | .rl ds, v, h => by
    obtain ⟨a, vs, e1, h1, h2⟩ := h
    exact ⟨a, vs, e1, h1.ext e, DVs.ext e h2⟩
theorem DVs.ext (e : Ext K H H') : ∀ {ds : List D} {vs : List V}, DVs K H ds vs → DVs K H' ds vs
  | [], _, h => h
  | d :: ds, vs, h => by
    obtain ⟨v, r, e1, h1, h2⟩ := h
    exact ⟨v, r, e1, DV.ext e h1, DVs.ext e h2⟩
end
theorem DVs.length : ∀ {ds : List D} {vs : List V}, DVs K H ds vs → vs.length = ds.length
  | [], _, h => by cases h; rfl
  | d :: ds, vs, h => by
    obtain ⟨v, r, rfl, _, h2⟩ := h
    show r.length + 1 = ds.length + 1
    rw [DVs.length h2]
theorem DVs.get : ∀ {ds : List D} {vs : List V} {i : Nat} {d : D}, DVs K H ds vs → ds[i]? = some d → ∃ v, vs[i]? = some v ∧ DV K H d v
  | [], _, _, _, _, e => by simp at e
  | d :: ds, vs, 0, x, h, e => by
    obtain ⟨v, r, rfl, h1, h2⟩ := h
    simp at e
    subst e
    exact ⟨v, rfl, h1⟩
  | d :: ds, vs, i + 1, x, h, e => by
    obtain ⟨v, r, rfl, h1, h2⟩ := h
    obtain ⟨u, a, b⟩ := DVs.get (i := i) h2 (by simpa using e)
    exact ⟨u, by simpa using a, b⟩
theorem DVs.append : ∀ {xs ys : List D} {us vs : List V}, DVs K H xs us → DVs K H ys vs → DVs K H (xs ++ ys) (us ++ vs)
  | [], _, _, _, h, h' => by cases h; exact h'
  | d :: ds, _, _, _, h, h' => by
    obtain ⟨v, r, rfl, h1, h2⟩ := h
    exact ⟨v, _, rfl, h1, DVs.append h2 h'⟩
theorem DVs.take : ∀ (n : Nat) {xs : List D} {us : List V}, DVs K H xs us → DVs K H (xs.take n) (us.take n)
  | 0, _, _, _ => by simp [DVs]
  | n + 1, [], _, h => by cases h; simp [DVs]
  | n + 1, d :: ds, _, h => by
    obtain ⟨v, r, rfl, h1, h2⟩ := h
    exact ⟨v, _, rfl, h1, DVs.take n h2⟩
theorem DVs.drop : ∀ (n : Nat) {xs : List D} {us : List V}, DVs K H xs us → DVs K H (xs.drop n) (us.drop n)
  | 0, _, _, h => h
  | n + 1, [], _, h => by cases h; simp [DVs]
  | n + 1, d :: ds, _, h => by
    obtain ⟨v, r, rfl, h1, h2⟩ := h
    exact DVs.drop n h2
theorem DVs.set : ∀ (n : Nat) {xs : List D} {us : List V} {d : D} {v : V}, DV K H d v → DVs K H xs us → DVs K H (xs.set n d) (us.set n v)
  | _, [], _, _, _, _, h => by cases h; simp [DVs]
  | 0, x :: ds, _, _, _, hd, h => by
    obtain ⟨v, r, rfl, h1, h2⟩ := h
    exact ⟨_, _, rfl, hd, h2⟩
  | n + 1, x :: ds, _, _, _, hd, h => by
    obtain ⟨v, r, rfl, h1, h2⟩ := h
    exact ⟨_, _, rfl, h1, DVs.set n hd h2⟩
theorem DVs.reverse : ∀ {xs : List D} {us : List V}, DVs K H xs us → DVs K H xs.reverse us.reverse
  | [], _, h => by cases h; simp [DVs]
  | d :: ds, _, h => by
    obtain ⟨v, r, rfl, h1, h2⟩ := h
    rw [List.reverse_cons, List.reverse_cons]
    exact DVs.append (DVs.reverse h2) ⟨v, [], rfl, h1, rfl⟩
theorem DVs.one {d : D} {v : V} (h : DV K H d v) : DVs K H [d] [v] := ⟨v, [], rfl, h, rfl⟩
theorem DVs.rep {xs : List D} {us : List V} (h : DVs K H xs us) : ∀ n : Nat, DVs K H (List.replicate n xs).flatten (List.replicate n us).flatten
  | 0 => by simp [DVs]
  | n + 1 => by
    rw [List.replicate_succ, List.replicate_succ, List.flatten_cons, List.flatten_cons]
    exact DVs.append h (DVs.rep h n)
end

/-! ### the view -/
def DKV (K : PySem.W.Frag) (H : Hp) {κ : Type} (a : List (κ × D)) (b : List (κ × V)) : Prop := Paired (fun (p : κ × D) (q : κ × V) => p.1 = q.1 ∧ DV K H p.2 q.2) a b
theorem DKV.ext {K : PySem.W.Frag} {H H' : Hp} {κ : Type} {a : List (κ × D)} {b : List (κ × V)} (e : Ext K H H') (h : DKV K H a b) : DKV K H' a b := L2.Paired.mapP h fun _ _ ⟨x, y⟩ => ⟨x, DV.ext e y⟩
def HasO (K : PySem.W.Frag) (H : Hp) (a : Addr) : DO → Prop
  | .lst ds => ∃ vs, H a = some (.lst vs) ∧ DVs K H ds vs
  | .dic kvs => ∃ ws, H a = some (.dK ws) ∧ DKV K H kvs ws
  | .dit kvs => ∃ ws, H a = some (.dT ws) ∧ DKV K H kvs ws
def Rel (K : PySem.W.Frag) (H : Hp) (W : DW) : Prop := ∀ a o, W a = some o → HasO K H a o
def Sub (W W' : DW) : Prop := ∀ a o, W a = some o → W' a = some o
theorem Sub.refl (W : DW) : Sub W W := fun _ _ h => h
theorem Sub.trans {A B C : DW} (h : Sub A B) (g : Sub B C) : Sub A C := fun a o e => g a o (h a o e)
theorem Rel.sub {K : PySem.W.Frag} {H : Hp} {W W' : DW} (r : Rel K H W) (s : Sub W' W) : Rel K H W' := fun a o e => r a o (s a o e)
theorem Sub.new {W W' : DW} {p : Addr} {o : DO} (s : Sub W W') (h : W p = none) : Sub W (wup W' p o) := fun a u e => by
  have : a ≠ p := fun z => by subst z; rw [h] at e; cases e
  rw [wup_ne this]; exact s a u e
theorem Sub.wup {W W' : DW} {p : Addr} {o : DO} (s : Sub W W') : Sub (DL.wup W p o) (DL.wup W' p o) := fun a u e => by
  unfold DL.wup at *
  split
  · rename_i h; rw [if_pos h] at e; exact e
  · rename_i h; rw [if_neg h] at e; exact s a u e

section
variable {K : PySem.W.Frag} {H : Hp} {W : DW}
/-- a new object does not disturb -/
theorem Ext.new {p : Addr} {o : HO} (h : H p = none) : Ext K H (upd H p o) := ⟨fun a xs r => by
  rcases r with (r | ⟨u, r⟩) | r
  · exact .inl (.inl (by rw [upd_ne (ne_of_none r h)]; exact r))
  · exact .inl (.inr ⟨u, by rw [upd_ne (ne_of_none r h)]; exact r⟩)
  · exact .inr r, fun a ob xs r => by rw [upd_ne (ne_of_none r h)]; exact r⟩
/-- a tracked object that changes -/
def MutHO : HO → Prop
  | .lst _ => True | .dK _ => True | .dT _ => True | _ => False
theorem Ext.put {p : Addr} {o u : HO} (h : H p = some u) (hm : MutHO u) : Ext K H (upd H p o) := by
  have ne : ∀ {a : Addr} {w : HO}, H a = some w → ¬ MutHO w → a ≠ p := fun {a w} r n z => by
    subst z; rw [h] at r; cases r; exact n hm
  refine ⟨fun a xs r => ?_, fun a ob xs r => by rw [upd_ne (ne r id)]; exact r⟩
  rcases r with (r | ⟨w, r⟩) | r
  · exact .inl (.inl (by rw [upd_ne (ne r id)]; exact r))
  · exact .inl (.inr ⟨w, by rw [upd_ne (ne r id)]; exact r⟩)
  · exact .inr r
theorem HasO.ext {H' : Hp} {a : Addr} {o : DO} (e : Ext K H H') (k : H' a = H a) (h : HasO K H a o) : HasO K H' a o := by
  cases o with
  | lst ds => obtain ⟨vs, h1, h2⟩ := h; exact ⟨vs, by rw [k]; exact h1, DVs.ext e h2⟩
  | dic kvs => obtain ⟨ws, h1, h2⟩ := h; exact ⟨ws, by rw [k]; exact h1, DKV.ext e h2⟩
  | dit kvs => obtain ⟨ws, h1, h2⟩ := h; exact ⟨ws, by rw [k]; exact h1, DKV.ext e h2⟩
theorem HasO.there {a : Addr} {o : DO} (h : HasO K H a o) : H a ≠ none := by
  cases o with
  | lst ds => obtain ⟨vs, h1, h2⟩ := h; rw [h1]; simp
  | dic kvs => obtain ⟨ws, h1, h2⟩ := h; rw [h1]; simp
  | dit kvs => obtain ⟨ws, h1, h2⟩ := h; rw [h1]; simp
theorem Rel.fresh {p : Addr} (r : Rel K H W) (h : H p = none) : W p = none := by
  cases e : W p with
  | none => rfl
  | some o => exact absurd h (r p o e).there
theorem Rel.ext_new {p : Addr} {o : HO} (r : Rel K H W) (h : H p = none) : Rel K (upd H p o) W := fun a u e => by
  have q := r a u e
  by_cases z : a = p
  · subst z; exact absurd h q.there
  · exact q.ext (Ext.new h) (upd_ne z)
theorem Rel.wnew {p : Addr} {o : HO} {d : DO} (r : Rel K H W) (h : H p = none) (hd : HasO K (upd H p o) p d) : Rel K (upd H p o) (wup W p d) := fun a u e => by
  by_cases z : a = p
  · subst z
    rw [wup_same] at e
    cases e
    exact hd
  · rw [wup_ne z] at e
    exact (r.ext_new h) a u e
theorem Rel.wput {p : Addr} {o u : HO} {d : DO} (r : Rel K H W) (h : H p = some u) (hm : MutHO u) (hd : HasO K (upd H p o) p d) : Rel K (upd H p o) (wup W p d) := fun a v e => by
  by_cases z : a = p
  · subst z
    rw [wup_same] at e
    cases e
    exact hd
  · rw [wup_ne z] at e
    exact (r a v e).ext (Ext.put h hm) (upd_ne z)
end

/-! ### frames -/
def EnvR (K : PySem.W.Frag) (H : Hp) (δ : Env) (σ : L2.St) : Prop := δ.length = σ.length ∧ ∀ (i : Nat) (d : D), δ[i]? = some (some d) → ∃ v, σ[i]? = some (some v) ∧ DV K H d v
theorem EnvR.ext {K : PySem.W.Frag} {H H' : Hp} {δ : Env} {σ : L2.St} (e : Ext K H H') (h : EnvR K H δ σ) : EnvR K H' δ σ := ⟨h.1, fun i d q => let ⟨v, a, b⟩ := h.2 i d q; ⟨v, a, DV.ext e b⟩⟩
theorem EnvR.set {K : PySem.W.Frag} {H : Hp} {δ : Env} {σ : L2.St} {i : Nat} {d : D} {v : V} (h : EnvR K H δ σ) (hd : DV K H d v) : EnvR K H (δ.set i (some d)) (σ.set i (some v)) := by
  refine ⟨by rw [List.length_set, List.length_set]; exact h.1, fun j x e => ?_⟩
  by_cases z : i = j
  · subst z
    rw [List.getElem?_set] at e ⊢
    simp only [↓reduceIte] at e ⊢
    split at e
    · rename_i q
      rw [if_pos (by rw [← h.1]; exact q)]
      cases e
      exact ⟨v, rfl, hd⟩
    · cases e
  · rw [List.getElem?_set_ne z] at e ⊢
    exact h.2 j x e

/-! ### readings -/
def Lk (K : PySem.W.Frag) (H : Hp) (Q' : DK) (Q : VK) : Prop := ∀ v d H' W', Ext K H H' → Rel K H' W' → DV K H' d v → Q' d W' → Q v H'
def LkB (K : PySem.W.Frag) (H : Hp) (Q' : Bool → DW → Prop) (Q : Bool → Hp → Prop) : Prop := ∀ b H' W', Ext K H H' → Rel K H' W' → Q' b W' → Q b H'
def LkA (K : PySem.W.Frag) (H : Hp) (Q' : List D → DW → Prop) (Q : List V → Hp → Prop) : Prop := ∀ vs ds H' W', Ext K H H' → Rel K H' W' → DVs K H' ds vs → Q' ds W' → Q vs H'
def LkN (K : PySem.W.Frag) (H : Hp) (Q' : Env → DW → Prop) (Q : L2.St → Hp → Prop) : Prop := ∀ σ δ H' W', Ext K H H' → EnvR K H' δ σ → Rel K H' W' → Q' δ W' → Q σ H'
structure LkS (K : PySem.W.Frag) (H : Hp) (D' : DE) (D : Ends) : Prop where
  nx : LkN K H D'.nx D.nx
  rt : Lk K H D'.rt D.rt
  bk : LkN K H D'.bk D.bk
  ct : LkN K H D'.ct D.ct
def tE (K : PySem.W.Frag) (f : FE) : TE := fun σ H Q => ∃ δ W Q', EnvR K H δ σ ∧ Rel K H W ∧ f δ W Q' ∧ Lk K H Q' Q
def tT (K : PySem.W.Frag) (f : FT) : TT := fun σ H Q => ∃ δ W Q', EnvR K H δ σ ∧ Rel K H W ∧ f δ W Q' ∧ LkB K H Q' Q
def tA (K : PySem.W.Frag) (f : FA) : TA := fun σ H Q => ∃ δ W Q', EnvR K H δ σ ∧ Rel K H W ∧ f δ W Q' ∧ LkA K H Q' Q
def tS (K : PySem.W.Frag) (f : FS) : TS := fun D σ H => ∃ δ W D', EnvR K H δ σ ∧ Rel K H W ∧ f D' δ W ∧ LkS K H D' D
abbrev SE (X : Cx) (e : Expr) (f : FE) : Prop := PE X e (tE X.K f)
abbrev ST (X : Cx) (e : Expr) (f : FT) : Prop := PT X e (tT X.K f)
abbrev SW (X : Cx) (e : Expr) (f : FT) : Prop := PW X e (tT X.K f)
abbrev SA (X : Cx) (es : List Expr) (f : FA) : Prop := PA X es (tA X.K f)
abbrev SS (X : Cx) (st : Stmt) (f : FS) : Prop := PS X st (tS X.K f)
abbrev SSs (X : Cx) (st : List Stmt) (f : FS) : Prop := PSs X st (tS X.K f)
theorem PEimp {X : Cx} {e : Expr} {t t' : TE} (h : PE X e t) (i : ∀ σ H Q, t' σ H Q → t σ H Q) : PE X e t' := ⟨fun pins s σ H Q I q => h.run pins s σ H Q I (i σ H Q q)⟩
theorem PTimp {X : Cx} {e : Expr} {t t' : TT} (h : PT X e t) (i : ∀ σ H Q, t' σ H Q → t σ H Q) : PT X e t' := ⟨fun pins s σ H Q I q => h.run pins s σ H Q I (i σ H Q q)⟩
theorem PWimp {X : Cx} {e : Expr} {t t' : TT} (h : PW X e t) (i : ∀ σ H Q, t' σ H Q → t σ H Q) : PW X e t' := ⟨fun w pins s σ H Q I q => h.run w pins s σ H Q I (i σ H Q q)⟩
theorem PAimp {X : Cx} {e : List Expr} {t t' : TA} (h : PA X e t) (i : ∀ σ H Q, t' σ H Q → t σ H Q) : PA X e t' := ⟨fun pos pins s σ H Q I q => h.run pos pins s σ H Q I (i σ H Q q)⟩
theorem PSimp {X : Cx} {e : Stmt} {t t' : TS} (h : PS X e t) (i : ∀ D σ H, t' D σ H → t D σ H) : PS X e t' := ⟨fun pins s σ H D I q => h.run pins s σ H D I (i D σ H q)⟩
theorem PSsimp {X : Cx} {e : List Stmt} {t t' : TS} (h : PSs X e t) (i : ∀ D σ H, t' D σ H → t D σ H) : PSs X e t' := ⟨fun pins s σ H D I q => h.run pins s σ H D I (i D σ H q)⟩
section
variable {K : PySem.W.Frag} {H : Hp}
theorem Lk.ext {H1 : Hp} {Q' : DK} {Q : VK} (e : Ext K H H1) (h : Lk K H Q' Q) : Lk K H1 Q' Q := fun v d H' W' x r y q => h v d H' W' (e.trans x) r y q
theorem LkB.ext {H1 : Hp} {Q' : Bool → DW → Prop} {Q : Bool → Hp → Prop} (e : Ext K H H1) (h : LkB K H Q' Q) : LkB K H1 Q' Q := fun v H' W' x r q => h v H' W' (e.trans x) r q
theorem LkN.ext {H1 : Hp} {Q' : Env → DW → Prop} {Q : L2.St → Hp → Prop} (e : Ext K H H1) (h : LkN K H Q' Q) : LkN K H1 Q' Q := fun σ δ H' W' x er r q => h σ δ H' W' (e.trans x) er r q
theorem LkS.ext {H1 : Hp} {Q' : DE} {Q : Ends} (e : Ext K H H1) (h : LkS K H Q' Q) : LkS K H1 Q' Q := ⟨h.nx.ext e, h.rt.ext e, h.bk.ext e, h.ct.ext e⟩
end

/-! ### names, constants -/
section
variable {X : Cx} {a b c e : Expr} {es rest : List Expr} {pos : Pos} {f g h : FE} {p q : FT}
def fVar (i : Nat) : FE := fun δ W Q => ∃ d, δ[i]? = some (some d) ∧ Q d W
def fC (d : D) : FE := fun _ W Q => Q d W
theorem se_var (i : Nat) {x : Str} (hN : X.N[i]? = some x := by rfl) (hv : Vis X.env.scope x := by first | exact Or.inl rfl | exact Or.inr (Or.inl rfl) | exact Or.inr (Or.inr rfl)) (hd : (x == ("__debug__" : Str)) = false := by decide)
    (hcd : (x == ("__classdict__" : Str)) = false := by decide) : SE X (.Name x pos) (fVar i) :=
  PEimp (pe_var hN hv hd hcd) fun σ H Q ⟨δ, W, Q', er, rl, ⟨d, e, q⟩, k⟩ => let ⟨v, e', dv⟩ := er.2 i d e; ⟨v, e', k v d H W (Ext.refl H) rl dv q⟩
theorem se_con {v : V} {d : D} (h : PE X e (tC v)) (hd : ∀ H, DV X.K H d v) : SE X e (fC d) :=
  PEimp h fun σ H Q ⟨δ, W, Q', er, rl, q, k⟩ => k v d H W (Ext.refl H) rl (hd H) q
theorem se_int {i j} : SE X (.Constant (.int i) j pos) (fC (.int i)) := se_con pe_int fun _ => rfl
theorem se_bl {i j} : SE X (.Constant (.bool i) j pos) (fC (.bl i)) := se_con pe_bl fun _ => rfl
theorem se_non {j} : SE X (.Constant .none j pos) (fC .non) := se_con pe_non fun _ => rfl
theorem se_str {x j} : SE X (.Constant (.str x) j pos) (fC (.str x)) := se_con pe_str fun _ => rfl
/-! ### two places -/
/-- the reading of an operation on values, by data -/
abbrev R2D := D → D → DW → DK → Prop
def fBin (F : R2D) (f g : FE) : FE := fun δ W Q => f δ W fun x W1 => g δ W1 fun y W2 => F x y W2 Q
def Op2 (K : PySem.W.Frag) (r : R2) (F : R2D) : Prop := ∀ H W x y dx dy Q Q', Rel K H W → DV K H dx x → DV K H dy y → F dx dy W Q' → Lk K H Q' Q → r x y H Q
theorem tE_bin {r : R2} {F : R2D} (hr : Op2 X.K r F) : ∀ σ H Q, tE X.K (fBin F f g) σ H Q → tOp r (tE X.K f) (tE X.K g) σ H Q := fun σ H Q ⟨δ, W, Q', er, rl, h, k⟩ =>
  ⟨δ, W, _, er, rl, h, fun x dx H1 W1 e1 r1 v1 h1 => ⟨δ, W1, _, er.ext e1, r1, h1, fun y dy H2 W2 e2 r2 v2 h2 => hr H2 W2 x y dx dy Q Q' r2 (DV.ext e2 v1) v2 h2 (k.ext (e1.trans e2))⟩⟩
theorem se_op {op : Operator} {r : R2} {F : R2D} (ho : OpR X (binaryOp op) r) (hr : Op2 X.K r F) (ha : SE X a f) (hb : SE X b g) : SE X (.BinOp a op b pos) (fBin F f g) := PEimp (pe_op ho ha hb) (tE_bin hr)
theorem se_cmp {op : CmpOp} {r : R2} {F : R2D} (ho : OpR X (compareOp op) r) (hr : Op2 X.K r F) (ha : SE X a f) (hb : SE X b g) (hm : behindInMarks op b = false) : SE X (.Compare a [op] [b] pos) (fBin F f g) := PEimp (pe_cmpR ho ha hb hm) (tE_bin hr)
end
end DL
/-! Dl2: expressions over data. -/
namespace DL
open PySem PySem.Spec PyProof.Rows L2
section
variable {K : PySem.W.Frag} {H : Hp} {W : DW}
/-! ### what is made anew, what changes -/
theorem Lk.at {d : D} {v : V} {Q' : DK} {Q : VK} (k : Lk K H Q' Q) (rl : Rel K H W) (q : Q' d W) (dv : DV K H d v) : Q v H := k v d H W (Ext.refl H) rl dv q
theorem hasL {p : Addr} {ds : List D} {vs : List V} (h : H p = some (.lst vs)) (d : DVs K H ds vs) : HasO K H p (.lst ds) := ⟨vs, h, d⟩
theorem dvT {p : Addr} {ds : List D} {vs : List V} (h : SqT K H p vs) (d : DVs K H ds vs) : DV K H (.tup ds) (.ref p) := ⟨p, vs, rfl, h, d⟩
theorem newL {p : Addr} {ds : List D} {vs : List V} {Q' : DK} {Q : VK} (rl : Rel K H W) (hp : H p = none) (dv : DVs K H ds vs) (q : ∀ p, W p = none → Q' (.ref p) (wup W p (.lst ds))) (k : Lk K H Q' Q) : Q (.ref p) (upd H p (.lst vs)) :=
  k _ (.ref p) _ _ (Ext.new hp) (rl.wnew hp (hasL (ds := ds) upd_same (DVs.ext (Ext.new hp) dv))) rfl (q p (rl.fresh hp))
theorem newT {p : Addr} {ds : List D} {vs : List V} {Q' : DK} {Q : VK} (rl : Rel K H W) (hp : H p = none) (dv : DVs K H ds vs) (q : Q' (.tup ds) W) (k : Lk K H Q' Q) : Q (.ref p) (upd H p (.tup vs)) :=
  k _ (.tup ds) _ W (Ext.new hp) (rl.ext_new hp) (dvT (SqT.of upd_same) (DVs.ext (Ext.new hp) dv)) q
theorem putL {p : Addr} {us : List V} {d : D} {v : V} {ds : List D} {vs : List V} {Q' : DK} {Q : VK} (rl : Rel K H W) (hp : H p = some (.lst us)) (dv : DVs K H ds vs) (hv : DV K H d v) (q : Q' d (wup W p (.lst ds))) (k : Lk K H Q' Q) : Q v (upd H p (.lst vs)) :=
  k _ d _ _ (Ext.put hp trivial) (rl.wput hp trivial (hasL (ds := ds) upd_same (DVs.ext (Ext.put hp trivial) dv))) (DV.ext (Ext.put hp trivial) hv) q
theorem DVs.nil_iff : ∀ {ds : List D} {vs : List V}, DVs K H ds vs → (vs = [] ↔ ds = [])
  | [], _, h => by cases h; simp
  | d :: ds, _, h => by obtain ⟨v, r, rfl, _, _⟩ := h; simp

/-! ### arithmetic -/
def pAdd : R2D := fun x y W Q => match x, y with
  | .int i, .int j => Q (.int (i + j)) W
  | .tup xs, .tup ys => xs.length + ys.length ≤ sizeLine ∧ Q (.tup (xs ++ ys)) W
  | .ref a, .ref b => ∃ xs ys, W a = some (.lst xs) ∧ W b = some (.lst ys) ∧ xs.length + ys.length ≤ sizeLine ∧ ∀ p, W p = none → Q (.ref p) (wup W p (.lst (xs ++ ys)))
  | .str s, .str t => s.length + t.length ≤ sizeLine ∧ Q (.str (s ++ t)) W
  | _, _ => False
abbrev rAddA (K : PySem.W.Frag) : R2 := fun x y H Q => ((rI0 (fun i j => .int (i + j)) x y H Q ∨ rCatA K x y H Q) ∨ rCat x y H Q) ∨ (∃ i j, x = .str i ∧ y = .str j ∧ i.length + j.length ≤ sizeLine ∧ Q (.str (i ++ j)) H)
theorem o_add : Op2 K (rAddA K) pAdd := fun H W x y dx dy Q Q' rl vx vy h k => by
  unfold pAdd at h
  split at h
  · cases vx; cases vy; exact .inl (.inl (.inl ⟨_, _, rfl, rfl, k.at rl h rfl⟩))
  · obtain ⟨a, us, rfl, s1, d1⟩ := vx
    obtain ⟨b, ws, rfl, s2, d2⟩ := vy
    refine .inl (.inl (.inr ⟨a, b, us, ws, rfl, rfl, s1, s2, by rw [d1.length, d2.length]; exact h.1, fun e => ?_, fun e e2 => ?_, fun e e2 p hp => ?_⟩))
    · have := d1.nil_iff.mp e; subst this
      exact k.at rl h.2 (dvT s2 d2)
    · have := d2.nil_iff.mp e2; subst this
      exact k.at rl h.2 (dvT s1 (by rw [List.append_nil]; exact d1))
    · exact newT rl hp (DVs.append d1 d2) h.2 k
  · cases vx; cases vy
    obtain ⟨xs, ys, w1, w2, hl, q⟩ := h
    obtain ⟨us, s1, d1⟩ := rl _ _ w1
    obtain ⟨ws, s2, d2⟩ := rl _ _ w2
    exact .inl (.inr ⟨_, _, us, ws, rfl, rfl, s1, s2, by rw [d1.length, d2.length]; exact hl, fun p hp => newL rl hp (DVs.append d1 d2) q k⟩)
  · cases vx; cases vy; exact .inr ⟨_, _, rfl, rfl, h.1, k.at rl h.2 rfl⟩
  · exact h.elim
/-- an operation on two ints -/
def pII (C : Int → Int → Prop) (g : Int → Int → D) : R2D := fun x y W Q => match x, y with
  | .int i, .int j => C i j ∧ Q (g i j) W
  | _, _ => False
theorem o_II {C : Int → Int → Prop} {g : Int → Int → Int} : Op2 K (rI C fun i j => .int (g i j)) (pII C fun i j => .int (g i j)) := fun H W x y dx dy Q Q' rl vx vy h k => by
  unfold pII at h
  split at h
  · cases vx; cases vy; exact ⟨_, _, rfl, rfl, h.1, k.at rl h.2 rfl⟩
  · exact h.elim
def pII0 (g : Int → Int → D) : R2D := fun x y W Q => match x, y with
  | .int i, .int j => Q (g i j) W
  | _, _ => False
theorem o_II0 {g : Int → Int → Int} : Op2 K (rI0 fun i j => .int (g i j)) (pII0 fun i j => .int (g i j)) := fun H W x y dx dy Q Q' rl vx vy h k => by
  unfold pII0 at h
  split at h
  · cases vx; cases vy; exact ⟨_, _, rfl, rfl, k.at rl h rfl⟩
  · exact h.elim
theorem o_IB {g : Int → Int → Bool} : Op2 K (rI0 fun i j => .bl (g i j)) (pII0 fun i j => .bl (g i j)) := fun H W x y dx dy Q Q' rl vx vy h k => by
  unfold pII0 at h
  split at h
  · cases vx; cases vy; exact ⟨_, _, rfl, rfl, k.at rl h rfl⟩
  · exact h.elim
abbrev pSub : R2D := pII0 fun i j => .int (i - j)
abbrev pMod : R2D := pII (fun _ j => 0 < j) fun i j => .int (i % j)
abbrev pFdiv : R2D := pII CDivW fun i j => .int (i / j)
abbrev pPow : R2D := pII CPow fun i j => .int (i ^ j.toNat)
/-- products: of ints, of a list, a tuple by an int -/
def pMul : R2D := fun x y W Q => match x, y with
  | .int i, .int j => (CMul i j ∨ CMulW i j) ∧ Q (.int (i * j)) W
  | .ref a, .int j => ∃ xs, W a = some (.lst xs) ∧ -(2 ^ 63) ≤ j ∧ j < 2 ^ 63 ∧ xs.length * j.toNat ≤ sizeLine ∧ ∀ p, W p = none → Q (.ref p) (wup W p (.lst (List.replicate j.toNat xs).flatten))
  | _, _ => False
abbrev rMulA : R2 := fun x y H Q => (rI CMul (fun i j => .int (i * j)) x y H Q ∨ rI CMulW (fun i j => .int (i * j)) x y H Q) ∨ rRep x y H Q
theorem o_mul : Op2 K rMulA pMul := fun H W x y dx dy Q Q' rl vx vy h k => by
  unfold pMul at h
  split at h
  · cases vx; cases vy
    rcases h.1 with z | z
    · exact .inl (.inl ⟨_, _, rfl, rfl, z, k.at rl h.2 rfl⟩)
    · exact .inl (.inr ⟨_, _, rfl, rfl, z, k.at rl h.2 rfl⟩)
  · cases vx; cases vy
    obtain ⟨xs, w1, h1, h2, h3, q⟩ := h
    obtain ⟨us, s1, d1⟩ := rl _ _ w1
    exact .inr ⟨_, _, us, rfl, rfl, s1, h1, h2, by rw [d1.length]; exact h3, fun p hp => newL rl hp (DVs.rep d1 _) q k⟩
  · exact h.elim

/-! ### data as they are compared -/
mutual
inductive Py (W : DW) : D → PyData → Prop
  | non : Py W .non .none
  | bl (b : Bool) : Py W (.bl b) (.bool b)
  | int (i : Int) : Py W (.int i) (.int i)
  | str (x : Str) : Py W (.str x) (.str x)
  | tup {ds : List D} {ps : List PyData} : Pys W ds ps → Py W (.tup ds) (.tuple ps)
  | rl {ds : List D} {ps : List PyData} : Pys W ds ps → Py W (.rl ds) (.list ps)
  | lst {a : Addr} {ds : List D} {ps : List PyData} : W a = some (.lst ds) → Pys W ds ps → Py W (.ref a) (.list ps)
inductive Pys (W : DW) : List D → List PyData → Prop
  | nil : Pys W [] []
  | cons {d : D} {ds : List D} {p : PyData} {ps : List PyData} : Py W d p → Pys W ds ps → Pys W (d :: ds) (p :: ps)
end
mutual
theorem Py.dp (rl : Rel K H W) : ∀ {d : D} {x : PyData} {v : V}, Py W d x → DV K H d v → Dp K H v x
  | _, _, v, .non, h => by cases h; exact .non
  | _, _, v, .bl b, h => by cases h; exact .bl b
  | _, _, v, .int b, h => by cases h; exact .int b
  | _, _, v, .str b, h => by cases h; exact .str b
  | _, _, v, .tup p, h => by
    obtain ⟨a, vs, rfl, s, d⟩ := h
    exact .tup s (Pys.dp rl p d)
  | _, _, v, .rl p, h => by
    obtain ⟨a, vs, rfl, s, d⟩ := h
    exact .lst s.sq (Pys.dp rl p d)
  | _, _, v, .lst w p, h => by
    cases h
    obtain ⟨us, s1, d1⟩ := rl _ _ w
    exact .lst (SqL.of s1) (Pys.dp rl p d1)
theorem Pys.dp (rl : Rel K H W) : ∀ {ds : List D} {xs : List PyData} {vs : List V}, Pys W ds xs → DVs K H ds vs → DpAll K H vs xs
  | _, _, v, .nil, h => by cases h; exact .nil
  | _, _, v, .cons p q, h => by
    obtain ⟨x, r, rfl, h1, h2⟩ := h
    exact .cons (Py.dp rl p h1) (Pys.dp rl q h2)
end
def pEq : R2D := fun x y W Q => ∃ a b, Py W x a ∧ Py W y b ∧ SeqAt.shaped a = true ∧ SeqAt.shaped b = true ∧ Q (.bl (PyData.eqv a b)) W
def pNe : R2D := fun x y W Q => ∃ a b, Py W x a ∧ Py W y b ∧ SeqAt.shaped a = true ∧ SeqAt.shaped b = true ∧ Q (.bl (!PyData.eqv a b)) W
theorem o_eq : Op2 K (rEqD K) pEq := fun H W x y dx dy Q Q' rl vx vy ⟨a, b, pa, pb, s1, s2, q⟩ k =>
  ⟨a, b, pa.dp rl vx, pb.dp rl vy, s1, s2, k.at rl q rfl⟩
theorem o_ne : Op2 K (rNeD K) pNe := fun H W x y dx dy Q Q' rl vx vy ⟨a, b, pa, pb, s1, s2, q⟩ k =>
  ⟨a, b, pa.dp rl vx, pb.dp rl vy, s1, s2, k.at rl q rfl⟩
/-- x is None -/
def D.isN : D → Bool
  | .non => true | _ => false
def pIsN : R2D := fun x y W Q => match y with
  | .non => Q (.bl x.isN) W
  | _ => False
def pNotN : R2D := fun x y W Q => match y with
  | .non => Q (.bl (!x.isN)) W
  | _ => False
theorem DV.non_iff {d : D} {v : V} (h : DV K H d v) : decide (v = .non) = d.isN := by
  cases d with
  | non => cases h; rfl
  | tup => obtain ⟨a, vs, rfl, _⟩ := h; rfl
  | rl => obtain ⟨a, vs, rfl, _⟩ := h; rfl
  | _ => cases h; rfl
theorem o_isN : Op2 K (fun x y H Q => y = .non ∧ Q (.bl (decide (x = .non))) H) pIsN := fun H W x y dx dy Q Q' rl vx vy h k => by
  unfold pIsN at h
  cases dy <;> try exact h.elim
  cases vy
  exact ⟨rfl, k.at rl h (by rw [vx.non_iff]; rfl)⟩
theorem o_notN : Op2 K (fun x y H Q => y = .non ∧ Q (.bl (!decide (x = .non))) H) pNotN := fun H W x y dx dy Q Q' rl vx vy h k => by
  unfold pNotN at h
  cases dy <;> try exact h.elim
  cases vy
  exact ⟨rfl, k.at rl h (by rw [vx.non_iff]; rfl)⟩
/-- x in y, of lists and tuples of data -/
def rInTD (K : PySem.W.Frag) : R2 := fun x y H Q => ∃ d ds, Dp K H x d ∧ Dp K H y (.tuple ds) ∧ SeqAt.shaped d = true ∧ SeqAt.shaped (.tuple ds) = true ∧ Q (.bl (ds.any fun z => PyData.eqv z d)) H
def rNotInTD (K : PySem.W.Frag) : R2 := fun x y H Q => ∃ d ds, Dp K H x d ∧ Dp K H y (.tuple ds) ∧ SeqAt.shaped d = true ∧ SeqAt.shaped (.tuple ds) = true ∧ Q (.bl (!ds.any fun z => PyData.eqv z d)) H
theorem op_inTD {X : Cx} (hu : X.A.units + 65 < cLine) : OpR X (compareOp .In) (rInTD X.K) := fun pins s σ H x y v u Q I rx ry ⟨d, ds, hd, he, sd, se, q⟩ => by
  obtain ⟨as, e1⟩ := Dp.reads I d x v hd rx
  obtain ⟨bs, e2⟩ := Dp.reads I (.tuple ds) y u he ry
  exact SeqAt.in_tuple_reads e2 e1 (SeqAt.canLay_of_shaped se) (SeqAt.canLay_of_shaped sd) (room_in_shaped sd hu) ⟨.bl _, H, I, rfl, q⟩
theorem op_notInTD {X : Cx} (hu : X.A.units + 65 < cLine) : OpR X (compareOp .NotIn) (rNotInTD X.K) := fun pins s σ H x y v u Q I rx ry ⟨d, ds, hd, he, sd, se, q⟩ => by
  obtain ⟨as, e1⟩ := Dp.reads I d x v hd rx
  obtain ⟨bs, e2⟩ := Dp.reads I (.tuple ds) y u he ry
  exact SeqAt.notIn_tuple_reads e2 e1 (SeqAt.canLay_of_shaped se) (SeqAt.canLay_of_shaped sd) (room_in_shaped sd hu) ⟨.bl _, H, I, rfl, q⟩
/-- what is within a list or a tuple, as data -/
def Ins (W : DW) (y : D) (ps : List PyData) : Prop := (Py W y (.list ps) ∧ SeqAt.shaped (.list ps) = true) ∨ (Py W y (.tuple ps) ∧ SeqAt.shaped (.tuple ps) = true)
def pIn (neg : Bool) : R2D := fun x y W Q => ∃ a ps, Py W x a ∧ Ins W y ps ∧ SeqAt.shaped a = true ∧ Q (.bl (if neg then !(ps.any fun z => PyData.eqv z a) else ps.any fun z => PyData.eqv z a)) W
abbrev rInAny (K : PySem.W.Frag) : R2 := fun x y H Q => rInD K x y H Q ∨ rInTD K x y H Q
abbrev rNotInAny (K : PySem.W.Frag) : R2 := fun x y H Q => rNotInD K x y H Q ∨ rNotInTD K x y H Q
theorem op_inAny {X : Cx} (hu : X.A.units + 65 < cLine) : OpR X (compareOp .In) (rInAny X.K) := (op_inD hu).or (op_inTD hu)
theorem op_notInAny {X : Cx} (hu : X.A.units + 65 < cLine) : OpR X (compareOp .NotIn) (rNotInAny X.K) := (op_notInD hu).or (op_notInTD hu)
theorem o_in : Op2 K (rInAny K) (pIn false) := fun H W x y dx dy Q Q' rl vx vy ⟨a, ps, pa, pb, s1, q⟩ k => by
  rcases pb with ⟨pb, s2⟩ | ⟨pb, s2⟩
  · exact .inl ⟨a, ps, pa.dp rl vx, pb.dp rl vy, s1, s2, k.at rl q rfl⟩
  · exact .inr ⟨a, ps, pa.dp rl vx, pb.dp rl vy, s1, s2, k.at rl q rfl⟩
theorem o_notIn : Op2 K (rNotInAny K) (pIn true) := fun H W x y dx dy Q Q' rl vx vy ⟨a, ps, pa, pb, s1, q⟩ k => by
  rcases pb with ⟨pb, s2⟩ | ⟨pb, s2⟩
  · exact .inl ⟨a, ps, pa.dp rl vx, pb.dp rl vy, s1, s2, k.at rl q rfl⟩
  · exact .inr ⟨a, ps, pa.dp rl vx, pb.dp rl vy, s1, s2, k.at rl q rfl⟩
end
end DL
/-! Dl3: tests, displays, subscripts, targets, statements. -/
namespace DL
open PySem PySem.Spec PyProof.Rows L2
section
variable {X : Cx} {a b c e o i : Expr} {es rest : List Expr} {pos : Pos} {f g h : FE} {p q : FT}
/-! ### tests -/
def fB (f : FE) : FT := fun δ W Q => f δ W fun x W1 => match x with | .bl k => Q k W1 | _ => False
theorem tE_B : ∀ σ H Q, tT X.K (fB f) σ H Q → tB (tE X.K f) σ H Q := fun σ H Q ⟨δ, W, Q', er, rl, h, k⟩ =>
  ⟨δ, W, _, er, rl, h, fun x dx H1 W1 e1 r1 v1 h1 => by
    cases dx <;> try exact h1.elim
    cases v1
    exact ⟨_, rfl, k _ H1 W1 e1 r1 h1⟩⟩
theorem st_val (h : SE X e f) (he : ∀ whole, isTrue e X.env whole = (do let v ← whole; standAt e.pos; holding [v] (truthy v)) := by intro _; rfl) : ST X e (fB f) := PTimp (pt_val h he) tE_B
theorem st_cmp {op : CmpOp} {r : R2} {F : R2D} (ho : OpR X (compareOp op) r) (hr : Op2 X.K r F) (ha : SE X a f) (hb : SE X b g) (hm : behindInMarks op b = false) : ST X (.Compare a [op] [b] pos) (fB (fBin F f g)) :=
  PTimp (pt_cmpR ho ha hb hm) fun σ H Q h => by
    obtain ⟨δ, W, Q', er, rl, h, k⟩ := tE_B σ H Q h
    exact tE_bin hr σ H _ ⟨δ, W, Q', er, rl, h, k⟩
/-- truth of a value -/
def tru (W : DW) : D → Option Bool
  | .non => some false
  | .bl b => some b
  | .int i => some (i != 0)
  | .tup xs => some (!xs.isEmpty)
  | .ref a => match W a with
    | some (.lst xs) => some (!xs.isEmpty)
    | some (.dic kvs) => some (!kvs.isEmpty)
    | _ => none
  | _ => none
def fTru (f : FE) : FT := fun δ W Q => f δ W fun x W1 => ∃ k, tru W1 x = some k ∧ Q k W1
theorem DVs.isEmpty {K : PySem.W.Frag} {H : Hp} {ds : List D} {vs : List V} (h : DVs K H ds vs) : ds.isEmpty = vs.isEmpty := by
  cases ds with
  | nil => cases h; rfl
  | cons d ds => obtain ⟨v, r, rfl, _, _⟩ := h; rfl
theorem st_truth (h : SE X e f) (he : ∀ whole, isTrue e X.env whole = (do let v ← whole; standAt e.pos; holding [v] (truthy v)) := by intro _; rfl) : ST X e (fTru f) :=
  PTimp (pt_truth h he) fun σ H Q ⟨δ, W, Q', er, rl, h, k⟩ => ⟨δ, W, _, er, rl, h, fun x dx H1 W1 e1 r1 v1 ⟨t, ht, q⟩ => by
    refine ⟨t, ?_, k _ H1 W1 e1 r1 q⟩
    cases dx with
    | non => cases v1; cases ht; rfl
    | bl b => cases v1; cases ht; rfl
    | int i => cases v1; cases ht; rfl
    | str i => cases ht
    | ty i => cases ht
    | rl i => cases ht
    | tup xs =>
      obtain ⟨a, us, rfl, s, d⟩ := v1
      cases ht
      exact .inr (.inl ⟨us, s, by rw [d.isEmpty]⟩)
    | ref a =>
      cases v1
      unfold tru at ht
      cases w : W1 a with
      | none => simp [w] at ht
      | some o =>
        cases o with
        | lst xs =>
          simp [w] at ht
          obtain ⟨us, s1, d1⟩ := r1 _ _ w
          exact .inl ⟨us, SqL.of s1, by rw [← d1.isEmpty, ht, Bool.not_not]⟩
        | dic xs =>
          simp [w] at ht
          obtain ⟨us, s1, d1⟩ := r1 _ _ w
          refine .inr (.inr ⟨us, s1, ?_⟩)
          have : us.isEmpty = xs.isEmpty := by cases d1 <;> rfl
          rw [this, ht, Bool.not_not]
        | dit xs => simp [w] at ht⟩
def fAndT (p q : FT) : FT := fun δ W Q => p δ W fun k W1 => if k = true then q δ W1 Q else Q false W1
def fOrT (p q : FT) : FT := fun δ W Q => p δ W fun k W1 => if k = true then Q true W1 else q δ W1 Q
def fNotT (p : FT) : FT := fun δ W Q => p δ W fun k W1 => Q (!k) W1
theorem sw_and1 (h : ST X a p) : SW X (.BoolOp .And [a] pos) p := pw_and1 h
theorem sw_or1 (h : ST X a p) : SW X (.BoolOp .Or [a] pos) p := pw_or1 h
theorem sw_and (ha : ST X a p) (hb : SW X (.BoolOp .And (b :: rest) pos) q) : SW X (.BoolOp .And (a :: b :: rest) pos) (fAndT p q) :=
  PWimp (pw_and ha hb) fun σ H Q ⟨δ, W, Q', er, rl, h, k⟩ => ⟨δ, W, _, er, rl, h, fun t H1 W1 e1 r1 h1 => by
    cases t with
    | true => exact ⟨δ, W1, Q', er.ext e1, r1, h1, k.ext e1⟩
    | false => exact k _ H1 W1 e1 r1 h1⟩
theorem sw_or (ha : ST X a p) (hb : SW X (.BoolOp .Or (b :: rest) pos) q) : SW X (.BoolOp .Or (a :: b :: rest) pos) (fOrT p q) :=
  PWimp (pw_or ha hb) fun σ H Q ⟨δ, W, Q', er, rl, h, k⟩ => ⟨δ, W, _, er, rl, h, fun t H1 W1 e1 r1 h1 => by
    cases t with
    | false => exact ⟨δ, W1, Q', er.ext e1, r1, h1, k.ext e1⟩
    | true => exact k _ H1 W1 e1 r1 h1⟩
theorem st_not (ha : ST X a p) : ST X (.UnaryOp .Not a pos) (fNotT p) :=
  PTimp (pt_not ha) fun σ H Q ⟨δ, W, Q', er, rl, h, k⟩ => ⟨δ, W, _, er, rl, h, fun t H1 W1 e1 r1 h1 => k _ H1 W1 e1 r1 h1⟩
/-- and, or, not of truth values, as values -/
def fAndV (f g : FE) : FE := fun δ W Q => f δ W fun x W1 => match x with | .bl k => if k = true then g δ W1 Q else Q (.bl false) W1 | _ => False
def fOrV (f g : FE) : FE := fun δ W Q => f δ W fun x W1 => match x with | .bl k => if k = true then Q (.bl true) W1 else g δ W1 Q | _ => False
def fNotV (f : FE) : FE := fun δ W Q => f δ W fun x W1 => match x with | .bl k => Q (.bl (!k)) W1 | _ => False
theorem se_one {op} (h : SE X a f) : SE X (.BoolOp op [a] pos) f := pe_one h
theorem se_and (ha : SE X a f) (hb : SE X (.BoolOp .And (b :: rest) pos) g) : SE X (.BoolOp .And (a :: b :: rest) pos) (fAndV f g) :=
  PEimp (pe_and ha hb) fun σ H Q ⟨δ, W, Q', er, rl, h, k⟩ => ⟨δ, W, _, er, rl, h, fun x dx H1 W1 e1 r1 v1 h1 => by
    cases dx <;> try exact h1.elim
    rename_i t
    cases v1
    refine ⟨t, rfl, ?_⟩
    cases t with
    | true => exact ⟨δ, W1, Q', er.ext e1, r1, h1, k.ext e1⟩
    | false => exact k _ (.bl false) H1 W1 e1 r1 rfl h1⟩
theorem se_or (ha : SE X a f) (hb : SE X (.BoolOp .Or (b :: rest) pos) g) : SE X (.BoolOp .Or (a :: b :: rest) pos) (fOrV f g) :=
  PEimp (pe_or ha hb) fun σ H Q ⟨δ, W, Q', er, rl, h, k⟩ => ⟨δ, W, _, er, rl, h, fun x dx H1 W1 e1 r1 v1 h1 => by
    cases dx <;> try exact h1.elim
    rename_i t
    cases v1
    refine ⟨t, rfl, ?_⟩
    cases t with
    | false => exact ⟨δ, W1, Q', er.ext e1, r1, h1, k.ext e1⟩
    | true => exact k _ (.bl true) H1 W1 e1 r1 rfl h1⟩
theorem se_not (ha : SE X a f) : SE X (.UnaryOp .Not a pos) (fNotV f) :=
  PEimp (pe_not ha) fun σ H Q ⟨δ, W, Q', er, rl, h, k⟩ => ⟨δ, W, _, er, rl, h, fun x dx H1 W1 e1 r1 v1 h1 => by
    cases dx <;> try exact h1.elim
    rename_i t
    cases v1
    exact ⟨t, rfl, k _ (.bl (!t)) H1 W1 e1 r1 rfl h1⟩⟩
def fIf (p : FT) (f g : FE) : FE := fun δ W Q => p δ W fun k W1 => if k = true then f δ W1 Q else g δ W1 Q
theorem se_if (hc : ST X c p) (ha : SE X a f) (hb : SE X b g) : SE X (.IfExp c a b pos) (fIf p f g) :=
  PEimp (pe_ifExp hc ha hb) fun σ H Q ⟨δ, W, Q', er, rl, h, k⟩ => ⟨δ, W, _, er, rl, h, fun t H1 W1 e1 r1 h1 => by
    cases t with
    | true => exact ⟨δ, W1, Q', er.ext e1, r1, h1, k.ext e1⟩
    | false => exact ⟨δ, W1, Q', er.ext e1, r1, h1, k.ext e1⟩⟩
/-- a < b < c -/
def fChain (F F' : R2D) (f g h : FE) : FE := fun δ W Q => f δ W fun x W1 => g δ W1 fun y W2 => F x y W2 fun z W3 => match z with | .bl k => if k = true then h δ W3 fun w W4 => F' y w W4 Q else Q (.bl false) W3 | _ => False
theorem tE_chain {r r' : R2} {F F' : R2D} (hr : Op2 X.K r F) (hr' : Op2 X.K r' F') : ∀ σ H Q, tE X.K (fChain F F' f g h) σ H Q → tChain r r' (tE X.K f) (tE X.K g) (tE X.K h) σ H Q := fun σ H Q ⟨δ, W, Q', er, rl, hh, k⟩ =>
  ⟨δ, W, _, er, rl, hh, fun x dx H1 W1 e1 r1 v1 h1 => ⟨δ, W1, _, er.ext e1, r1, h1, fun y dy H2 W2 e2 r2 v2 h2 => hr H2 W2 x y dx dy _ _ r2 (DV.ext e2 v1) v2 h2 fun z dz H3 W3 e3 r3 v3 h3 => by
    cases dz <;> try exact h3.elim
    rename_i t
    cases v3
    refine ⟨t, rfl, ?_⟩
    cases t with
    | true => exact ⟨δ, W3, _, er.ext ((e1.trans e2).trans e3), r3, h3, fun w dw H4 W4 e4 r4 v4 h4 => hr' H4 W4 y w dy dw Q Q' r4 (DV.ext (e3.trans e4) v2) v4 h4 (k.ext (((e1.trans e2).trans e3).trans e4))⟩
    | false => exact k _ (.bl false) H3 W3 ((e1.trans e2).trans e3) r3 rfl h3⟩⟩
theorem se_chain {op op' : CmpOp} {r r' : R2} {F F' : R2D} (ho : OpR X (compareOp op) r) (ho' : OpR X (compareOp op') r') (hr : Op2 X.K r F) (hr' : Op2 X.K r' F') (ha : SE X a f) (hb : SE X b g) (hc : SE X c h)
    (hl : lastMarks [op, op'] [b, c] = false := by first | rfl | decide) : SE X (.Compare a [op, op'] [b, c] pos) (fChain F F' f g h) := PEimp (pe_chain ho ho' ha hb hc hl) (tE_chain hr hr')

/-! ### arguments, displays -/
def fNil : FA := fun _ W Q => Q [] W
def fCons (f : FE) (r : FA) : FA := fun δ W Q => f δ W fun x W1 => r δ W1 fun xs W2 => Q (x :: xs) W2
theorem sa_nil : SA X [] fNil := PAimp pa_nil fun σ H Q ⟨δ, W, Q', er, rl, h, k⟩ => k [] [] H W (Ext.refl H) rl rfl h
theorem sa_cons {r : FA} (ha : SE X e f) (hr : SA X es r) (hs : starEach (e :: es) X.env = (false, eval e X.env) :: starEach es X.env := by rfl) : SA X (e :: es) (fCons f r) :=
  PAimp (pa_cons ha hr hs) fun σ H Q ⟨δ, W, Q', er, rl, h, k⟩ => ⟨δ, W, _, er, rl, h, fun x dx H1 W1 e1 r1 v1 h1 => ⟨δ, W1, _, er.ext e1, r1, h1, fun xs ds H2 W2 e2 r2 v2 h2 =>
    k (x :: xs) (dx :: ds) H2 W2 (e1.trans e2) r2 ⟨x, xs, rfl, DV.ext e2 v1, v2⟩ h2⟩⟩
def fTup (r : FA) : FE := fun δ W Q => r δ W fun xs W1 => xs.length ≤ sizeLine ∧ Q (.tup xs) W1
def fLst (r : FA) : FE := fun δ W Q => r δ W fun xs W1 => xs.length ≤ sizeLine ∧ ∀ p, W1 p = none → Q (.ref p) (wup W1 p (.lst xs))
theorem se_tup {x1} {r : FA} (h : SA X es r) : SE X (.Tuple es x1 pos) (fTup r) :=
  PEimp (pe_tup h) fun σ H Q ⟨δ, W, Q', er, rl, h, k⟩ => ⟨δ, W, _, er, rl, h, fun vs ds H1 W1 e1 r1 v1 h1 => ⟨by rw [v1.length]; exact h1.1, fun p hp => newT r1 hp v1 h1.2 (k.ext e1)⟩⟩
theorem se_lst {r : FA} (h : SA X es r) : SE X (.List es pos) (fLst r) :=
  PEimp (pe_lst h) fun σ H Q ⟨δ, W, Q', er, rl, h, k⟩ => ⟨δ, W, _, er, rl, h, fun vs ds H1 W1 e1 r1 v1 h1 => ⟨by rw [v1.length]; exact h1.1, fun p hp => newL r1 hp v1 h1.2 (k.ext e1)⟩⟩

/-! ### subscripts of lists and tuples -/
def atD (xs : List D) (i : Int) : Option D := (ixN xs.length i).bind fun j => xs[j]?
theorem DVs.at {K : PySem.W.Frag} {H : Hp} {ds : List D} {vs : List V} {i : Int} {d : D} (h : DVs K H ds vs) (e : atD ds i = some d) : ∃ v, atI vs i = some v ∧ DV K H d v := by
  unfold atD at e
  unfold atI
  rw [h.length]
  cases q : ixN ds.length i with
  | none => rw [q] at e; cases e
  | some j =>
    rw [q] at e
    exact DVs.get (i := j) h e
def pIx : R2D := fun x y W Q => match x, y with
  | .tup xs, .int i => ∃ d, atD xs i = some d ∧ Q d W
  | .rl xs, .int i => ∃ d, atD xs i = some d ∧ Q d W
  | .ref a, .int i => ∃ xs d, W a = some (.lst xs) ∧ atD xs i = some d ∧ Q d W
  | _, _ => False
theorem o_ix : Op2 X.K (fun x y H Q => rIxL X.K x y H Q ∨ rIxT X.K x y H Q) pIx := fun H W x y dx dy Q Q' rl vx vy h k => by
  unfold pIx at h
  split at h
  · cases vy
    obtain ⟨a, us, rfl, s, d⟩ := vx
    obtain ⟨d', e, q⟩ := h
    obtain ⟨v, e', dv⟩ := d.at e
    exact .inr ⟨a, us, _, v, rfl, rfl, s, e', k.at rl q dv⟩
  · cases vy
    obtain ⟨a, us, rfl, s, d⟩ := vx
    obtain ⟨d', e, q⟩ := h
    obtain ⟨v, e', dv⟩ := d.at e
    exact .inl ⟨a, us, _, v, rfl, rfl, s.sq, e', k.at rl q dv⟩
  · cases vx; cases vy
    obtain ⟨xs, d', w, e, q⟩ := h
    obtain ⟨us, s1, d1⟩ := rl _ _ w
    obtain ⟨v, e', dv⟩ := d1.at e
    exact .inl ⟨_, us, _, v, rfl, rfl, SqL.of s1, e', k.at rl q dv⟩
  · exact h.elim
theorem se_ix (ha : SE X a f) (hb : SE X b g) (hs : PlainIx b := by intro _ _; rfl) : SE X (.Subscript a b pos) (fBin pIx f g) := PEimp (pe_ix (ix_list.or ix_tup) ha hb hs) (tE_bin o_ix)
/-! ### slices -/
abbrev FO := Env → DW → (Option Int → DW → Prop) → Prop
def tO (K : PySem.W.Frag) (f : FO) : TO := fun σ H Q => ∃ δ W Q', EnvR K H δ σ ∧ Rel K H W ∧ f δ W Q' ∧ ∀ o H' W', Ext K H H' → Rel K H' W' → Q' o W' → Q o H'
abbrev SO (X : Cx) (e : Option Expr) (f : FO) : Prop := PO X e (tO X.K f)
def fNoPart : FO := fun _ W Q => Q none W
def fPart (f : FE) : FO := fun δ W Q => f δ W fun x W1 => match x with | .int i => Q (some i) W1 | _ => False
theorem POimp {e : Option Expr} {t t' : TO} (h : PO X e t) (i : ∀ σ H Q, t' σ H Q → t σ H Q) : PO X e t' := ⟨fun pins s σ H Q I q => h.run pins s σ H Q I (i σ H Q q)⟩
theorem so_none : SO X none fNoPart := POimp po_none fun σ H Q ⟨δ, W, Q', er, rl, h, k⟩ => k none H W (Ext.refl H) rl h
theorem so_some (h : SE X e f) : SO X (some e) (fPart f) := POimp (po_some h) fun σ H Q ⟨δ, W, Q', er, rl, h, k⟩ => ⟨δ, W, _, er, rl, h, fun x dx H1 W1 e1 r1 v1 h1 => by
  cases dx <;> try exact h1.elim
  cases v1
  exact ⟨_, rfl, k _ H1 W1 e1 r1 h1⟩⟩
def cutD (xs : List D) (lo hi : Option Int) : List D := (xs.drop (HT.sIx xs.length 0 lo)).take (HT.sIx xs.length xs.length hi - HT.sIx xs.length 0 lo)
def fSl (f : FE) (lo hi : FO) : FE := fun δ W Q => f δ W fun x W1 => lo δ W1 fun l W2 => hi δ W2 fun u W3 => match x with
  | .tup xs => Q (.tup (cutD xs l u)) W3
  | .rl xs => ∀ p, W3 p = none → Q (.ref p) (wup W3 p (.lst (cutD xs l u)))
  | .ref a => ∃ xs, W3 a = some (.lst xs) ∧ ∀ p, W3 p = none → Q (.ref p) (wup W3 p (.lst (cutD xs l u)))
  | _ => False
theorem DVs.cut {K : PySem.W.Frag} {H : Hp} {ds : List D} {vs : List V} (h : DVs K H ds vs) (l u : Option Int) : DVs K H (cutD ds l u) (cutV vs l u) := by
  unfold cutD cutV
  rw [h.length]
  exact DVs.take _ (DVs.drop _ h)
theorem se_slice {lo hi : Option Expr} {p2 : Pos} {fl fu : FO} (he : SE X e f) (hl : SO X lo fl) (hu : SO X hi fu) : SE X (.Subscript e (.Slice lo hi none p2) pos) (fSl f fl fu) :=
  PEimp (pe_slice (sl_list.or sl_tupA) he hl hu) fun σ H Q ⟨δ, W, Q', er, rl, h, k⟩ => ⟨δ, W, _, er, rl, h, fun x dx H1 W1 e1 r1 v1 h1 => ⟨δ, W1, _, er.ext e1, r1, h1, fun l H2 W2 e2 r2 h2 => ⟨δ, W2, _, er.ext (e1.trans e2), r2, h2, fun u H3 W3 e3 r3 h3 => by
    have k' := k.ext ((e1.trans e2).trans e3)
    have v' := DV.ext (e2.trans e3) v1
    cases dx <;> try exact h3.elim
    · obtain ⟨a, us, rfl, s, d⟩ := v'
      refine .inr ⟨a, us, rfl, s, fun z => ?_, fun z p hp => newT r3 hp (d.cut l u) h3 k'⟩
      refine k'.at r3 h3 (dvT s ?_)
      have : cutV us l u = us := by
        unfold cutV
        rw [z.1, z.2]
        simp
      rw [← this]
      exact d.cut l u
    · obtain ⟨a, us, rfl, s, d⟩ := v'
      exact .inl ⟨a, us, rfl, s.sq, fun p hp => newL r3 hp (d.cut l u) h3 k'⟩
    · cases v'
      obtain ⟨xs, w, q⟩ := h3
      obtain ⟨us, s1, d1⟩ := r3 _ _ w
      exact .inl ⟨_, us, rfl, SqL.of s1, fun p hp => newL r3 hp (d1.cut l u) q k'⟩⟩⟩⟩
end
end DL
/-! Dl4: targets, statements, loops, comprehensions. -/
namespace DL
open PySem PySem.Spec PyProof.Rows L2
section
variable {X : Cx} {a b c e o i : Expr} {es rest : List Expr} {pos : Pos} {f g h : FE} {p q : FT}
/-! ### targets -/
abbrev FG := D → Env → DW → (Env → DW → Prop) → Prop
abbrev FGs := List D → Env → DW → (Env → DW → Prop) → Prop
def tG (K : PySem.W.Frag) (g : FG) : TG := fun v σ H Q => ∃ d δ W Q', DV K H d v ∧ EnvR K H δ σ ∧ Rel K H W ∧ g d δ W Q' ∧ LkN K H Q' Q
def tGs (K : PySem.W.Frag) (g : FGs) : TGs := fun vs σ H Q => ∃ ds δ W Q', DVs K H ds vs ∧ EnvR K H δ σ ∧ Rel K H W ∧ g ds δ W Q' ∧ LkN K H Q' Q
abbrev SG (X : Cx) (tg : Expr) (g : FG) : Prop := PG X tg (tG X.K g)
abbrev SGs (X : Cx) (tgs : List Expr) (g : FGs) : Prop := PGs X tgs (tGs X.K g)
theorem PGimp {tg : Expr} {t t' : TG} (h : PG X tg t) (i : ∀ v σ H Q, t' v σ H Q → t v σ H Q) : PG X tg t' := ⟨fun pins s σ H v u Q I r q => h.run pins s σ H v u Q I r (i v σ H Q q)⟩
theorem PGsimp {tgs : List Expr} {t t' : TGs} (h : PGs X tgs t) (i : ∀ v σ H Q, t' v σ H Q → t v σ H Q) : PGs X tgs t' := ⟨fun pins s σ H v u Q I r q => h.run pins s σ H v u Q I r (i v σ H Q q)⟩
def gN (i : Nat) : FG := fun d δ W Q => Q (δ.set i (some d)) W
theorem sg_name (i : Nat) {x : Str} (hN : X.N.Nodup) (hi : X.N[i]? = some x := by rfl) (hx : Loc X.env.scope x := by first | exact Or.inl rfl | exact Or.inr rfl) (hf : X.fn x = true ∨ X.env.scope.names.lookup x = some .local := by first | exact .inl rfl | exact .inr rfl) : SG X (.Name x pos) (gN i) :=
  PGimp (pg_name hN hi hx hf) fun v σ H Q ⟨d, δ, W, Q', dv, er, rl, h, k⟩ => k _ _ H W (Ext.refl H) (er.set dv) rl h
def gNl : FGs := fun ds δ W Q => ds = [] ∧ Q δ W
def gCn (g : FG) (r : FGs) : FGs := fun ds δ W Q => match ds with | d :: ds => g d δ W fun δ' W' => r ds δ' W' Q | [] => False
theorem sgs_nil : SGs X [] gNl := PGsimp pgs_nil fun v σ H Q ⟨ds, δ, W, Q', dv, er, rl, h, k⟩ => by
  obtain ⟨rfl, h⟩ := h
  exact ⟨dv, k _ _ H W (Ext.refl H) er rl h⟩
theorem sgs_cons {t : FG} {u : FGs} (h1 : SG X e t) (h2 : SGs X es u) (hs : List.map (fun x => x.snd) (assignEach (e :: es) X.env) = assign e X.env :: List.map (fun x => x.snd) (assignEach es X.env) := by rfl) : SGs X (e :: es) (gCn t u) :=
  PGsimp (pgs_cons h1 h2 hs) fun v σ H Q ⟨ds, δ, W, Q', dv, er, rl, h, k⟩ => by
    cases ds with
    | nil => exact h.elim
    | cons d ds =>
      obtain ⟨x, r, rfl, d1, d2⟩ := dv
      exact ⟨x, r, rfl, d, δ, W, _, d1, er, rl, h, fun σ' δ' H' W' e1 er1 r1 h1 => ⟨ds, δ', W', Q', DVs.ext e1 d2, er1, r1, h1, k.ext e1⟩⟩
def gTp (n : Nat) (g : FGs) : FG := fun d δ W Q => match d with | .tup ds => ds.length = n ∧ g ds δ W Q | _ => False
theorem sg_tup {k : Nat} {t : FGs} {n : Nat} (hc : X.calm = true) (h : SGs X es t) (hl : (assignEach es X.env).length = n := by rfl) (hs : (assignEach es X.env).findIdx? (·.1) = none := by rfl) : SG X (.Tuple es k pos) (gTp n t) :=
  PGimp (pg_tup hc h hl hs) fun v σ H Q ⟨d, δ, W, Q', dv, er, rl, h, k⟩ => by
    cases d <;> try exact h.elim
    obtain ⟨a, us, rfl, s, d⟩ := dv
    exact ⟨a, us, rfl, s, by rw [d.length]; exact h.1, _, δ, W, Q', d, er, rl, h.2, k⟩
/-- a[i] = v, a a list -/
abbrev FSet := D → D → D → DW → (DW → Prop) → Prop
def pSetL : FSet := fun o i v W Q => match o, i with
  | .ref a, .int k => ∃ xs j, W a = some (.lst xs) ∧ ixN xs.length k = some j ∧ Q (wup W a (.lst (xs.set j v)))
  | _, _ => False
def OpS (K : PySem.W.Frag) (r : TSet) (F : FSet) : Prop := ∀ H W x y z dx dy dz (Q : Hp → Prop) (Q' : DW → Prop), Rel K H W → DV K H dx x → DV K H dy y → DV K H dz z → F dx dy dz W Q' → (∀ H' W', Ext K H H' → Rel K H' W' → Q' W' → Q H') → r x y z H Q
theorem os_list : OpS X.K rSetL pSetL := fun H W x y z dx dy dz Q Q' rl vx vy vz h k => by
  unfold pSetL at h
  split at h
  · cases vx; cases vy
    obtain ⟨xs, j, w, hj, q⟩ := h
    obtain ⟨us, s1, d1⟩ := rl _ _ w
    refine ⟨_, us, _, j, rfl, rfl, s1, by rw [d1.length]; exact hj, k _ _ (Ext.put s1 trivial) (rl.wput s1 trivial (hasL upd_same (DVs.ext (Ext.put s1 trivial) (DVs.set j vz d1)))) q⟩
  · exact h.elim
def gSb (to ti : FE) (F : FSet) : FG := fun v δ W Q => to δ W fun o W1 => ti δ W1 fun i W2 => F o i v W2 fun W3 => Q δ W3
theorem sg_sub {t : TSet} {F : FSet} (hs : PSet X t) (hF : OpS X.K t F) (ho : SE X o f) (hi : SE X i g)
    (hp : ∀ v, assign (.Subscript o i pos) X.env v = (do let ov ← holding [v] (eval o X.env); let iv ← holding [v, ov] (eval i X.env); standAt pos; holding [v, ov, iv] (setItem ov iv v); release [v, ov, iv] []) := by intro _; rfl) : SG X (.Subscript o i pos) (gSb f g F) :=
  PGimp (pg_sub ho hi hs hp) fun v σ H Q ⟨d, δ, W, Q', dv, er, rl, h, k⟩ =>
    ⟨δ, W, _, er, rl, h, fun x dx H1 W1 e1 r1 v1 h1 => ⟨δ, W1, _, er.ext e1, r1, h1, fun y dy H2 W2 e2 r2 v2 h2 =>
      hF H2 W2 x y v dx dy d _ _ r2 (DV.ext e2 v1) v2 (DV.ext (e1.trans e2) dv) h2 fun H3 W3 e3 r3 h3 => k σ δ H3 W3 ((e1.trans e2).trans e3) (er.ext ((e1.trans e2).trans e3)) r3 h3⟩⟩

/-! ### statements -/
def sSeq (s t : FS) : FS := fun D δ W => s { D with nx := t D } δ W
theorem sss_nil : SSs X [] (fun D δ W => D.nx δ W) := PSsimp pss_nil fun D σ H ⟨δ, W, D', er, rl, h, k⟩ => k.nx σ δ H W (Ext.refl H) er rl h
theorem sss_cons {st : Stmt} {r : List Stmt} {s t : FS} (h1 : SS X st s) (h2 : SSs X r t) : SSs X (st :: r) (sSeq s t) :=
  PSsimp (pss_cons h1 h2) fun D σ H ⟨δ, W, D', er, rl, h, k⟩ => ⟨δ, W, _, er, rl, h, ⟨fun σ' δ' H' W' e' er' r' q' => ⟨δ', W', D', er', r', q', k.ext e'⟩, k.rt, k.bk, k.ct⟩⟩
theorem sss_one {st : Stmt} {s : FS} (h : SS X st s) : SSs X [st] s := pss_one h
theorem ss_pass : SS X (.Pass pos) (fun D δ W => D.nx δ W) := PSimp ps_pass fun D σ H ⟨δ, W, D', er, rl, h, k⟩ => k.nx σ δ H W (Ext.refl H) er rl h
theorem ss_break : SS X (.Break pos) (fun D δ W => D.bk δ W) := PSimp ps_break fun D σ H ⟨δ, W, D', er, rl, h, k⟩ => k.bk σ δ H W (Ext.refl H) er rl h
theorem ss_continue : SS X (.Continue pos) (fun D δ W => D.ct δ W) := PSimp ps_continue fun D σ H ⟨δ, W, D', er, rl, h, k⟩ => k.ct σ δ H W (Ext.refl H) er rl h
def sDrop (f : FE) : FS := fun D δ W => f δ W fun _ W1 => D.nx δ W1
theorem ss_expr (he : SE X e f) (hs : swapsWith e none pos.line X.env = pure false := by rfl) : SS X (.Expr e pos) (sDrop f) :=
  PSimp (ps_expr he hs) fun D σ H ⟨δ, W, D', er, rl, h, k⟩ => ⟨δ, W, _, er, rl, h, fun v d H' W' e' r' v' q => k.nx σ δ H' W' e' (er.ext e') r' q⟩
def sRet (f : FE) : FS := fun D δ W => f δ W D.rt
theorem ss_ret (he : SE X e f) : SS X (.Return (some e) pos) (sRet f) :=
  PSimp (ps_ret he) fun D σ H ⟨δ, W, D', er, rl, h, k⟩ => ⟨δ, W, _, er, rl, h, k.rt⟩
theorem ss_retN : SS X (.Return none pos) (fun D _ W => D.rt .non W) := PSimp ps_retN fun D σ H ⟨δ, W, D', er, rl, h, k⟩ => k.rt .non .non H W (Ext.refl H) rl rfl h
def sIf (p : FT) (s t : FS) : FS := fun D δ W => p δ W fun k W1 => if k = true then s D δ W1 else t D δ W1
theorem ss_if {a b : List Stmt} {s t : FS} (hc : ST X c p) (ha : SSs X a s) (hb : SSs X b t) : SS X (.If c a b pos) (sIf p s t) :=
  PSimp (ps_if hc ha hb) fun D σ H ⟨δ, W, D', er, rl, h, k⟩ => ⟨δ, W, _, er, rl, h, fun t H1 W1 e1 r1 h1 => by
    cases t with
    | true => exact ⟨δ, W1, D', er.ext e1, r1, h1, k.ext e1⟩
    | false => exact ⟨δ, W1, D', er.ext e1, r1, h1, k.ext e1⟩⟩
def sAsg (f : FE) (g : FG) : FS := fun D δ W => f δ W fun x W1 => g x δ W1 D.nx
theorem tS_asg {t : FG} : ∀ D σ H, tS X.K (sAsg f t) D σ H → tAsg (tE X.K f) (tG X.K t) D σ H := fun D σ H ⟨δ, W, D', er, rl, h, k⟩ =>
  ⟨δ, W, _, er, rl, h, fun v d H' W' e' r' v' q => ⟨d, δ, W', _, v', er.ext e', r', q, k.nx.ext e'⟩⟩
theorem ss_asg {tg : Expr} {t : FG} (he : SE X e f) (hg : SG X tg t) (hs : swapsWithSole [tg] e pos.line X.env = pure false := by rfl) (hw : swappedStores [tg] e X.env = pure none := by rfl)
    (hm : (assignEach [tg] X.env).map (·.2) = [assign tg X.env] := by rfl) : SS X (.Assign [tg] e pos) (sAsg f t) := PSimp (ps_asg he hg hs hw hm) tS_asg
theorem ss_set (i : Nat) {x : Str} {pos' : Pos} (hN : X.N.Nodup) (he : SE X e f) (hi : X.N[i]? = some x := by rfl) (hx : Loc X.env.scope x := by first | exact Or.inl rfl | exact Or.inr rfl)
    (hs : swapsWith e (some (.Name x pos')) pos.line X.env = pure false := by rfl) (hf : X.fn x = true ∨ X.env.scope.names.lookup x = some .local := by first | exact .inl rfl | exact .inr rfl) : SS X (.Assign [.Name x pos'] e pos) (sAsg f (gN i)) :=
  PSimp (ps_set hN hi hx he hs hf) fun D σ H h => by
    obtain ⟨δ, W, D', er, rl, h, k⟩ := h
    exact ⟨δ, W, _, er, rl, h, fun v d H' W' e' r' v' q => k.nx _ _ H' W' e' ((er.ext e').set v') r' q⟩
def sAug (i : Nat) (f : FE) (F : R2D) : FS := fun D δ W => ∃ x, δ[i]? = some (some x) ∧ f δ W fun y W1 => F x y W1 fun z W2 => D.nx (δ.set i (some z)) W2
theorem ss_aug (i : Nat) {x : Str} {op : Operator} {r : TIp} {F : R2D} {pos' : Pos} (hN : X.N.Nodup) (ho : PIp X op r) (hr : Op2 X.K r F) (he : SE X e f) (hi : X.N[i]? = some x := by rfl) (hx : Loc X.env.scope x := by first | exact Or.inl rfl | exact Or.inr rfl)
    (hf : X.fn x = true ∨ X.env.scope.names.lookup x = some .local := by first | exact .inl rfl | exact .inr rfl) : SS X (.AugAssign (.Name x pos') op e pos) (sAug i f F) :=
  PSimp (ps_aug hN hi hx he ho hf) fun D σ H ⟨δ, W, D', er, rl, h, k⟩ => by
    obtain ⟨x, ex, h⟩ := h
    obtain ⟨v, ev, dv⟩ := er.2 i x ex
    exact ⟨v, ev, δ, W, _, er, rl, h, fun y dy H1 W1 e1 r1 v1 h1 => hr H1 W1 v y x dy _ _ r1 (DV.ext e1 dv) v1 h1 fun z dz H2 W2 e2 r2 v2 h2 => k.nx _ _ H2 W2 (e1.trans e2) ((er.ext (e1.trans e2)).set v2) r2 h2⟩
theorem ip_addD : Op2 X.K (ipI fun i j => i + j) (pII0 fun i j => .int (i + j)) := fun H W x y dx dy Q Q' rl vx vy h k => by
  unfold pII0 at h
  split at h
  · cases vx; cases vy; exact ⟨_, _, rfl, rfl, k.at rl h rfl⟩
  · exact h.elim

/-! ### what is walked -/
abbrev FI := Env → DW → (List D → (DW → Prop) → DW → Prop) → Prop
structure ItOk (K : PySem.W.Frag) (J : It) (xs : List D) (keep : DW → Prop) (H0 : Hp) : Prop where
  go : ∀ H W i, Ext K H0 H → Rel K H W → keep W → i < xs.length → J.go i H
  yld : ∀ H W i x H', Ext K H0 H → Rel K H W → keep W → i < xs.length → J.yld i H x H' → ∃ d, xs[i]? = some d ∧ Ext K H H' ∧ Rel K H' W ∧ DV K H' d x
  stop : ∀ H W i, Ext K H0 H → Rel K H W → keep W → xs.length ≤ i → J.stop i H
def tI (K : PySem.W.Frag) (f : FI) : TI := fun σ H R => ∃ δ W Q', EnvR K H δ σ ∧ Rel K H W ∧ f δ W Q' ∧ ∀ J xs keep H' W', Ext K H H' → Rel K H' W' → Q' xs keep W' → ItOk K J xs keep H' → R J H'
abbrev SI (X : Cx) (tg iter : Expr) (f : FI) : Prop := PI X tg iter (tI X.K f)
theorem PIimp {tg iter : Expr} {t t' : TI} (h : PI X tg iter t) (i : ∀ σ H R, t' σ H R → t σ H R) : PI X tg iter t' := ⟨fun pins s σ H R I q => h.run pins s σ H R I (i σ H R q)⟩
theorem it_list {K : PySem.W.Frag} {a : Addr} {xs : List D} {H0 : Hp} : ItOk K (Itl K a) xs (fun W => W a = some (.lst xs)) H0 where
  go H W i _ rl kp hi := by
    obtain ⟨us, s, d⟩ := rl _ _ kp
    have hl : i < us.length := by rw [d.length]; exact hi
    exact ⟨us, us[i], SqL.of s, List.getElem?_eq_getElem hl⟩
  yld H W i x H' _ rl kp hi hy := by
    obtain ⟨rfl, hf⟩ := hy
    obtain ⟨us, s, d⟩ := rl _ _ kp
    have ex := hf us (SqL.of s)
    have hl : i < xs.length := by
      rw [← d.length]
      exact (List.getElem?_eq_some_iff.mp ex).1
    obtain ⟨v, e1, e2⟩ := d.get (List.getElem?_eq_getElem hl)
    rw [ex] at e1
    cases e1
    exact ⟨xs[i], List.getElem?_eq_getElem hl, Ext.refl _, rl, e2⟩
  stop H W i _ rl kp hi := by
    obtain ⟨us, s, d⟩ := rl _ _ kp
    exact ⟨us, SqL.of s, by rw [d.length]; exact hi⟩
theorem it_rl {K : PySem.W.Frag} {a : Addr} {us : List V} {xs : List D} {H0 : Hp} (s : RdL K H0 a us) (d : DVs K H0 xs us) : ItOk K (Itl K a) xs (fun _ => True) H0 where
  go H W i e rl kp hi := by
    have hl : i < us.length := by rw [d.length]; exact hi
    exact ⟨us, us[i], (s.ext e).sq, List.getElem?_eq_getElem hl⟩
  yld H W i x H' e rl kp hi hy := by
    obtain ⟨rfl, hf⟩ := hy
    have ex := hf us (s.ext e).sq
    have hl : i < xs.length := by
      rw [← d.length]
      exact (List.getElem?_eq_some_iff.mp ex).1
    obtain ⟨v, e1, e2⟩ := d.get (List.getElem?_eq_getElem hl)
    rw [ex] at e1
    cases e1
    exact ⟨xs[i], List.getElem?_eq_getElem hl, Ext.refl _, rl, DV.ext e e2⟩
  stop H W i e rl kp hi := ⟨us, (s.ext e).sq, by rw [d.length]; exact hi⟩
theorem it_tup {K : PySem.W.Frag} {a : Addr} {us : List V} {xs : List D} {H0 : Hp} (s : SqT K H0 a us) (d : DVs K H0 xs us) : ItOk K (Itt K a) xs (fun _ => True) H0 where
  go H W i e rl kp hi := by
    have hl : i < us.length := by rw [d.length]; exact hi
    exact ⟨us, us[i], e.t _ _ s, List.getElem?_eq_getElem hl⟩
  yld H W i x H' e rl kp hi hy := by
    obtain ⟨rfl, hf⟩ := hy
    have ex := hf us (e.t _ _ s)
    have hl : i < xs.length := by
      rw [← d.length]
      exact (List.getElem?_eq_some_iff.mp ex).1
    obtain ⟨v, e1, e2⟩ := d.get (List.getElem?_eq_getElem hl)
    rw [ex] at e1
    cases e1
    exact ⟨xs[i], List.getElem?_eq_getElem hl, Ext.refl _, rl, DV.ext e e2⟩
  stop H W i e rl kp hi := ⟨us, e.t _ _ s, by rw [d.length]; exact hi⟩
def rngD (lo : Int) (n : Nat) : List D := (List.range n).map fun k => .int (lo + (k : Nat))
theorem rngD_length {lo : Int} {n : Nat} : (rngD lo n).length = n := by simp [rngD]
theorem rngD_get {lo : Int} {n i : Nat} (h : i < n) : (rngD lo n)[i]? = some (.int (lo + (i : Nat))) := by simp [rngD, h]
theorem it_rng {K : PySem.W.Frag} {lo : Int} {n : Nat} {H0 : Hp} : ItOk K (Itr lo n) (rngD lo n) (fun _ => True) H0 where
  go H W i e rl kp hi := by rw [rngD_length] at hi; exact hi
  yld H W i x H' e rl kp hi hy := by
    obtain ⟨rfl, rfl⟩ := hy
    rw [rngD_length] at hi
    exact ⟨_, rngD_get hi, Ext.refl _, rl, rfl⟩
  stop H W i e rl kp hi := by rw [rngD_length] at hi; exact hi
/-- a list, a tuple, the script -/
def fIt (f : FE) : FI := fun δ W R => f δ W fun x W1 => match x with
  | .ref a => ∃ xs, W1 a = some (.lst xs) ∧ R xs (fun W => W a = some (.lst xs)) W1
  | .rl xs => R xs (fun _ => True) W1
  | _ => False
def fItT (f : FE) : FI := fun δ W R => f δ W fun x W1 => match x with
  | .tup xs => R xs (fun _ => True) W1
  | _ => False
theorem si_list {tg : Expr} (h : SE X e f) : SI X tg e (fIt f) := PIimp (pi_list h) fun σ H R ⟨δ, W, Q', er, rl, h, k⟩ => ⟨δ, W, _, er, rl, h, fun v d H' W' e' r' v' q => by
  cases d <;> try exact q.elim
  · obtain ⟨a, us, rfl, s, d⟩ := v'
    exact ⟨a, rfl, ⟨us, s.sq⟩, k _ _ _ H' W' e' r' q (it_rl s d)⟩
  · cases v'
    obtain ⟨xs, w, q⟩ := q
    obtain ⟨us, s, d⟩ := r' _ _ w
    exact ⟨_, rfl, ⟨us, SqL.of s⟩, k _ _ _ H' W' e' r' q it_list⟩⟩
theorem si_tup {tg : Expr} (h : SE X e f) : SI X tg e (fItT f) := PIimp (pi_tup h) fun σ H R ⟨δ, W, Q', er, rl, h, k⟩ => ⟨δ, W, _, er, rl, h, fun v d H' W' e' r' v' q => by
  cases d <;> try exact q.elim
  obtain ⟨a, us, rfl, s, d⟩ := v'
  exact ⟨a, rfl, ⟨us, s⟩, k _ _ _ H' W' e' r' q (it_tup s d)⟩⟩
def fRng1 (f : FA) : FI := fun δ W R => f δ W fun vs W1 => ∃ j, vs = [.int j] ∧ -(2 ^ 62) ≤ j ∧ j < 2 ^ 62 ∧ R (rngD 0 j.toNat) (fun _ => True) W1
def fRng2 (f : FA) : FI := fun δ W R => f δ W fun vs W1 => ∃ i j, vs = [.int i, .int j] ∧ (-(2 ^ 62) ≤ i ∧ i < 2 ^ 62 ∧ -(2 ^ 62) ≤ j ∧ j < 2 ^ 62) ∧ R (rngD i (j - i).toNat) (fun _ => True) W1
theorem DVs.i1 {K : PySem.W.Frag} {H : Hp} {vs : List V} {i : Int} (h : DVs K H [.int i] vs) : vs = [.int i] := by
  obtain ⟨v, r, rfl, hv, hr⟩ := h
  cases hr; cases hv; rfl
theorem DVs.i2 {K : PySem.W.Frag} {H : Hp} {vs : List V} {i j : Int} (h : DVs K H [.int i, .int j] vs) : vs = [.int i, .int j] := by
  obtain ⟨v, r, rfl, hv, hr⟩ := h
  cases hv
  rw [DVs.i1 hr]
theorem si_rng1 {tg : Expr} {r : FA} {p pos : Pos} (hg : Gl X "range") (hm : X.mg "range" = none) (ha : SA X [a] r) (hs : starEach [a] X.env = [(false, eval a X.env)] := by rfl) : SI X tg (.Call (.Name "range" p) [a] [] pos) (fRng1 r) :=
  PIimp (pi_range1 hg hm ha hs) fun σ H R ⟨δ, W, Q', er, rl, h, k⟩ => ⟨δ, W, _, er, rl, h, fun vs ds H' W' e' r' v' ⟨j, ed, q1, q2, q3⟩ => by
    subst ed
    exact ⟨j, v'.i1, q1, q2, k _ _ _ H' W' e' r' q3 it_rng⟩⟩
theorem si_rng2 {tg : Expr} {r : FA} {p pos : Pos} (hg : Gl X "range") (hm : X.mg "range" = none) (ha : SA X [a, b] r) (hs : starEach [a, b] X.env = [(false, eval a X.env), (false, eval b X.env)] := by rfl)
    (hs2 : starEach [b] X.env = [(false, eval b X.env)] := by rfl) : SI X tg (.Call (.Name "range" p) [a, b] [] pos) (fRng2 r) :=
  PIimp (pi_range2 hg hm ha hs hs2) fun σ H R ⟨δ, W, Q', er, rl, h, k⟩ => ⟨δ, W, _, er, rl, h, fun vs ds H' W' e' r' v' ⟨i, j, ed, q1, q2⟩ => by
    subst ed
    exact ⟨i, j, v'.i2, q1, k _ _ _ H' W' e' r' q2 it_rng⟩⟩

/-! ### for -/
def loopD (keep : DW → Prop) (g : FG) (body : FS) (E : DE) : List D → Env → DW → Prop
  | [], δ, W => keep W ∧ E.nx δ W
  | x :: xs, δ, W => keep W ∧ g x δ W fun δ2 W2 => body { nx := loopD keep g body E xs, rt := E.rt, bk := E.nx, ct := loopD keep g body E xs } δ2 W2
theorem loopD.keep {keep : DW → Prop} {g : FG} {body : FS} {E : DE} {xs : List D} {δ : Env} {W : DW} (h : loopD keep g body E xs δ W) : keep W := by
  cases xs with
  | nil => exact h.1
  | cons x xs => exact h.1
def sFor (fi : FI) (g : FG) (body : FS) : FS := fun D δ W => fi δ W fun xs keep W1 => loopD keep g body D xs δ W1
theorem ss_for {tg iter : Expr} {body : List Stmt} {fi : FI} {gg : FG} {fb : FS} (hp : PassesOwn (model X.prog X.w) X.A X.env X.xe) (hc : X.calm = true) (hi : SI X tg iter fi) (hg : SG X tg gg) (hb : SSs X body fb)
    (hs : ∀ x, foldedSetIterable iter X.env x = pure x := by intro _; rfl) : SS X (.For tg iter body [] pos) (sFor fi gg fb) :=
  PSimp (ps_for hp hc hi hg hb hs) fun Dn σ H ⟨δ, W, D', er, rl, h, k⟩ => ⟨δ, W, _, er, rl, h, fun J xs keep H1 W1 e1 r1 q1 ok => by
    refine ⟨fun i m σ2 H2 => ∃ δ2 W2, EnvR X.K H2 δ2 σ2 ∧ Rel X.K H2 W2 ∧ Ext X.K H1 H2 ∧ loopD keep gg fb D' (xs.drop i) δ2 W2 ∧ i + m = xs.length, ⟨xs.length, δ, W1, er.ext e1, r1, Ext.refl _, q1, by omega⟩, ?_⟩
    rintro i m σ2 H2 ⟨δ2, W2, er2, r2, e2, q2, hm⟩
    have kp := loopD.keep q2
    by_cases hlt : i < xs.length
    · refine .inr ⟨ok.go H2 W2 i e2 r2 kp hlt, fun σ' H' => ∃ δ3 W3, EnvR X.K H' δ3 σ' ∧ Rel X.K H' W3 ∧ Ext X.K H1 H' ∧ loopD keep gg fb D' (xs.drop (i + 1)) δ3 W3, fun σ' H' ⟨δ3, W3, a1, a2, a3, a4⟩ => ⟨m - 1, by omega, δ3, W3, a1, a2, a3, a4, by omega⟩, fun x H3 hy => ?_⟩
      obtain ⟨d, ed, e3, r3, dv⟩ := ok.yld H2 W2 i x H3 e2 r2 kp hlt hy
      rw [List.drop_eq_getElem_cons hlt] at q2
      have hd : xs[i] = d := Option.some.inj ((List.getElem?_eq_getElem hlt).symm.trans ed)
      rw [hd] at q2
      refine ⟨d, δ2, W2, _, dv, er2.ext e3, r3, q2.2, fun σ4 δ4 H4 W4 e4 er4 r4 q4 => ⟨δ4, W4, _, er4, r4, q4, ?_⟩⟩
      have e14 : Ext X.K H1 H4 := (e2.trans e3).trans e4
      refine ⟨fun σ5 δ5 H5 W5 e5 er5 r5 q5 => ⟨δ5, W5, er5, r5, e14.trans e5, q5⟩, (k.rt.ext (e1.trans e14)), (k.nx.ext (e1.trans e14)), fun σ5 δ5 H5 W5 e5 er5 r5 q5 => ⟨δ5, W5, er5, r5, e14.trans e5, q5⟩⟩
    · refine .inl ⟨ok.stop H2 W2 i e2 r2 kp (by omega), ?_⟩
      rw [List.drop_eq_nil_of_le (by omega)] at q2
      exact k.nx σ2 δ2 H2 W2 (e1.trans e2) er2 r2 q2.2⟩
/-! ### while -/
def whileD (c : FT) (body : FS) (E : DE) : Nat → Env → DW → Prop
  | 0, _, _ => False
  | n + 1, δ, W => c δ W fun b W1 => if b = true then body { nx := whileD c body E n, rt := E.rt, bk := E.nx, ct := whileD c body E n } δ W1 else E.nx δ W1
def sWhile (c : FT) (body : FS) : FS := fun D δ W => ∃ n, whileD c body D n δ W
theorem ss_while {body : List Stmt} {fb : FS} (hp : PassesOwn (model X.prog X.w) X.A X.env X.xe) (hc : ST X c p) (hb : SSs X body fb) : SS X (.While c body [] pos) (sWhile p fb) :=
  PSimp (ps_while hp hc hb) fun Dn σ H ⟨δ, W, D', er, rl, ⟨n, h⟩, k⟩ => by
    refine ⟨fun m σ2 H2 => ∃ δ2 W2, EnvR X.K H2 δ2 σ2 ∧ Rel X.K H2 W2 ∧ Ext X.K H H2 ∧ whileD p fb D' m δ2 W2, ⟨n, δ, W, er, rl, Ext.refl _, h⟩, ?_⟩
    rintro m σ2 H2 ⟨δ2, W2, er2, r2, e2, q2⟩
    cases m with
    | zero => exact q2.elim
    | succ m =>
      refine ⟨δ2, W2, _, er2, r2, q2, fun t H3 W3 e3 r3 q3 => ?_⟩
      cases t with
      | false => exact k.nx σ2 δ2 H3 W3 (e2.trans e3) (er2.ext e3) r3 q3
      | true =>
        refine ⟨fun σ' H' => ∃ δ3 W3, EnvR X.K H' δ3 σ' ∧ Rel X.K H' W3 ∧ Ext X.K H H' ∧ whileD p fb D' m δ3 W3, fun σ' H' ⟨δ3, W3, a1, a2, a3, a4⟩ => ⟨m, by omega, δ3, W3, a1, a2, a3, a4⟩, ?_⟩
        refine ⟨δ2, W3, _, er2.ext e3, r3, q3, ?_⟩
        have e13 : Ext X.K H H3 := e2.trans e3
        exact ⟨fun σ5 δ5 H5 W5 e5 er5 r5 q5 => ⟨δ5, W5, er5, r5, e13.trans e5, q5⟩, k.rt.ext e13, k.nx.ext e13, fun σ5 δ5 H5 W5 e5 er5 r5 q5 => ⟨δ5, W5, er5, r5, e13.trans e5, q5⟩⟩

/-! ### comprehensions -/
def wipeD (δ : Env) : List Nat → Env
  | [] => δ
  | v :: vs => (wipeD δ vs).set v none
theorem EnvR.wipe {K : PySem.W.Frag} {H : Hp} {δ : Env} {σ : L2.St} (h : EnvR K H δ σ) : ∀ vs, EnvR K H (wipeD δ vs) (L2.wipe σ vs)
  | [] => h
  | v :: vs => by
    have ih := EnvR.wipe h vs
    refine ⟨by unfold wipeD L2.wipe; rw [List.length_set, List.length_set]; exact ih.1, fun j x e => ?_⟩
    unfold wipeD at e
    by_cases z : v = j
    · subst z
      rw [List.getElem?_set] at e
      simp only [↓reduceIte] at e
      split at e <;> cases e
    · rw [List.getElem?_set_ne z] at e
      obtain ⟨u, a, b⟩ := ih.2 j x e
      exact ⟨u, by unfold L2.wipe; rw [List.getElem?_set_ne z]; exact a, b⟩
/-- the same frame but for these slots -/
def But (is : List Nat) (σ σ' : L2.St) : Prop := σ'.length = σ.length ∧ ∀ j, j ∉ is → σ'[j]? = σ[j]?
def LkC (K : PySem.W.Frag) (H : Hp) (is : List Nat) (σ : L2.St) (Q' : Env → DW → Prop) (Q : L2.St → Hp → Prop) : Prop := ∀ σ' δ H' W', Ext K H H' → EnvR K H' δ σ' → Rel K H' W' → But is σ σ' → Q' δ W' → Q σ' H'
def tGc (K : PySem.W.Frag) (is : List Nat) (g : FG) : TG := fun v σ H Q => ∃ d δ W Q', DV K H d v ∧ EnvR K H δ σ ∧ Rel K H W ∧ g d δ W Q' ∧ LkC K H is σ Q' Q
def tGsc (K : PySem.W.Frag) (is : List Nat) (g : FGs) : TGs := fun vs σ H Q => ∃ ds δ W Q', DVs K H ds vs ∧ EnvR K H δ σ ∧ Rel K H W ∧ g ds δ W Q' ∧ LkC K H is σ Q' Q
abbrev SC (X : Cx) (tg : Expr) (is : List Nat) (g : FG) : Prop := PG X tg (tGc X.K is g)
abbrev SCs (X : Cx) (tgs : List Expr) (is : List Nat) (g : FGs) : Prop := PGs X tgs (tGsc X.K is g)
theorem But.trans {is js : List Nat} {σ σ' σ'' : L2.St} (h : But is σ σ') (h' : But js σ' σ'') : But (is ++ js) σ σ'' := ⟨h'.1.trans h.1, fun j n => by
  rw [List.mem_append, not_or] at n
  exact (h'.2 j n.2).trans (h.2 j n.1)⟩
theorem SC.sg {tg : Expr} {is : List Nat} {g : FG} (h : SC X tg is g) : SG X tg g := PGimp h fun v σ H Q ⟨d, δ, W, Q', dv, er, rl, hh, k⟩ => ⟨d, δ, W, Q', dv, er, rl, hh, fun σ' δ' H' W' e er' r _ q => k σ' δ' H' W' e er' r q⟩
theorem sc_name (i : Nat) {x : Str} (hN : X.N.Nodup) (hi : X.N[i]? = some x := by rfl) (hx : Loc X.env.scope x := by first | exact Or.inl rfl | exact Or.inr rfl) (hf : X.fn x = true ∨ X.env.scope.names.lookup x = some .local := by first | exact .inl rfl | exact .inr rfl) : SC X (.Name x pos) [i] (gN i) :=
  PGimp (pg_name hN hi hx hf) fun v σ H Q ⟨d, δ, W, Q', dv, er, rl, h, k⟩ => k _ _ H W (Ext.refl H) (er.set dv) rl ⟨List.length_set .., fun j n => List.getElem?_set_ne (fun z => n (by simp [z]))⟩ h
theorem scs_nil : SCs X [] [] gNl := PGsimp pgs_nil fun v σ H Q ⟨ds, δ, W, Q', dv, er, rl, h, k⟩ => by
  obtain ⟨rfl, h⟩ := h
  exact ⟨dv, k _ _ H W (Ext.refl H) er rl ⟨rfl, fun _ _ => rfl⟩ h⟩
theorem scs_cons {t : FG} {u : FGs} {is js : List Nat} (h1 : SC X e is t) (h2 : SCs X es js u) (hs : List.map (fun x => x.snd) (assignEach (e :: es) X.env) = assign e X.env :: List.map (fun x => x.snd) (assignEach es X.env) := by rfl) : SCs X (e :: es) (is ++ js) (gCn t u) :=
  PGsimp (pgs_cons h1 h2 hs) fun v σ H Q ⟨ds, δ, W, Q', dv, er, rl, h, k⟩ => by
    cases ds with
    | nil => exact h.elim
    | cons d ds =>
      obtain ⟨x, r, rfl, d1, d2⟩ := dv
      exact ⟨x, r, rfl, d, δ, W, _, d1, er, rl, h, fun σ' δ' H' W' e1 er1 r1 b1 h1 => ⟨ds, δ', W', Q', DVs.ext e1 d2, er1, r1, h1, fun σ2 δ2 H2 W2 e2 er2 r2 b2 q2 => k σ2 δ2 H2 W2 (e1.trans e2) er2 r2 (b1.trans b2) q2⟩⟩
theorem sc_tup {k : Nat} {t : FGs} {n : Nat} {is : List Nat} (hc : X.calm = true) (h : SCs X es is t) (hl : (assignEach es X.env).length = n := by rfl) (hs : (assignEach es X.env).findIdx? (·.1) = none := by rfl) : SC X (.Tuple es k pos) is (gTp n t) :=
  PGimp (pg_tup hc h hl hs) fun v σ H Q ⟨d, δ, W, Q', dv, er, rl, h, k⟩ => by
    cases d <;> try exact h.elim
    obtain ⟨a, us, rfl, s, d⟩ := dv
    exact ⟨a, us, rfl, s, by rw [d.length]; exact h.1, _, δ, W, Q', d, er, rl, h.2, k⟩
theorem wipe_but : ∀ (vs : List Nat) {σ σ' : L2.St}, But vs σ σ' → L2.wipe σ' vs = L2.wipe σ vs := fun vs σ σ' h => by
  apply List.ext_getElem?
  intro j
  by_cases m : j ∈ vs
  · have aux : ∀ (τ : L2.St) (us : List Nat), j ∈ us → j < τ.length → (L2.wipe τ us)[j]? = some none := fun τ us => by
      induction us with
      | nil => intro h; cases h
      | cons u us ih =>
        intro hm hl
        unfold L2.wipe
        by_cases z : u = j
        · subst z
          rw [List.getElem?_set]
          simp [L2.wipe_length, hl]
        · rw [List.getElem?_set_ne z]
          rcases List.mem_cons.mp hm with q | q
          · exact absurd q.symm z
          · exact ih q hl
    by_cases hl : j < σ.length
    · rw [aux σ vs m hl, aux σ' vs m (by rw [h.1]; exact hl)]
    · have e := h.1
      have h1 : (L2.wipe σ vs)[j]? = none := List.getElem?_eq_none_iff.mpr (by rw [L2.wipe_length]; omega)
      have h2 : (L2.wipe σ' vs)[j]? = none := List.getElem?_eq_none_iff.mpr (by rw [L2.wipe_length]; omega)
      rw [h1, h2]
  · rw [L2.wipe_out m, L2.wipe_out m]
    exact h.2 j m
theorem wipe_wipe (σ : L2.St) (vs : List Nat) : L2.wipe (L2.wipe σ vs) vs = L2.wipe σ vs := wipe_but vs ⟨L2.wipe_length σ vs, fun j n => L2.wipe_out n⟩
abbrev SPs (X : Cx) (ifs : List Expr) (p : FT) : Prop := PTs X ifs (tT X.K p)
theorem PTsimp {ifs : List Expr} {t t' : TT} (h : PTs X ifs t) (i : ∀ σ H Q, t' σ H Q → t σ H Q) : PTs X ifs t' := ⟨fun pins s σ H Q I q => h.run pins s σ H Q I (i σ H Q q)⟩
def fYes : FT := fun _ W Q => Q true W
theorem sp_nil : SPs X [] fYes := PTsimp pts_nil fun σ H Q ⟨δ, W, Q', er, rl, h, k⟩ => k true H W (Ext.refl H) rl h
theorem sp_one (h : ST X c p) : SPs X [c] p := pts_one h
def lcD (keep : DW → Prop) (g : FG) (tt : FT) (te : FE) (p : Addr) (vs : List Nat) (Q : DW → Prop) : List D → Env → DW → Prop
  | [], δ, W => keep W ∧ Q W
  | x :: xs, δ, W => keep W ∧ g x (wipeD δ vs) W fun δ2 W2 => tt δ2 W2 fun b W3 => if b = true then te δ2 W3 fun y W4 => ∃ acc, W4 p = some (.lst acc) ∧ acc.length < sizeLine ∧ lcD keep g tt te p vs Q xs δ (wup W4 p (.lst (acc ++ [y]))) else lcD keep g tt te p vs Q xs δ W3
theorem lcD.keep {keep : DW → Prop} {g : FG} {tt : FT} {te : FE} {p : Addr} {vs : List Nat} {Q : DW → Prop} {xs : List D} {δ : Env} {W : DW} (h : lcD keep g tt te p vs Q xs δ W) : keep W := by
  cases xs with
  | nil => exact h.1
  | cons x xs => exact h.1
def fLc (fi : FI) (g : FG) (tt : FT) (te : FE) (vs : List Nat) : FE := fun δ W Q => fi δ W fun xs keep W1 => ∀ p, W1 p = none → lcD keep g tt te p vs (fun W2 => Q (.ref p) W2) xs δ (wup W1 p (.lst []))
theorem tE_lc {fi : FI} {gg : FG} {tt : FT} {vs is : List Nat} (hsub : ∀ i ∈ is, i ∈ vs) : ∀ σ H Q, tE X.K (fLc fi gg tt f vs) σ H Q → tLc (tI X.K fi) (tGc X.K is gg) (tT X.K tt) (tE X.K f) vs σ H Q :=
  fun σ H Q ⟨δ, W, Q', er, rl, h, k⟩ => ⟨δ, W, _, er, rl, h, fun J xs keep H1 W1 e1 r1 q1 ok Dp hD => by
    have q1 := q1 Dp (r1.fresh hD)
    refine ⟨fun i m H2 => ∃ W2, Rel X.K H2 W2 ∧ Ext X.K H1 H2 ∧ lcD keep gg tt f Dp vs (fun W2 => Q' (.ref Dp) W2) (xs.drop i) δ W2 ∧ i + m = xs.length, ⟨xs.length, wup W1 Dp (.lst []), r1.wnew hD (hasL (ds := []) upd_same rfl), Ext.new hD, q1, by omega⟩, ?_⟩
    rintro i m H2 ⟨W2, r2, e2, q2, hm⟩
    have kp := lcD.keep q2
    by_cases hlt : i < xs.length
    · refine .inr ⟨ok.go H2 W2 i e2 r2 kp hlt, fun H' => ∃ W3, Rel X.K H' W3 ∧ Ext X.K H1 H' ∧ lcD keep gg tt f Dp vs (fun W2 => Q' (.ref Dp) W2) (xs.drop (i + 1)) δ W3, fun H' ⟨W3, a2, a3, a4⟩ => ⟨m - 1, by omega, W3, a2, a3, a4, by omega⟩, fun x H3 hy => ?_⟩
      obtain ⟨d, ed, e3, r3, dv⟩ := ok.yld H2 W2 i x H3 e2 r2 kp hlt hy
      rw [List.drop_eq_getElem_cons hlt] at q2
      have hd : xs[i] = d := Option.some.inj ((List.getElem?_eq_getElem hlt).symm.trans ed)
      rw [hd] at q2
      have er3 : EnvR X.K H3 δ σ := er.ext ((e1.trans e2).trans e3)
      refine ⟨d, wipeD δ vs, W2, _, dv, er3.wipe vs, r3, q2.2, fun σ4 δ4 H4 W4 e4 er4 r4 b4 q4 => ⟨?_, δ4, W4, _, er4, r4, q4, fun t H5 W5 e5 r5 q5 => ?_⟩⟩
      · exact (wipe_but vs ⟨b4.1, fun j n => b4.2 j (fun z => n (hsub j z))⟩).trans (wipe_wipe σ vs)
      · cases t with
        | false => exact ⟨W5, r5, ((e2.trans e3).trans e4).trans e5, q5⟩
        | true => exact ⟨δ4, W5, _, er4.ext e5, r5, q5, fun y dy H6 W6 e6 r6 v6 ⟨acc, w6, hl, q6⟩ => by
            obtain ⟨us, s6, d6⟩ := r6 _ _ w6
            refine ⟨us, s6, by rw [d6.length]; exact hl, wup W6 Dp (.lst (acc ++ [dy])), r6.wput s6 trivial (hasL upd_same (DVs.ext (Ext.put s6 trivial) (DVs.append d6 (DVs.one v6)))), ?_, q6⟩
            exact ((((e2.trans e3).trans e4).trans e5).trans e6).trans (Ext.put s6 trivial)⟩
    · refine .inl ⟨ok.stop H2 W2 i e2 r2 kp (by omega), ?_⟩
      rw [List.drop_eq_nil_of_le (by omega)] at q2
      exact k _ (.ref Dp) H2 W2 (e1.trans e2) r2 rfl q2.2⟩
theorem se_lc {elt tg iter : Expr} {ifs : List Expr} {scope : Scope} {own : List (Str × Nat)} {fi : FI} {gg : FG} {tt : FT} {is : List Nat} (hc : X.calm = true) (hN : X.N.Nodup) (hi : SI X tg iter fi) (ok : BlkOk X.N X.env.scope scope own)
    (hg : ∀ (s : Shared) (H : Hp) (C : Addr) (cl : List (Str × Addr)) (fp : List Addr), SC (X.blk s H scope (compEnvC scope cl C X.env) fp) tg is gg) (ht : ∀ (s : Shared) (H : Hp) (C : Addr) (cl : List (Str × Addr)) (fp : List Addr), SPs (X.blk s H scope (compEnvC scope cl C X.env) fp) ifs tt)
    (he : ∀ (s : Shared) (H : Hp) (C : Addr) (cl : List (Str × Addr)) (fp : List Addr), SE (X.blk s H scope (compEnvC scope cl C X.env) fp) elt f) (hsub : ∀ i ∈ is, i ∈ own.map (·.2) := by decide) (hs : ∀ x, foldedSetIterable iter X.env x = pure x := by intro _; rfl) :
    SE X (.ListComp elt [⟨tg, iter, ifs, 0⟩] scope pos) (fLc fi gg tt f (own.map (·.2))) := PEimp (pe_lc hc hN hi ok hg ht he hs) (tE_lc hsub)
/-- name = [..] on one line, the name a local -/
theorem ss_setLc (i : Nat) {y : Str} {py : Pos} {elt tg iter : Expr} {ifs : List Expr} {scope : Scope} {own : List (Str × Nat)} {spos : Pos} {fi : FI} {gg : FG} {tt : FT} {is : List Nat} (hc : X.calm = true) (hN : X.N.Nodup) (hi : SI X tg iter fi) (ok : BlkOk X.N X.env.scope scope own)
    (hg : ∀ (s : Shared) (H : Hp) (C : Addr) (cl : List (Str × Addr)) (fp : List Addr), SC (X.blk s H scope (compEnvC scope cl C X.env) fp) tg is gg) (ht : ∀ (s : Shared) (H : Hp) (C : Addr) (cl : List (Str × Addr)) (fp : List Addr), SPs (X.blk s H scope (compEnvC scope cl C X.env) fp) ifs tt)
    (he : ∀ (s : Shared) (H : Hp) (C : Addr) (cl : List (Str × Addr)) (fp : List Addr), SE (X.blk s H scope (compEnvC scope cl C X.env) fp) elt f) (hy : X.N[i]? = some y := by rfl) (hyl : X.env.scope.names.lookup y = some .local := by rfl)
    (hsw : swapsWith (.ListComp elt [⟨tg, iter, ifs, 0⟩] scope pos) (some (.Name y py)) spos.line X.env = pure true := by exact sw_true rfl rfl rfl (by decide +kernel)) (hsub : ∀ i ∈ is, i ∈ own.map (·.2) := by decide) (hs : ∀ x, foldedSetIterable iter X.env x = pure x := by intro _; rfl) :
    SS X (.Assign [.Name y py] (.ListComp elt [⟨tg, iter, ifs, 0⟩] scope pos) spos) (sAsg (fLc fi gg tt f (own.map (·.2))) (gN i)) :=
  PSimp (ps_setLc hc hN hy hyl hsw hi ok hg ht he hs) fun Dn σ H h => by
    obtain ⟨δ, W, D', er, rl, h, k⟩ := h
    exact tE_lc hsub σ H _ ⟨δ, W, _, er, rl, h, fun v d H' W' e' r' v' q => k.nx _ _ H' W' e' ((er.ext e').set v') r' q⟩
end
end DL
/-! Dl5: calls of defs and built-ins, methods, dicts of int and text keys, the rule of a def. -/
namespace DL
open PySem PySem.Spec PyProof.Rows L2
section
variable {X : Cx} {a b c e o i : Expr} {es rest : List Expr} {pos : Pos} {f g h : FE} {p q : FT}
/-! ### promises -/
abbrev SpD := List D → DW → DK → Prop
def toSp (K : PySem.W.Frag) (sp : SpD) : Sp := fun vs H Q _ => ∃ ds W Q', DVs K H ds vs ∧ Rel K H W ∧ sp ds W Q' ∧ Lk K H Q' Q
def fCall (sp : SpD) (r : FA) : FE := fun δ W Q => r δ W fun xs W1 => sp xs W1 Q
/-- a promise of a def, where no repr is under way -/
structure FnG (P : Program) (w : World) (K : PySem.W.Frag) (mg : Str → Option Value) (base : Heap) (k : Nat) (fa : Addr) (fd : FuncData) (ps : List Str) (sp : Sp) : Prop where
  len : ∀ vs H Q E, sp vs H Q E → vs.length = ps.length
  run : ∀ (A : Around) (outer : List PySem.Env) (s : Shared) (H : Hp) (args : Args) (us : List Value) (vs : List V) (Q : VK), Room k A → A.guards = some [] → Env0 P w K mg base A outer s H → BindsTo s fd args (ps.zip us) → Vals vs us → sp vs H Q E0 →
    codeAny (model P w) A (.call (.ref fa) args) (CR CX0 outer P w H s Q E0) s
theorem run_g {k : Nat} {fa : Addr} {fd : FuncData} {ps : List Str} {sp : Sp} {pins : List (Addr × Obj)} {σ : L2.St} {H : Hp} {s : Shared} {Q : VK} {us : List Value} {vs : List V} (F : FnG X.prog X.w X.K X.mg X.base k fa fd ps sp) (hr : Room k X.A) (hgd : X.A.guards = some []) (hb : Binds X.K fd ps [])
    (I : L2.Inv X pins σ H s) (r : Vals vs us) (hs : sp vs H Q E0) : wpAny (model X.prog X.w) X.A (PySem.call (.ref fa) us) (EP X pins σ Q) X.xe s := by
  have hn : us.length = ps.length := r.length.symm.trans (F.len _ _ _ _ hs)
  have bt := hb s us I.kIn (by rw [List.append_nil]; exact hn)
  rw [List.append_nil] at bt
  refine wpAny_call (codeAny_mono (F.run X.A X.stack s H ⟨us, []⟩ us vs Q hr hgd I.env0 bt r hs) fun res s' fin => ?_)
  match res, fin with
  | .ok (.ret u), fin => exact I.after fin
  | .ok .next, fin => exact fin.elim
  | .ok .brk, fin => exact fin.elim
  | .ok .cont, fin => exact fin.elim
  | .error _, fin => exact False.elim fin
theorem se_call {k : Nat} {fa : Addr} {fd : FuncData} {ps : List Str} {sp : SpD} {x : Str} {pn pos : Pos} {r : FA} (F : FnG X.prog X.w X.K X.mg X.base k fa fd ps (toSp X.K sp)) (hr : Room k X.A) (hgd : X.A.guards = some []) (hm : X.mg x = some (.ref fa)) (hk : PySem.W.keepIn X.K (.ref fa) = true) (hb : Binds X.K fd ps [])
    (ha : SA X (e :: es) r) (hg : Gl X x := by rfl) (hd : (x == ("__debug__" : Str)) = false := by decide) (he : starEach (e :: es) X.env = (false, eval e X.env) :: starEach es X.env := by rfl) (hpl : (backTo pos (starEach es X.env)).any (·.1) = false := by rfl) :
    SE X (.Call (.Name x pn) (e :: es) [] pos) (fCall sp r) := by
  refine ⟨fun pins s σ H Q I h => wpAny_Call_Name_kw (ld_glob I hg hm ?_ hd)⟩
  obtain ⟨δ, W, Q', er, rl, h, k⟩ := h
  have go : tA X.K r σ H fun vs H1 => toSp X.K sp vs H1 Q E0 := ⟨δ, W, _, er, rl, h, fun vs ds H1 W1 e1 r1 v1 h1 => ⟨ds, W1, Q', v1, r1, h1, k.ext e1⟩⟩
  exact PySem.W.callWith_K (h₀ := X.base) I.ok.mod.kin hk (thn (ha.run pos pins s σ H _ I go) fun us s1 ⟨vs, H1, I1, rv, q⟩ => ⟨I1.kIn, run_g F hr hgd hb I1 rv q⟩) he hpl
theorem se_call0 {k : Nat} {fa : Addr} {fd : FuncData} {ps : List Str} {sp : SpD} {x : Str} {pn pos : Pos} (F : FnG X.prog X.w X.K X.mg X.base k fa fd ps (toSp X.K sp)) (hr : Room k X.A) (hgd : X.A.guards = some []) (hm : X.mg x = some (.ref fa)) (hk : PySem.W.keepIn X.K (.ref fa) = true) (hb : Binds X.K fd ps [])
    (hg : Gl X x := by rfl) (hd : (x == ("__debug__" : Str)) = false := by decide) : SE X (.Call (.Name x pn) [] [] pos) (fun δ W Q => sp [] W Q) := by
  refine ⟨fun pins s σ H Q I h => wpAny_Call_Name_kw (ld_glob I hg hm ?_ hd)⟩
  obtain ⟨δ, W, Q', er, rl, h, k⟩ := h
  exact PySem.W.callWith_K0 I.kIn hk (run_g (us := []) (vs := []) F hr hgd hb I .nil ⟨[], W, Q', rfl, rl, h, k⟩)
def startD (N : List Str) (ds : List D) : Env := ds.map some ++ List.replicate (N.length - ds.length) none
theorem EnvR.start {K : PySem.W.Frag} {H : Hp} {N : List Str} {ds : List D} {vs : List V} (h : DVs K H ds vs) : EnvR K H (startD N ds) (L2.start N vs) := by
  have hl := h.length
  unfold startD L2.start
  refine ⟨by simp [hl], fun i d e => ?_⟩
  by_cases hi : i < ds.length
  · rw [List.getElem?_append_left (by simpa using hi), List.getElem?_map] at e
    have hd : ds[i]? = some d := by
      rw [List.getElem?_eq_getElem hi] at e ⊢
      simpa using e
    obtain ⟨v, e1, e2⟩ := h.get hd
    exact ⟨v, by rw [List.getElem?_append_left (by simpa [hl] using hi), List.getElem?_map, e1]; rfl, e2⟩
  · rw [List.getElem?_append_right (by simpa using hi)] at e
    rw [List.getElem?_replicate] at e
    split at e <;> cases e
/-- THE RULE for a def -/
theorem okD {P : Program} {w : World} {K : PySem.W.Frag} {mg : Str → Option Value} {base : Heap} {x qual : Str} {st : Stmt} {fa : Addr} {fd : FuncData} {N ps : List Str} {k : Nat} {sp : SpD} (F : Fun K x qual st fa fd) (S : FnScope N ps (defScope st))
    (len : ∀ ds W Q, sp ds W Q → ds.length = ps.length)
    (hbody : ∀ (cdv : Value) (A : Around) (outer : List PySem.Env) (s : Shared) (H : Hp), Room k (A.deeper (envOfC qual (defScope st) s.heap.objs.size fa cdv)) → (A.deeper (envOfC qual (defScope st) s.heap.objs.size fa cdv)).guards = some [] →
      ∃ f, SSs (cxOf CX0 P w K mg base N qual (defScope st) fa cdv A outer s H E0).nox (defBody st) f ∧
        ∀ ds W Q, sp ds W Q → f { nx := fun _ W' => ∃ W2, Sub W2 W' ∧ Q .non W2, rt := fun d W' => ∃ W2, Sub W2 W' ∧ Q d W2 } (startD N ds) W) :
    FnG P w K mg base (k + 1) fa fd ps (toSp K sp) := by
  have hlen : ∀ vs H Q E, toSp K sp vs H Q E → vs.length = ps.length := fun vs H Q E ⟨ds, W, Q', dv, _, hs, _⟩ => by rw [dv.length]; exact len ds W Q' hs
  refine ⟨hlen, fun A outer s H args us vs Q hr hgd e0 hb rv hs => ?_⟩
  obtain ⟨oc, od, kV, doc, pm, an, cdv, ct, osl, rfl, lk, hcd⟩ := F.ex
  have kin : K.In s.heap := e0.mod.kin.keeps fun b o h => (e0.bs b o h).1
  have nol : s.heap.NoLimit := e0.mod.nolimit.keeps fun b o h => (e0.bs b o h).1
  have kinds : ∀ y ∈ ps.zip us, (defScope st).names.lookup y.1 = some .local ∨ ((defScope st).names.lookup y.1 = some .cell ∧ ((cellsFrom (s.heap.objs.size + 1) (defScope st).names []).lookup y.1).isSome = true) := by
    rintro ⟨n, v⟩ hy
    exact (S.par n (List.of_mem_zip hy).1).imp id fun q => ⟨q, PySem.W.cellsFrom_some _ _ _ (.inl q)⟩
  refine codeAny_call_function hr.depth (kin _ _ lk) rfl S.co S.gen rfl (PySem.W.codeRec_of kin hcd) (hb _ _ _ _ ?_)
  refine wpAny_newFunctionEnv_cells S.kind kinds fun env he s1 x1 => ?_
  subst he
  refine ⟨nol.keeps x1.toInCall.keep, codeAny_func ?_⟩
  obtain ⟨f, hf, hq⟩ := hbody cdv A outer s H (hr.deeper _) hgd
  have I : L2.Inv (cxOf CX0 P w K mg base N qual (defScope st) fa cdv A outer s H E0) [] (L2.start N vs) H s1 := inv_start S hr.hd e0 (hlen _ _ _ _ hs) rv x1
  obtain ⟨ds, W, Q', dv, rl, hs, kk⟩ := hs
  have go : tS K f { nx := fun _ H' => Q .non H', rt := Q } (L2.start N vs) H :=
    ⟨startD N ds, W, _, EnvR.start dv, rl, hq ds W Q' hs, ⟨fun σ δ H' W' e er r ⟨W2, sb, q⟩ => kk .non .non H' W2 e (r.sub sb) rfl q, fun v d H' W' e r dv ⟨W2, sb, q⟩ => kk v d H' W2 e (r.sub sb) dv q, fun σ δ H' W' e er r q => q.elim, fun σ δ H' W' e er r q => q.elim⟩⟩
  refine wpAny_mono (hf.nox.run [] s1 (L2.start N vs) H _ I go) (fun fl s' hs => ?_) fun _ _ h => h
  match fl, hs with
  | .ret u, ⟨v, σ', H', J, r', q⟩ => exact ⟨v, H', J.os, J.bare, J.base, J.hok, r', q⟩
  | .next, ⟨σ', H', J, q⟩ => exact ⟨.non, H', J.os, J.bare, J.base, J.hok, rfl, q⟩
  | .brk, ⟨_, _, _, q⟩ => exact q.elim
  | .cont, ⟨_, _, _, q⟩ => exact q.elim

/-! ### built-ins -/
abbrev RD := List D → DW → DK → Prop
def CallD (K : PySem.W.Frag) (r : List V → Hp → VK → Prop) (F : RD) : Prop := ∀ H W vs ds Q Q', Rel K H W → DVs K H ds vs → F ds W Q' → Lk K H Q' Q → r vs H Q
def fB1 (F : RD) (r : FA) : FE := fun δ W Q => r δ W fun xs W1 => F xs W1 Q
theorem tE_cb {r : List V → Hp → VK → Prop} {F : RD} {ra : FA} (hF : CallD X.K r F) : ∀ σ H Q, tE X.K (fB1 F ra) σ H Q → tCB r (tA X.K ra) σ H Q := fun σ H Q ⟨δ, W, Q', er, rl, h, k⟩ =>
  ⟨δ, W, _, er, rl, h, fun vs ds H1 W1 e1 r1 v1 h1 => hF H1 W1 vs ds Q Q' r1 v1 h1 (k.ext e1)⟩
theorem se_callB {id : String} {r : List V → Hp → VK → Prop} {F : RD} {x : Str} {pn : Pos} {ra : FA} (hc : CallR X (.builtin id) r) (hF : CallD X.K r F) (hm : X.mg x = none) (hv : bootBuiltins x = some (.builtin id)) (ha : SA X (e :: es) ra) (hg : Gl X x := by rfl)
    (hn : x ≠ "__name__" := by decide) (hdb : (x == ("__debug__" : Str)) = false := by decide) (he : starEach (e :: es) X.env = (false, eval e X.env) :: starEach es X.env := by rfl) (hpl : (backTo pos (starEach es X.env)).any (·.1) = false := by rfl) :
    SE X (.Call (.Name x pn) (e :: es) [] pos) (fB1 F ra) := PEimp (pe_callB hc hg hm hv ha hn hdb he hpl) (tE_cb hF)
theorem se_callTy {T : String} {r : List V → Hp → VK → Prop} {F : RD} {x : Str} {pn : Pos} {ra : FA} (hc : CallR X (.type T) r) (hF : CallD X.K r F) (hm : X.mg x = none) (hv : bootBuiltins x = some (.type T)) (ha : SA X (e :: es) ra) (hg : Gl X x := by rfl)
    (hn : x ≠ "__name__" := by decide) (hdb : (x == ("__debug__" : Str)) = false := by decide) (he : starEach (e :: es) X.env = (false, eval e X.env) :: starEach es X.env := by rfl) (hpl : (backTo pos (starEach es X.env)).any (·.1) = false := by rfl) :
    SE X (.Call (.Name x pn) (e :: es) [] pos) (fB1 F ra) := PEimp (pe_callTy hc hg hm hv ha hn hdb he hpl) (tE_cb hF)
section
variable {K : PySem.W.Frag} {H : Hp}
theorem DVs.c1 {d : D} {vs : List V} (h : DVs K H [d] vs) : ∃ v, vs = [v] ∧ DV K H d v := by
  obtain ⟨v, r, rfl, hv, hr⟩ := h
  cases hr; exact ⟨v, rfl, hv⟩
theorem DVs.c2 {d d' : D} {vs : List V} (h : DVs K H [d, d'] vs) : ∃ v v', vs = [v, v'] ∧ DV K H d v ∧ DV K H d' v' := by
  obtain ⟨v, r, rfl, hv, hr⟩ := h
  obtain ⟨v', rfl, hv'⟩ := DVs.c1 hr
  exact ⟨v, v', rfl, hv, hv'⟩
theorem DVs.ints : ∀ {ns : List Int} {vs : List V}, DVs K H (ns.map D.int) vs → vs = ns.map V.int
  | [], _, h => by cases h; rfl
  | n :: ns, _, h => by
    obtain ⟨v, r, rfl, hv, hr⟩ := h
    cases hv
    rw [DVs.ints hr]; rfl
theorem DVs.of_ints : ∀ (ns : List Int), DVs K H (ns.map D.int) (ns.map V.int)
  | [] => rfl
  | n :: ns => ⟨_, _, rfl, rfl, DVs.of_ints ns⟩
theorem DVs.bls : ∀ {ns : List Bool} {vs : List V}, DVs K H (ns.map D.bl) vs → vs = ns.map V.bl
  | [], _, h => by cases h; rfl
  | n :: ns, _, h => by
    obtain ⟨v, r, rfl, hv, hr⟩ := h
    cases hv
    rw [DVs.bls hr]; rfl
end
/-- len -/
def lenD (W : DW) : D → Option Nat
  | .tup xs => some xs.length
  | .rl xs => some xs.length
  | .ref a => match W a with
    | some (.lst xs) => some xs.length
    | _ => none
  | _ => none
def bLen : RD := fun ds W Q => ∃ x n, ds = [x] ∧ lenD W x = some n ∧ Q (.int (n : Nat)) W
theorem c_len {K : PySem.W.Frag} : CallD K (fun xs H Q => ∃ p ys, xs = [.ref p] ∧ (SqL K H p ys ∨ SqT K H p ys) ∧ Q (.int ys.length) H) bLen := fun H W vs ds Q Q' rl dv ⟨x, n, e, hn, q⟩ k => by
  subst e
  obtain ⟨v, rfl, hv⟩ := dv.c1
  cases x with
  | tup xs =>
    obtain ⟨a, us, rfl, s, d⟩ := hv
    cases hn
    exact ⟨a, us, rfl, .inr s, k.at rl q (by rw [d.length]; rfl)⟩
  | rl xs =>
    obtain ⟨a, us, rfl, s, d⟩ := hv
    cases hn
    exact ⟨a, us, rfl, .inl s.sq, k.at rl q (by rw [d.length]; rfl)⟩
  | ref a =>
    cases hv
    unfold lenD at hn
    cases w : W a with
    | none => simp [w] at hn
    | some o =>
      cases o with
      | lst xs =>
        simp [w] at hn
        subst hn
        obtain ⟨us, s, d⟩ := rl _ _ w
        exact ⟨a, us, rfl, .inl (SqL.of s), k.at rl q (by rw [d.length]; rfl)⟩
      | dic xs => simp [w] at hn
      | dit xs => simp [w] at hn
  | _ => cases hn
def bAbs : RD := fun ds W Q => ∃ i, ds = [.int i] ∧ Q (.int (if i < 0 then -i else i)) W
theorem c_abs {K : PySem.W.Frag} : CallD K (fun xs H Q => ∃ i, xs = [.int i] ∧ Q (.int (if i < 0 then -i else i)) H) bAbs := fun H W vs ds Q Q' rl dv ⟨i, e, q⟩ k => by
  subst e
  exact ⟨i, dv.i1, k.at rl q rfl⟩
def bInt : RD := fun ds W Q => match ds with | [.int i] => Q (.int i) W | [.bl b] => Q (.int (if b then 1 else 0)) W | _ => False
theorem c_int {K : PySem.W.Frag} : CallD K (fun xs H Q => (∃ i, xs = [.int i] ∧ Q (.int i) H) ∨ ∃ k, xs = [.bl k] ∧ Q (.int (if k then 1 else 0)) H) bInt := fun H W vs ds Q Q' rl dv h k => by
  unfold bInt at h
  split at h
  · exact .inl ⟨_, dv.i1, k.at rl h rfl⟩
  · obtain ⟨v, rfl, hv⟩ := dv.c1
    cases hv
    exact .inr ⟨_, rfl, k.at rl h rfl⟩
  · exact h.elim
/-- the members of a list or tuple, of the script -/
def seqD (W : DW) : D → Option (List D)
  | .tup xs => some xs
  | .rl xs => some xs
  | .ref a => match W a with
    | some (.lst xs) => some xs
    | _ => none
  | _ => none
theorem seqD.ok {K : PySem.W.Frag} {H : Hp} {W : DW} {d : D} {xs : List D} {v : V} (rl : Rel K H W) (h : seqD W d = some xs) (dv : DV K H d v) : ∃ p us, v = .ref p ∧ DVs K H xs us ∧ ((SqL K H p us ∧ ∀ ys, d ≠ .tup ys) ∨ (SqT K H p us ∧ d = .tup xs)) := by
  cases d with
  | tup ys =>
    obtain ⟨a, us, rfl, s, d⟩ := dv
    cases h
    exact ⟨a, us, rfl, d, .inr ⟨s, rfl⟩⟩
  | rl ys =>
    obtain ⟨a, us, rfl, s, d⟩ := dv
    cases h
    exact ⟨a, us, rfl, d, .inl ⟨s.sq, fun _ z => by cases z⟩⟩
  | ref a =>
    cases dv
    unfold seqD at h
    cases w : W a with
    | none => simp [w] at h
    | some o =>
      cases o with
      | lst ys =>
        simp [w] at h
        subst h
        obtain ⟨us, s, d⟩ := rl _ _ w
        exact ⟨a, us, rfl, d, .inl ⟨SqL.of s, fun _ z => by cases z⟩⟩
      | dic xs => simp [w] at h
      | dit xs => simp [w] at h
  | _ => cases h
def bTuple : RD := fun ds W Q => ∃ x xs, ds = [x] ∧ seqD W x = some xs ∧ Q (.tup xs) W
theorem c_tuple {K : PySem.W.Frag} : CallD K (fun xs H Q => ∃ p ys, xs = [.ref p] ∧ ((SqL K H p ys ∧ ∀ l, H l = none → Q (.ref l) (upd H l (.tup ys))) ∨ (SqT K H p ys ∧ Q (.ref p) H))) bTuple := fun H W vs ds Q Q' rl dv ⟨x, xs, e, hx, q⟩ k => by
  subst e
  obtain ⟨v, rfl, hv⟩ := dv.c1
  obtain ⟨p, us, rfl, d, ⟨s, _⟩ | ⟨s, rfl⟩⟩ := seqD.ok rl hx hv
  · exact ⟨p, us, rfl, .inl ⟨s, fun l hl => newT rl hl d q k⟩⟩
  · exact ⟨p, us, rfl, .inr ⟨s, k.at rl q (dvT s d)⟩⟩
def bList : RD := fun ds W Q => ∃ x xs, ds = [x] ∧ seqD W x = some xs ∧ ∀ p, W p = none → Q (.ref p) (wup W p (.lst xs))
theorem c_list {K : PySem.W.Frag} : CallD K (fun xs H Q => ∃ p ys, xs = [.ref p] ∧ (SqL K H p ys ∨ SqT K H p ys) ∧ ∀ l, H l = none → Q (.ref l) (upd H l (.lst ys))) bList := fun H W vs ds Q Q' rl dv ⟨x, xs, e, hx, q⟩ k => by
  subst e
  obtain ⟨v, rfl, hv⟩ := dv.c1
  obtain ⟨p, us, rfl, d, ⟨s, _⟩ | ⟨s, rfl⟩⟩ := seqD.ok rl hx hv
  · exact ⟨p, us, rfl, .inl s, fun l hl => newL rl hl d q k⟩
  · exact ⟨p, us, rfl, .inr s, fun l hl => newL rl hl d q k⟩
/-- of a list of ints -/
def bInts (R : List Int → DW → DK → Prop) : RD := fun ds W Q => ∃ a ns, ds = [.ref a] ∧ W a = some (.lst (ns.map D.int)) ∧ R ns W Q
theorem bInts.ok {K : PySem.W.Frag} {H : Hp} {W : DW} {vs : List V} {a : Addr} {ns : List Int} (rl : Rel K H W) (dv : DVs K H [.ref a] vs) (w : W a = some (.lst (ns.map D.int))) : vs = [.ref a] ∧ SqL K H a (ns.map V.int) := by
  obtain ⟨v, rfl, hv⟩ := dv.c1
  cases hv
  obtain ⟨us, s, d⟩ := rl _ _ w
  rw [d.ints] at s
  exact ⟨rfl, SqL.of s⟩
abbrev bSum : RD := bInts fun ns W Q => Q (.int ns.sum) W
theorem c_sum {K : PySem.W.Frag} : CallD K (rSum K) bSum := fun H W vs ds Q Q' rl dv ⟨a, ns, e, w, q⟩ k => by
  subst e
  obtain ⟨rfl, s⟩ := bInts.ok rl dv w
  exact ⟨a, ns, rfl, s, k.at rl q rfl⟩
abbrev bMax : RD := bInts fun ns W Q => 0 < ns.length ∧ ∀ m, m ∈ ns → (∀ y, y ∈ ns → y ≤ m) → Q (.int m) W
theorem c_max {K : PySem.W.Frag} : CallD K (rMax K) bMax := fun H W vs ds Q Q' rl dv ⟨a, ns, e, w, hl, q⟩ k => by
  subst e
  obtain ⟨rfl, s⟩ := bInts.ok rl dv w
  exact ⟨a, ns, rfl, s, hl, fun m h1 h2 => k.at rl (q m h1 h2) rfl⟩
abbrev bMin : RD := bInts fun ns W Q => 0 < ns.length ∧ ∀ m, m ∈ ns → (∀ y, y ∈ ns → m ≤ y) → Q (.int m) W
theorem c_min {K : PySem.W.Frag} : CallD K (rMin K) bMin := fun H W vs ds Q Q' rl dv ⟨a, ns, e, w, hl, q⟩ k => by
  subst e
  obtain ⟨rfl, s⟩ := bInts.ok rl dv w
  exact ⟨a, ns, rfl, s, hl, fun m h1 h2 => k.at rl (q m h1 h2) rfl⟩
def bMax2 : RD := fun ds W Q => ∃ i j, ds = [.int i, .int j] ∧ Q (.int (if j > i then j else i)) W
theorem c_max2 {K : PySem.W.Frag} : CallD K (fun xs H Q => ∃ i j, xs = [.int i, .int j] ∧ Q (.int (if j > i then j else i)) H) bMax2 := fun H W vs ds Q Q' rl dv ⟨i, j, e, q⟩ k => by
  subst e
  exact ⟨i, j, dv.i2, k.at rl q rfl⟩
def bMin2 : RD := fun ds W Q => ∃ i j, ds = [.int i, .int j] ∧ Q (.int (if j < i then j else i)) W
theorem c_min2 {K : PySem.W.Frag} : CallD K (fun xs H Q => ∃ i j, xs = [.int i, .int j] ∧ Q (.int (if j < i then j else i)) H) bMin2 := fun H W vs ds Q Q' rl dv ⟨i, j, e, q⟩ k => by
  subst e
  exact ⟨i, j, dv.i2, k.at rl q rfl⟩
/-- of a list of truth values -/
def bBls (R : List Bool → DW → DK → Prop) : RD := fun ds W Q => ∃ a ns, ds = [.ref a] ∧ W a = some (.lst (ns.map D.bl)) ∧ R ns W Q
theorem bBls.ok {K : PySem.W.Frag} {H : Hp} {W : DW} {vs : List V} {a : Addr} {ns : List Bool} (rl : Rel K H W) (dv : DVs K H [.ref a] vs) (w : W a = some (.lst (ns.map D.bl))) : vs = [.ref a] ∧ SqL K H a (ns.map V.bl) := by
  obtain ⟨v, rfl, hv⟩ := dv.c1
  cases hv
  obtain ⟨us, s, d⟩ := rl _ _ w
  rw [d.bls] at s
  exact ⟨rfl, SqL.of s⟩
abbrev bAny : RD := bBls fun ns W Q => Q (.bl (ns.any id)) W
abbrev bAll : RD := bBls fun ns W Q => Q (.bl (ns.all id)) W
theorem c_any {K : PySem.W.Frag} : CallD K (rAny K) bAny := fun H W vs ds Q Q' rl dv ⟨a, ns, e, w, q⟩ k => by
  subst e
  obtain ⟨rfl, s⟩ := bBls.ok rl dv w
  exact ⟨a, ns, rfl, s, k.at rl q rfl⟩
theorem c_all {K : PySem.W.Frag} : CallD K (rAll K) bAll := fun H W vs ds Q Q' rl dv ⟨a, ns, e, w, q⟩ k => by
  subst e
  obtain ⟨rfl, s⟩ := bBls.ok rl dv w
  exact ⟨a, ns, rfl, s, k.at rl q rfl⟩
/-- sorted of a list of ints -/
abbrev bSortI : RD := bInts fun ns W Q => ns.length < 64 ∧ ∀ (ns' : List Int) p, ns'.Perm ns → ns'.Pairwise (· ≤ ·) → W p = none → Q (.ref p) (wup W p (.lst (ns'.map D.int)))
theorem c_sortI {K : PySem.W.Frag} : CallD K (rSorted K) bSortI := fun H W vs ds Q Q' rl dv ⟨a, ns, e, w, hl, q⟩ k => by
  subst e
  obtain ⟨rfl, s⟩ := bInts.ok rl dv w
  exact ⟨a, ns, rfl, s, hl, fun ns' p h1 h2 hp => newL rl hp (DVs.of_ints ns') (fun p hp => q ns' p h1 h2 hp) k⟩

/-! ### methods of lists -/
abbrev MD := D → List D → DW → DK → Prop
def fM (Ty : D → DW → Prop) (F : MD) (f : FE) (r : FA) : FE := fun δ W Q => f δ W fun x W1 => Ty x W1 ∧ r δ W1 fun xs W2 => F x xs W2 Q
def TyD (K : PySem.W.Frag) (T : String) (Ty : D → DW → Prop) : Prop := ∀ H W x d, Rel K H W → DV K H d x → Ty d W → tyV K T x H
def MthD (K : PySem.W.Frag) (r : V → List V → Hp → VK → Prop) (F : MD) : Prop := ∀ H W x d vs ds Q Q', Rel K H W → DV K H d x → DVs K H ds vs → F d ds W Q' → Lk K H Q' Q → r x vs H Q
def isL : D → DW → Prop := fun d W => ∃ a xs, d = .ref a ∧ W a = some (.lst xs)
theorem ty_list {K : PySem.W.Frag} : TyD K "list" isL := fun H W x d rl dv ⟨a, xs, e, w⟩ => by
  subst e
  cases dv
  obtain ⟨us, s, _⟩ := rl _ _ w
  exact .inl ⟨rfl, us, SqL.of s⟩
theorem tE_m {T : String} {r : V → List V → Hp → VK → Prop} {Ty : D → DW → Prop} {F : MD} {ra : FA} (ht : TyD X.K T Ty) (hF : MthD X.K r F) : ∀ σ H Q, tE X.K (fM Ty F f ra) σ H Q → tBM X.K T r (tE X.K f) (tA X.K ra) σ H Q := fun σ H Q ⟨δ, W, Q', er, rl, h, k⟩ =>
  ⟨δ, W, _, er, rl, h, fun x d H1 W1 e1 r1 v1 ⟨h0, h1⟩ => ⟨ht H1 W1 x d r1 v1 h0, δ, W1, _, er.ext e1, r1, h1, fun vs ds H2 W2 e2 r2 v2 h2 => hF H2 W2 x d vs ds Q Q' r2 (DV.ext e2 v1) v2 h2 (k.ext (e1.trans e2))⟩⟩
theorem se_m {T id : String} {nm : Str} {apos cpos : Pos} {r : V → List V → Hp → VK → Prop} {Ty : D → DW → Prop} {F : MD} {ra : FA} (pa : PlainAttrs T) (slot : Slot T nm id) (hty : typeOf (.builtin id) = pure (.type "method_descriptor")) (hm : MtR X id r) (ht : TyD X.K T Ty) (hF : MthD X.K r F)
    (ho : SE X o f) (ha : SA X (e :: es) ra) (hbase : attributeBase o nm X.env (eval o X.env) = eval o X.env := by rfl)
    (hfew : ((backTo cpos (starEach (e :: es) X.env)).all (fun x => !x.1) && (backToKw cpos (keywordEach [] X.env)).all (fun x => x.1.isSome)
      && decide ((e :: es).length + ([] : List Keyword).length + (if ([] : List Keyword).isEmpty then 0 else 1) < 30)) = true := by rfl)
    (hline : (apos.endLine == cpos.line) = true := by rfl) (hs : starEach (e :: es) X.env = (false, eval e X.env) :: starEach es X.env := by rfl) (hplain : (backTo cpos (starEach es X.env)).any (·.1) = false := by rfl) :
    SE X (.Call (.Attribute o nm apos) (e :: es) [] cpos) (fM Ty F f ra) := PEimp (pe_bm pa slot hty hm ho ha hbase hfew hline hs hplain) (tE_m ht hF)
def fM0 (Ty : D → DW → Prop) (F : MD) (f : FE) : FE := fun δ W Q => f δ W fun x W1 => Ty x W1 ∧ F x [] W1 Q
theorem se_m0 {T id : String} {nm : Str} {apos cpos : Pos} {r : V → List V → Hp → VK → Prop} {Ty : D → DW → Prop} {F : MD} (pa : PlainAttrs T) (slot : Slot T nm id) (hty : typeOf (.builtin id) = pure (.type "method_descriptor")) (hm : MtR X id r) (ht : TyD X.K T Ty) (hF : MthD X.K r F)
    (ho : SE X o f) (hbase : attributeBase o nm X.env (eval o X.env) = eval o X.env := by rfl) (hline : (apos.endLine == cpos.line) = true := by rfl) : SE X (.Call (.Attribute o nm apos) [] [] cpos) (fM0 Ty F f) :=
  PEimp (pe_bm0 pa slot hty hm ho hbase hline) fun σ H Q ⟨δ, W, Q', er, rl, h, k⟩ => ⟨δ, W, _, er, rl, h, fun x d H1 W1 e1 r1 v1 ⟨h0, h1⟩ => ⟨ht H1 W1 x d r1 v1 h0, hF H1 W1 x d [] [] Q Q' r1 v1 rfl h1 (k.ext e1)⟩⟩
def mAppend : MD := fun d ds W Q => ∃ a xs y, d = .ref a ∧ ds = [y] ∧ W a = some (.lst xs) ∧ xs.length < sizeLine ∧ Q .non (wup W a (.lst (xs ++ [y])))
theorem m_append {K : PySem.W.Frag} : MthD K rAppend mAppend := fun H W x d vs ds Q Q' rl dv dvs ⟨a, xs, y, e1, e2, w, hl, q⟩ k => by
  subst e1; subst e2
  cases dv
  obtain ⟨v, rfl, hv⟩ := dvs.c1
  obtain ⟨us, s, d⟩ := rl _ _ w
  exact ⟨a, us, v, rfl, rfl, s, by rw [d.length]; exact hl, putL rl s (DVs.append d (DVs.one hv)) (d := .non) rfl q k⟩
def mExtend : MD := fun d ds W Q => ∃ a b xs zs, d = .ref a ∧ ds = [.ref b] ∧ W a = some (.lst xs) ∧ W b = some (.lst zs) ∧ xs.length + zs.length ≤ sizeLine ∧ Q .non (wup W a (.lst (xs ++ zs)))
theorem m_extend {K : PySem.W.Frag} : MthD K rExtend mExtend := fun H W x d vs ds Q Q' rl dv dvs ⟨a, b, xs, zs, e1, e2, w, w2, hl, q⟩ k => by
  subst e1; subst e2
  cases dv
  obtain ⟨v, rfl, hv⟩ := dvs.c1
  cases hv
  obtain ⟨us, s, d⟩ := rl _ _ w
  obtain ⟨us2, s2, d2⟩ := rl _ _ w2
  exact ⟨a, b, us, us2, rfl, rfl, s, s2, by rw [d.length, d2.length]; exact hl, putL rl s (DVs.append d d2) (d := .non) rfl q k⟩
theorem DVs.dropLast {K : PySem.W.Frag} {H : Hp} {ds : List D} {vs : List V} (h : DVs K H ds vs) : DVs K H ds.dropLast vs.dropLast := by
  rw [List.dropLast_eq_take, List.dropLast_eq_take, h.length]
  exact h.take _
theorem DVs.erase {K : PySem.W.Frag} {H : Hp} {ds : List D} {vs : List V} (k : Nat) (h : DVs K H ds vs) : DVs K H (ds.eraseIdx k) (vs.eraseIdx k) := by
  rw [List.eraseIdx_eq_take_drop_succ, List.eraseIdx_eq_take_drop_succ]
  exact (h.take _).append (h.drop _)
def mPop : MD := fun d ds W Q => match ds with
  | [] => ∃ a xs y, d = .ref a ∧ W a = some (.lst xs) ∧ xs[xs.length - 1]? = some y ∧ Q y (wup W a (.lst xs.dropLast))
  | _ => False
theorem m_pop {K : PySem.W.Frag} : MthD K rPop mPop := fun H W x d vs ds Q Q' rl dv dvs h k => by
  unfold mPop at h
  split at h
  · obtain ⟨a, xs, y, e1, w, hy, q⟩ := h
    subst e1
    cases dv
    cases dvs
    obtain ⟨us, s, d⟩ := rl _ _ w
    obtain ⟨v, ev, hv⟩ := d.get hy
    exact ⟨a, us, v, rfl, rfl, s, by rw [d.length]; exact ev, putL rl s d.dropLast hv q k⟩
  · exact h.elim
def mPopAt : MD := fun d ds W Q => ∃ a xs i j y, d = .ref a ∧ ds = [.int i] ∧ W a = some (.lst xs) ∧ -(2 ^ 63) ≤ i ∧ i < 2 ^ 63 ∧ seqIndex? i xs.length = some j ∧ xs[j]? = some y ∧ Q y (wup W a (.lst (xs.eraseIdx j)))
theorem m_popAt {K : PySem.W.Frag} : MthD K rPopAt mPopAt := fun H W x d vs ds Q Q' rl dv dvs ⟨a, xs, i, j, y, e1, e2, w, h1, h2, hj, hy, q⟩ k => by
  subst e1; subst e2
  cases dv
  have e := dvs.i1
  subst e
  obtain ⟨us, s, d⟩ := rl _ _ w
  obtain ⟨v, ev, hv⟩ := d.get hy
  exact ⟨a, us, i, j, v, rfl, rfl, s, h1, h2, by rw [d.length]; exact hj, ev, putL rl s (d.erase j) hv q k⟩
end
end DL
/-! Dl6: dicts; subscripts and membership by values. -/
namespace DL
open PySem PySem.Spec PyProof.Rows L2
section
variable {X : Cx} {a b c e o i : Expr} {es rest : List Expr} {pos : Pos} {f g h : FE} {p q : FT}
def keyD : D → Option Key
  | .int i => some (.inl i)
  | .str s => some (.inr s)
  | _ => none
/-- a tuple of ints and texts -/
def keysD : List D → Option (List Key)
  | [] => some []
  | d :: ds => match keyD d, keysD ds with
    | some k, some ks => some (k :: ks)
    | _, _ => none
def tkeyD : D → Option (List Key)
  | .tup ds => keysD ds
  | _ => none
section
variable {K : PySem.W.Frag} {H : Hp} {W : DW}
theorem keyD.ok {d : D} {k : Key} {v : V} (h : keyD d = some k) (dv : DV K H d v) : v = kV k := by
  cases d <;> simp only [keyD] at h <;> cases h <;> cases dv <;> rfl
theorem keysD.ok : ∀ {ds : List D} {ks : List Key} {vs : List V}, keysD ds = some ks → DVs K H ds vs → vs = ks.map kV
  | [], _, _, h, dv => by cases h; cases dv; rfl
  | d :: ds, ks, vs, h, dv => by
    obtain ⟨v, r, rfl, h1, h2⟩ := dv
    unfold keysD at h
    cases e1 : keyD d with
    | none => rw [e1] at h; simp at h
    | some k =>
      cases e2 : keysD ds with
      | none => rw [e1, e2] at h; simp at h
      | some ks' =>
        rw [e1, e2] at h
        simp at h
        subst h
        rw [keyD.ok e1 h1, keysD.ok e2 h2]; rfl
def valD {κ : Type} [DecidableEq κ] (kvs : List (κ × D)) (k : κ) : Option D := (kvs.find? fun kv => decide (kv.1 = k)).map (·.2)
def putD {κ : Type} [DecidableEq κ] (kvs : List (κ × D)) (k : κ) (v : D) : List (κ × D) :=
  if (kvs.any fun kv => decide (kv.1 = k)) = true then kvs.map (fun kv => if kv.1 = k then (kv.1, v) else kv) else kvs ++ [(k, v)]
theorem DKV.val {κ : Type} [DecidableEq κ] {kvs : List (κ × D)} {ws : List (κ × V)} {k : κ} (h : DKV K H kvs ws) : (∀ d, valD kvs k = some d → ∃ v, valV ws k = some v ∧ DV K H d v) ∧ (valD kvs k).isSome = (valV ws k).isSome := by
  unfold DKV at h
  induction h with
  | nil => exact ⟨fun d e => by simp [valD] at e, rfl⟩
  | @cons p q ps qs hp t ih =>
    by_cases z : p.1 = k
    · have z2 : q.1 = k := hp.1.symm.trans z
      refine ⟨fun d e => ?_, ?_⟩
      · simp [valD, List.find?_cons, z] at e
        subst e
        exact ⟨q.2, valV_pos z2, hp.2⟩
      · rw [valV_pos z2]
        simp [valD, List.find?_cons, z]
    · have z2 : ¬ q.1 = k := fun y => z (hp.1.trans y)
      have e0 : valD (p :: ps) k = valD ps k := by simp [valD, List.find?_cons, z]
      rw [valV_neg z2, e0]
      exact ih
theorem DKV.length {κ : Type} {kvs : List (κ × D)} {ws : List (κ × V)} (h : DKV K H kvs ws) : ws.length = kvs.length := by
  unfold DKV at h
  induction h with
  | nil => rfl
  | cons _ _ ih => simp [ih]
theorem DKV.any {κ : Type} [DecidableEq κ] {kvs : List (κ × D)} {ws : List (κ × V)} {k : κ} (h : DKV K H kvs ws) : (kvs.any fun kv => decide (kv.1 = k)) = (ws.any fun kv => decide (kv.1 = k)) := by
  unfold DKV at h
  induction h with
  | nil => rfl
  | cons hp _ ih => simp only [List.any_cons, ih, hp.1]
theorem DKV.app {κ : Type} {kvs : List (κ × D)} {ws : List (κ × V)} {k : κ} {d : D} {v : V} (h : DKV K H kvs ws) (hv : DV K H d v) : DKV K H (kvs ++ [(k, d)]) (ws ++ [(k, v)]) := by
  unfold DKV at h ⊢
  induction h with
  | nil => exact .cons ⟨rfl, hv⟩ .nil
  | cons hp _ ih => exact .cons hp ih
theorem DKV.put {κ : Type} [DecidableEq κ] {kvs : List (κ × D)} {ws : List (κ × V)} {k : κ} {d : D} {v : V} (h : DKV K H kvs ws) (hv : DV K H d v) : DKV K H (putD kvs k d) (putK ws k v) := by
  have ha := h.any (k := k)
  unfold putD putK
  rw [ha]
  split
  · unfold DKV at h ⊢
    clear ha
    induction h with
    | nil => exact .nil
    | @cons p q ps qs hp t ih =>
      rename_i hs
      rw [List.map_cons, List.map_cons]
      refine .cons ?_ ?_
      · by_cases z : p.1 = k
        · rw [if_pos z, if_pos (hp.1.symm.trans z)]
          exact ⟨hp.1, hv⟩
        · rw [if_neg z, if_neg (fun y => z (hp.1.trans y))]
          exact hp
      · have aux : ∀ {ps : List (κ × D)} {qs : List (κ × V)}, Paired (fun (p : κ × D) (q : κ × V) => p.1 = q.1 ∧ DV K H p.2 q.2) ps qs → Paired (fun (p : κ × D) (q : κ × V) => p.1 = q.1 ∧ DV K H p.2 q.2) (ps.map fun kv => if kv.1 = k then (kv.1, d) else kv) (qs.map fun kv => if kv.1 = k then (kv.1, v) else kv) := fun h => by
          induction h with
          | nil => exact .nil
          | @cons p q ps qs hp t ih =>
            rw [List.map_cons, List.map_cons]
            refine .cons ?_ ih
            by_cases z : p.1 = k
            · rw [if_pos z, if_pos (hp.1.symm.trans z)]
              exact ⟨hp.1, hv⟩
            · rw [if_neg z, if_neg (fun y => z (hp.1.trans y))]
              exact hp
        exact aux t
  · exact h.app hv
end
/-! ### subscripts -/
def ixD (W : DW) : D → D → Option D
  | .tup xs, .int i => atD xs i
  | .rl xs, .int i => atD xs i
  | .ref a, y => match W a with
    | some (.lst xs) => (match y with | .int i => atD xs i | _ => none)
    | some (.dic kvs) => (keyD y).bind fun k => valD kvs k
    | some (.dit kvs) => none
    | none => none
  | _, _ => none
def pSub' : R2D := fun x y W Q => ∃ d, ixD W x y = some d ∧ Q d W
abbrev rIxDk : R2 := fun x y H Q => ∃ a v, x = .ref a ∧ DGet H a y (some v) ∧ Q v H
theorem ix_dk (hu : X.A.units + 1 < cLine) : IxR X rIxDk := by
  intro value slice pins s σ H x y v u Q I rx ry h hs
  obtain ⟨a, w, rfl, g, q⟩ := h
  obtain rfl : v = Value.ref a := rx
  exact tail_any (dict_typeIs I g) PySem.F.slot_dict_getitem.lookup (d_getItem hu I g ry fun w' s3 I3 rw' => ⟨w, H, I3, rw', q⟩) hs
abbrev rIxAll (K : PySem.W.Frag) : R2 := fun x y H Q => (rIxL K x y H Q ∨ rIxT K x y H Q) ∨ rIxDk x y H Q
theorem o_sub {K : PySem.W.Frag} : Op2 K (rIxAll K) pSub' := fun H W x y dx dy Q Q' rl vx vy ⟨d, h, q⟩ k => by
  unfold ixD at h
  split at h
  · cases vy
    obtain ⟨a, us, rfl, s, dd⟩ := vx
    obtain ⟨v, e', dv⟩ := dd.at h
    exact .inl (.inr ⟨a, us, _, v, rfl, rfl, s, e', k.at rl q dv⟩)
  · cases vy
    obtain ⟨a, us, rfl, s, dd⟩ := vx
    obtain ⟨v, e', dv⟩ := dd.at h
    exact .inl (.inl ⟨a, us, _, v, rfl, rfl, s.sq, e', k.at rl q dv⟩)
  · cases vx
    split at h
    · rename_i w
      split at h
      · cases vy
        obtain ⟨us, s1, d1⟩ := rl _ _ w
        obtain ⟨v, e', dv⟩ := d1.at h
        exact .inl (.inl ⟨_, us, _, v, rfl, rfl, SqL.of s1, e', k.at rl q dv⟩)
      · cases h
    · rename_i kvs w
      cases hk : keyD dy with
      | none => rw [hk] at h; cases h
      | some kk =>
        rw [hk] at h
        obtain ⟨ws, s1, d1⟩ := rl _ _ w
        obtain ⟨v, e', dv⟩ := d1.val.1 d h
        have ey := keyD.ok hk vy
        subst ey
        exact .inr ⟨_, v, rfl, .inl ⟨ws, kk, .inl s1, rfl, e'.symm⟩, k.at rl q dv⟩
    · cases h
    · cases h
  · cases h
theorem se_sub (hu : X.A.units + 1 < cLine) (ha : SE X a f) (hb : SE X b g) (hs : PlainIx b := by intro _ _; rfl) : SE X (.Subscript a b pos) (fBin pSub' f g) := PEimp (pe_ix ((ix_list.or ix_tup).or (ix_dk hu)) ha hb hs) (tE_bin o_sub)
/-! ### membership -/
def pInA (neg : Bool) : R2D := fun x y W Q => pIn neg x y W Q ∨ ∃ a kvs k, y = .ref a ∧ W a = some (.dic kvs) ∧ keyD x = some k ∧ Q (.bl (if neg then !(valD kvs k).isSome else (valD kvs k).isSome)) W
abbrev rInDk (neg : Bool) : R2 := fun x y H Q => ∃ a ov, y = .ref a ∧ DGet H a x ov ∧ Q (.bl (if neg then !ov.isSome else ov.isSome)) H
theorem op_inDk (hu : X.A.units + 1 < cLine) : OpR X (compareOp .In) (rInDk false) := fun pins s σ H x y v u Q I rx ry ⟨a, ov, e, g, q⟩ => by
  subst e
  obtain rfl : u = Value.ref a := ry
  exact d_in hu I g rx fun s3 I3 => ⟨.bl ov.isSome, H, I3, rfl, q⟩
theorem op_notInDk (hu : X.A.units + 1 < cLine) : OpR X (compareOp .NotIn) (rInDk true) := fun pins s σ H x y v u Q I rx ry ⟨a, ov, e, g, q⟩ => by
  subst e
  obtain rfl : u = Value.ref a := ry
  exact d_notIn hu I g rx fun s3 I3 => ⟨.bl (!ov.isSome), H, I3, rfl, q⟩
theorem o_inA {K : PySem.W.Frag} : Op2 K (fun x y H Q => rInAny K x y H Q ∨ rInDk false x y H Q) (pInA false) := fun H W x y dx dy Q Q' rl vx vy h k => by
  rcases h with h | ⟨a, kvs, kk, e, w, hk, q⟩
  · exact .inl (o_in H W x y dx dy Q Q' rl vx vy h k)
  · subst e
    cases vy
    obtain ⟨ws, s1, d1⟩ := rl _ _ w
    have ex := keyD.ok hk vx
    subst ex
    exact .inr ⟨a, valV ws kk, rfl, .inl ⟨ws, kk, .inl s1, rfl, rfl⟩, k.at rl q (by rw [d1.val.2]; rfl)⟩
theorem o_notInA {K : PySem.W.Frag} : Op2 K (fun x y H Q => rNotInAny K x y H Q ∨ rInDk true x y H Q) (pInA true) := fun H W x y dx dy Q Q' rl vx vy h k => by
  rcases h with h | ⟨a, kvs, kk, e, w, hk, q⟩
  · exact .inl (o_notIn H W x y dx dy Q Q' rl vx vy h k)
  · subst e
    cases vy
    obtain ⟨ws, s1, d1⟩ := rl _ _ w
    have ex := keyD.ok hk vx
    subst ex
    exact .inr ⟨a, valV ws kk, rfl, .inl ⟨ws, kk, .inl s1, rfl, rfl⟩, k.at rl q (by rw [d1.val.2]; rfl)⟩
/-! ### stores -/
def pSet : FSet := fun o i v W Q => match o with
  | .ref a => (∃ xs k j, i = .int k ∧ W a = some (.lst xs) ∧ ixN xs.length k = some j ∧ Q (wup W a (.lst (xs.set j v)))) ∨ ∃ kvs k, W a = some (.dic kvs) ∧ keyD i = some k ∧ kvs.length < sizeLine ∧ Q (wup W a (.dic (putD kvs k v)))
  | _ => False
abbrev rSetA : TSet := fun o i v H Q => rSetL o i v H Q ∨ rSetD o i v H Q
theorem set_any (hu : X.A.units + 1 < cLine) : PSet X rSetA := fun pins s σ H o i v ov iv u Q I ro ri rv h => by
  rcases h with h | h
  · exact set_list pins s σ H o i v ov iv u Q I ro ri rv h
  · exact set_dict hu pins s σ H o i v ov iv u Q I ro ri rv h
theorem os_any {K : PySem.W.Frag} : OpS K rSetA pSet := fun H W x y z dx dy dz Q Q' rl vx vy vz h k => by
  unfold pSet at h
  split at h
  · cases vx
    rcases h with ⟨xs, kk, j, e, w, hj, q⟩ | ⟨kvs, kk, w, hk, hl, q⟩
    · subst e
      cases vy
      obtain ⟨us, s1, d1⟩ := rl _ _ w
      exact .inl ⟨_, us, _, j, rfl, rfl, s1, by rw [d1.length]; exact hj, k _ _ (Ext.put s1 trivial) (rl.wput s1 trivial (hasL upd_same (DVs.ext (Ext.put s1 trivial) (DVs.set j vz d1)))) q⟩
    · obtain ⟨ws, s1, d1⟩ := rl _ _ w
      have ey := keyD.ok hk vy
      subst ey
      have hd : HasO K (upd H _ (.dK (putK ws kk z))) _ (.dic (putD kvs kk dz)) := ⟨_, upd_same, DKV.ext (Ext.put s1 trivial) (DKV.put d1 vz)⟩
      exact .inr ⟨_, _, rfl, .inl ⟨ws, kk, s1, rfl, by rw [d1.length]; exact hl, rfl⟩, k _ _ (Ext.put s1 trivial) (rl.wput s1 trivial hd) q⟩
  · exact h.elim
theorem sg_set (hu : X.A.units + 1 < cLine) (ho : SE X o f) (hi : SE X i g)
    (hp : ∀ v, assign (.Subscript o i pos) X.env v = (do let ov ← holding [v] (eval o X.env); let iv ← holding [v, ov] (eval i X.env); standAt pos; holding [v, ov, iv] (setItem ov iv v); release [v, ov, iv] []) := by intro _; rfl) : SG X (.Subscript o i pos) (gSb f g pSet) :=
  sg_sub (set_any hu) os_any ho hi hp
/-! ### displays -/
def fPairs : List (FE × FE) → Env → DW → (List (D × D) → DW → Prop) → Prop
  | [], _, W, Q => Q [] W
  | (fk, fv) :: r, δ, W, Q => fk δ W fun x W1 => fv δ W1 fun y W2 => fPairs r δ W2 fun ps W3 => Q ((x, y) :: ps) W3
def keysOf : List (D × D) → Option (List (Key × D))
  | [] => some []
  | (x, y) :: r => match keyD x, keysOf r with
    | some k, some ks => some ((k, y) :: ks)
    | _, _ => none
def mergeD (kvs more : List (Key × D)) : List (Key × D) := more.foldl (fun acc kv => putD acc kv.1 kv.2) kvs
def fDisp (ps : List (FE × FE)) : FE := fun δ W Q => ∀ p, W p = none → fPairs ps δ (wup W p (.dic [])) fun xs W1 => W1 p = some (.dic []) ∧ ∃ kvs, keysOf xs = some kvs ∧ kvs.length ≤ 15 ∧ Q (.ref p) (wup W1 p (.dic (mergeD [] kvs)))
def tPs (K : PySem.W.Frag) : List (FE × FE) → List (TE × TE)
  | [] => []
  | (a, b) :: r => (tE K a, tE K b) :: tPs K r
inductive SPairs (X : Cx) (pos : Pos) : List (Option Expr) → List Expr → List (FE × FE) → Prop
  | nil : SPairs X pos [] [] []
  | cons {k v : Expr} {ks : List (Option Expr)} {vs : List Expr} {fk fv : FE} {r : List (FE × FE)} : SE X k fk → SE X v fv → SPairs X pos ks vs r → SPairs X pos (some k :: ks) (v :: vs) ((fk, fv) :: r)
theorem SPairs.pp {keys : List (Option Expr)} {values : List Expr} {ps : List (FE × FE)} (h : SPairs X pos keys values ps) : PPs X pos keys values (tPs X.K ps) := by
  induction h with
  | nil => exact pps_nil
  | cons h1 h2 _ ih => exact pps_cons h1 h2 ih
def VVD (K : PySem.W.Frag) (H : Hp) : List (D × D) → List (V × V) → Prop
  | [], vs => vs = []
  | (x, y) :: r, vs => ∃ u w t, vs = (u, w) :: t ∧ DV K H x u ∧ DV K H y w ∧ VVD K H r t
theorem tPairs_ok {K : PySem.W.Frag} : ∀ {ps : List (FE × FE)} {δ : Env} {σ : L2.St} {H : Hp} {W : DW} {Q' : List (D × D) → DW → Prop} {Q : List (V × V) → Hp → Prop}, EnvR K H δ σ → Rel K H W → fPairs ps δ W Q' →
    (∀ vs xs H' W', Ext K H H' → Rel K H' W' → VVD K H' xs vs → Q' xs W' → Q vs H') → tPairs (tPs K ps) σ H Q
  | [], δ, σ, H, W, Q', Q, er, rl, h, k => k [] [] H W (Ext.refl H) rl rfl h
  | (fk, fv) :: r, δ, σ, H, W, Q', Q, er, rl, h, k => ⟨δ, W, _, er, rl, h, fun x dx H1 W1 e1 r1 v1 h1 => ⟨δ, W1, _, er.ext e1, r1, h1, fun y dy H2 W2 e2 r2 v2 h2 =>
      tPairs_ok (er.ext (e1.trans e2)) r2 h2 fun vs xs H3 W3 e3 r3 v3 q3 => k ((x, y) :: vs) ((dx, dy) :: xs) H3 W3 ((e1.trans e2).trans e3) r3 ⟨x, y, vs, rfl, DV.ext (e2.trans e3) v1, DV.ext e3 v2, v3⟩ q3⟩⟩
theorem keysOf.ok {K : PySem.W.Frag} {H : Hp} : ∀ {xs : List (D × D)} {kvs : List (Key × D)} {vs : List (V × V)}, keysOf xs = some kvs → VVD K H xs vs → ∃ ws, vs = ws.map (fun kv => (kV kv.1, kv.2)) ∧ DKV K H kvs ws
  | [], _, _, h, hv => by cases h; cases hv; exact ⟨[], rfl, .nil⟩
  | (x, y) :: r, kvs, vs, h, hv => by
    obtain ⟨u, w, t, rfl, h1, h2, h3⟩ := hv
    unfold keysOf at h
    cases e1 : keyD x with
    | none => rw [e1] at h; simp at h
    | some k =>
      cases e2 : keysOf r with
      | none => rw [e1, e2] at h; simp at h
      | some ks =>
        rw [e1, e2] at h
        simp at h
        subst h
        obtain ⟨ws, rfl, d⟩ := keysOf.ok e2 h3
        refine ⟨(k, w) :: ws, ?_, .cons ⟨rfl, h2⟩ d⟩
        rw [keyD.ok e1 h1]; rfl
theorem DKV.merge {K : PySem.W.Frag} {H : Hp} : ∀ {more : List (Key × D)} {ms : List (Key × V)} {kvs : List (Key × D)} {ws : List (Key × V)}, DKV K H more ms → DKV K H kvs ws → DKV K H (mergeD kvs more) (mergeK ws ms)
  | [], ms, kvs, ws, h, h' => by cases h; exact h'
  | p :: more, ms, kvs, ws, h, h' => by
    cases h with
    | @cons _ q _ qs hp t =>
      have e : DKV K H (putD kvs p.1 p.2) (putK ws q.1 q.2) := by
        rw [← hp.1]
        exact DKV.put h' hp.2
      show DKV K H (mergeD (putD kvs p.1 p.2) more) (mergeK (putK ws q.1 q.2) qs)
      exact DKV.merge t e
theorem DKV.len {K : PySem.W.Frag} {H : Hp} {κ : Type} {a : List (κ × D)} {b : List (κ × V)} (h : DKV K H a b) : b.length = a.length := h.length
theorem se_disp {keys : List (Option Expr)} {values : List Expr} {ps : List (FE × FE)} (h : SPairs X pos keys values ps) (hall : keys.all (·.isSome) = true := by rfl) (hl : keys.length = values.length := by rfl) (h0 : keys ≠ [] := by simp) (h15 : keys.length ≤ 15 := by decide) : SE X (.Dict keys values pos) (fDisp ps) :=
  PEimp (pe_disp h.pp hall hl h0 h15) fun σ H Q ⟨δ, W, Q', er, rl, hh, k⟩ p hp => by
    have hd : HasO X.K (upd H p (.dK [])) p (.dic []) := ⟨[], upd_same, .nil⟩
    refine tPairs_ok (er.ext (Ext.new hp)) (rl.wnew hp hd) (hh p (rl.fresh hp)) fun vs xs H1 W1 e1 r1 v1 ⟨w1, kvs, hk, hl, q⟩ => ?_
    obtain ⟨ws0, s0, d0⟩ := r1 _ _ w1
    cases d0
    obtain ⟨ws, rfl, d⟩ := keysOf.ok hk v1
    refine ⟨s0, ws, rfl, by rw [d.len]; exact hl, ?_⟩
    have e2 : Ext X.K H1 (upd H1 p (.dK (mergeK [] ws))) := Ext.put s0 trivial
    have hd2 : HasO X.K (upd H1 p (.dK (mergeK [] ws))) p (.dic (mergeD [] kvs)) := ⟨_, upd_same, DKV.merge (DKV.ext e2 d) .nil⟩
    exact k _ (.ref p) _ _ (((Ext.new hp).trans e1).trans e2) (r1.wput s0 trivial hd2) rfl q
def fRevL (f : FE) : FE := fun δ W Q => f δ W fun x W1 => ∃ xs, seqD W1 x = some xs ∧ (∀ ys, x ≠ .tup ys) ∧ ∀ p, W1 p = none → Q (.ref p) (wup W1 p (.lst xs.reverse))
theorem se_revL {k : Nat} {p1 p2 p3 pos : Pos} (he : SE X e f) : SE X (.Subscript e (.Slice none none (some (.UnaryOp .USub (.Constant (.int 1) k p1) p2)) p3) pos) (fRevL f) :=
  PEimp (pe_revL he) fun σ H Q ⟨δ, W, Q', er, rl, hh, k⟩ => ⟨δ, W, _, er, rl, hh, fun v d H1 W1 e1 r1 v1 ⟨xs, hs, hn, q⟩ => by
    obtain ⟨p, us, rfl, dd, ⟨s, _⟩ | ⟨s, rfl⟩⟩ := seqD.ok r1 hs v1
    · exact ⟨p, us, rfl, s, fun p hp => newL r1 hp dd.reverse q (k.ext e1)⟩
    · exact absurd rfl (hn xs)⟩
def fDnew : FE := fun δ W Q => ∀ p, W p = none → Q (.ref p) (wup W p (.dic []))
theorem se_dnew : SE X (.Dict [] [] pos) fDnew := PEimp pe_dnewK fun σ H Q ⟨δ, W, Q', er, rl, h, k⟩ p hp =>
  have hd : HasO X.K (upd H p (.dK [])) p (.dic []) := ⟨[], upd_same, .nil⟩
  k _ (.ref p) _ _ (Ext.new hp) (rl.wnew hp hd) rfl (h p (rl.fresh hp))
end
end DL
/-! Dl7: walks over lists and tuples alike, enumerate, zip, stores of two and three names. -/
namespace DL
open PySem PySem.Spec PyProof.Rows L2
section
variable {X : Cx} {a b c e o i : Expr} {es rest : List Expr} {pos : Pos} {f g h : FE} {p q : FT}
def iSeq (K : PySem.W.Frag) (tl : TE) : TI := fun σ H R => tl σ H fun x H1 => (∃ a, x = .ref a ∧ (∃ xs, SqL K H1 a xs) ∧ R (Itl K a) H1) ∨ (∃ a, x = .ref a ∧ (∃ xs, SqT K H1 a xs) ∧ R (Itt K a) H1)
theorem pi_seq {tg l : Expr} {tl : TE} (hl : PE X l tl) : PI X tg l (iSeq X.K tl) := by
  refine ⟨fun pins s σ H R I h => ?_⟩
  refine thn (hl.run pins s σ H _ I h) fun v s1 ⟨x, H1, I1, r1, q1⟩ => ?_
  rcases q1 with ⟨a, e, ⟨xs, hq⟩, q⟩ | ⟨a, e, ⟨xs, hq⟩, q⟩
  · subst e
    cases r1
    obtain ⟨its, rv, p, hz⟩ := I1.list hq
    refine wpAny_pyIter_list p.isList ?_
    refine ⟨s1.heap.objs.size, [s1.heap.objs.size], _, _, H1, rfl, I1.kept (t' := s1.toks) fun b o e => Heap.get?_push_of_some _ e, turn_list a _, ⟨_, Heap.get?_push_size _ rfl, rfl, rfl⟩, fun b hb => ?_, q⟩
    have e : b = s1.heap.objs.size := by simpa using hb
    subst e
    exact I1.fpOk (Nat.le_refl _) (I1.hok.fresh (Nat.le_refl _))
  · subst e
    cases r1
    obtain ⟨its, rv, p, hz⟩ := I1.tuple hq
    refine wpAny_pyIter_tuple (show s1.heap.IsTuple a its.toArray from p) ?_
    refine ⟨s1.heap.objs.size, [s1.heap.objs.size], _, _, H1, rfl, I1.kept (t' := s1.toks) fun b o e => Heap.get?_push_of_some _ e, turn_tuple a _, ⟨_, Heap.get?_push_size _ rfl, rfl, rfl⟩, fun b hb => ?_, q⟩
    have e : b = s1.heap.objs.size := by simpa using hb
    subst e
    exact I1.fpOk (Nat.le_refl _) (I1.hok.fresh (Nat.le_refl _))
/-- what must stay while d is walked -/
def keepD : D → List D → DW → Prop
  | .ref a, xs, W => W a = some (.lst xs)
  | _, _, _ => True
def fSeq (f : FE) : FI := fun δ W R => f δ W fun x W1 => ∃ xs, seqD W1 x = some xs ∧ R xs (keepD x xs) W1
theorem si_seq {tg : Expr} (h : SE X e f) : SI X tg e (fSeq f) := PIimp (pi_seq h) fun σ H R ⟨δ, W, Q', er, rl, h, k⟩ => ⟨δ, W, _, er, rl, h, fun v d H' W' e' r' v' ⟨xs, hs, q⟩ => by
  cases d with
  | tup ys =>
    cases hs
    obtain ⟨a, us, rfl, s, d⟩ := v'
    exact .inr ⟨a, rfl, ⟨us, s⟩, k _ _ _ H' W' e' r' q (it_tup s d)⟩
  | rl ys =>
    cases hs
    obtain ⟨a, us, rfl, s, d⟩ := v'
    exact .inl ⟨a, rfl, ⟨us, s.sq⟩, k _ _ _ H' W' e' r' q (it_rl s d)⟩
  | ref a =>
    cases v'
    unfold seqD at hs
    cases w : W' a with
    | none => simp [w] at hs
    | some o =>
      cases o with
      | lst ys =>
        simp [w] at hs
        subst hs
        obtain ⟨us, s, d⟩ := r' _ _ w
        exact .inl ⟨a, rfl, ⟨us, SqL.of s⟩, k _ _ _ H' W' e' r' q it_list⟩
      | dic xs => simp [w] at hs
      | dit xs => simp [w] at hs
  | _ => cases hs⟩
/-! ### enumerate, zip of lists -/
def enD (xs : List D) : List D := (List.range xs.length).map fun k => .tup [.int (k : Nat), xs.getD k .non]
theorem enD_length {xs : List D} : (enD xs).length = xs.length := by simp [enD]
theorem enD_get {xs : List D} {i : Nat} {d : D} (h : xs[i]? = some d) : (enD xs)[i]? = some (.tup [.int (i : Nat), d]) := by
  have hi := (List.getElem?_eq_some_iff.mp h).1
  have e : xs.getD i .non = d := by simp [List.getD, h]
  simp only [enD, List.getElem?_map, List.getElem?_range hi, Option.map_some, e]
theorem it_enum {K : PySem.W.Frag} {a : Addr} {xs : List D} {H0 : Hp} : ItOk K (Ite K a) (enD xs) (fun W => W a = some (.lst xs)) H0 where
  go H W i _ rl kp hi := by
    obtain ⟨us, s, d⟩ := rl _ _ kp
    rw [enD_length] at hi
    have hl : i < us.length := by rw [d.length]; exact hi
    exact ⟨us, us[i], SqL.of s, List.getElem?_eq_getElem hl⟩
  yld H W i x H' _ rl kp hi hy := by
    obtain ⟨T, y, rfl, hT, rfl, hf⟩ := hy
    obtain ⟨us, s, d⟩ := rl _ _ kp
    have ex := hf us (SqL.of s)
    rw [enD_length] at hi
    obtain ⟨v, e1, e2⟩ := d.get (List.getElem?_eq_getElem hi)
    rw [ex] at e1
    cases e1
    exact ⟨_, enD_get (List.getElem?_eq_getElem hi), Ext.new hT, rl.ext_new hT, dvT (SqT.of upd_same) ⟨_, _, rfl, rfl, _, _, rfl, DV.ext (Ext.new hT) e2, rfl⟩⟩
  stop H W i _ rl kp hi := by
    obtain ⟨us, s, d⟩ := rl _ _ kp
    rw [enD_length] at hi
    exact ⟨us, SqL.of s, by rw [d.length]; exact hi⟩
def fEnum (r : FA) : FI := fun δ W R => r δ W fun vs W1 => ∃ a xs, vs = [.ref a] ∧ W1 a = some (.lst xs) ∧ R (enD xs) (fun W => W a = some (.lst xs)) W1
theorem si_enum {elts : List Expr} {kk : Nat} {p pos tpos : Pos} {r : FA} (hm : X.mg "enumerate" = none) (ha : SA X [e] r) (hg : Gl X "enumerate" := by rfl) (hs : starEach [e] X.env = [(false, eval e X.env)] := by rfl) : SI X (.Tuple elts kk tpos) (.Call (.Name "enumerate" p) [e] [] pos) (fEnum r) :=
  PIimp (pi_enum hg hm ha hs) fun σ H R ⟨δ, W, Q', er, rl, h, k⟩ => ⟨δ, W, _, er, rl, h, fun vs ds H' W' e' r' v' ⟨a, xs, ed, w, q⟩ => by
    subst ed
    obtain ⟨v, rfl, hv⟩ := v'.c1
    cases hv
    obtain ⟨us, s, d⟩ := r' _ _ w
    exact ⟨a, us, rfl, SqL.of s, k _ _ _ H' W' e' r' q it_enum⟩⟩
/-! ### two, three names at once -/
def sPar (i j : Nat) (r : FA) : FS := fun E δ W => r δ W fun vs W1 => ∃ v w, vs = [v, w] ∧ E.nx ((δ.set i (some v)).set j (some w)) W1
theorem ss_par {x y : Str} {r : FA} {px py pt : Pos} {kt k2 pt2} (i j : Nat) (hc : X.calm = true) (hN : X.N.Nodup) (ha : SA X [a, b] r) (hi : X.N[i]? = some x := by rfl) (hj : X.N[j]? = some y := by rfl) (hij : i ≠ j := by decide)
    (hx : X.env.scope.names.lookup x = some .local := by rfl) (hy : X.env.scope.names.lookup y = some .local := by rfl)
    (hw : swappedStores [.Tuple [.Name x px, .Name y py] kt pt] (.Tuple [a, b] k2 pt2) X.env = pure (some [x, y]) := by rfl)
    (hs : swapsWithSole [.Tuple [.Name x px, .Name y py] kt pt] (.Tuple [a, b] k2 pt2) pos.line X.env = pure false := by rfl) : SS X (.Assign [.Tuple [.Name x px, .Name y py] kt pt] (.Tuple [a, b] k2 pt2) pos) (sPar i j r) :=
  PSimp (ps_par hc hN hi hj hij hx hy ha hw hs) fun Dn σ H ⟨δ, W, D', er, rl, h, k⟩ => ⟨δ, W, _, er, rl, h, fun vs ds H' W' e' r' v' ⟨v, w, ed, q⟩ => by
    subst ed
    obtain ⟨u, u', rfl, d1, d2⟩ := v'.c2
    exact ⟨u, u', rfl, k.nx _ _ H' W' e' (((er.ext e').set d1).set d2) r' q⟩⟩
def sPar3 (i j l : Nat) (r : FA) : FS := fun E δ W => r δ W fun vs W1 => ∃ u v w, vs = [u, v, w] ∧ E.nx (((δ.set i (some u)).set j (some v)).set l (some w)) W1
theorem ss_par3 {x y z : Str} {r : FA} {px py pz pt : Pos} {kt k2 pt2} (i j l : Nat) (hc : X.calm = true) (hN : X.N.Nodup) (ha : SA X [a, b, c] r) (hi : X.N[i]? = some x := by rfl) (hj : X.N[j]? = some y := by rfl) (hl : X.N[l]? = some z := by rfl) (hij : i ≠ j := by decide) (hil : i ≠ l := by decide) (hjl : j ≠ l := by decide)
    (hx : X.env.scope.names.lookup x = some .local := by rfl) (hy : X.env.scope.names.lookup y = some .local := by rfl) (hz : X.env.scope.names.lookup z = some .local := by rfl)
    (hw : swappedStores [.Tuple [.Name x px, .Name y py, .Name z pz] kt pt] (.Tuple [a, b, c] k2 pt2) X.env = pure (some [x, y, z]) := by rfl)
    (hs : swapsWithSole [.Tuple [.Name x px, .Name y py, .Name z pz] kt pt] (.Tuple [a, b, c] k2 pt2) pos.line X.env = pure false := by rfl) : SS X (.Assign [.Tuple [.Name x px, .Name y py, .Name z pz] kt pt] (.Tuple [a, b, c] k2 pt2) pos) (sPar3 i j l r) :=
  PSimp (ps_par3 hc hN hi hj hl hij hil hjl hx hy hz ha hw hs) fun Dn σ H ⟨δ, W, D', er, rl, h, k⟩ => ⟨δ, W, _, er, rl, h, fun vs ds H' W' e' r' v' ⟨u, v, w, ed, q⟩ => by
    subst ed
    obtain ⟨x1, r1, rfl, d1, hr⟩ := v'
    obtain ⟨x2, x3, rfl, d2, d3⟩ := hr.c2
    exact ⟨x1, x2, x3, rfl, k.nx _ _ H' W' e' ((((er.ext e').set d1).set d2).set d3) r' q⟩⟩
end
end DL
/-! Dl8: sorted of lists of tuples of ints, of any length; sorted(set(..)) of such. -/
namespace DL
open PySem PySem.Spec PyProof.Rows PySem.W L2
section
variable {X : Cx}
/-! ### sorted of a list whose items read as data -/
def rSortB (K : PySem.W.Frag) : List V → Hp → VK → Prop := fun vs H Q => ∃ (β : Type) (enc : β → PyData) (Φ : V → β → Prop) (a : Addr) (us : List V) (bs : List β), vs = [.ref a] ∧ SqL K H a us ∧ EachIs (fun v b => Φ v b ∧ Dp K H v (enc b)) us bs ∧ AllAlike (bs.map enc) ∧ Sortable (bs.map enc) ∧
  (∀ b ∈ bs, (enc b).depth ≤ 60) ∧ ∀ out p, H p = none → EachIs Φ out (bs.mergeSort (dataLe false enc)) → Q (.ref p) (upd H p (.lst out))
theorem each_vals {β : Type} {Φ : V → β → Prop} : ∀ {us : List Value} {bs : List β}, EachIs (fun u b => ∃ v, L2.RelV v u ∧ Φ v b) us bs → ∃ vs, Vals vs us ∧ EachIs Φ vs bs
  | _, _, .nil => ⟨[], .nil, .nil⟩
  | _, _, .cons ⟨v, r, h⟩ t => by
    obtain ⟨vs, a, b⟩ := each_vals t
    exact ⟨v :: vs, .cons r a, .cons h b⟩
theorem each_of_vals {β : Type} {Φ : V → β → Prop} : ∀ {vs : List V} {us : List Value} {bs : List β}, Vals vs us → EachIs Φ vs bs → EachIs (fun u b => ∃ v, L2.RelV v u ∧ Φ v b) us bs
  | _, _, _, .nil, .nil => .nil
  | _, _, _, .cons r t, .cons h t' => .cons ⟨_, r, h⟩ (each_of_vals t t')
theorem each_len {α β : Type} {Φ : α → β → Prop} : ∀ {vs : List α} {bs : List β}, EachIs Φ vs bs → vs.length = bs.length
  | _, _, .nil => rfl
  | _, _, .cons _ t => by simp [each_len t]
theorem cr_sortB (hu : X.A.units + 65 < cLine) : CallR X (.builtin "sorted") (rSortB X.K) := by
  intro pins s σ H vs us Q I r h
  obtain ⟨β, enc, Φ, a, ws, bs, rfl, hs, hE, hal, hk, hd, q⟩ := h
  obtain ⟨its, rv, hl, hz⟩ := I.list hs
  rw [Vals.ref1 r]
  have e0 := each_of_vals rv hE
  have lenW := each_len hE
  refine sorted_data (vs := its) (bs := bs) (enc := enc) (R := fun u b => ∃ v, L2.RelV v u ∧ Φ v b) hl.isList (e0.mono fun u b ⟨v, r, h, _⟩ => ⟨v, r, h⟩) (e0.mono fun u b ⟨v, r, _, h⟩ => Dp.reads I _ v u h r) hal hk (by rw [← lenW]; exact hz) (fun b hb => by have := hd b hb; omega) fun out ho hout => ?_
  obtain ⟨ep, he'⟩ := PyProof.Rows.sortedAll_at s.heap its (List.toArray out)
  obtain ⟨vs', v1, v2⟩ := each_vals hout
  have hlen : vs'.length ≤ sizeLine := by
    rw [each_len v2, List.length_mergeSort, ← lenW]
    exact hz
  refine ⟨.ref _, upd H (s.heap.objs.size + 1) (.lst vs'), I.laid (t' := s.toks) (fun _ _ => PyProof.Rows.sortedAll_old) (Nat.le_succ _) ⟨hlen, out, ep, v1, he'⟩, rfl, q _ _ (I.hok.fresh (Nat.le_succ _)) v2⟩

/-! ### sorted of a set of tuples of ints -/
def encT (x : List Int) : PyData := .tuple (x.map .int)
theorem alike_encT (x y : List Int) : alike (encT x) (encT y) = true := by
  show alikeAll _ _ = true
  exact alike_ints x y
theorem depth_encT (x : List Int) : (encT x).depth ≤ 1 := by
  show (PyData.tuple _).depth ≤ 1
  rw [PyData.depth, depth_ints]
  exact Nat.le_refl _
theorem le_encT (β : Type) (k : β → List Int) : dataLe false (fun b => encT (k b)) = fun p q => decide (k p ≤ k q) := by
  funext p q
  show (!dataLt (.tuple ((k q).map .int)) (.tuple ((k p).map .int))) = _
  rw [dataLt_tuple]
  show (!rowLt ((k q).map .int) ((k p).map .int)) = _
  rw [dataLt_ints]
  by_cases h : k q < k p
  · have h' : ¬ k p ≤ k q := fun r => List.not_lt.mpr r h
    simp [h, h']
  · have h' : k p ≤ k q := List.not_lt.mp h
    simp [h, h']
end
section
variable {P : Program} {w : World} {A : Around} {E : Value → Shared → Prop} {s : Shared}
theorem items_read {h : Heap} {k : List Int} {vs : List Value} (hi : ItemsAre (PySem.intKind P w) k vs) : ReadsAll h vs (k.map .int) [] := by
  induction hi with
  | nil => exact .nil
  | @cons k0 v' ks vs h1 _ ih =>
    obtain ⟨t, e2⟩ := PySem.Value.isInt_shape h1
    subst e2
    exact .cons (.int k0 t) ih
theorem tup_reads {h : Heap} {b : Addr} {k : List Int} (x : IsT P w h k b) : Reads h (.ref b) (encT k) [] := by
  obtain ⟨o, items, n, ho, hc, hd, hi⟩ := x
  exact .tuple ho hc hd (items_read hi)
theorem each_refs {Φ : Value → Addr × List Int → Prop} : ∀ {L : List (Addr × List Int)}, (∀ q ∈ L, Φ (.ref q.1) q) → EachIs Φ (L.map fun q => Value.ref q.1) L
  | [], _ => .nil
  | q :: L, h => .cons (h q List.mem_cons_self) (each_refs fun r hr => h r (List.mem_cons_of_mem _ hr))
theorem each_eq : ∀ {us : List Value} {L : List (Addr × List Int)}, EachIs (fun v (q : Addr × List Int) => v = Value.ref q.1) us L → us = L.map fun q => Value.ref q.1
  | _, _, .nil => rfl
  | _, _, .cons h t => by rw [h, each_eq t]; rfl
theorem sorted_setV {a : Addr} {L : List (Addr × List Int)} {es : Array (Int × Value)} {ep : Nat} {t : SetTable} {Q : Value → Shared → Prop} (R : SetTR P w s.heap a L es ep t) (hh : A.handled = none) (hu : A.units + 10 < cLine)
    (hB : ∀ p ∈ L, p.2 ≠ [])
    (hQ : ∀ s' p (out : Array Value) (c : Nat) (L' : List (Addr × List Int)), (∀ b o, s.heap.get? b = some o → s'.heap.get? b = some o) → s'.gens = s.gens → s'.os = s.os → s.heap.objs.size ≤ p →
      s'.heap.get? p = some (seqObj "list" out c) → out.toList = L'.map (fun q => Value.ref q.1) → L'.Perm L → L'.Pairwise (fun q r => q.2 ≤ r.2) → Q (.ref p) s') :
    wpAny (model P w) A (call (.builtin "sorted") [.ref a]) Q E s := by
  obtain ⟨o, ho, hex, hd⟩ := R.ob
  have hsz := R.size
  have hfew := R.few
  refine Calls.call_function_entry kind_sorted plain_sorted entry_sorted (args_sorted1 _) ?_
  unfold Builtin.«sorted»
  refine wpAny_bind (m := checkCount "sorted" 1 1 _) (wpAny_pure ?_)
  refine wpAny_bind (collect_set (A := A.in1) hh ⟨o, ho, hex.1, hd⟩ R.fits (by unfold scanBound; omega) R.tab.ris R.led fun s1 vs k1 hz g1 o1 pm => ?_)
  have hes : es.toList.map (·.2) = L.map fun q => Value.ref q.1 := by
    rw [R.rows]
    unfold L2.rowsOf
    rw [List.map_map] <;> rfl
  rw [hes] at pm
  have ord : ∀ vs : List Value, (∀ v ∈ vs, ∃ q ∈ L, v = Value.ref q.1) → ∃ L1 : List (Addr × List Int), vs = L1.map (fun q => Value.ref q.1) ∧ ∀ q ∈ L1, q ∈ L := by
    intro vs
    induction vs with
    | nil => intro _; exact ⟨[], rfl, fun q hq => (by cases hq)⟩
    | cons v vs ih =>
      intro hv
      obtain ⟨q, hq, e⟩ := hv v List.mem_cons_self
      obtain ⟨L1, e1, hs⟩ := ih fun u hu => hv u (List.mem_cons_of_mem _ hu)
      refine ⟨q :: L1, by rw [List.map_cons, e, e1], fun r hr => ?_⟩
      rcases List.mem_cons.mp hr with z | z
      · rw [z]; exact hq
      · exact hs r z
  have one : ∀ q ∈ L, ∀ r ∈ L, q.1 = r.1 → q = r := fun q hq r hr e => by
    have a1 := R.tup q hq
    have a2 := R.tup r hr
    rw [e] at a1
    have e2 : q.2 = r.2 := a1.inj a2
    exact Prod.ext e e2
  have perm_of : ∀ L1 : List (Addr × List Int), (∀ q ∈ L1, q ∈ L) → (L1.map (fun q => Value.ref q.1)).Perm (L.map fun q => Value.ref q.1) → L1.Perm L := by
    intro L1 hs pm1
    have nL : L.Nodup := nodup_of_map R.nd
    have nref : (L.map fun q => Value.ref q.1).Nodup := by
      refine List.pairwise_map.mpr (List.Pairwise.imp_of_mem (fun {q r} hq hr hne e => ?_) nL)
      injection e with e
      exact hne (one q hq r hr e)
    have n1 : L1.Nodup := nodup_of_map (pm1.nodup_iff.mpr nref)
    refine (List.perm_ext_iff_of_nodup n1 nL).mpr fun q => ⟨hs q, fun hq => ?_⟩
    have hm : Value.ref q.1 ∈ L1.map (fun q => Value.ref q.1) := pm1.mem_iff.mpr (List.mem_map.mpr ⟨q, hq, rfl⟩)
    obtain ⟨r, hr, e⟩ := List.mem_map.mp hm
    injection e with e
    rw [← one r (hs r hr) q hq e]
    exact hr
  have hvl : vs.length < 64 := by rw [pm.length_eq, List.length_map]; exact hfew
  obtain ⟨L0, e0, hs0⟩ := ord vs fun v hv => by
    obtain ⟨q, hq, e⟩ := List.mem_map.mp (pm.mem_iff.mp hv)
    exact ⟨q, hq, e.symm⟩
  have p0 : L0.Perm L := perm_of L0 hs0 (by rw [e0] at pm; exact pm)
  subst e0
  refine wpAny_bind (wpAny_newList ?_ (by rw [sizeLine_eq]; omega))
  have hoL : (s1.heap.push (seqObj "list" (L0.map fun q => Value.ref q.1).toArray 0)).get? s1.heap.objs.size = some (seqObj "list" (L0.map fun q => Value.ref q.1).toArray 0) := Heap.get?_push_size _ rfl
  have tk : ∀ q ∈ L, Reads (s1.heap.push (seqObj "list" (L0.map fun q => Value.ref q.1).toArray 0)) (.ref q.1) (encT q.2) [] := fun q hq => tup_reads (P := P) (w := w) (isT_keep (R.tup q hq) fun b u e => Heap.get?_push_of_some _ (k1 b u e))
  refine wpAny_bind (wpAny_holding (list_sort_data (s := { s1 with heap := s1.heap.push (seqObj "list" (L0.map fun q => Value.ref q.1).toArray 0) }) (vs := (L0.map fun q => Value.ref q.1)) (bs := L0) (enc := fun q => encT q.2) (R := fun v q => v = Value.ref q.1) hoL (each_refs fun q _ => rfl) (each_refs fun q hq => ⟨[], tk q (hs0 q hq), by simp⟩)
    (AllAlike.of fun _ _ => alike_encT _ _) (.inl fun d hd => ?_) (by rw [p0.length_eq, sizeLine_eq]; omega) (fun b hb => ?_) fun out ho2 hout => ?_))
  · obtain ⟨q, hq, rfl⟩ := List.mem_map.mp hd
    cases e : q.2 with
    | nil => exact absurd e (hB q (hs0 q hq))
    | cons x r => exact ⟨.int x, r.map .int, rfl⟩
  · have := depth_encT b.2
    show A.in1.units + 1 + (encT b.2).depth < cLine
    have e : A.in1.units = A.units + 1 := rfl
    omega
  have eo := each_eq hout
  obtain ⟨c, hc⟩ := sortedHeap_at (vs := (L0.map fun q => Value.ref q.1)) (out := List.toArray out) hoL
  have pL : (L0.mergeSort (dataLe false fun q => encT q.2)).Perm L := (List.mergeSort_perm _ _).trans p0
  have pw : (L0.mergeSort (dataLe false fun q : Addr × List Int => encT q.2)).Pairwise (fun q r => q.2 ≤ r.2) := by
    rw [le_encT]
    have h := List.pairwise_mergeSort (le := fun p q : Addr × List Int => decide (p.2 ≤ q.2)) (fun a b c h1 h2 => by
      simp only [decide_eq_true_eq] at *
      exact List.le_trans h1 h2) (fun a b => by
      simp only [Bool.or_eq_true, decide_eq_true_eq]
      exact List.le_total a.2 b.2) L0
    exact h.imp fun {a b} h => by simpa using h
  refine wpAny_pure ⟨_, rfl, hQ _ s1.heap.objs.size (List.toArray out) c _ (fun b u e => ?_) g1 o1 hz hc eo pL pw⟩
  have q := k1 b u e
  have hlt := Heap.lt_size q
  show (sortedHeap (s1.heap.push (seqObj "list" (L0.map fun q => Value.ref q.1).toArray 0)) s1.heap.objs.size (L0.map fun q => Value.ref q.1) (List.toArray out)).get? b = some u
  rw [sortedHeap_old (Nat.ne_of_lt hlt) (by rw [size_push']; exact Nat.lt_succ_of_lt hlt)]
  exact Heap.get?_push_of_some _ q
end
section
variable {X : Cx}
def rSortedV (K : PySem.W.Frag) (P : Program) (w : World) : List V → Hp → VK → Prop := fun vs H Q => ∃ (a : Addr) (L : List (Addr × List Int)), vs = [V.ref a] ∧ H a = some (SetTO P w a L) ∧ (∀ p ∈ L, SqT K H p.1 (p.2.map V.int)) ∧ (∀ p ∈ L, p.2 ≠ []) ∧
  ∀ (L' : List (Addr × List Int)) (p : Addr), L'.Perm L → (L'.map (·.2)).Nodup → L'.Pairwise (fun q r => q.2 ≤ r.2) → H p = none → Q (.ref p) (upd H p (.lst (L'.map fun q => V.ref q.1)))
theorem cr_sortedV (hc : X.calm = true) (hu : X.A.units + 64 < cLine) : CallR X (.builtin "sorted") (rSortedV X.K X.prog X.w) := by
  intro pins s σ H vs us Q I r h
  obtain ⟨a, L, rfl, ha, hk, hB, q⟩ := h
  have R0 : SetT0 X.prog X.w s.heap a L := (I.hok a _ ha).1
  obtain ⟨es, ep, t, R⟩ := R0.full fun p hp => I.isT (hk p hp)
  rw [Vals.ref1 r]
  refine sorted_setV R (I.ok.hd hc) (by omega) hB fun s' p out c L' k g o hp hg hout pm pw => ?_
  have hfew : L'.length < 64 := by rw [pm.length_eq]; exact R.few
  have hlen : (L'.map fun q => V.ref q.1).length ≤ sizeLine := by rw [List.length_map, sizeLine_eq]; omega
  have hn : H p = none := I.hok.fresh hp
  have hv : Vals (L'.map fun q => V.ref q.1) out.toList := by rw [hout]; exact vals_of_refs L'
  have J : L2.Inv X pins σ (upd H p (.lst (L'.map fun q => V.ref q.1))) { s with heap := s'.heap, gens := s'.gens, drawn := s'.drawn, toks := s'.toks } :=
    I.call (ch := []) (Un.laid k hp hn) (I.hok.laid k hp ⟨hlen, out.toList, c, hv, hg⟩) (by rw [g]; exact I.bare) (fun _ z => nomatch z)
  have e : s' = { s with heap := s'.heap, gens := s'.gens, drawn := s'.drawn, toks := s'.toks } := by
    cases s'
    cases s
    cases o
    rfl
  rw [e]
  exact ⟨.ref p, _, J, rfl, q L' p pm ((pm.map (·.2)).nodup_iff.mpr R.nd) pw hn⟩
end
end DL
/-! Dl9: sorted, set, dict of pairs, repr, by data. -/
namespace DL
open PySem PySem.Spec PyProof.Rows PySem.W L2
section
variable {X : Cx} {a b c e o i : Expr} {es rest : List Expr} {pos : Pos} {f g h : FE} {p q : FT}
def tupI (x : List Int) : D := .tup (x.map .int)
def leL (p q : List Int) : Bool := decide (p ≤ q)
def bSortA : RD := fun ds W Q => ∃ a, ds = [.ref a] ∧ ((∃ xs : List (List Int), W a = some (.lst (xs.map tupI)) ∧ (∀ x ∈ xs, x ≠ []) ∧ ∀ p, W p = none → Q (.ref p) (wup W p (.lst ((xs.mergeSort leL).map tupI)))) ∨
  (∃ (kvs : List (Key × D)) (ks : List Int), W a = some (.dic kvs) ∧ kvs.map (·.1) = ks.map Sum.inl ∧ ks.length < 64 ∧ ∀ (ys : List Int) p, ys.Perm ks → ys.Pairwise (· ≤ ·) → W p = none → Q (.ref p) (wup W p (.lst (ys.map D.int)))))
abbrev rSortA (K : PySem.W.Frag) : List V → Hp → VK → Prop := fun xs H Q => rSortB K xs H Q ∨ (∃ (a : Addr) (kvs : List (Key × V)) (ks : List Int), xs = [.ref a] ∧ Rd H a (.dK kvs) ∧ kvs.map (·.1) = ks.map Sum.inl ∧ ks.length < 64 ∧ ∀ (ys : List Int) (p : Addr), ys.Perm ks → ys.Pairwise (· ≤ ·) → H p = none → Q (.ref p) (upd H p (.lst (ys.map V.int))))
theorem cr_sortA (hu : X.A.units + 65 < cLine) (hc : X.calm = true) : CallR X (.builtin "sorted") (rSortA X.K) := (cr_sortB hu).or (call_sortedDI hc)
section
variable {K : PySem.W.Frag} {H : Hp} {W : DW}
theorem DV.dp_tupI {x : List Int} {v : V} (h : DV K H (tupI x) v) : Dp K H v (encT x) := by
  obtain ⟨a, us, rfl, s, d⟩ := h
  have e := d.ints
  subst e
  refine .tup s ?_
  clear s d
  induction x with
  | nil => exact .nil
  | cons y x ih => exact .cons (.int y) ih
theorem DVs.each_tupI : ∀ {xs : List (List Int)} {us : List V}, DVs K H (xs.map tupI) us → EachIs (fun v b => DV K H (tupI b) v ∧ Dp K H v (encT b)) us xs
  | [], _, h => by cases h; exact .nil
  | x :: xs, _, h => by
    obtain ⟨v, r, rfl, h1, h2⟩ := h
    exact .cons ⟨h1, h1.dp_tupI⟩ (DVs.each_tupI h2)
theorem DVs.of_each : ∀ {xs : List (List Int)} {us : List V}, EachIs (fun v b => DV K H (tupI b) v) us xs → DVs K H (xs.map tupI) us
  | _, _, .nil => rfl
  | _, _, .cons h t => ⟨_, _, rfl, h, DVs.of_each t⟩
theorem DKV.keys {κ : Type} {kvs : List (κ × D)} {ws : List (κ × V)} (h : DKV K H kvs ws) : ws.map (·.1) = kvs.map (·.1) := by
  unfold DKV at h
  induction h with
  | nil => rfl
  | cons hp _ ih => rw [List.map_cons, List.map_cons, ih, hp.1]
end
theorem c_sortA {K : PySem.W.Frag} : CallD K (rSortA K) bSortA := fun H W vs ds Q Q' rl dv ⟨a, e, h⟩ k => by
  subst e
  obtain ⟨v, rfl, hv⟩ := dv.c1
  cases hv
  rcases h with ⟨xs, w, hne, q⟩ | ⟨kvs, ks, w, hk, hl, q⟩
  · obtain ⟨us, s, d⟩ := rl _ _ w
    refine .inl ⟨List Int, encT, fun v b => DV K H (tupI b) v, a, us, xs, rfl, SqL.of s, d.each_tupI, AllAlike.of alike_encT, .inl fun d hd => ?_, fun b _ => Nat.le_trans (depth_encT b) (by decide), fun out p hp ho => newL rl hp ?_ q k⟩
    · obtain ⟨x, hx, rfl⟩ := List.mem_map.mp hd
      cases x with
      | nil => exact absurd rfl (hne _ hx)
      | cons y r => exact ⟨.int y, r.map .int, rfl⟩
    · rw [show (dataLe false encT) = leL from le_encT (List Int) id] at ho
      exact DVs.of_each ho
  · obtain ⟨ws, s, d⟩ := rl _ _ w
    exact .inr ⟨a, ws, ks, rfl, .inl s, by rw [d.keys]; exact hk, hl, fun ys p h1 h2 hp => newL rl hp (DVs.of_ints ys) (fun p hp => q ys p h1 h2 hp) k⟩
/-! ### sorted(set(xs)), xs a list of tuples of ints -/
def fSortSet (r : FA) : FE := fun δ W Q => r δ W fun vs W1 => ∃ a, ∃ xs : List (List Int), vs = [.ref a] ∧ W1 a = some (.lst (xs.map tupI)) ∧ (∀ x ∈ xs, x ≠ []) ∧ xs.length < 64 ∧
  ∀ (ys : List (List Int)) p, ys.Nodup → ys.Pairwise (· ≤ ·) → (∀ y, y ∈ ys ↔ y ∈ xs) → W1 p = none → Q (.ref p) (wup W1 p (.lst (ys.map tupI)))
theorem pairs_of {K : PySem.W.Frag} {H : Hp} : ∀ {xs : List (List Int)} {us : List V}, DVs K H (xs.map tupI) us → ∃ ks : List (Addr × List Int), us = ks.map (fun p => V.ref p.1) ∧ ks.map (·.2) = xs ∧ ∀ p ∈ ks, SqT K H p.1 (p.2.map V.int)
  | [], _, h => by cases h; exact ⟨[], rfl, rfl, by simp⟩
  | x :: xs, _, h => by
    obtain ⟨v, r, rfl, ⟨a, us, rfl, s, d⟩, h2⟩ := h
    obtain ⟨ks, e1, e2, h3⟩ := pairs_of h2
    have e := d.ints
    subst e
    refine ⟨(a, x) :: ks, by rw [List.map_cons, e1], by rw [List.map_cons, e2], fun p hp => ?_⟩
    rcases List.mem_cons.mp hp with z | z
    · subst z; exact s
    · exact h3 p z
theorem dvs_pairs {K : PySem.W.Frag} {H : Hp} : ∀ {L : List (Addr × List Int)}, (∀ p ∈ L, SqT K H p.1 (p.2.map V.int)) → DVs K H ((L.map (·.2)).map tupI) (L.map fun p => V.ref p.1)
  | [], _ => rfl
  | p :: L, h => ⟨_, _, rfl, dvT (h p List.mem_cons_self) (DVs.of_ints p.2), dvs_pairs fun q hq => h q (List.mem_cons_of_mem _ hq)⟩
theorem se_sortSet {pn pn' pos' : Pos} {ra : FA} (hu : X.A.units + 64 < cLine) (hc : X.calm = true) (hm : X.mg "sorted" = none) (hm2 : X.mg "set" = none) (ha : SA X [e] ra) (hg : Gl X "sorted" := by rfl) (hg2 : Gl X "set" := by rfl)
    (he2 : starEach [e] X.env = (false, eval e X.env) :: starEach [] X.env := by rfl) (hpl2 : (backTo pos' (starEach [] X.env)).any (·.1) = false := by rfl)
    (he : starEach [.Call (.Name "set" pn') [e] [] pos'] X.env = (false, eval (.Call (.Name "set" pn') [e] [] pos') X.env) :: starEach [] X.env := by rfl) (hpl : (backTo pos (starEach [] X.env)).any (·.1) = false := by rfl) :
    SE X (.Call (.Name "sorted" pn) [.Call (.Name "set" pn') [e] [] pos'] [] pos) (fSortSet ra) := by
  have h1 : PE X (.Call (.Name "set" pn') [e] [] pos') (tCB (rSetOfT X.K X.prog X.w) (tA X.K ra)) := pe_callTy (cr_setOfT hc hu) hg2 hm2 PyProof.Rows.boot_set ha (he := he2) (hpl := hpl2)
  have h2 : PE X (.Call (.Name "sorted" pn) [.Call (.Name "set" pn') [e] [] pos'] [] pos) (tCB (rSortedV X.K X.prog X.w) (tCons (tCB (rSetOfT X.K X.prog X.w) (tA X.K ra)) tNil)) := pe_callB (cr_sortedV hc hu) hg hm PyProof.Rows.boot_sorted (pa_cons h1 pa_nil he) (he := he) (hpl := hpl)
  refine PEimp h2 fun σ H Q ⟨δ, W, Q', er, rl, h, k⟩ => ?_
  refine ⟨δ, W, _, er, rl, h, fun vs ds H1 W1 e1 r1 v1 ⟨a, xs, ed, w, hne, hl, q⟩ => ?_⟩
  subst ed
  obtain ⟨v, rfl, hv⟩ := v1.c1
  cases hv
  obtain ⟨us, s, d⟩ := r1 _ _ w
  obtain ⟨ks, rfl, ek, hk⟩ := pairs_of d
  have kl : ks.length = xs.length := by rw [← ek, List.length_map]
  refine ⟨a, ks, rfl, SqL.of s, hk, by rw [kl]; exact hl, fun b L hb hL1 hL2 => ?_⟩
  have eb : Ext X.K H1 (upd H1 b (SetTO X.prog X.w b L)) := Ext.new hb
  have rb := r1.ext_new (o := SetTO X.prog X.w b L) hb
  refine ⟨b, L, rfl, upd_same, fun p hp => eb.t _ _ (hk p (hL1 p hp)), fun p hp => hne _ (by rw [← ek]; exact List.mem_map.mpr ⟨p, hL1 p hp, rfl⟩), fun L' p pm nd pw hp => ?_⟩
  have d' : DVs X.K (upd H1 b (SetTO X.prog X.w b L)) ((L'.map (·.2)).map tupI) (L'.map fun p => V.ref p.1) := dvs_pairs fun r hr => eb.t _ _ (hk r (hL1 r (pm.mem_iff.mp hr)))
  refine newL rb hp d' (fun p hp => q _ p nd (List.pairwise_map.mpr pw) (fun y => ?_) hp) ((k.ext e1).ext eb)
  rw [(pm.map (·.2)).mem_iff, ← ek]
  exact ⟨fun hy => by
    obtain ⟨r, hr, rfl⟩ := List.mem_map.mp hy
    exact List.mem_map.mpr ⟨r, hL1 r hr, rfl⟩, fun hy => by
    obtain ⟨r, hr, rfl⟩ := List.mem_map.mp hy
    exact hL2 r hr⟩
/-! ### dict of pairs -/
def keyToD : Key → D
  | .inl i => .int i
  | .inr x => .str x
def bDictP : RD := fun ds W Q => ∃ (a : Addr) (kvs : List (Key × D)), ds = [.ref a] ∧ W a = some (.lst (kvs.map fun kv => .tup [keyToD kv.1, kv.2])) ∧ ∀ p, W p = none → Q (.ref p) (wup W p (.dic (mergeD [] kvs)))
theorem dict_pairs {K : PySem.W.Frag} {H : Hp} : ∀ {kvs : List (Key × D)} {us : List V}, DVs K H (kvs.map fun kv => .tup [keyToD kv.1, kv.2]) us → ∃ (ps : List Addr) (ws : List (Key × V)), us = ps.map V.ref ∧ Paired (fun p kv => SqT K H p [kV kv.1, kv.2]) ps ws ∧ DKV K H kvs ws
  | [], _, h => by cases h; exact ⟨[], [], rfl, .nil, .nil⟩
  | kv :: kvs, _, h => by
    obtain ⟨v, r, rfl, ⟨a, us, rfl, s, d⟩, h2⟩ := h
    obtain ⟨ps, ws, e1, p1, d1⟩ := dict_pairs h2
    obtain ⟨x, y, rfl, dx, dy⟩ := d.c2
    have ex : x = kV kv.1 := by
      cases hk : kv.1 with
      | inl i => rw [hk] at dx; exact dx
      | inr i => rw [hk] at dx; exact dx
    subst ex
    exact ⟨a :: ps, (kv.1, y) :: ws, by rw [List.map_cons, e1], .cons s p1, .cons ⟨rfl, dy⟩ d1⟩
theorem c_dictP {K : PySem.W.Frag} : CallD K (fun xs H Q => ∃ (a : Addr) (ps : List Addr) (kvs : List (Key × V)), xs = [.ref a] ∧ SqL K H a (ps.map V.ref) ∧ Paired (fun p kv => SqT K H p [kV kv.1, kv.2]) ps kvs ∧ ∀ p, H p = none → Q (.ref p) (upd H p (.dK (mergeK [] kvs)))) bDictP := fun H W vs ds Q Q' rl dv ⟨a, kvs, e, w, q⟩ k => by
  subst e
  obtain ⟨v, rfl, hv⟩ := dv.c1
  cases hv
  obtain ⟨us, s, d⟩ := rl _ _ w
  obtain ⟨ps, ws, rfl, p1, d1⟩ := dict_pairs d
  refine ⟨a, ps, ws, rfl, SqL.of s, p1, fun p hp => ?_⟩
  have hd : HasO K (upd H p (.dK (mergeK [] ws))) p (.dic (mergeD [] kvs)) := ⟨_, upd_same, DKV.merge (DKV.ext (Ext.new hp) d1) .nil⟩
  exact k _ (.ref p) _ _ (Ext.new hp) (rl.wnew hp hd) rfl (q p (rl.fresh hp))
/-! ### repr of data -/
def bRepr : RD := fun ds W Q => ∃ x y, ds = [x] ∧ Py W x y ∧ y.showable = true ∧ y.hasDict = false ∧ y.depth ≤ 60 ∧ y.shown.length ≤ sizeLine ∧ Q (.str y.shown) W
def rReprD (K : PySem.W.Frag) : List V → Hp → VK → Prop := fun vs H Q => ∃ x y, vs = [x] ∧ Dp K H x y ∧ y.showable = true ∧ y.hasDict = false ∧ y.depth ≤ 60 ∧ y.shown.length ≤ sizeLine ∧ Q (.str y.shown) H
theorem c_repr {K : PySem.W.Frag} : CallD K (rReprD K) bRepr := fun H W vs ds Q Q' rl dv ⟨x, y, e, py, h1, h2, h3, h4, q⟩ k => by
  subst e
  obtain ⟨v, rfl, hv⟩ := dv.c1
  exact ⟨v, y, rfl, py.dp rl hv, h1, h2, h3, h4, k.at rl q rfl⟩
theorem call_reprD (hgd : X.A.guards = some []) (hu : X.A.units + 65 < cLine) : CallR X (.builtin "repr") (rReprD X.K) := by
  intro pins s σ H xs us Q I r h
  obtain ⟨x, y, rfl, dp, h1, h2, h3, h4, q⟩ := h
  obtain ⟨u, rfl, ru⟩ := vals1 r
  cases dp with
  | non => cases ru; exact PySem.P.repr_of_none ⟨.str _, H, I.tok _, ⟨_, rfl⟩, by simpa only [PyData.shown] using q⟩
  | bl b => cases ru; exact PySem.P.repr_of_bool ⟨.str _, H, I.tok _, ⟨_, rfl⟩, by simpa only [PyData.shown] using q⟩
  | int i =>
    obtain ⟨t, rfl⟩ := ru
    exact PySem.P.repr_of_int (by simpa [PyData.showable] using h1) ⟨.str _, H, I.tok _, ⟨_, rfl⟩, by simpa only [PyData.shown] using q⟩
  | str z =>
    obtain ⟨t, rfl⟩ := ru
    exact PySem.P.repr_of_str ⟨.str _, H, I.tok _, ⟨_, rfl⟩, by simpa only [PyData.shown] using q⟩ (by simpa only [PyData.shown] using h4)
  | lst hs hd =>
    cases ru
    obtain ⟨as, rd⟩ := Dp.reads I _ _ _ (.lst hs hd) rfl
    exact repr_of_reads' (h₀ := s.heap) rd h1 (fun z => by rw [h2] at z; cases z) hgd (by omega) (fun _ _ e => e) (fun h' u' tk hk => ⟨.str _, H, I.kept (t' := tk) hk, ⟨u', rfl⟩, q⟩) h4
  | tup hs hd =>
    cases ru
    obtain ⟨as, rd⟩ := Dp.reads I _ _ _ (.tup hs hd) rfl
    exact repr_of_reads' (h₀ := s.heap) rd h1 (fun z => by rw [h2] at z; cases z) hgd (by omega) (fun _ _ e => e) (fun h' u' tk hk => ⟨.str _, H, I.kept (t' := tk) hk, ⟨u', rfl⟩, q⟩) h4
end
end DL
/-! Dl10: list(range(n)), comprehensions of two clauses, -x. -/
namespace DL
open PySem PySem.Spec PyProof.Rows L2
section
variable {X : Cx} {a b c e o i : Expr} {es rest : List Expr} {pos : Pos} {f g h : FE} {p q : FT}
def fLstR1 (f : FE) : FE := fun δ W Q => f δ W fun x W1 => ∃ n, x = .int n ∧ RgOk 0 n ∧ ∀ p, W1 p = none → Q (.ref p) (wup W1 p (.lst (rngD 0 n.toNat)))
theorem DVs.rng {K : PySem.W.Frag} {H : Hp} (lo : Int) : ∀ (l : List Nat), DVs K H (l.map fun k => .int (lo + (k : Nat))) (l.map fun k => .int (lo + (k : Nat)))
  | [] => rfl
  | n :: l => ⟨_, _, rfl, rfl, DVs.rng lo l⟩
theorem se_lstR1 {p1 p2 pos' : Pos} (hc : X.calm = true) (hm : X.mg "list" = none) (hm2 : X.mg "range" = none) (ha : SE X a f) (hg : Gl X "list" := by rfl) (hg2 : Gl X "range" := by rfl) (na : starEach [a] X.env = (false, eval a X.env) :: starEach [] X.env := by rfl)
    (na2 : starEach [.Call (.Name "range" p2) [a] [] pos'] X.env = (false, eval (.Call (.Name "range" p2) [a] [] pos') X.env) :: starEach [] X.env := by rfl) : SE X (.Call (.Name "list" p1) [.Call (.Name "range" p2) [a] [] pos'] [] pos) (fLstR1 f) :=
  PEimp (pe_listRg hc hg hm (prg_1 hg2 hm2 ha na) na2) fun σ H Q ⟨δ, W, Q', er, rl, h, k⟩ => ⟨δ, W, _, er, rl, h, fun v d H1 W1 e1 r1 v1 ⟨n, ed, ok, q⟩ => by
    subst ed
    cases v1
    refine ⟨n, rfl, ok, fun p hp => newL r1 hp ?_ q (k.ext e1)⟩
    have := DVs.rng (K := X.K) (H := H1) 0 (List.range n.toNat)
    unfold rngD rgV
    rw [Int.sub_zero]
    exact this⟩
def fNeg (f : FE) : FE := fun δ W Q => f δ W fun x W1 => ∃ n, x = .int n ∧ Q (.int (-n)) W1
theorem se_neg (ha : SE X a f) : SE X (.UnaryOp .USub a pos) (fNeg f) := PEimp (pe_un un_neg ha) fun σ H Q ⟨δ, W, Q', er, rl, h, k⟩ => ⟨δ, W, _, er, rl, h, fun v d H1 W1 e1 r1 v1 ⟨n, ed, q⟩ => by
  subst ed
  cases v1
  exact ⟨n, rfl, (k.ext e1).at r1 q rfl⟩⟩
theorem st_chain {op op' : CmpOp} {r r' : R2} {F F' : R2D} (ho : OpR X (compareOp op) r) (ho' : OpR X (compareOp op') r') (hr : Op2 X.K r F) (hr' : Op2 X.K r' F') (ha : SE X a f) (hb : SE X b g) (hc : SE X c h)
    (hl : lastMarks [op, op'] [b, c] = false := by first | rfl | decide) : ST X (.Compare a [op, op'] [b, c] pos) (fB (fChain F F' f g h)) :=
  PTimp (pt_chain ho ho' ha hb hc hl) fun σ H Q q => by
    obtain ⟨δ, W, Q', er, rl, hh, k⟩ := tE_B σ H Q q
    exact tE_chain hr hr' σ H _ ⟨δ, W, Q', er, rl, hh, k⟩
/-! ### comprehensions of two clauses -/
def lcI (keep : DW → Prop) (g : FG) (tt : FT) (te : FE) (p : Addr) (vs : List Nat) (N : DW → Prop) : List D → Env → DW → Prop
  | [], δ, W => keep W ∧ N W
  | x :: xs, δ, W => keep W ∧ g x (wipeD δ vs) W fun δ2 W2 => tt δ2 W2 fun b W3 => if b = true then te δ2 W3 fun y W4 => ∃ acc, W4 p = some (.lst acc) ∧ acc.length < sizeLine ∧ lcI keep g tt te p vs N xs δ (wup W4 p (.lst (acc ++ [y]))) else lcI keep g tt te p vs N xs δ W3
theorem lcI.keep {keep : DW → Prop} {g : FG} {tt : FT} {te : FE} {p : Addr} {vs : List Nat} {N : DW → Prop} {xs : List D} {δ : Env} {W : DW} (h : lcI keep g tt te p vs N xs δ W) : keep W := by
  cases xs with
  | nil => exact h.1
  | cons x xs => exact h.1
def lcO (keep : DW → Prop) (g : FG) (tt : FT) (fi1 : FI) (g1 : FG) (tt1 : FT) (te : FE) (p : Addr) (vs vs1 : List Nat) (Q : DW → Prop) : List D → Env → DW → Prop
  | [], δ, W => keep W ∧ Q W
  | x :: xs, δ, W => keep W ∧ g x (wipeD δ vs) W fun δ2 W2 => tt δ2 W2 fun b W3 => if b = true then fi1 δ2 W3 fun ys keep1 W4 => lcI keep1 g1 tt1 te p vs1 (lcO keep g tt fi1 g1 tt1 te p vs vs1 Q xs δ) ys δ2 W4 else lcO keep g tt fi1 g1 tt1 te p vs vs1 Q xs δ W3
theorem lcO.keep {keep : DW → Prop} {g : FG} {tt : FT} {fi1 : FI} {g1 : FG} {tt1 : FT} {te : FE} {p : Addr} {vs vs1 : List Nat} {Q : DW → Prop} {xs : List D} {δ : Env} {W : DW} (h : lcO keep g tt fi1 g1 tt1 te p vs vs1 Q xs δ W) : keep W := by
  cases xs with
  | nil => exact h.1
  | cons x xs => exact h.1
def fLc2 (fi : FI) (g : FG) (tt : FT) (fi1 : FI) (g1 : FG) (tt1 : FT) (te : FE) (vs vs1 : List Nat) : FE := fun δ W Q => fi δ W fun xs keep W1 => ∀ p, W1 p = none → lcO keep g tt fi1 g1 tt1 te p vs vs1 (fun W2 => Q (.ref p) W2) xs δ (wup W1 p (.lst []))
theorem tE_lc2 {fi fi1 : FI} {gg gg1 : FG} {tt tt1 : FT} {vs is vs1 is1 : List Nat} (hsub : ∀ i ∈ is, i ∈ vs) (hsub1 : ∀ i ∈ is1, i ∈ vs1) : ∀ σ H Q, tE X.K (fLc2 fi gg tt fi1 gg1 tt1 f vs vs1) σ H Q →
    tLc2 (tI X.K fi) (tGc X.K is gg) (tT X.K tt) (tI X.K fi1) (tGc X.K is1 gg1) (tT X.K tt1) (tE X.K f) vs vs1 σ H Q :=
  fun σ H Q ⟨δ, W, Q', er, rl, h, k⟩ => ⟨δ, W, _, er, rl, h, fun J xs keep H1 W1 e1 r1 q1 ok Dp hD => by
    have q1 := q1 Dp (r1.fresh hD)
    refine ⟨fun i m H2 => ∃ W2, Rel X.K H2 W2 ∧ Ext X.K H1 H2 ∧ lcO keep gg tt fi1 gg1 tt1 f Dp vs vs1 (fun W2 => Q' (.ref Dp) W2) (xs.drop i) δ W2 ∧ i + m = xs.length, ⟨xs.length, wup W1 Dp (.lst []), r1.wnew hD (hasL (ds := []) upd_same rfl), Ext.new hD, q1, by omega⟩, ?_⟩
    rintro i m H2 ⟨W2, r2, e2, q2, hm⟩
    have kp := lcO.keep q2
    by_cases hlt : i < xs.length
    · refine .inr ⟨ok.go H2 W2 i e2 r2 kp hlt, fun H' => ∃ W3, Rel X.K H' W3 ∧ Ext X.K H1 H' ∧ lcO keep gg tt fi1 gg1 tt1 f Dp vs vs1 (fun W2 => Q' (.ref Dp) W2) (xs.drop (i + 1)) δ W3, fun H' ⟨W3, a2, a3, a4⟩ => ⟨m - 1, by omega, W3, a2, a3, a4, by omega⟩, fun x H3 hy => ?_⟩
      obtain ⟨d, ed, e3, r3, dv⟩ := ok.yld H2 W2 i x H3 e2 r2 kp hlt hy
      rw [List.drop_eq_getElem_cons hlt] at q2
      have hd : xs[i] = d := Option.some.inj ((List.getElem?_eq_getElem hlt).symm.trans ed)
      rw [hd] at q2
      have er3 : EnvR X.K H3 δ σ := er.ext ((e1.trans e2).trans e3)
      refine ⟨d, wipeD δ vs, W2, _, dv, er3.wipe vs, r3, q2.2, fun σ4 δ4 H4 W4 e4 er4 r4 b4 q4 => ⟨(wipe_but vs ⟨b4.1, fun j n => b4.2 j (fun z => n (hsub j z))⟩).trans (wipe_wipe σ vs), δ4, W4, _, er4, r4, q4, fun t H5 W5 e5 r5 q5 => ?_⟩⟩
      have e15 : Ext X.K H1 H5 := ((e2.trans e3).trans e4).trans e5
      cases t with
      | false => exact ⟨W5, r5, e15, q5⟩
      | true =>
        refine ⟨δ4, W5, _, er4.ext e5, r5, q5, fun J1 ys keep1 H6 W6 e6 r6 q6 ok1 => ?_⟩
        refine ⟨fun j m2 H7 => ∃ W7, Rel X.K H7 W7 ∧ Ext X.K H6 H7 ∧ lcI keep1 gg1 tt1 f Dp vs1 (lcO keep gg tt fi1 gg1 tt1 f Dp vs vs1 (fun W2 => Q' (.ref Dp) W2) (xs.drop (i + 1)) δ) (ys.drop j) δ4 W7 ∧ j + m2 = ys.length, ⟨ys.length, W6, r6, Ext.refl _, q6, by omega⟩, ?_⟩
        rintro j m2 H7 ⟨W7, r7, e7, q7, hm7⟩
        have kp7 := lcI.keep q7
        have e17 : Ext X.K H1 H7 := (e15.trans e6).trans e7
        by_cases hlt2 : j < ys.length
        · refine .inr ⟨ok1.go H7 W7 j e7 r7 kp7 hlt2, fun H' => ∃ W8, Rel X.K H' W8 ∧ Ext X.K H6 H' ∧ lcI keep1 gg1 tt1 f Dp vs1 (lcO keep gg tt fi1 gg1 tt1 f Dp vs vs1 (fun W2 => Q' (.ref Dp) W2) (xs.drop (i + 1)) δ) (ys.drop (j + 1)) δ4 W8, fun H' ⟨W8, a2, a3, a4⟩ => ⟨m2 - 1, by omega, W8, a2, a3, a4, by omega⟩, fun x H8 hy => ?_⟩
          obtain ⟨d8, ed8, e8, r8, dv8⟩ := ok1.yld H7 W7 j x H8 e7 r7 kp7 hlt2 hy
          rw [List.drop_eq_getElem_cons hlt2] at q7
          have hd8 : ys[j] = d8 := Option.some.inj ((List.getElem?_eq_getElem hlt2).symm.trans ed8)
          rw [hd8] at q7
          have er8 : EnvR X.K H8 δ4 σ4 := er4.ext (((e5.trans e6).trans e7).trans e8)
          refine ⟨d8, wipeD δ4 vs1, W7, _, dv8, er8.wipe vs1, r8, q7.2, fun σ9 δ9 H9 W9 e9 er9 r9 b9 q9 => ⟨(wipe_but vs1 ⟨b9.1, fun j n => b9.2 j (fun z => n (hsub1 j z))⟩).trans (wipe_wipe σ4 vs1), δ9, W9, _, er9, r9, q9, fun t H10 W10 e10 r10 q10 => ?_⟩⟩
          have e610 : Ext X.K H6 H10 := ((e7.trans e8).trans e9).trans e10
          cases t with
          | false => exact ⟨W10, r10, e610, q10⟩
          | true => exact ⟨δ9, W10, _, er9.ext e10, r10, q10, fun y dy H11 W11 e11 r11 v11 ⟨acc, w11, hl, q11⟩ => by
              obtain ⟨us, s11, d11⟩ := r11 _ _ w11
              exact ⟨us, s11, by rw [d11.length]; exact hl, wup W11 Dp (.lst (acc ++ [dy])), r11.wput s11 trivial (hasL upd_same (DVs.ext (Ext.put s11 trivial) (DVs.append d11 (DVs.one v11)))), (e610.trans e11).trans (Ext.put s11 trivial), q11⟩⟩
        · refine .inl ⟨ok1.stop H7 W7 j e7 r7 kp7 (by omega), W7, r7, e17, ?_⟩
          have hnil : ys.drop j = [] := List.drop_eq_nil_of_le (by omega)
          rw [hnil] at q7
          exact q7.2
    · refine .inl ⟨ok.stop H2 W2 i e2 r2 kp (by omega), ?_⟩
      rw [List.drop_eq_nil_of_le (by omega)] at q2
      exact k _ (.ref Dp) H2 W2 (e1.trans e2) r2 rfl q2.2⟩
theorem se_lc2 {elt tg iter tg1 iter1 : Expr} {ifs ifs1 : List Expr} {scope : Scope} {own : List (Str × Nat)} {fi fi1 : FI} {gg gg1 : FG} {tt tt1 : FT} {is is1 : List Nat} (vs1 : List Nat) (hc : X.calm = true) (hN : X.N.Nodup) (hi : SI X tg iter fi) (ok : BlkOk X.N X.env.scope scope own)
    (hg : ∀ (s : Shared) (H : Hp) (C : Addr) (cl : List (Str × Addr)) (fp : List Addr), SC (X.blk s H scope (compEnvC scope cl C X.env) fp) tg is gg) (ht : ∀ (s : Shared) (H : Hp) (C : Addr) (cl : List (Str × Addr)) (fp : List Addr), SPs (X.blk s H scope (compEnvC scope cl C X.env) fp) ifs tt)
    (hi1 : ∀ (s : Shared) (H : Hp) (C : Addr) (cl : List (Str × Addr)) (fp : List Addr), SI (X.blk s H scope (compEnvC scope cl C X.env) fp) tg1 iter1 fi1)
    (hg1 : ∀ (s : Shared) (H : Hp) (C : Addr) (cl : List (Str × Addr)) (fp : List Addr), SC (X.blk s H scope (compEnvC scope cl C X.env) fp) tg1 is1 gg1) (ht1 : ∀ (s : Shared) (H : Hp) (C : Addr) (cl : List (Str × Addr)) (fp : List Addr), SPs (X.blk s H scope (compEnvC scope cl C X.env) fp) ifs1 tt1)
    (he : ∀ (s : Shared) (H : Hp) (C : Addr) (cl : List (Str × Addr)) (fp : List Addr), SE (X.blk s H scope (compEnvC scope cl C X.env) fp) elt f) (hsub : ∀ i ∈ is, i ∈ own.map (·.2) := by decide) (hsub1 : ∀ i ∈ is1, i ∈ vs1 := by decide) (hv : ∀ i ∈ vs1, i ∈ own.map (·.2) := by decide)
    (hs : ∀ x, foldedSetIterable iter X.env x = pure x := by intro _; rfl) (hs1 : ∀ env x, foldedSetIterable iter1 env x = pure x := by intro _ _; rfl) :
    SE X (.ListComp elt [⟨tg, iter, ifs, 0⟩, ⟨tg1, iter1, ifs1, 0⟩] scope pos) (fLc2 fi gg tt fi1 gg1 tt1 f (own.map (·.2)) vs1) := PEimp (pe_lc2 hc hN hi ok hv hg ht hi1 hg1 ht1 he hs hs1) (tE_lc2 hsub hsub1)
end
end DL
/-! Dl11: readings that leave all as it is: what they come to. -/
namespace DL
open PySem PySem.Spec PyProof.Rows L2
abbrev RW3 := DW → D → DW → Prop
def RM (R : RW3) : Prop := ∀ A B d C, Sub A B → R B d C → R A d C
def Is (d : D) : RW3 := fun _ x _ => x = d
def New (xs : List D) : RW3 := fun A x B => ∃ p, x = .ref p ∧ A p = none ∧ B p = some (.lst xs)
theorem Sub.none {A B : DW} {p : Addr} (s : Sub A B) (h : B p = Option.none) : A p = Option.none := by
  cases e : A p with
  | none => rfl
  | some o => have := s p o e; rw [h] at this; cases this
theorem rm_is {d : D} : RM (Is d) := fun _ _ _ _ _ h => h
theorem rm_new {xs : List D} : RM (New xs) := fun A B d C s ⟨p, e, h, w⟩ => ⟨p, e, s.none h, w⟩
def Ev (f : FE) (δ : Env) (W : DW) (R : RW3) : Prop := ∀ W1 (Q : DK), Sub W W1 → (∀ d W2, Sub W1 W2 → R W1 d W2 → Q d W2) → f δ W1 Q
def EvA (f : FA) (δ : Env) (W : DW) (ds : List D) : Prop := ∀ W1 (Q : List D → DW → Prop), Sub W W1 → (∀ W2, Sub W1 W2 → Q ds W2) → f δ W1 Q
def EvT (p : FT) (δ : Env) (W : DW) (b : Bool) : Prop := ∀ W1 (Q : Bool → DW → Prop), Sub W W1 → (∀ W2, Sub W1 W2 → Q b W2) → p δ W1 Q
def EvO (F : R2D) (x y : D) (W : DW) (R : RW3) : Prop := ∀ W1 (Q : DK), Sub W W1 → (∀ d W2, Sub W1 W2 → R W1 d W2 → Q d W2) → F x y W1 Q
def EvB (F : RD) (ds : List D) (W : DW) (R : RW3) : Prop := ∀ W1 (Q : DK), Sub W W1 → (∀ d W2, Sub W1 W2 → R W1 d W2 → Q d W2) → F ds W1 Q
def EvI (fi : FI) (δ : Env) (W : DW) (xs : List D) : Prop := ∀ W1 (R : List D → (DW → Prop) → DW → Prop), Sub W W1 → (∀ keep W2, Sub W1 W2 → (∀ W3, Sub W2 W3 → keep W3) → R xs keep W2) → fi δ W1 R
def EvJ (fi : FI) (δ : Env) (W : DW) (xs : List D) : Prop := ∀ W1 (R : List D → (DW → Prop) → DW → Prop), Sub W W1 → (∀ keep W2, Sub W1 W2 → (∀ W3, Sub W W3 → keep W3) → R xs keep W2) → fi δ W1 R
section
variable {f g h : FE} {r : FA} {p q : FT} {δ : Env} {W W0 : DW} {R : RW3} {a b d x y : D} {ds xs : List D} {F : R2D} {B : RD} {fi : FI}
theorem Ev.up (e : Ev f δ W R) (s : Sub W W0) : Ev f δ W0 R := fun W1 Q s1 k => e W1 Q (s.trans s1) k
theorem EvT.up {k : Bool} (e : EvT p δ W k) (s : Sub W W0) : EvT p δ W0 k := fun W1 Q s1 k => e W1 Q (s.trans s1) k
theorem EvI.up (e : EvI fi δ W xs) (s : Sub W W0) : EvI fi δ W0 xs := fun W1 Q s1 k => e W1 Q (s.trans s1) k
theorem Ev.run (e : Ev f δ W R) {Q : DK} (k : ∀ d W2, Sub W W2 → R W d W2 → Q d W2) : f δ W Q := e W Q (Sub.refl W) k
theorem Ev.runI (e : Ev f δ W (Is d)) {Q : DK} (k : ∀ W2, Sub W W2 → Q d W2) : f δ W Q := e W Q (Sub.refl W) fun x W2 s i => by rw [show x = d from i]; exact k W2 s
theorem Ev.runN (e : Ev f δ W (New xs)) {Q : DK} (k : ∀ p W2, Sub W W2 → W p = none → W2 p = some (.lst xs) → Q (.ref p) W2) : f δ W Q := e W Q (Sub.refl W) fun x W2 s i => by obtain ⟨p, rfl, h1, h2⟩ := i; exact k p W2 s h1 h2
theorem EvT.run {k : Bool} (e : EvT p δ W k) {Q : Bool → DW → Prop} (n : ∀ W2, Sub W W2 → Q k W2) : p δ W Q := e W Q (Sub.refl W) n
theorem EvA.run (e : EvA r δ W ds) {Q : List D → DW → Prop} (n : ∀ W2, Sub W W2 → Q ds W2) : r δ W Q := e W Q (Sub.refl W) n
theorem ev_var {i : Nat} (hd : δ[i]? = some (some d)) : Ev (fVar i) δ W (Is d) := fun W1 Q s k => ⟨d, hd, k d W1 (Sub.refl _) rfl⟩
theorem ev_c : Ev (fC d) δ W (Is d) := fun W1 Q s k => k d W1 (Sub.refl _) rfl
theorem ev_bin (ha : Ev f δ W (Is a)) (hb : Ev g δ W (Is b)) (ho : EvO F a b W R) (hR : RM R := by first | exact rm_is | exact rm_new) : Ev (fBin F f g) δ W R := fun W1 Q s k =>
  ha W1 _ s fun x W2 s2 i => by
    rw [show x = a from i]
    exact hb W2 _ (s.trans s2) fun y W3 s3 j => by
      rw [show y = b from j]
      exact ho W3 Q (s.trans (s2.trans s3)) fun z W4 s4 l => k z W4 (s2.trans (s3.trans s4)) (hR _ _ _ _ (s2.trans s3) l)
theorem eva_nil : EvA fNil δ W [] := fun W1 Q s k => k W1 (Sub.refl _)
theorem eva_cons (h : Ev f δ W (Is d)) (t : EvA r δ W ds) : EvA (fCons f r) δ W (d :: ds) := fun W1 Q s k =>
  h W1 _ s fun x W2 s2 i => by
    rw [show x = d from i]
    exact t W2 _ (s.trans s2) fun W3 s3 => k W3 (s2.trans s3)
theorem ev_tup (h : EvA r δ W ds) (hl : ds.length ≤ sizeLine) : Ev (fTup r) δ W (Is (.tup ds)) := fun W1 Q s k => h W1 _ s fun W2 s2 => ⟨hl, k _ W2 s2 rfl⟩
theorem ev_lst (h : EvA r δ W ds) (hl : ds.length ≤ sizeLine) : Ev (fLst r) δ W (New ds) := fun W1 Q s k => h W1 _ s fun W2 s2 => ⟨hl, fun p hp => k _ _ (s2.new (s2.none hp)) ⟨p, rfl, s2.none hp, wup_same⟩⟩
theorem ev_call {sp : SpD} (h : EvA r δ W ds) (hs : EvB sp ds W R) (hR : RM R := by first | exact rm_is | exact rm_new) : Ev (fCall sp r) δ W R := fun W1 Q s k => h W1 _ s fun W2 s2 => hs W2 Q (s.trans s2) fun z W3 s3 l => k z W3 (s2.trans s3) (hR _ _ _ _ s2 l)
theorem ev_b1 (h : EvA r δ W ds) (hs : EvB B ds W R) (hR : RM R := by first | exact rm_is | exact rm_new) : Ev (fB1 B r) δ W R := fun W1 Q s k => h W1 _ s fun W2 s2 => hs W2 Q (s.trans s2) fun z W3 s3 l => k z W3 (s2.trans s3) (hR _ _ _ _ s2 l)
theorem ev_b1N (h : Ev f δ W (New xs)) (hs : ∀ p W1, W1 p = some (.lst xs) → EvB B [.ref p] W1 R) (hR : RM R := by first | exact rm_is | exact rm_new) : Ev (fB1 B (fCons f fNil)) δ W R := fun W1 Q s k =>
  h W1 _ s fun x W2 s2 i => by
    obtain ⟨p, rfl, h1, h2⟩ := i
    exact hs p W2 h2 W2 Q (Sub.refl _) fun z W3 s3 l => k z W3 (s2.trans s3) (hR _ _ _ _ s2 l)
theorem ev_callN {sp : SpD} {fs : FE} (h : Ev f δ W (New xs)) (hs : ∀ p W1, W1 p = some (.lst xs) → EvB sp [.ref p] W1 R) (hR : RM R := by first | exact rm_is | exact rm_new) : Ev (fCall sp (fCons f fNil)) δ W R := ev_b1N (B := sp) h hs hR
/-! tests -/
theorem evt_b {k : Bool} (h : Ev f δ W (Is (.bl k))) : EvT (fB f) δ W k := fun W1 Q s n => h W1 _ s fun x W2 s2 i => by rw [show x = D.bl k from i]; exact n W2 s2
theorem evt_tru {k : Bool} (h : Ev f δ W (Is d)) (ht : ∀ W1, Sub W W1 → tru W1 d = some k) : EvT (fTru f) δ W k := fun W1 Q s n => h W1 _ s fun x W2 s2 i => by rw [show x = d from i]; exact ⟨k, ht W2 (s.trans s2), n W2 s2⟩
theorem evt_not {k : Bool} (h : EvT p δ W k) : EvT (fNotT p) δ W (!k) := fun W1 Q s n => h W1 _ s fun W2 s2 => n W2 s2
theorem evt_and {k l : Bool} (h : EvT p δ W k) (h2 : k = true → EvT q δ W l) : EvT (fAndT p q) δ W (k && l) := fun W1 Q s n => h W1 _ s fun W2 s2 => by
  cases k with
  | true => exact h2 rfl W2 _ (s.trans s2) fun W3 s3 => n W3 (s2.trans s3)
  | false => exact n W2 s2
theorem evt_or {k l : Bool} (h : EvT p δ W k) (h2 : k = false → EvT q δ W l) : EvT (fOrT p q) δ W (k || l) := fun W1 Q s n => h W1 _ s fun W2 s2 => by
  cases k with
  | false => exact h2 rfl W2 _ (s.trans s2) fun W3 s3 => n W3 (s2.trans s3)
  | true => exact n W2 s2
theorem evt_yes : EvT fYes δ W true := fun W1 Q s n => n W1 (Sub.refl _)
theorem ev_notV {k : Bool} (h : Ev f δ W (Is (.bl k))) : Ev (fNotV f) δ W (Is (.bl !k)) := fun W1 Q s n => h W1 _ s fun x W2 s2 i => by rw [show x = D.bl k from i]; exact n _ W2 s2 rfl
theorem ev_andV {k l : Bool} (h : Ev f δ W (Is (.bl k))) (h2 : k = true → Ev g δ W (Is (.bl l))) : Ev (fAndV f g) δ W (Is (.bl (k && l))) := fun W1 Q s n => h W1 _ s fun x W2 s2 i => by
  rw [show x = D.bl k from i]
  cases k with
  | true => exact h2 rfl W2 _ (s.trans s2) fun z W3 s3 j => n _ W3 (s2.trans s3) j
  | false => exact n _ W2 s2 rfl
theorem ev_orV {k l : Bool} (h : Ev f δ W (Is (.bl k))) (h2 : k = false → Ev g δ W (Is (.bl l))) : Ev (fOrV f g) δ W (Is (.bl (k || l))) := fun W1 Q s n => h W1 _ s fun x W2 s2 i => by
  rw [show x = D.bl k from i]
  cases k with
  | false => exact h2 rfl W2 _ (s.trans s2) fun z W3 s3 j => n _ W3 (s2.trans s3) j
  | true => exact n _ W2 s2 rfl
theorem ev_if {k : Bool} (h : EvT p δ W k) (h1 : k = true → Ev f δ W R) (h2 : k = false → Ev g δ W R) (hR : RM R := by first | exact rm_is | exact rm_new) : Ev (fIf p f g) δ W R := fun W1 Q s n => h W1 _ s fun W2 s2 => by
  cases k with
  | true => exact h1 rfl W2 Q (s.trans s2) fun z W3 s3 l => n z W3 (s2.trans s3) (hR _ _ _ _ s2 l)
  | false => exact h2 rfl W2 Q (s.trans s2) fun z W3 s3 l => n z W3 (s2.trans s3) (hR _ _ _ _ s2 l)
/-! operations -/
theorem evo_ii {G : Int → Int → D} {i j : Int} : EvO (pII0 G) (.int i) (.int j) W (Is (G i j)) := fun W1 Q s k => k _ W1 (Sub.refl _) rfl
theorem evo_addI {i j : Int} : EvO pAdd (.int i) (.int j) W (Is (.int (i + j))) := fun W1 Q s k => k _ W1 (Sub.refl _) rfl
theorem evo_addT {us ws : List D} (hl : us.length + ws.length ≤ sizeLine) : EvO pAdd (.tup us) (.tup ws) W (Is (.tup (us ++ ws))) := fun W1 Q s k => ⟨hl, k _ W1 (Sub.refl _) rfl⟩
theorem ixD_sub (s : Sub W W0) : ∀ {x y d : D}, ixD W x y = some d → ixD W0 x y = some d := by
  intro x y d e
  cases x with
  | ref c =>
    simp only [ixD] at e ⊢
    cases w : W c with
    | none => rw [w] at e; cases e
    | some o => rw [w] at e; rw [s c o w]; exact e
  | _ => cases y <;> first | exact e | cases e
theorem evo_ix (e : ixD W x y = some d) : EvO pSub' x y W (Is d) := fun W1 Q s k => ⟨d, ixD_sub s e, k _ W1 (Sub.refl _) rfl⟩
theorem evo_notN : EvO pNotN x .non W (Is (.bl (!x.isN))) := fun W1 Q s k => k _ W1 (Sub.refl _) rfl
theorem evo_isN : EvO pIsN x .non W (Is (.bl x.isN)) := fun W1 Q s k => k _ W1 (Sub.refl _) rfl
mutual
theorem Py.up (s : Sub W W0) : ∀ {d : D} {z : PyData}, Py W d z → Py W0 d z
  | _, _, .non => .non
  | _, _, .bl k => .bl k
  | _, _, .int i => .int i
  | _, _, .str i => .str i
  | _, _, .tup h => .tup (Pys.up s h)
  | _, _, .rl h => .rl (Pys.up s h)
  | _, _, .lst w h => .lst (s _ _ w) (Pys.up s h)
theorem Pys.up (s : Sub W W0) : ∀ {ds : List D} {zs : List PyData}, Pys W ds zs → Pys W0 ds zs
  | _, _, .nil => .nil
  | _, _, .cons h t => .cons (Py.up s h) (Pys.up s t)
end
theorem evo_eq {u v : PyData} (hx : Py W x u) (hy : Py W y v) (sx : SeqAt.shaped u = true) (sy : SeqAt.shaped v = true) : EvO pEq x y W (Is (.bl (PyData.eqv u v))) := fun W1 Q s k => ⟨u, v, hx.up s, hy.up s, sx, sy, k _ W1 (Sub.refl _) rfl⟩
theorem evo_ne {u v : PyData} (hx : Py W x u) (hy : Py W y v) (sx : SeqAt.shaped u = true) (sy : SeqAt.shaped v = true) : EvO pNe x y W (Is (.bl (!PyData.eqv u v))) := fun W1 Q s k => ⟨u, v, hx.up s, hy.up s, sx, sy, k _ W1 (Sub.refl _) rfl⟩
theorem Ins.up (s : Sub W W0) {zs : List PyData} (h : Ins W y zs) : Ins W0 y zs := h.imp (fun ⟨a, b⟩ => ⟨a.up s, b⟩) fun ⟨a, b⟩ => ⟨a.up s, b⟩
theorem evo_in {u : PyData} {zs : List PyData} (hx : Py W x u) (hy : Ins W y zs) (sx : SeqAt.shaped u = true) : EvO (pInA false) x y W (Is (.bl (zs.any fun z => PyData.eqv z u))) := fun W1 Q s k => .inl ⟨u, zs, hx.up s, hy.up s, sx, k _ W1 (Sub.refl _) rfl⟩
theorem evo_notIn {u : PyData} {zs : List PyData} (hx : Py W x u) (hy : Ins W y zs) (sx : SeqAt.shaped u = true) : EvO (pInA true) x y W (Is (.bl (!zs.any fun z => PyData.eqv z u))) := fun W1 Q s k => .inl ⟨u, zs, hx.up s, hy.up s, sx, k _ W1 (Sub.refl _) rfl⟩
/-! builtins -/
theorem lenD_sub (s : Sub W W0) {n : Nat} : ∀ {x : D}, lenD W x = some n → lenD W0 x = some n := by
  intro x e
  cases x with
  | ref c =>
    simp only [lenD] at e ⊢
    cases w : W c with
    | none => rw [w] at e; cases e
    | some o => rw [w] at e; rw [s c o w]; exact e
  | _ => first | exact e | cases e
theorem seqD_sub (s : Sub W W0) : ∀ {x : D}, seqD W x = some xs → seqD W0 x = some xs := by
  intro x e
  cases x with
  | ref c =>
    simp only [seqD] at e ⊢
    cases w : W c with
    | none => rw [w] at e; cases e
    | some o => rw [w] at e; rw [s c o w]; exact e
  | _ => first | exact e | cases e
theorem evb_len {n : Nat} (e : lenD W x = some n) : EvB bLen [x] W (Is (.int n)) := fun W1 Q s k => ⟨x, n, rfl, lenD_sub s e, k _ W1 (Sub.refl _) rfl⟩
theorem evb_tuple (e : seqD W x = some xs) : EvB bTuple [x] W (Is (.tup xs)) := fun W1 Q s k => ⟨x, xs, rfl, seqD_sub s e, k _ W1 (Sub.refl _) rfl⟩
theorem evb_list (e : seqD W x = some xs) : EvB bList [x] W (New xs) := fun W1 Q s k => ⟨x, xs, rfl, seqD_sub s e, fun p hp => k _ _ ((Sub.refl W1).new hp) ⟨p, rfl, hp, wup_same⟩⟩
theorem evb_any {c : Addr} {ns : List Bool} (e : W c = some (.lst (ns.map D.bl))) : EvB bAny [.ref c] W (Is (.bl (ns.any id))) := fun W1 Q s k => ⟨c, ns, rfl, s _ _ e, k _ W1 (Sub.refl _) rfl⟩
theorem evb_all {c : Addr} {ns : List Bool} (e : W c = some (.lst (ns.map D.bl))) : EvB bAll [.ref c] W (Is (.bl (ns.all id))) := fun W1 Q s k => ⟨c, ns, rfl, s _ _ e, k _ W1 (Sub.refl _) rfl⟩
theorem evb_sum {c : Addr} {ns : List Int} (e : W c = some (.lst (ns.map D.int))) : EvB bSum [.ref c] W (Is (.int ns.sum)) := fun W1 Q s k => ⟨c, ns, rfl, s _ _ e, k _ W1 (Sub.refl _) rfl⟩
theorem evb_max {c : Addr} {ns : List Int} {m : Int} (e : W c = some (.lst (ns.map D.int))) (h0 : 0 < ns.length) (hm : ∀ z, z ∈ ns → (∀ y, y ∈ ns → y ≤ z) → z = m) : EvB bMax [.ref c] W (Is (.int m)) := fun W1 Q s k =>
  ⟨c, ns, rfl, s _ _ e, h0, fun z hz hy => by rw [hm z hz hy]; exact k _ W1 (Sub.refl _) rfl⟩
theorem evb_max2 {i j : Int} : EvB bMax2 [.int i, .int j] W (Is (.int (max i j))) := fun W1 Q s k => ⟨i, j, rfl, by rw [show (if j > i then j else i) = max i j by omega]; exact k _ W1 (Sub.refl _) rfl⟩
theorem evb_min2 {i j : Int} : EvB bMin2 [.int i, .int j] W (Is (.int (min i j))) := fun W1 Q s k => ⟨i, j, rfl, by rw [show (if j < i then j else i) = min i j by omega]; exact k _ W1 (Sub.refl _) rfl⟩
theorem evb_intB {k : Bool} : EvB bInt [.bl k] W (Is (.int (if k then 1 else 0))) := fun W1 Q s n => n _ W1 (Sub.refl _) rfl
theorem evb_intI {i : Int} : EvB bInt [.int i] W (Is (.int i)) := fun W1 Q s n => n _ W1 (Sub.refl _) rfl
theorem evb_sortT {c : Addr} {zs : List (List Int)} (e : W c = some (.lst (zs.map tupI))) (hn : ∀ z ∈ zs, z ≠ []) : EvB bSortA [.ref c] W (New ((zs.mergeSort leL).map tupI)) := fun W1 Q s k =>
  ⟨c, rfl, .inl ⟨zs, s _ _ e, hn, fun p hp => k _ _ ((Sub.refl W1).new hp) ⟨p, rfl, hp, wup_same⟩⟩⟩
/-! iterables -/
theorem EvJ.i (e : EvJ fi δ W xs) : EvI fi δ W xs := fun W1 R s k => e W1 R s fun keep W2 s2 hk => k keep W2 s2 fun W3 s3 => hk W3 (s.trans (s2.trans s3))
theorem EvJ.up (e : EvJ fi δ W xs) (s : Sub W W0) : EvJ fi δ W0 xs := fun W1 R s1 k => e W1 R (s.trans s1) fun keep W2 s2 hk => k keep W2 s2 fun W3 s3 => hk W3 (s.trans s3)
theorem keepD_of (e : seqD W d = some xs) : keepD d xs W := by
  cases d with
  | ref c =>
    simp only [seqD] at e
    show W c = _
    cases w : W c with
    | none => rw [w] at e; cases e
    | some o => rw [w] at e; cases o <;> simp at e; rw [e]
  | _ => trivial
theorem evi_seq (h : Ev f δ W (Is d)) (e : seqD W d = some xs) : EvJ (fSeq f) δ W xs := fun W1 R s k => h W1 _ s fun x W2 s2 i => by
  rw [show x = d from i]
  exact ⟨xs, seqD_sub (s.trans s2) e, k _ W2 s2 fun W3 s3 => keepD_of (seqD_sub s3 e)⟩
theorem evi_seqN (h : Ev f δ W (New xs)) : EvI (fSeq f) δ W xs := fun W1 R s k => h W1 _ s fun x W2 s2 i => by
  obtain ⟨p, rfl, h1, h2⟩ := i
  exact ⟨xs, by simp only [seqD]; rw [h2], k _ W2 s2 fun W3 s3 => s3 _ _ h2⟩
theorem evi_rng1 {n : Int} (h : Ev f δ W (Is (.int n))) (h1 : -(2 ^ 62) ≤ n) (h2 : n < 2 ^ 62) : EvJ (fRng1 (fCons f fNil)) δ W (rngD 0 n.toNat) := fun W1 R s k => h W1 _ s fun x W2 s2 i => by
  rw [show x = D.int n from i]
  exact ⟨n, rfl, h1, h2, k _ W2 s2 fun _ _ => trivial⟩
theorem evi_rng2 {m n : Int} (h : Ev f δ W (Is (.int m))) (h' : Ev g δ W (Is (.int n))) (hb : -(2 ^ 62) ≤ m ∧ m < 2 ^ 62 ∧ -(2 ^ 62) ≤ n ∧ n < 2 ^ 62) : EvJ (fRng2 (fCons f (fCons g fNil))) δ W (rngD m (n - m).toNat) := fun W1 R s k => h W1 _ s fun x W2 s2 i => by
  rw [show x = D.int m from i]
  refine h' W2 _ (s.trans s2) fun y W3 s3 j => ?_
  rw [show y = D.int n from j]
  exact ⟨m, n, rfl, hb, k _ W3 (s2.trans s3) fun _ _ => trivial⟩
theorem evi_enum {c : Addr} (h : Ev f δ W (Is (.ref c))) (e : W c = some (.lst xs)) : EvJ (fEnum (fCons f fNil)) δ W (enD xs) := fun W1 R s k => h W1 _ s fun x W2 s2 i => by
  rw [show x = D.ref c from i]
  exact ⟨c, xs, rfl, s2 _ _ (s _ _ e), k _ W2 s2 fun W3 s3 => s3 _ _ e⟩
/-! comprehensions -/
theorem lcD_ev {α : Type} {enc : α → D} {keep : DW → Prop} {gt : FG} {tt : FT} {te : FE} {vs : List Nat} {u : α → Option D} {pp : Addr} {Q : DW → Prop} (hp : W pp = none) (hk : ∀ W3, Sub W W3 → keep W3)
    : ∀ {ys : List α} {acc : List D} {W1 : DW}, Sub W W1 → W1 pp = some (.lst acc) → (∀ z ∈ ys, ∃ δ2, (∀ W2 N, N δ2 W2 → gt (enc z) (wipeD δ vs) W2 N) ∧ EvT tt δ2 W (u z).isSome ∧ ∀ y, u z = some y → Ev te δ2 W (Is y)) →
      acc.length + (ys.filterMap u).length ≤ sizeLine → (∀ W2, Sub W W2 → W2 pp = some (.lst (acc ++ ys.filterMap u)) → (∀ c o, c ≠ pp → W1 c = some o → W2 c = some o) → Q W2) → lcD keep gt tt te pp vs Q (ys.map enc) δ W1 := by
  intro ys
  induction ys with
  | nil => intro acc W1 s w _ _ q; exact ⟨hk W1 s, q W1 s (by simpa using w) fun c o _ h => h⟩
  | cons z ys ih =>
    intro acc W1 s w hx hl q
    obtain ⟨δ2, hg, ht, he⟩ := hx z (by simp)
    refine ⟨hk W1 s, hg W1 _ (ht W1 _ s fun W2 s2 => ?_)⟩
    cases hu : u z with
    | none =>
      have e1 : (z :: ys).filterMap u = ys.filterMap u := by rw [List.filterMap_cons, hu]
      rw [e1] at hl q
      simp only [Option.isSome_none, Bool.false_eq_true, ↓reduceIte]
      exact ih (s.trans s2) (s2 _ _ w) (fun y hy => hx y (by simp [hy])) hl fun W3 s3 w3 k3 => q W3 s3 w3 fun c o hc ho => k3 c o hc (s2 c o ho)
    | some y =>
      have e1 : (z :: ys).filterMap u = y :: ys.filterMap u := by rw [List.filterMap_cons, hu]
      rw [e1] at hl q
      simp only [Option.isSome_some, ↓reduceIte]
      refine he y hu W2 _ (s.trans s2) fun x W3 s3 i => ?_
      rw [show x = y from i]
      have w3 := s3 _ _ (s2 _ _ w)
      simp only [List.length_cons] at hl
      refine ⟨acc, w3, by omega, ih ((s.trans (s2.trans s3)).new hp) wup_same (fun y hy => hx y (by simp [hy])) (by simp; omega) fun W4 s4 w4 k4 => q W4 s4 (by simpa using w4) fun c o hc ho => k4 c o hc (by rw [wup_ne hc]; exact s3 c o (s2 c o ho))⟩
theorem ev_lc {α : Type} {enc : α → D} {ys : List α} {gt : FG} {tt : FT} {te : FE} {vs : List Nat} (u : α → Option D) (hi : EvI fi δ W (ys.map enc))
    (hx : ∀ z ∈ ys, ∃ δ2, (∀ W2 N, N δ2 W2 → gt (enc z) (wipeD δ vs) W2 N) ∧ EvT tt δ2 W (u z).isSome ∧ ∀ y, u z = some y → Ev te δ2 W (Is y)) (hl : (ys.filterMap u).length ≤ sizeLine) : Ev (fLc fi gt tt te vs) δ W (New (ys.filterMap u)) := fun W1 Q s k =>
  hi W1 _ s fun keep W2 s2 hk p hp => lcD_ev (W := W2) hp hk ((Sub.refl W2).new hp) wup_same (fun z hz => by
      obtain ⟨δ2, h1, h2, h3⟩ := hx z hz
      exact ⟨δ2, h1, h2.up (s.trans s2), fun y e => (h3 y e).up (s.trans s2)⟩) (by simpa using hl)
    fun W3 s3 w3 _ => k _ W3 (s2.trans s3) ⟨p, rfl, s2.none hp, by simpa using w3⟩
theorem ev_lcM {α : Type} {enc : α → D} {ys : List α} {gt : FG} {te : FE} {vs : List Nat} (u : α → D) (hi : EvI fi δ W (ys.map enc))
    (hx : ∀ z ∈ ys, ∃ δ2, (∀ W2 N, N δ2 W2 → gt (enc z) (wipeD δ vs) W2 N) ∧ Ev te δ2 W (Is (u z))) (hl : ys.length ≤ sizeLine) : Ev (fLc fi gt fYes te vs) δ W (New (ys.map u)) := by
  have := ev_lc (fi := fi) (gt := gt) (tt := fYes) (te := te) (vs := vs) (fun z => some (u z)) hi (fun z hz => by
    obtain ⟨δ2, h1, h2⟩ := hx z hz
    exact ⟨δ2, h1, evt_yes, fun y e => by cases e; exact h2⟩) (by simpa using hl)
  simpa using this
/-! two lists, one within the other -/
theorem lcI_ev {α : Type} {enc : α → D} {keep : DW → Prop} {gt : FG} {te : FE} {vs : List Nat} {u : α → D} {pp : Addr} {N : DW → Prop} (hp : W pp = none) (hk : ∀ W3, Sub W W3 → keep W3)
    : ∀ {ys : List α} {acc : List D} {W1 : DW}, Sub W W1 → W1 pp = some (.lst acc) → (∀ z ∈ ys, ∃ δ2, (∀ W2 N, N δ2 W2 → gt (enc z) (wipeD δ vs) W2 N) ∧ Ev te δ2 W (Is (u z))) →
      acc.length + ys.length ≤ sizeLine → (∀ W2, Sub W W2 → W2 pp = some (.lst (acc ++ ys.map u)) → N W2) → lcI keep gt fYes te pp vs N (ys.map enc) δ W1 := by
  intro ys
  induction ys with
  | nil => intro acc W1 s w _ _ q; exact ⟨hk W1 s, q W1 s (by simpa using w)⟩
  | cons z ys ih =>
    intro acc W1 s w hx hl q
    obtain ⟨δ2, hg, he⟩ := hx z (by simp)
    refine ⟨hk W1 s, hg W1 _ ?_⟩
    unfold fYes
    simp only [↓reduceIte]
    refine he W1 _ s fun x W3 s3 i => ?_
    rw [show x = u z from i]
    simp only [List.length_cons] at hl
    exact ⟨acc, s3 _ _ w, by omega, ih ((s.trans s3).new hp) wup_same (fun y hy => hx y (by simp [hy])) (by simp; omega) fun W4 s4 w4 => q W4 s4 (by simpa using w4)⟩
theorem lcO_ev {α β : Type} {enc : α → D} {en1 : β → D} {bs : α → List β} {keep : DW → Prop} {gt : FG} {fi1 : FI} {g1 : FG} {te : FE} {vs vs1 : List Nat} {u : α → β → D} {pp : Addr} {Q : DW → Prop} (hp : W pp = none) (hk : ∀ W3, Sub W W3 → keep W3)
    : ∀ {ys : List α} {acc : List D} {W1 : DW}, Sub W W1 → W1 pp = some (.lst acc) → (∀ z ∈ ys, ∃ δ2, (∀ W2 N, N δ2 W2 → gt (enc z) (wipeD δ vs) W2 N) ∧ EvJ fi1 δ2 W ((bs z).map en1) ∧ ∀ t ∈ bs z, ∃ δ3, (∀ W2 N, N δ3 W2 → g1 (en1 t) (wipeD δ2 vs1) W2 N) ∧ Ev te δ3 W (Is (u z t))) →
      acc.length + (ys.flatMap fun z => (bs z).map (u z)).length ≤ sizeLine → (∀ W2, Sub W W2 → W2 pp = some (.lst (acc ++ ys.flatMap fun z => (bs z).map (u z))) → Q W2) → lcO keep gt fYes fi1 g1 fYes te pp vs vs1 Q (ys.map enc) δ W1 := by
  intro ys
  induction ys with
  | nil => intro acc W1 s w _ _ q; exact ⟨hk W1 s, q W1 s (by simpa using w)⟩
  | cons z ys ih =>
    intro acc W1 s w hx hl q
    obtain ⟨δ2, hg, hi, he⟩ := hx z (by simp)
    rw [List.flatMap_cons] at hl q
    simp only [List.length_append, List.length_map] at hl
    refine ⟨hk W1 s, hg W1 _ ?_⟩
    unfold fYes
    simp only [↓reduceIte]
    refine hi W1 _ s fun keep1 W2 s2 hk1 => ?_
    exact lcI_ev (W := W) hp hk1 (s.trans s2) (s2 _ _ w) he (by omega) fun W3 s3 w3 => ih s3 w3 (fun y hy => hx y (by simp [hy])) (by simp only [List.length_append, List.length_map]; omega) fun W4 s4 w4 => q W4 s4 (by simpa using w4)
theorem ev_lc2 {α β : Type} {enc : α → D} {en1 : β → D} {ys : List α} {bs : α → List β} {gt : FG} {fi1 : FI} {g1 : FG} {te : FE} {vs vs1 : List Nat} (u : α → β → D) (hi : EvI fi δ W (ys.map enc))
    (hx : ∀ z ∈ ys, ∃ δ2, (∀ W2 N, N δ2 W2 → gt (enc z) (wipeD δ vs) W2 N) ∧ EvJ fi1 δ2 W ((bs z).map en1) ∧ ∀ t ∈ bs z, ∃ δ3, (∀ W2 N, N δ3 W2 → g1 (en1 t) (wipeD δ2 vs1) W2 N) ∧ Ev te δ3 W (Is (u z t)))
    (hl : (ys.flatMap fun z => (bs z).map (u z)).length ≤ sizeLine) : Ev (fLc2 fi gt fYes fi1 g1 fYes te vs vs1) δ W (New (ys.flatMap fun z => (bs z).map (u z))) := fun W1 Q s k =>
  hi W1 _ s fun keep W2 s2 hk p hp => lcO_ev (W := W2) hp hk ((Sub.refl W2).new hp) wup_same (fun z hz => by
      obtain ⟨δ2, h1, h2, h3⟩ := hx z hz
      exact ⟨δ2, h1, h2.up (s.trans s2), fun t ht => by
        obtain ⟨δ3, h4, h5⟩ := h3 t ht
        exact ⟨δ3, h4, h5.up (s.trans s2)⟩⟩) (by simpa using hl)
    fun W3 s3 w3 => k _ W3 (s2.trans s3) ⟨p, rfl, s2.none hp, by simpa using w3⟩
end
/-! ### loops -/
theorem loop_ind {keep : DW → Prop} {g : FG} {body : FS} {E : DE} (I : List D → Env → DW → Prop) (h0 : ∀ δ W, I [] δ W → keep W ∧ E.nx δ W)
    (h1 : ∀ x xs δ W (N : Env → DW → Prop), (∀ δ W, I xs δ W → N δ W) → I (x :: xs) δ W → keep W ∧ g x δ W fun δ2 W2 => body { nx := N, rt := E.rt, bk := E.nx, ct := N } δ2 W2) : ∀ xs δ W, I xs δ W → loopD keep g body E xs δ W
  | [], δ, W, h => h0 δ W h
  | x :: xs, δ, W, h => h1 x xs δ W (loopD keep g body E xs) (fun δ W h => loop_ind I h0 h1 xs δ W h) h
theorem loop_find {α : Type} {enc : α → D} {keep : DW → Prop} {g : FG} {body : FS} {B : DE} {W : DW} (E : Env → Prop) (h : α → Option D) (hk : ∀ W3, Sub W W3 → keep W3) : ∀ {ys : List α} {δ : Env} {W1 : DW}, E δ → Sub W W1 →
    (∀ z ∈ ys, ∀ (B' : DE) δ1 W1, E δ1 → Sub W W1 → (∀ r, h z = some r → ∀ W2, Sub W1 W2 → B'.rt r W2) → (h z = none → ∀ δ2 W2, E δ2 → Sub W1 W2 → B'.nx δ2 W2) → g (enc z) δ1 W1 fun δ2 W2 => body B' δ2 W2) →
    (∀ r, ys.findSome? h = some r → ∀ W2, Sub W W2 → B.rt r W2) → (ys.findSome? h = none → ∀ δ2 W2, E δ2 → Sub W W2 → B.nx δ2 W2) → loopD keep g body B (ys.map enc) δ W1
  | [], δ, W1, hE, s, _, _, hn => ⟨hk W1 s, hn rfl δ W1 hE s⟩
  | z :: ys, δ, W1, hE, s, hb, hr, hn => ⟨hk W1 s, hb z (by simp) _ δ W1 hE s (fun r e W2 s2 => hr r (by rw [List.findSome?_cons, e]) W2 (s.trans s2)) fun e δ2 W2 e2 s2 =>
      loop_find E h hk e2 (s.trans s2) (fun y hy => hb y (by simp [hy])) (fun r q => hr r (by rw [List.findSome?_cons, e]; exact q)) fun q => hn (by rw [List.findSome?_cons, e]; exact q)⟩
theorem for_find {α : Type} {enc : α → D} {ys : List α} {fi : FI} {g : FG} {body : FS} {B : DE} {δ : Env} {W : DW} (E : Env → Prop) (h : α → Option D) (hi : EvJ fi δ W (ys.map enc)) (hE : E δ)
    (hb : ∀ z ∈ ys, ∀ (B' : DE) δ1 W1, E δ1 → Sub W W1 → (∀ r, h z = some r → ∀ W2, Sub W1 W2 → B'.rt r W2) → (h z = none → ∀ δ2 W2, E δ2 → Sub W1 W2 → B'.nx δ2 W2) → g (enc z) δ1 W1 fun δ2 W2 => body B' δ2 W2)
    (hr : ∀ r, ys.findSome? h = some r → ∀ W2, Sub W W2 → B.rt r W2) (hn : ys.findSome? h = none → ∀ δ2 W2, E δ2 → Sub W W2 → B.nx δ2 W2) : sFor fi g body B δ W :=
  hi W _ (Sub.refl W) fun keep W2 s2 hk => loop_find (W := W) E h hk hE s2 hb hr hn
/-! ### data that is compared -/
theorem pys_map {α : Type} {W : DW} {f : α → D} {g : α → PyData} (h : ∀ x, Py W (f x) (g x)) : ∀ xs : List α, Pys W (xs.map f) (xs.map g)
  | [] => .nil
  | x :: xs => .cons (h x) (pys_map h xs)
theorem py_tupI {W : DW} (x : List Int) : Py W (tupI x) (encT x) := .tup (pys_map (fun i => .int i) x)
theorem lay_map {α : Type} {g : α → PyData} (h : ∀ x, PyData.canLay0 (g x) = true) : ∀ xs : List α, PyData.canLayAll0 (xs.map g) = true
  | [] => by simp [PyData.canLayAll0]
  | x :: xs => by simp [PyData.canLayAll0, h x, lay_map h xs]
theorem dep_map {α : Type} {g : α → PyData} {n : Nat} (h : ∀ x, PyData.depth (g x) ≤ n) : ∀ xs : List α, PyData.depthAll (xs.map g) ≤ n
  | [] => by simp [PyData.depthAll]
  | x :: xs => by have := dep_map h xs; have := h x; simp only [List.map_cons, PyData.depthAll]; omega
theorem shaped_of {d : PyData} (h1 : PyData.canLay0 d = true) (h2 : d.depth ≤ 64) : SeqAt.shaped d = true := by
  unfold SeqAt.shaped
  rw [h1, Bool.true_and]
  exact decide_eq_true h2
theorem lay_encT (x : List Int) : PyData.canLay0 (encT x) = true := by unfold encT; simp only [PyData.canLay0]; exact lay_map (fun i => by simp [PyData.canLay0]) x
theorem dep_encT (x : List Int) : PyData.depth (encT x) ≤ 1 := by unfold encT; simp only [PyData.depth]; have := dep_map (n := 0) (g := PyData.int) (fun i => by simp [PyData.depth]) x; omega
theorem shaped_encT (x : List Int) : SeqAt.shaped (encT x) = true := shaped_of (lay_encT x) (Nat.le_trans (dep_encT x) (by decide))
theorem shaped_encTs (x : List (List Int)) : SeqAt.shaped (.list (x.map encT)) = true := shaped_of (by simp only [PyData.canLay0]; exact lay_map lay_encT x) (by simp only [PyData.depth]; have := dep_map dep_encT x; omega)
theorem shaped_int {i : Int} : SeqAt.shaped (.int i) = true := shaped_of (by simp [PyData.canLay0]) (by simp [PyData.depth])
theorem shaped_intsL (x : List Int) : SeqAt.shaped (.list (x.map .int)) = true := shaped_of (by simp only [PyData.canLay0]; exact lay_map (fun i => by simp [PyData.canLay0]) x) (by simp only [PyData.depth]; have := dep_map (n := 0) (g := PyData.int) (fun i => by simp [PyData.depth]) x; omega)
theorem eqvAll_map {α : Type} [DecidableEq α] {g : α → PyData} (h : ∀ x y, PyData.eqv (g x) (g y) = decide (x = y)) : ∀ xs ys : List α, PyData.eqvAll (xs.map g) (ys.map g) = decide (xs = ys)
  | [], [] => by simp [PyData.eqvAll]
  | [], _ :: _ => by simp [PyData.eqvAll]
  | _ :: _, [] => by simp [PyData.eqvAll]
  | x :: xs, y :: ys => by
    simp only [List.map_cons, PyData.eqvAll, h x y, eqvAll_map h xs ys]
    by_cases z : x = y <;> simp [z]
theorem eqv_int (i j : Int) : PyData.eqv (.int i) (.int j) = decide (i = j) := by
  simp only [PyData.eqv]
  by_cases h : i = j <;> simp [h]
theorem eqv_encT (x y : List Int) : PyData.eqv (encT x) (encT y) = decide (x = y) := by unfold encT; simp only [PyData.eqv]; exact eqvAll_map eqv_int x y
theorem any_int (i : Int) (xs : List Int) : ((xs.map PyData.int).any fun z => PyData.eqv z (.int i)) = decide (i ∈ xs) := by
  induction xs with
  | nil => simp
  | cons x xs ih =>
    rw [List.map_cons, List.any_cons, ih, eqv_int]
    by_cases h : x = i
    · simp [h]
    · have : ¬ i = x := fun e => h e.symm
      simp [h, this]
theorem ins_tupI {W : DW} (x : List Int) : Ins W (tupI x) (x.map .int) := .inr ⟨py_tupI x, shaped_encT x⟩
theorem ins_lstI {W : DW} {a : Addr} (x : List Int) (h : W a = some (.lst (x.map D.int))) : Ins W (.ref a) (x.map .int) := .inl ⟨.lst h (pys_map (fun i => .int i) x), shaped_intsL x⟩
section
variable {f g : FE} {δ : Env} {W : DW}
theorem ev_inT {i : Int} {x : List Int} (hf : Ev f δ W (Is (.int i))) (hg : Ev g δ W (Is (tupI x))) : Ev (fBin (pInA false) f g) δ W (Is (.bl (decide (i ∈ x)))) := by
  have := ev_bin hf hg (evo_in (.int i) (ins_tupI x) shaped_int)
  rwa [any_int] at this
theorem ev_notInT {i : Int} {x : List Int} (hf : Ev f δ W (Is (.int i))) (hg : Ev g δ W (Is (tupI x))) : Ev (fBin (pInA true) f g) δ W (Is (.bl (!decide (i ∈ x)))) := by
  have := ev_bin hf hg (evo_notIn (.int i) (ins_tupI x) shaped_int)
  rwa [any_int] at this
theorem ev_inL {i : Int} {x : List Int} {a : Addr} (hf : Ev f δ W (Is (.int i))) (hg : Ev g δ W (Is (.ref a))) (w : W a = some (.lst (x.map D.int))) : Ev (fBin (pInA false) f g) δ W (Is (.bl (decide (i ∈ x)))) := by
  have := ev_bin hf hg (evo_in (.int i) (ins_lstI x w) shaped_int)
  rwa [any_int] at this
theorem ev_eqI {i j : Int} (hf : Ev f δ W (Is (.int i))) (hg : Ev g δ W (Is (.int j))) : Ev (fBin pEq f g) δ W (Is (.bl (decide (i = j)))) := by
  have := ev_bin hf hg (evo_eq (.int i) (.int j) shaped_int shaped_int)
  rwa [eqv_int] at this
theorem ev_neI {i j : Int} (hf : Ev f δ W (Is (.int i))) (hg : Ev g δ W (Is (.int j))) : Ev (fBin pNe f g) δ W (Is (.bl (!decide (i = j)))) := by
  have := ev_bin hf hg (evo_ne (.int i) (.int j) shaped_int shaped_int)
  rwa [eqv_int] at this
theorem ev_eqT {x y : List Int} (hf : Ev f δ W (Is (tupI x))) (hg : Ev g δ W (Is (tupI y))) : Ev (fBin pEq f g) δ W (Is (.bl (decide (x = y)))) := by
  have := ev_bin hf hg (evo_eq (py_tupI x) (py_tupI y) (shaped_encT x) (shaped_encT y))
  rwa [eqv_encT] at this
end
end DL
/-! Dl12: the call of the law's def, where the caller has no guards. -/
namespace DL
open PySem PySem.Spec PyProof.Rows L2
theorem no_guards : callerA.guards = some [] := rfl
section
variable {P : Program} {w : World} {K : PySem.W.Frag} {mg mb : Str → Option Value} {k : Nat} {fa a : Addr} {fd : FuncData} {x : Str} {sp : SpD} {σ₁ : Shared} {us : List Value} {zs : List Int}
abbrev Good (P : Program) (w : World) (fa a : Addr) (σ₁ : Shared) : Prop := codeAny (model P w) callerA (.call (.ref fa) ⟨[.ref a], []⟩) (fun r t => r = .ok (.ret (.bool true)) ∧ OldK σ₁.heap t.heap ∧ t.os = σ₁.os ∧ AllBare t.gens) σ₁
/-- from a heap in which the script alone may be tracked -/
theorem good_of (kin : K.In σ₁.heap) (nsg : σ₁.heap.Ns mainGlobals mg) (nsb : σ₁.heap.Ns builtinsNs mb) (bi : ∀ y : Str, y ≠ "__name__" → mb y = bootBuiltins y) (nl : σ₁.heap.NoLimit) (g0 : σ₁.gens = #[])
    (obj : σ₁.heap.get? a = some { cls := .type "list", data := .seq us.toArray }) (rm : Room k callerA) (prom : ∀ base : Heap, K.In base → base.Ns mainGlobals mg → FnG P w K mg base k fa fd [x] (toSp K sp))
    (bnd : ∀ (t : Shared) (u : Value), BindsTo t fd ⟨[u], []⟩ [(x, u)]) (H : Hp) (only : Only H) (ask : toSp K sp [.ref a] H (fun v _ => v = .bl true) E0) (hk : HOk P w H σ₁.heap) (one : ∀ b, H b ≠ none → b = a) (lk : H a ≠ none → K.lookup a = none) : Good P w fa a σ₁ := by
  have away : ∀ {b : Addr} {o : Obj} {es : Array DictEntry} {n : Nat}, σ₁.heap.get? b = some o → o.data = .dict es n → H b = none := by
    intro b o es n e d
    apply Classical.byContradiction
    intro hb
    have eb := one b hb
    rw [eb, obj] at e
    cases e
    exact absurd d (by simp)
  have hid : ∀ {b : Addr} {m : Str → Option Value}, σ₁.heap.Ns b m → (hidT σ₁.heap H).Ns b m := by
    rintro b m ⟨o, es, n, e, d, r⟩
    exact ⟨o, es, n, hidT_get e (away e d), d, r⟩
  have kin2 : K.In (hidT σ₁.heap H) := by
    intro b o e
    refine hidT_get (kin b o e) ?_
    apply Classical.byContradiction
    intro hb
    have eb := one b hb
    subst eb
    rw [lk hb] at e
    cases e
  have modl : Mod K mg (hidT σ₁.heap H) := by
    obtain ⟨mc, c1, c2⟩ := nl
    exact ⟨kin2, hid nsg, ⟨mb, hid nsb, bi⟩, mc, hid c1, c2⟩
  have env : Env0 P w K mg (hidT σ₁.heap H) callerA [] σ₁ H := by
    refine ⟨rfl, modl, fun b o e => of_hidT e, ?_, trivial, ?_, hk, .of_eq g0⟩
    · exact Nat.le_of_eq (hidT_size _ _)
    · intro b hb
      cases hb
  refine codeAny_mono ((prom _ kin2 (hid nsg)).run callerA [] σ₁ H ⟨[.ref a], []⟩ [.ref a] [.ref a] _ rm no_guards env (bnd σ₁ (.ref a)) (.cons rfl .nil) ask) fun r t z => ?_
  match r, z with
  | .error _, z => exact z.elim
  | .ok .next, z => exact False.elim z
  | .ok .brk, z => exact False.elim z
  | .ok .cont, z => exact False.elim z
  | .ok (.ret u), z =>
    obtain ⟨v, H', osE, bare, un, hk2, rel, e⟩ := z
    have e : v = .bl true := e
    rw [e] at rel
    have rel : u = Value.bool true := rel
    rw [rel]
    refine ⟨rfl, OldK.of_keep ?_, osE, bare⟩
    intro b o eo
    rcases only b with hn | ⟨ob, ys, hs⟩
    · refine un.keep b o eo hn ?_ (by simp)
      intro hm
      cases hm
    · have hs2 := un.frzs b ob _ hs
      have g1 := (hk b _ hs).1
      rw [eo] at g1
      cases g1
      exact (hk2 b _ hs2).1
theorem good_law (kin : K.In σ₁.heap) (nsg : σ₁.heap.Ns mainGlobals mg) (nsb : σ₁.heap.Ns builtinsNs mb) (bi : ∀ y : Str, y ≠ "__name__" → mb y = bootBuiltins y) (nl : σ₁.heap.NoLimit) (g0 : σ₁.gens = #[])
    (obj : σ₁.heap.get? a = some { cls := .type "list", data := .seq us.toArray }) (hi : IntsAre us zs) (hl : zs.length ≤ sizeLine) (rm : Room k callerA) (prom : ∀ base : Heap, K.In base → base.Ns mainGlobals mg → FnG P w K mg base k fa fd [x] (toSp K sp))
    (bnd : ∀ (t : Shared) (u : Value), BindsTo t fd ⟨[u], []⟩ [(x, u)]) (ask : ∀ Q : DK, (∀ W, Q (.bl true) W) → sp [.rl (zs.map D.int)] (fun _ => none) Q) : Good P w fa a σ₁ := by
  have vals := vals_ints hi
  have dvs : ∀ H : Hp, DVs K H (zs.map D.int) (zs.map V.int) := fun H => by
    generalize zs = ys
    induction ys with
    | nil => rfl
    | cons y ys ih => exact ⟨.int y, ys.map V.int, rfl, rfl, ih⟩
  have toask : ∀ H : Hp, RdL K H a (zs.map V.int) → toSp K sp [.ref a] H (fun v _ => v = .bl true) E0 := fun H hr =>
    ⟨[.rl (zs.map D.int)], fun _ => none, fun d _ => d = .bl true, ⟨.ref a, [], rfl, ⟨a, zs.map V.int, rfl, hr, dvs H⟩, rfl⟩, fun b o e => (by cases e), ask _ fun _ => rfl, fun v d H' W' _ _ dv e => (by
      have e : d = .bl true := e
      rw [e] at dv
      exact dv)⟩
  cases lk : K.lookup a with
  | some o =>
    have e := kin a o lk
    rw [obj] at e
    cases e
    refine good_of kin nsg nsb bi nl g0 obj rm prom bnd (fun _ => none) (fun _ => .inl rfl) (toask _ (.inr ⟨_, us.toArray, _, lk, rfl, rfl, rfl, ?_, ?_⟩)) ?_ (fun b hb => absurd rfl hb) fun hb => absurd rfl hb
    · have := hi.length
      rw [List.size_toArray]
      omega
    · simpa using vals
    · intro b u e
      cases (show (none : Option HO) = some u from e)
  | none =>
    let Ha : Hp := fun b => if b = a then some (.frz { cls := .type "list", data := .seq us.toArray } (.lst (zs.map V.int))) else none
    have at_ : Ha a = some (.frz { cls := .type "list", data := .seq us.toArray } (.lst (zs.map V.int))) := if_pos rfl
    have off : ∀ {b : Addr}, b ≠ a → Ha b = none := fun h => if_neg h
    refine good_of kin nsg nsb bi nl g0 obj rm prom bnd Ha ?_ (toask _ (.inl ⟨_, at_⟩)) ?_ ?_ fun _ => lk
    · intro b
      by_cases h : b = a
      · rw [h]; exact .inr ⟨_, _, at_⟩
      · exact .inl (off h)
    · intro b u e
      by_cases h : b = a
      · rw [h, at_] at e
        cases e
        rw [h]
        refine ⟨obj, ?_, us, _, vals, obj⟩
        rw [List.length_map]
        exact hl
      · rw [off h] at e
        cases e
    · intro b hb
      apply Classical.byContradiction
      intro h
      exact hb (off h)
end
theorem walk_g {l : PySem.W.OpenLaw} {n k : Nat} {q : Program} {loose : List Str} {XP : (Str → Option Value) → Heap → Prop} {YP : World → Heap → Prop} {d : DefRec} {K : Params → PySem.W.Frag} {sp : SpD} {x : Str}
    (most : l.most = some n) (small : n ≤ sizeLine) (nodef : d.params.defaults = []) (rm : Room k callerA) (kin : ∀ (w : World) (h : Heap), YP w h → (K w.params).In h)
    (prom : ∀ (w : World) (mg : Str → Option Value) (fa : Addr) (h : Heap), (K w.params).In h → h.Ns mainGlobals mg → mg d.name = some (.ref fa) → ∃ fd : FuncData, (∀ (t : Shared) (u : Value), BindsTo t fd ⟨[u], []⟩ [(x, u)]) ∧
      ∀ base : Heap, (K w.params).In base → base.Ns mainGlobals mg → FnG l.prog w (K w.params) mg base k fa fd [x] (toSp (K w.params) sp))
    (ask : ∀ (zs : List Int), zs.length ≤ n → ∀ Q : DK, (∀ W, Q (.bl true) W) → sp [.rl (zs.map D.int)] (fun _ => none) Q) : PySem.W.WalkO q loose XP YP l.row.toRowW d [] (fun f vs => PySem.call f vs) := by
  refine Att.attach_call most nodef ?_
  intro w t₀ t₁ mg mb fa o pm cd doc a us zs G Y ho hd hcd hmg hobj hints hlen hg
  have X := kin w _ Y
  obtain ⟨fd, hb, hF⟩ := prom w mg fa _ X G.T.g hmg
  exact good_law X G.T.g G.T.b G.T.builtins G.T.nolimit hg hobj hints (Nat.le_trans hlen small) rm hF hb (ask zs hlen)
end DL
/-! M30: crossings, stages, by lists. -/
namespace A30
open DL
structure Cr where
  ms : List D
  cs : List (Int × Int × Int × Int)
  len : Int
def Cr.n (c : Cr) : Int := c.ms.length
def hit (i j : Int) (r : Int × Int × Int × Int) : Option Int := if (r.1 = i ∧ r.2.1 = j) then some r.2.2.1 else if (r.2.1 = i ∧ r.1 = j) then some r.2.2.2 else none
def Cr.clO (c : Cr) (i j : Int) : Option Int := c.cs.findSome? (hit i j)
def Cr.cl (c : Cr) (i j : Int) : Int := (c.clO i j).getD 0
def crs (i j : Int) (r : Int × Int × Int × Int) : Bool := decide ((r.1 = i ∧ r.2.1 = j) ∨ (r.1 = j ∧ r.2.1 = i))
def Cr.cross (c : Cr) (i j : Int) : Bool := c.cs.any (crs i j)
structure Wf (c : Cr) : Prop where
  n1 : 1 ≤ c.ms.length
  n4 : c.ms.length ≤ 4
  cs : c.cs.length ≤ 16
  row : ∀ r ∈ c.cs, 0 ≤ r.1 ∧ r.1 < r.2.1 ∧ r.2.1 < c.n ∧ 0 ≤ r.2.2.1 ∧ 0 ≤ r.2.2.2 ∧ r.2.2.1 ≤ 2 ∧ r.2.2.2 ≤ 2
  l1 : 1 ≤ c.len
  l2 : c.len ≤ 8
theorem clO_some (c : Cr) (i j : Int) : (c.clO i j).isSome = c.cross i j := by
  unfold Cr.clO Cr.cross
  induction c.cs with
  | nil => rfl
  | cons r rs ih =>
    rw [List.findSome?_cons, List.any_cons]
    unfold hit crs at *
    by_cases h1 : r.1 = i ∧ r.2.1 = j
    · rw [if_pos h1]; simp [h1]
    · rw [if_neg h1]
      by_cases h2 : r.2.1 = i ∧ r.1 = j
      · rw [if_pos h2]; simp [h2]
      · rw [if_neg h2]
        rw [decide_eq_false (by omega), Bool.false_or]
        exact ih
theorem cross_comm (c : Cr) (i j : Int) : c.cross i j = c.cross j i := by
  unfold Cr.cross
  congr 1
  funext r
  unfold crs
  rw [decide_eq_decide]
  omega
theorem cross_irr {c : Cr} (w : Wf c) (i : Int) : c.cross i i = false := by
  rw [Bool.eq_false_iff]
  intro h
  obtain ⟨r, hr, e⟩ := List.any_eq_true.mp h
  have := w.row r hr
  unfold crs at e
  simp at e
  omega
theorem cl_bd {c : Cr} (w : Wf c) (i j : Int) : 0 ≤ c.cl i j ∧ c.cl i j ≤ 2 := by
  unfold Cr.cl
  cases h : c.clO i j with
  | none => simp
  | some v =>
    obtain ⟨r, hr, e⟩ := List.exists_of_findSome?_eq_some h
    have := w.row r hr
    unfold hit at e
    split at e
    · cases e; simp; omega
    · split at e
      · cases e; simp; omega
      · cases e
theorem cl_zero {c : Cr} {i j : Int} (h : c.cross i j = false) : c.cl i j = 0 := by
  rw [← clO_some] at h
  unfold Cr.cl
  cases e : c.clO i j with
  | none => rfl
  | some v => rw [e] at h; cases h
/-! stages by trying -/
def Cr.c1 (c : Cr) (lot : List Int) (i : Int) : Bool := lot.any fun j => decide (j ≠ i) && (c.clO i j).isSome
def Cr.grow (c : Cr) (ls : List (List Int)) (i : Int) : List (List Int) := ls ++ ls.filterMap fun l => if c.c1 l i then none else some (l ++ [i])
def Cr.lots (c : Cr) : Nat → List (List Int)
  | 0 => [[]]
  | i + 1 => c.grow (c.lots i) (i : Nat)
def Cr.rng (c : Cr) : List Int := (List.range c.ms.length).map fun k => ((k : Nat) : Int)
def Cr.full (c : Cr) (l : List Int) : Bool := c.rng.all fun i => decide (i ∈ l) || c.c1 l i
def Cr.sts (c : Cr) : List (List Int) := ((c.lots c.ms.length).filter c.full).mergeSort leL
structure Ind (c : Cr) (i : Int) (l : List Int) : Prop where
  asc : l.Pairwise (· < ·)
  bd : ∀ x ∈ l, 0 ≤ x ∧ x < i
  no : ∀ x ∈ l, ∀ y ∈ l, c.cross x y = false
structure Mis (c : Cr) (i : Int) (l : List Int) : Prop extends Ind c i l where
  mx : ∀ k, 0 ≤ k → k < i → k ∉ l → ∃ x ∈ l, c.cross k x = true
theorem c1_iff {c : Cr} (w : Wf c) (l : List Int) (i : Int) : c.c1 l i = true ↔ ∃ x ∈ l, c.cross i x = true := by
  unfold Cr.c1
  rw [List.any_eq_true]
  constructor
  · rintro ⟨x, hx, h⟩
    rw [Bool.and_eq_true, clO_some] at h
    exact ⟨x, hx, h.2⟩
  · rintro ⟨x, hx, h⟩
    refine ⟨x, hx, ?_⟩
    rw [Bool.and_eq_true, clO_some]
    refine ⟨decide_eq_true fun e => ?_, h⟩
    subst e
    rw [cross_irr w] at h
    cases h
theorem asc_snoc {l : List Int} {i : Int} (h : l.Pairwise (· < ·)) (b : ∀ x ∈ l, x < i) : (l ++ [i]).Pairwise (· < ·) := by
  rw [List.pairwise_append]
  exact ⟨h, by simp, fun a ha b' hb => by simp at hb; subst hb; exact b a ha⟩
/-- an ascending list with its last one i -/
theorem asc_split {l : List Int} {i : Int} (h : l.Pairwise (· < ·)) (b : ∀ x ∈ l, x < i + 1) (hi : i ∈ l) : ∃ r, l = r ++ [i] ∧ ∀ x ∈ r, x < i := by
  induction l with
  | nil => cases hi
  | cons y l ih =>
    rw [List.pairwise_cons] at h
    by_cases e : i ∈ l
    · obtain ⟨r, rfl, hr⟩ := ih h.2 (fun x hx => b x (by simp [hx])) e
      exact ⟨y :: r, rfl, fun x hx => by
        rcases List.mem_cons.mp hx with rfl | hx
        · exact h.1 i e
        · exact hr x hx⟩
    · have hy : i = y := by simpa [e] using hi
      subst hy
      refine ⟨[], ?_, by simp⟩
      cases l with
      | nil => rfl
      | cons z l => have := h.1 z (by simp); have := b z (by simp); omega
theorem Ind.mono {c : Cr} {i j : Int} {l : List Int} (h : Ind c i l) (e : i ≤ j) : Ind c j l := ⟨h.asc, fun x hx => ⟨(h.bd x hx).1, by have := (h.bd x hx).2; omega⟩, h.no⟩
theorem mem_lots {c : Cr} (w : Wf c) : ∀ (i : Nat) (l : List Int), l ∈ c.lots i ↔ Ind c i l
  | 0, l => by
    constructor
    · intro h
      simp [Cr.lots] at h
      subst h
      exact ⟨by simp, by simp, by simp⟩
    · intro h
      cases l with
      | nil => simp [Cr.lots]
      | cons x l => have := h.bd x (by simp); simp at this; omega
  | i + 1, l => by
    unfold Cr.lots Cr.grow
    rw [List.mem_append, mem_lots w i l, List.mem_filterMap]
    constructor
    · rintro (h | ⟨r, hr, e⟩)
      · exact h.mono (by omega)
      · rw [mem_lots w i r] at hr
        split at e
        · cases e
        · rename_i hc
          cases e
          have hc' : ∀ x ∈ r, c.cross i x = false := fun x hx => by
            rw [Bool.eq_false_iff]
            exact fun q => hc ((c1_iff w r i).mpr ⟨x, hx, q⟩)
          refine ⟨asc_snoc hr.asc fun x hx => (hr.bd x hx).2, fun x hx => ?_, fun x hx y hy => ?_⟩
          · rcases List.mem_append.mp hx with hx | hx
            · have := hr.bd x hx; omega
            · simp at hx; omega
          · rcases List.mem_append.mp hx with hx | hx <;> rcases List.mem_append.mp hy with hy | hy
            · exact hr.no x hx y hy
            · simp at hy; subst hy; rw [cross_comm]; exact hc' x hx
            · simp at hx; subst hx; exact hc' y hy
            · simp at hx hy; subst hx; subst hy; exact cross_irr w _
    · intro h
      by_cases hi : ((i : Nat) : Int) ∈ l
      · obtain ⟨r, rfl, hr⟩ := asc_split (i := i) h.asc (fun x hx => by have := (h.bd x hx).2; omega) hi
        refine .inr ⟨r, ?_, ?_⟩
        · rw [mem_lots w i r]
          exact ⟨(List.pairwise_append.mp h.asc).1, fun x hx => ⟨(h.bd x (by simp [hx])).1, hr x hx⟩, fun x hx y hy => h.no x (by simp [hx]) y (by simp [hy])⟩
        · rw [if_neg]
          intro q
          obtain ⟨x, hx, e⟩ := (c1_iff w r i).mp q
          rw [h.no i (by simp) x (by simp [hx])] at e
          cases e
      · refine .inl ⟨h.asc, fun x hx => ?_, h.no⟩
        have := h.bd x hx
        have : x ≠ i := fun e => hi (e ▸ hx)
        omega
theorem nodup_lots {c : Cr} (w : Wf c) : ∀ i : Nat, (c.lots i).Nodup
  | 0 => by simp [Cr.lots]
  | i + 1 => by
    unfold Cr.lots Cr.grow
    rw [List.nodup_append]
    refine ⟨nodup_lots w i, ?_, fun a ha b hb e => ?_⟩
    · refine List.Pairwise.filterMap _ ?_ (nodup_lots w i)
      intro a b hab x hx y hy e
      split at hx
      · cases hx
      · split at hy
        · cases hy
        · cases hx; cases hy
          exact hab (List.append_cancel_right e)
    · subst e
      obtain ⟨r, hr, e⟩ := List.mem_filterMap.mp hb
      split at e
      · cases e
      · cases e
        have := ((mem_lots w i _).mp ha).bd i (by simp)
        omega
theorem mem_rng {c : Cr} {k : Int} : k ∈ c.rng ↔ 0 ≤ k ∧ k < c.n := by
  unfold Cr.rng Cr.n
  rw [List.mem_map]
  constructor
  · rintro ⟨m, hm, rfl⟩
    rw [List.mem_range] at hm
    omega
  · rintro ⟨h1, h2⟩
    exact ⟨k.toNat, by rw [List.mem_range]; omega, by omega⟩
theorem mis_iff {c : Cr} (w : Wf c) (l : List Int) : Mis c c.n l ↔ Ind c c.n l ∧ c.full l = true := by
  unfold Cr.full
  rw [List.all_eq_true]
  constructor
  · intro h
    refine ⟨h.toInd, fun k hk => ?_⟩
    rw [mem_rng] at hk
    by_cases hm : k ∈ l
    · simp [hm]
    · rw [Bool.or_eq_true]
      exact .inr ((c1_iff w l k).mpr (h.mx k hk.1 hk.2 hm))
  · rintro ⟨h, q⟩
    refine ⟨h, fun k h1 h2 hm => ?_⟩
    have := q k (mem_rng.mpr ⟨h1, h2⟩)
    rw [Bool.or_eq_true] at this
    rcases this with z | z
    · exact absurd (of_decide_eq_true z) hm
    · exact (c1_iff w l k).mp z
theorem mem_sts {c : Cr} (w : Wf c) (l : List Int) : l ∈ c.sts ↔ Mis c c.n l := by
  unfold Cr.sts
  rw [(List.mergeSort_perm _ _).mem_iff, List.mem_filter, mem_lots w, mis_iff w]
  rfl
theorem nodup_sts {c : Cr} (w : Wf c) : c.sts.Nodup := by
  unfold Cr.sts
  rw [(List.mergeSort_perm _ _).nodup_iff]
  exact (nodup_lots w _).filter _
theorem leL_trans (a b c : List Int) (h : leL a b = true) (g : leL b c = true) : leL a c = true := by
  unfold leL at *
  exact decide_eq_true (List.le_trans (of_decide_eq_true h) (of_decide_eq_true g))
theorem leL_total (a b : List Int) : (leL a b || leL b a) = true := by
  unfold leL
  rw [Bool.or_eq_true]
  rcases List.le_total a b with h | h
  · exact .inl (decide_eq_true h)
  · exact .inr (decide_eq_true h)
theorem sorted_ms (xs : List (List Int)) : (xs.mergeSort leL).Pairwise (· ≤ ·) := (List.pairwise_mergeSort leL_trans leL_total xs).imp fun h => of_decide_eq_true h
theorem eq_of_sorted {xs ys : List (List Int)} (h1 : xs.Pairwise (· ≤ ·)) (h2 : ys.Pairwise (· ≤ ·)) (p : xs.Perm ys) : xs = ys := p.eq_of_pairwise (fun a b _ _ h g => List.le_antisymm h g) h1 h2
theorem eq_sts {c : Cr} (w : Wf c) {ys : List (List Int)} (h1 : ys.Nodup) (h2 : ys.Pairwise (· ≤ ·)) (h3 : ∀ l, l ∈ ys ↔ Mis c c.n l) : ys = c.sts :=
  eq_of_sorted h2 (sorted_ms _) ((List.perm_ext_iff_of_nodup h1 (nodup_sts w)).mpr fun l => by rw [h3, mem_sts w])
theorem sts_ne {c : Cr} (w : Wf c) {l : List Int} (h : Mis c c.n l) : l ≠ [] := by
  rintro rfl
  have := w.n1
  obtain ⟨x, hx, _⟩ := h.mx 0 (by omega) (by unfold Cr.n; omega) (by simp)
  cases hx
/-! stages movement by movement -/
def Cr.beside (c : Cr) (l : List Int) (i : Int) : List Int := (l.filter fun k => !c.cross k i) ++ [i]
def Cr.fits (c : Cr) (l : List Int) (i : Int) : Bool := !(l.any fun k => c.cross i k)
def Cr.open_ (c : Cr) (l : List Int) (i : Nat) : Bool := (List.range i).any fun k => !decide (((k : Nat) : Int) ∈ l) && c.fits l k
def Cr.gro1 (c : Cr) (l : List Int) (i : Nat) : List (List Int) := (if !c.fits l i then [l] else []) ++ (if !c.open_ (c.beside l i) i then [c.beside l i] else [])
def Cr.gro (c : Cr) (ls : List (List Int)) (i : Nat) : List (List Int) := ls.flatMap fun l => c.gro1 l i
theorem fits_iff {c : Cr} (l : List Int) (i : Int) : c.fits l i = true ↔ ∀ x ∈ l, c.cross i x = false := by
  unfold Cr.fits
  rw [Bool.not_eq_true', List.any_eq_false]
  constructor
  · intro h x hx; rw [Bool.eq_false_iff]; exact h x hx
  · intro h x hx; rw [h x hx]; simp
theorem open_iff {c : Cr} (l : List Int) (i : Nat) : c.open_ l i = false ↔ ∀ k : Int, 0 ≤ k → k < i → k ∉ l → ∃ x ∈ l, c.cross k x = true := by
  unfold Cr.open_
  rw [List.any_eq_false]
  constructor
  · intro h k h1 h2 hk
    have := h k.toNat (List.mem_range.mpr (by omega))
    rw [show ((k.toNat : Nat) : Int) = k by omega] at this
    rw [Bool.and_eq_true, fits_iff] at this
    apply Classical.byContradiction
    intro q
    refine this ⟨by simp [hk], fun x hx => ?_⟩
    rw [Bool.eq_false_iff]
    exact fun e => q ⟨x, hx, e⟩
  · intro h k hk q
    rw [Bool.and_eq_true, fits_iff] at q
    obtain ⟨x, hx, e⟩ := h k (by omega) (by have := List.mem_range.mp hk; omega) (by simpa using q.1)
    rw [q.2 x hx] at e
    cases e
/-- a lot within can be made a stage -/
theorem ext_mis {c : Cr} (w : Wf c) {l : List Int} : ∀ (i : Nat), (∀ x ∈ l, ∀ y ∈ l, c.cross x y = false) → ∃ s, Ind c i s ∧ (∀ x ∈ l, 0 ≤ x → x < i → x ∈ s) ∧ (∀ x ∈ s, ∀ y ∈ l, c.cross x y = false) ∧ ∀ k : Int, 0 ≤ k → k < i → k ∉ s → (∃ x ∈ s, c.cross k x = true) ∨ ∃ x ∈ l, c.cross k x = true
  | 0, h => ⟨[], ⟨by simp, by simp, by simp⟩, fun x _ h1 h2 => by omega, by simp, fun k h1 h2 => by omega⟩
  | i + 1, h => by
    obtain ⟨s, h1, h2, h3, h4⟩ := ext_mis w i h
    by_cases q : (∀ x ∈ s, c.cross i x = false) ∧ ∀ x ∈ l, c.cross i x = false
    · refine ⟨s ++ [(i : Int)], ⟨asc_snoc h1.asc fun x hx => (h1.bd x hx).2, fun x hx => ?_, fun x hx y hy => ?_⟩, fun x hx a b => ?_, fun x hx y hy => ?_, fun k a b hk => ?_⟩
      · rcases List.mem_append.mp hx with hx | hx
        · have := h1.bd x hx; omega
        · simp at hx; omega
      · rcases List.mem_append.mp hx with hx | hx <;> rcases List.mem_append.mp hy with hy | hy
        · exact h1.no x hx y hy
        · simp at hy; subst hy; rw [cross_comm]; exact q.1 x hx
        · simp at hx; subst hx; exact q.1 y hy
        · simp at hx hy; subst hx; subst hy; exact cross_irr w _
      · by_cases e : x = i
        · simp [e]
        · exact List.mem_append_left _ (h2 x hx a (by omega))
      · rcases List.mem_append.mp hx with hx | hx
        · exact h3 x hx y hy
        · simp at hx; subst hx; exact q.2 y hy
      · have e : k ≠ i := fun e => hk (by simp [e])
        rcases h4 k a (by omega) (fun z => hk (List.mem_append_left _ z)) with ⟨x, hx, z⟩ | z
        · exact .inl ⟨x, List.mem_append_left _ hx, z⟩
        · exact .inr z
    · have hl : ∀ x ∈ l, c.cross i x = true → ((i : Nat) : Int) ∉ l := fun x hx e z => by rw [h _ z x hx] at e; cases e
      refine ⟨s, h1.mono (by omega), fun x hx a b => ?_, h3, fun k a b hk => ?_⟩
      · by_cases e : x = i
        · subst e
          exfalso
          refine q ⟨fun y hy => by rw [cross_comm]; exact h3 y hy _ hx, fun y hy => h _ hx y hy⟩
        · exact h2 x hx a (by omega)
      · by_cases e : k = i
        · subst e
          apply Classical.byContradiction
          intro z
          refine q ⟨fun x hx => ?_, fun x hx => ?_⟩ <;> rw [Bool.eq_false_iff] <;> intro y
          · exact z (.inl ⟨x, hx, y⟩)
          · exact z (.inr ⟨x, hx, y⟩)
        · exact h4 k a (by omega) hk
theorem mem_gro {c : Cr} (w : Wf c) {ls : List (List Int)} {i : Nat} (h : ∀ l, l ∈ ls ↔ Mis c i l) (l : List Int) : l ∈ c.gro ls i ↔ Mis c ((i : Nat) + 1 : Nat) l := by
  unfold Cr.gro
  rw [List.mem_flatMap]
  constructor
  · rintro ⟨s, hs, hl⟩
    rw [h] at hs
    unfold Cr.gro1 at hl
    rcases List.mem_append.mp hl with hl | hl
    · split at hl
      · rename_i hf
        simp at hl
        subst hl
        refine ⟨hs.toInd.mono (by omega), fun k a b hk => ?_⟩
        by_cases e : k = i
        · subst e
          apply Classical.byContradiction
          intro z
          rw [Bool.not_eq_true', Bool.eq_false_iff] at hf
          exact hf ((fits_iff _ _).mpr fun x hx => by rw [Bool.eq_false_iff]; exact fun y => z ⟨x, hx, y⟩)
        · exact hs.mx k a (by omega) hk
      · cases hl
    · split at hl
      · rename_i ho
        simp at hl
        subst hl
        rw [Bool.not_eq_true', open_iff] at ho
        unfold Cr.beside
        have hm : ∀ x, x ∈ (s.filter fun k => !c.cross k i) ↔ x ∈ s ∧ c.cross x i = false := fun x => by rw [List.mem_filter]; simp
        refine ⟨⟨asc_snoc (hs.asc.filter _) fun x hx => (hs.bd x ((hm x).mp hx).1).2, fun x hx => ?_, fun x hx y hy => ?_⟩, fun k a b hk => ?_⟩
        · rcases List.mem_append.mp hx with hx | hx
          · have := hs.bd x ((hm x).mp hx).1; omega
          · simp at hx; omega
        · rcases List.mem_append.mp hx with hx | hx <;> rcases List.mem_append.mp hy with hy | hy
          · exact hs.no x ((hm x).mp hx).1 y ((hm y).mp hy).1
          · simp at hy; subst hy; exact ((hm x).mp hx).2
          · simp at hx; subst hx; rw [cross_comm]; exact ((hm y).mp hy).2
          · simp at hx hy; subst hx; subst hy; exact cross_irr w _
        · have e : k ≠ i := fun e => hk (by simp [e])
          exact ho k a (by omega) hk
      · cases hl
  · intro hl
    by_cases hi : ((i : Nat) : Int) ∈ l
    · obtain ⟨r, rfl, hr⟩ := asc_split (i := i) hl.asc (fun x hx => by have := (hl.bd x hx).2; omega) hi
      have hri : ∀ x ∈ r, c.cross x i = false := fun x hx => hl.no x (by simp [hx]) i (by simp)
      obtain ⟨s, h1, h2, h3, h4⟩ := ext_mis w (l := r) i fun x hx y hy => hl.no x (by simp [hx]) y (by simp [hy])
      have hrs : ∀ x ∈ r, x ∈ s := fun x hx => h2 x hx (hl.bd x (by simp [hx])).1 (hr x hx)
      have hs : Mis c i s := ⟨h1, fun k a b hk => by
        rcases h4 k a b hk with z | ⟨x, hx, z⟩
        · exact z
        · exact ⟨x, hrs x hx, z⟩⟩
      refine ⟨s, (h s).mpr hs, ?_⟩
      have e : c.beside s i = r ++ [(i : Int)] := by
        unfold Cr.beside
        congr 1
        have a1 : (s.filter fun k => !c.cross k i).Pairwise (· < ·) := hs.asc.filter _
        have a2 : r.Pairwise (· < ·) := (List.pairwise_append.mp hl.asc).1
        have p : (s.filter fun k => !c.cross k i).Perm r := by
          rw [List.perm_ext_iff_of_nodup (a1.imp fun h => by omega) (a2.imp fun h => by omega)]
          intro x
          rw [List.mem_filter]
          constructor
          · rintro ⟨hx, q⟩
            have q : c.cross x i = false := by simpa using q
            apply Classical.byContradiction
            intro hn
            have hb := hs.bd x hx
            have : x ∉ r ++ [(i : Int)] := by
              intro z
              rcases List.mem_append.mp z with z | z
              · exact hn z
              · simp at z; omega
            obtain ⟨y, hy, z⟩ := hl.mx x hb.1 (by omega) this
            rcases List.mem_append.mp hy with hy | hy
            · rw [hs.no x hx y (hrs y hy)] at z; cases z
            · simp at hy; subst hy; rw [q] at z; cases z
          · intro hx
            exact ⟨hrs x hx, by rw [hri x hx]; rfl⟩
        exact p.eq_of_pairwise (fun a b _ _ h g => by omega) (a1.imp fun h => h) (a2.imp fun h => h)
      unfold Cr.gro1
      refine List.mem_append_right _ ?_
      rw [if_pos]
      · rw [e]; simp
      · rw [Bool.not_eq_true', e, open_iff]
        intro k a b hk
        exact hl.mx k a (by omega) hk
    · have hb : Mis c i l := ⟨⟨hl.asc, fun x hx => by
          have := hl.bd x hx
          have : x ≠ i := fun e => hi (e ▸ hx)
          omega, hl.no⟩, fun k a b hk => hl.mx k a (by omega) hk⟩
      refine ⟨l, (h l).mpr hb, ?_⟩
      unfold Cr.gro1
      refine List.mem_append_left _ ?_
      rw [if_pos]
      · simp
      · rw [Bool.not_eq_true', Bool.eq_false_iff]
        intro z
        obtain ⟨x, hx, q⟩ := hl.mx i (by omega) (by omega) hi
        rw [(fits_iff _ _).mp z x hx] at q
        cases q
theorem gro_ne {c : Cr} {ls : List (List Int)} {i : Nat} {l : List Int} (h : l ∈ c.gro ls i) : l ≠ [] := by
  unfold Cr.gro Cr.gro1 at h
  obtain ⟨s, hs, hl⟩ := List.mem_flatMap.mp h
  rcases List.mem_append.mp hl with hl | hl
  · split at hl
    · rename_i hf
      simp at hl
      subst hl
      rintro rfl
      simp [Cr.fits] at hf
    · cases hl
  · split at hl
    · simp at hl; subst hl; unfold Cr.beside; simp
    · cases hl
end A30
/-! M30b: clearings, greens, lamps, faults, by lists. -/
namespace A30
open DL
/-! clearings -/
def mx0 (ns : List Int) : Int := ns.foldl max 0
theorem foldl_max_ge : ∀ (ns : List Int) (a : Int), a ≤ ns.foldl max a ∧ ∀ x ∈ ns, x ≤ ns.foldl max a
  | [], a => ⟨Int.le_refl _, fun x h => by cases h⟩
  | n :: ns, a => by
    obtain ⟨h1, h2⟩ := foldl_max_ge ns (max a n)
    rw [List.foldl_cons]
    refine ⟨by omega, fun x hx => ?_⟩
    rcases List.mem_cons.mp hx with rfl | hx
    · omega
    · exact h2 x hx
theorem foldl_max_mem : ∀ (ns : List Int) (a : Int), ns.foldl max a = a ∨ ns.foldl max a ∈ ns
  | [], a => .inl rfl
  | n :: ns, a => by
    rw [List.foldl_cons]
    rcases foldl_max_mem ns (max a n) with h | h
    · by_cases e : a ≤ n
      · right; rw [h]; simp [show max a n = n by omega]
      · left; rw [h]; omega
    · right; simp [h]
theorem mx0_of {ns : List Int} (h0 : ∀ x ∈ ns, 0 ≤ x) {m : Int} (hm : m ∈ ns) (hx : ∀ y, y ∈ ns → y ≤ m) : m = mx0 ns := by
  unfold mx0
  have h1 := (foldl_max_ge ns 0).2 m hm
  rcases foldl_max_mem ns 0 with h | h
  · have := h0 m hm; omega
  · have := hx _ h; omega
def Cr.cls (c : Cr) (l : List Int) : List Int := l.flatMap fun i => c.rng.map fun j => c.cl i j
def Cr.clg (c : Cr) (l : List Int) : Int := mx0 (c.cls l)
theorem clg_nn (c : Cr) (l : List Int) : 0 ≤ c.clg l := (foldl_max_ge _ _).1
theorem clg_ge {c : Cr} {l : List Int} {i j : Int} (hi : i ∈ l) (hj : j ∈ c.rng) : c.cl i j ≤ c.clg l := by
  refine (foldl_max_ge _ _).2 _ ?_
  unfold Cr.cls
  rw [List.mem_flatMap]
  exact ⟨i, hi, List.mem_map.mpr ⟨j, hj, rfl⟩⟩
theorem clg_le {c : Cr} (w : Wf c) (l : List Int) : c.clg l ≤ 2 := by
  rcases foldl_max_mem (c.cls l) 0 with h | h
  · unfold Cr.clg mx0; omega
  · unfold Cr.cls at h
    rw [List.mem_flatMap] at h
    obtain ⟨i, _, h⟩ := h
    obtain ⟨j, _, h⟩ := List.mem_map.mp h
    have := cl_bd w i j
    unfold Cr.clg mx0 Cr.cls
    omega
/-! plans -/
abbrev Plan := List (Int × Int)
def Cr.st (c : Cr) (s : Int) : List Int := c.sts.getD s.toNat []
def Cr.trip (c : Cr) : Int → Plan → List (List Int)
  | _, [] => []
  | b, (s, k) :: r => (c.st s).map (fun i => [i, b, b + k]) ++ c.trip (b + (k + c.clg (c.st s))) r
def Cr.grs (c : Cr) (p : Plan) : List (List Int) := (c.trip 0 p).mergeSort leL
def atT (t : Int) (z : List Int) : Option Int := match z with
  | [i, b, e] => if b ≤ t ∧ t < e then some i else none
  | _ => none
theorem atT3 {t i b e : Int} : atT t [i, b, e] = if b ≤ t ∧ t < e then some i else none := rfl
def grIn (gs : List (List Int)) (t : Int) : List Int := gs.filterMap (atT t)
def Cr.blk (c : Cr) : Plan → List (List Int)
  | [] => []
  | (s, k) :: r => List.replicate k.toNat (c.st s) ++ List.replicate (c.clg (c.st s)).toNat [] ++ c.blk r
def Cr.frame (c : Cr) (p : Plan) : List (List Int) := c.blk p ++ List.replicate (c.len - (c.blk p).length).toNat []
def Cr.rows (c : Cr) (ps : List Plan) : List (List Int) := ps.flatMap c.frame
structure PlanOk (c : Cr) (p : Plan) : Prop where
  each : ∀ x ∈ p, 0 ≤ x.1 ∧ x.1 < c.sts.length ∧ 1 ≤ x.2
  fit : ((c.blk p).length : Int) ≤ c.len
theorem st_mem {c : Cr} {s : Int} (h1 : 0 ≤ s) (h2 : s < c.sts.length) : c.st s ∈ c.sts := by
  unfold Cr.st
  have : s.toNat < c.sts.length := by omega
  rw [List.getD_eq_getElem?_getD, List.getElem?_eq_getElem this]
  exact List.getElem_mem this
theorem trip3 {c : Cr} : ∀ {p : Plan} {b : Int} {z : List Int}, z ∈ c.trip b p → ∃ i u v, z = [i, u, v]
  | [], _, _, h => by cases h
  | (s, k) :: r, b, z, h => by
    unfold Cr.trip at h
    rcases List.mem_append.mp h with h | h
    · obtain ⟨i, _, rfl⟩ := List.mem_map.mp h
      exact ⟨i, b, _, rfl⟩
    · exact trip3 h
theorem grs3 {c : Cr} {p : Plan} {z : List Int} (h : z ∈ c.grs p) : ∃ i u v, z = [i, u, v] := trip3 ((List.mergeSort_perm _ _).mem_iff.mp h)
theorem trip_none {c : Cr} : ∀ {p : Plan} {b t : Int}, (∀ x ∈ p, 1 ≤ x.2) → t < b → (c.trip b p).filter (fun z => (atT t z).isSome) = []
  | [], _, _, _, _ => rfl
  | (s, k) :: r, b, t, h, hb => by
    have hk := h (s, k) (by simp)
    simp only at hk
    have hg := clg_nn c (c.st s)
    unfold Cr.trip
    rw [List.filter_append, trip_none (fun x hx => h x (by simp [hx])) (by omega), List.append_nil, List.filter_eq_nil_iff]
    intro z hz
    obtain ⟨i, _, rfl⟩ := List.mem_map.mp hz
    rw [atT3, if_neg (by omega)]
    simp
theorem trip_at {c : Cr} : ∀ {p : Plan} {b t : Int}, (∀ x ∈ p, 1 ≤ x.2) → b ≤ t → ∃ u v, u ≤ t ∧ t < v ∧ (c.trip b p).filter (fun z => (atT t z).isSome) = ((c.blk p).getD (t - b).toNat []).map fun i => [i, u, v]
  | [], b, t, _, _ => ⟨t, t + 1, by omega, by omega, by simp [Cr.trip, Cr.blk]⟩
  | (s, k) :: r, b, t, h, hb => by
    have hk := h (s, k) (by simp)
    simp only at hk
    have hg := clg_nn c (c.st s)
    have hr := fun x hx => h x (List.mem_cons_of_mem _ hx)
    unfold Cr.trip Cr.blk
    rw [List.filter_append]
    by_cases q : t < b + k
    · refine ⟨b, b + k, hb, q, ?_⟩
      rw [trip_none hr (by omega), List.append_nil, List.filter_eq_self.mpr]
      · congr 1
        rw [List.append_assoc, List.getD_eq_getElem?_getD, List.getElem?_append_left (by simp; omega), List.getElem?_replicate, if_pos (by omega)]
        rfl
      · intro z hz
        obtain ⟨i, _, rfl⟩ := List.mem_map.mp hz
        rw [atT3, if_pos (by omega)]
        rfl
    · have e1 : ((c.st s).map (fun i => [i, b, b + k])).filter (fun z => (atT t z).isSome) = [] := by
        rw [List.filter_eq_nil_iff]
        intro z hz
        obtain ⟨i, _, rfl⟩ := List.mem_map.mp hz
        rw [atT3, if_neg (by omega)]
        simp
      rw [e1, List.nil_append]
      by_cases q2 : t < b + (k + c.clg (c.st s))
      · refine ⟨t, t + 1, by omega, by omega, ?_⟩
        rw [trip_none hr q2, List.append_assoc, List.getD_eq_getElem?_getD, List.getElem?_append_right (by simp; omega), List.getElem?_append_left (by simp; omega), List.getElem?_replicate, if_pos (by simp; omega)]
        rfl
      · obtain ⟨u, v, hu, hv, e⟩ := trip_at (c := c) (b := b + (k + c.clg (c.st s))) (t := t) hr (by omega)
        refine ⟨u, v, hu, hv, ?_⟩
        rw [e]
        congr 1
        rw [List.getD_eq_getElem?_getD, List.getD_eq_getElem?_getD, List.getElem?_append_right (by simp; omega)]
        congr 2
        simp
        omega
theorem filterMap_filter' {α β : Type} (f : α → Option β) (xs : List α) : xs.filterMap f = (xs.filter fun x => (f x).isSome).filterMap f := by
  induction xs with
  | nil => rfl
  | cons x xs ih =>
    rw [List.filterMap_cons, List.filter_cons]
    cases e : f x with
    | none => simp [ih]
    | some y => simp [e, ih]
theorem blk_mem {c : Cr} : ∀ {p : Plan} {l : List Int}, (∀ x ∈ p, 0 ≤ x.1 ∧ x.1 < c.sts.length ∧ 1 ≤ x.2) → l ∈ c.blk p → l = [] ∨ l ∈ c.sts
  | [], _, _, h => by cases h
  | (s, k) :: r, l, hp, h => by
    unfold Cr.blk at h
    rcases List.mem_append.mp h with h | h
    · rcases List.mem_append.mp h with h | h
      · have := hp (s, k) (by simp)
        rw [(List.mem_replicate.mp h).2]
        exact .inr (st_mem this.1 this.2.1)
      · exact .inl (List.mem_replicate.mp h).2
    · exact blk_mem (fun x hx => hp x (by simp [hx])) h
theorem asc_of {c : Cr} (w : Wf c) {l : List Int} (h : l = [] ∨ l ∈ c.sts) : l.Pairwise (· < ·) := by
  rcases h with rfl | h
  · simp
  · exact ((mem_sts w l).mp h).asc
theorem getD_mem {α : Type} {xs : List α} {i : Nat} {d : α} : xs.getD i d = d ∨ xs.getD i d ∈ xs := by
  rw [List.getD_eq_getElem?_getD]
  cases e : xs[i]? with
  | none => exact .inl rfl
  | some y => exact .inr (List.mem_of_getElem? e)
theorem le3 {i j u v : Int} (h : i < j) : ([i, u, v] : List Int) ≤ [j, u, v] := by
  apply List.le_of_lt
  exact List.Lex.rel h
theorem grIn_eq {c : Cr} (w : Wf c) {p : Plan} (hp : ∀ x ∈ p, 0 ≤ x.1 ∧ x.1 < c.sts.length ∧ 1 ≤ x.2) (t : Nat) : grIn (c.grs p) t = (c.blk p).getD t [] := by
  obtain ⟨u, v, hu, hv, e⟩ := trip_at (c := c) (p := p) (b := 0) (t := (t : Nat)) (fun x hx => (hp x hx).2.2) (by omega)
  rw [show (((t : Nat) : Int) - 0).toNat = t by omega] at e
  have ha : ((c.blk p).getD t []).Pairwise (· < ·) := asc_of w (by
    rcases getD_mem (xs := c.blk p) (i := t) (d := []) with h | h
    · exact .inl h
    · exact blk_mem hp h)
  have f : (c.grs p).filter (fun z => (atT t z).isSome) = ((c.blk p).getD t []).map fun i => [i, u, v] := by
    rw [← e]
    refine eq_of_sorted ?_ ?_ ((List.mergeSort_perm _ _).filter _)
    · exact (sorted_ms _).filter _
    · rw [e, List.pairwise_map]
      exact ha.imp fun h => le3 h
  unfold grIn
  rw [filterMap_filter', f, List.filterMap_map]
  have : (atT (t : Nat) ∘ fun i => [i, u, v]) = some := by
    funext i
    show atT _ _ = _
    rw [atT3, if_pos ⟨hu, hv⟩]
  rw [this, List.filterMap_some]
theorem frame_len {c : Cr} {p : Plan} (h : ((c.blk p).length : Int) ≤ c.len) : (c.frame p).length = c.len.toNat := by
  unfold Cr.frame
  rw [List.length_append, List.length_replicate]
  omega
theorem frame_get {c : Cr} (p : Plan) (t : Nat) : (c.frame p).getD t [] = (c.blk p).getD t [] := by
  unfold Cr.frame
  rw [List.getD_eq_getElem?_getD, List.getD_eq_getElem?_getD]
  by_cases h : t < (c.blk p).length
  · rw [List.getElem?_append_left h]
  · rw [List.getElem?_append_right (by omega), List.getElem?_replicate]
    rw [List.getElem?_eq_none (l := c.blk p) (by omega)]
    split <;> rfl
theorem list_by_getD {α : Type} (xs : List α) (d : α) : (List.range xs.length).map (fun t => xs.getD t d) = xs := by
  apply List.ext_getElem
  · simp
  · intro i h1 h2
    simp [List.getElem?_eq_getElem h2]
theorem frame_eq {c : Cr} (w : Wf c) {p : Plan} (h : PlanOk c p) : ((List.range c.len.toNat).map fun (t : Nat) => grIn (c.grs p) t) = c.frame p := by
  rw [← list_by_getD (c.frame p) [], frame_len h.fit]
  congr 1
  funext t
  rw [grIn_eq w h.each, frame_get]
/-! sums -/
def len3 (z : List Int) : Int := match z with
  | [_, b, e] => e - b
  | _ => 0
theorem perm_sumI {xs ys : List Int} (p : xs.Perm ys) : xs.sum = ys.sum := by
  induction p with
  | nil => rfl
  | cons x _ ih => rw [List.sum_cons, List.sum_cons, ih]
  | swap x y l => simp only [List.sum_cons]; omega
  | trans _ _ h1 h2 => rw [h1, h2]
theorem sum_const {α : Type} (xs : List α) (k : Int) : (xs.map fun _ => k).sum = xs.length * k := by
  induction xs with
  | nil => simp
  | cons x xs ih => rw [List.map_cons, List.sum_cons, ih, List.length_cons]; rw [Int.natCast_add, Int.add_mul]; omega
theorem sum_rep (n : Nat) (k : Int) : (List.replicate n k).sum = n * k := by
  induction n with
  | zero => simp
  | succ n ih => rw [List.replicate_succ, List.sum_cons, ih, Int.natCast_add, Int.add_mul]; omega
theorem sum_trip {c : Cr} : ∀ {p : Plan} {b : Int}, (∀ x ∈ p, 1 ≤ x.2) → ((c.trip b p).map len3).sum = ((c.blk p).map fun l => (l.length : Int)).sum
  | [], _, _ => rfl
  | (s, k) :: r, b, h => by
    have hk := h (s, k) (by simp)
    simp only at hk
    unfold Cr.trip Cr.blk
    rw [List.map_append, List.sum_append, sum_trip (fun x hx => h x (by simp [hx])), List.map_append, List.map_append, List.sum_append, List.sum_append, List.map_replicate, List.map_replicate, sum_rep, sum_rep, List.map_map]
    have : (len3 ∘ fun i => [i, b, b + k]) = fun _ => k := by
      funext i
      show b + k - b = k
      omega
    rw [this, sum_const]
    have e : ((k.toNat : Nat) : Int) = k := by omega
    rw [e, Int.mul_comm]
    simp
theorem sum_grs {c : Cr} {p : Plan} (h : PlanOk c p) : ((c.grs p).map len3).sum = ((c.frame p).map fun l => (l.length : Int)).sum := by
  unfold Cr.grs
  rw [perm_sumI ((List.mergeSort_perm (c.trip 0 p) leL).map len3), sum_trip fun x hx => (h.each x hx).2.2]
  unfold Cr.frame
  rw [List.map_append, List.sum_append, List.map_replicate, sum_rep]
  simp
end A30
/-! M30c: faults of lamps, by lists. -/
namespace A30
open DL
abbrev Rws := List (List Int)
theorem fs_filter {α β : Type} (p : α → Bool) (f : α → Option β) (xs : List α) : (xs.filter p).findSome? f = xs.findSome? fun x => if p x then f x else none := by
  induction xs with
  | nil => rfl
  | cons x xs ih =>
    rw [List.filter_cons, List.findSome?_cons]
    by_cases h : p x = true
    · rw [if_pos h, List.findSome?_cons, ih, if_pos h]
    · rw [if_neg h, ih, if_neg h]
theorem fs_congr {α β : Type} {f g : α → Option β} {xs : List α} (h : ∀ x ∈ xs, f x = g x) : xs.findSome? f = xs.findSome? g := by
  induction xs with
  | nil => rfl
  | cons x xs ih => rw [List.findSome?_cons, List.findSome?_cons, h x (by simp), ih fun y hy => h y (by simp [hy])]
def Cr.cross1 (c : Cr) (row : List Int) (i : Int) : Option (Int × Int) := row.findSome? fun j => if decide (i < j) && c.cross i j then some (i, j) else none
def Cr.crossR (c : Cr) (row : List Int) : Option (Int × Int) := row.findSome? fun i => c.cross1 row i
theorem cross1_law (c : Cr) (row : List Int) (i : Int) : c.cross1 row i = (row.filter fun j => decide (i < j) && (c.clO i j).isSome).head?.map fun j => (i, j) := by
  unfold Cr.cross1
  induction row with
  | nil => rfl
  | cons x xs ih =>
    rw [List.findSome?_cons, List.filter_cons, clO_some]
    by_cases h : (decide (i < x) && c.cross i x) = true
    · rw [if_pos h, if_pos h]; rfl
    · rw [if_neg h, if_neg h]; exact ih
def row (rows : Rws) (t : Nat) : List Int := rows.getD t []
def seen (rows : Rws) (t : Nat) (i : Int) : List Nat := (List.range t).filter fun u => decide (i ∈ row rows u)
def lastS (rows : Rws) (t : Nat) (i : Int) : Nat := (seen rows t i).getLast?.getD 0
def isNew (rows : Rws) (t : Nat) (j : Int) : Bool := decide (t = 0) || !decide (j ∈ row rows (t - 1))
def Cr.earlyL (c : Cr) (rows : Rws) (t : Nat) (i : Int) : Option (Int × Int) := (row rows t).findSome? fun j =>
  if isNew rows t j && ((decide (i ≠ j) && (c.clO i j).isSome) && (!(seen rows t i).isEmpty && decide ((t : Int) - lastS rows t i - 1 < c.cl i j))) then some (i, j) else none
def Cr.earlyR (c : Cr) (rows : Rws) (t : Nat) : Option (Int × Int) := c.rng.findSome? fun i => c.earlyL rows t i
def begun (rows : Rws) (t : Nat) : List Int := (row rows t).filter fun j => isNew rows t j
def keysS (c : Cr) (rows : Rws) (t : Nat) : List Int := c.rng.filter fun i => !(seen rows t i).isEmpty
def Cr.earlyP (c : Cr) (rows : Rws) (t : Nat) (i : Int) : Option (Int × Int) := (begun rows t).findSome? fun j => if decide ((t : Int) - lastS rows t i - 1 < c.cl i j) then some (i, j) else none
theorem mem_seen {rows : Rws} {t u : Nat} {i : Int} : u ∈ seen rows t i ↔ u < t ∧ i ∈ row rows u := by
  unfold seen
  rw [List.mem_filter, List.mem_range]
  simp
theorem lastS_mem {rows : Rws} {t : Nat} {i : Int} (h : (seen rows t i).isEmpty = false) : lastS rows t i ∈ seen rows t i := by
  unfold lastS
  cases e : (seen rows t i).getLast? with
  | none => rw [List.getLast?_eq_none_iff] at e; rw [e] at h; cases h
  | some u => exact List.mem_of_getLast? e
theorem lastS_max {rows : Rws} {t u : Nat} {i : Int} (h : u ∈ seen rows t i) : u ≤ lastS rows t i := by
  have hs : (seen rows t i).Pairwise (· < ·) := List.Pairwise.filter _ List.pairwise_lt_range
  unfold lastS
  generalize seen rows t i = xs at *
  induction xs with
  | nil => cases h
  | cons x xs ih =>
    rw [List.pairwise_cons] at hs
    cases xs with
    | nil => simp at h; subst h; simp
    | cons y ys =>
      rw [List.getLast?_cons_cons]
      rcases List.mem_cons.mp h with rfl | h
      · cases e : (y :: ys).getLast? with
        | none => rw [List.getLast?_eq_none_iff] at e; cases e
        | some z =>
          have := hs.1 z (List.mem_of_getLast? e)
          simp
          omega
      · exact ih h hs.2
theorem early_eq {c : Cr} (w : Wf c) (rows : Rws) (t : Nat) : (keysS c rows t).findSome? (c.earlyP rows t) = c.earlyR rows t := by
  unfold keysS Cr.earlyR
  rw [fs_filter]
  refine fs_congr fun i hi => ?_
  unfold Cr.earlyL
  cases hs : (seen rows t i).isEmpty with
  | true =>
    simp only [Bool.not_true, Bool.false_eq_true, ↓reduceIte, Bool.false_and, Bool.and_false]
    symm
    rw [List.findSome?_eq_none_iff]
    exact fun _ _ => rfl
  | false =>
    simp only [Bool.not_false, ↓reduceIte, Bool.true_and]
    unfold Cr.earlyP begun
    rw [fs_filter]
    refine fs_congr fun j hj => ?_
    cases hn : isNew rows t j with
    | false => simp
    | true =>
      simp only [↓reduceIte, Bool.true_and]
      have hl := (mem_seen.mp (lastS_mem hs)).1
      by_cases hc : c.cross i j = true
      · have hne : i ≠ j := fun e => by subst e; rw [cross_irr w] at hc; cases hc
        rw [clO_some, hc]
        simp [hne]
      · rw [Bool.not_eq_true] at hc
        rw [clO_some, hc, cl_zero hc]
        rw [decide_eq_false (by omega)]
        simp
def Cr.crossT (c : Cr) (rows : Rws) (t : Nat) : Option D := (c.crossR (row rows t)).map fun p => .tup [.str "crossed", .int t, .int p.1, .int p.2]
def Cr.earlyT (c : Cr) (rows : Rws) (t : Nat) : Option D := (c.earlyR rows t).map fun p => .tup [.str "early", .int t, .int p.1, .int p.2]
def Cr.fault (c : Cr) (rows : Rws) : D := match (List.range rows.length).findSome? (c.crossT rows) with
  | some d => d
  | none => match (List.range rows.length).findSome? (c.earlyT rows) with
    | some d => d
    | none => .non
/-! lamps of plans are safe -/
def Cr.saf (c : Cr) : Rws → Prop
  | [] => True
  | l :: r => (l = [] ∨ r.head? = some l ∨ ∀ x ∈ r.take (c.clg l).toNat, x = []) ∧ c.saf r
theorem saf_nil {c : Cr} {r : Rws} (h : c.saf r) : ∀ n : Nat, c.saf (List.replicate n [] ++ r)
  | 0 => h
  | n + 1 => ⟨.inl rfl, saf_nil h n⟩
theorem saf_rep {c : Cr} {r : Rws} (l : List Int) (h : c.saf r) (hr : ∀ x ∈ r.take (c.clg l).toNat, x = []) : ∀ n : Nat, c.saf (List.replicate n l ++ r)
  | 0 => h
  | n + 1 => by
    refine ⟨?_, saf_rep l h hr n⟩
    cases n with
    | zero => exact .inr (.inr hr)
    | succ n => exact .inr (.inl rfl)
theorem saf_blk {c : Cr} {r : Rws} (h : c.saf r) : ∀ p : Plan, c.saf (c.blk p ++ r)
  | [] => h
  | (s, k) :: p => by
    unfold Cr.blk
    rw [List.append_assoc, List.append_assoc]
    refine saf_rep _ (saf_nil (saf_blk h p) _) (fun x hx => ?_) _
    rw [List.take_append_of_le_length (by simp)] at hx
    exact (List.mem_replicate.mp (List.mem_of_mem_take hx)).2
theorem saf_rows {c : Cr} : ∀ ps : List Plan, c.saf (c.rows ps)
  | [] => trivial
  | p :: ps => by
    unfold Cr.rows
    rw [List.flatMap_cons]
    unfold Cr.frame
    rw [List.append_assoc]
    exact saf_blk (saf_nil (saf_rows ps) _) p
theorem saf_at {c : Cr} : ∀ {rows : Rws} {u : Nat} {l : List Int}, c.saf rows → rows[u]? = some l → l = [] ∨ rows[u + 1]? = some l ∨ ∀ v, u < v → v ≤ u + (c.clg l).toNat → rows.getD v [] = []
  | [], _, _, _, h => by simp at h
  | x :: r, 0, l, hs, h => by
    simp at h
    subst h
    rcases hs.1 with h | h | h
    · exact .inl h
    · right; left; simpa [List.head?_eq_getElem?] using h
    · right; right
      intro v h1 h2
      obtain ⟨v, rfl⟩ : ∃ z, v = z + 1 := ⟨v - 1, by omega⟩
      rw [List.getD_cons_succ, List.getD_eq_getElem?_getD]
      cases e : r[v]? with
      | none => rfl
      | some y => exact h y (List.mem_of_getElem? (i := v) (by rw [List.getElem?_take, if_pos (by omega)]; exact e))
  | x :: r, u + 1, l, hs, h => by
    rcases saf_at hs.2 (by simpa using h) with h | h | h
    · exact .inl h
    · right; left; simpa using h
    · right; right
      intro v h1 h2
      obtain ⟨v, rfl⟩ : ∃ z, v = z + 1 := ⟨v - 1, by omega⟩
      rw [List.getD_cons_succ]
      exact h v (by omega) (by omega)
/-- rows of stages -/
def RowsOk (c : Cr) (rows : Rws) : Prop := ∀ l ∈ rows, l.Pairwise (· < ·) ∧ ∀ x ∈ l, 0 ≤ x ∧ x < c.n
theorem rows_mem {c : Cr} {ps : List Plan} (hp : ∀ p ∈ ps, PlanOk c p) {l : List Int} (h : l ∈ c.rows ps) : l = [] ∨ l ∈ c.sts := by
  unfold Cr.rows at h
  obtain ⟨p, hm, h⟩ := List.mem_flatMap.mp h
  unfold Cr.frame at h
  rcases List.mem_append.mp h with h | h
  · exact blk_mem (hp p hm).each h
  · exact .inl (List.mem_replicate.mp h).2
theorem rows_ok {c : Cr} (w : Wf c) {ps : List Plan} (hp : ∀ p ∈ ps, PlanOk c p) : RowsOk c (c.rows ps) := fun l h => by
  rcases rows_mem hp h with rfl | h
  · exact ⟨by simp, by simp⟩
  · have := (mem_sts w l).mp h
    exact ⟨this.asc, this.bd⟩
theorem safe_rows {c : Cr} (w : Wf c) {ps : List Plan} (hp : ∀ p ∈ ps, PlanOk c p) : c.fault (c.rows ps) = .non := by
  have hno : ∀ t, ∀ x ∈ row (c.rows ps) t, ∀ y ∈ row (c.rows ps) t, c.cross x y = false := fun t x hx y hy => by
    unfold row at hx hy
    rcases getD_mem (xs := c.rows ps) (i := t) (d := []) with h | h
    · rw [h] at hx; cases hx
    · rcases rows_mem hp h with h | h
      · rw [h] at hx; cases hx
      · exact ((mem_sts w _).mp h).no x hx y hy
  have h1 : (List.range (c.rows ps).length).findSome? (c.crossT (c.rows ps)) = none := by
    rw [List.findSome?_eq_none_iff]
    intro t ht
    unfold Cr.crossT Cr.crossR Cr.cross1
    rw [Option.map_eq_none_iff, List.findSome?_eq_none_iff]
    intro x hx
    rw [List.findSome?_eq_none_iff]
    intro y hy
    rw [hno t x hx y hy]
    simp
  have h2 : (List.range (c.rows ps).length).findSome? (c.earlyT (c.rows ps)) = none := by
    rw [List.findSome?_eq_none_iff]
    intro t ht
    unfold Cr.earlyT Cr.earlyR
    rw [Option.map_eq_none_iff, List.findSome?_eq_none_iff]
    intro i hi
    unfold Cr.earlyL
    rw [List.findSome?_eq_none_iff]
    intro j hj
    rw [if_neg]
    intro q
    simp only [Bool.and_eq_true] at q
    obtain ⟨q1, ⟨q2, q3⟩, q4, q5⟩ := q
    have hs : (seen (c.rows ps) t i).isEmpty = false := by simpa using q4
    have q5 := of_decide_eq_true q5
    obtain ⟨hu, hiu⟩ := mem_seen.mp (lastS_mem hs)
    have hj' : j ∈ c.rng := by
      rw [mem_rng]
      have := rows_ok w hp
      unfold row at hj
      rcases getD_mem (xs := c.rows ps) (i := t) (d := []) with h | h
      · rw [h] at hj; cases hj
      · exact (this _ h).2 j hj
    have hc := clg_ge (l := row (c.rows ps) (lastS (c.rows ps) t i)) hiu hj'
    generalize hw : lastS (c.rows ps) t i = u at *
    have hmx : ∀ v, u < v → v < t → i ∉ row (c.rows ps) v := fun v h1 h2 h3 => by
      have := lastS_max (mem_seen.mpr ⟨h2, h3⟩)
      omega
    unfold row at hiu hj hmx hc
    have hg : (c.rows ps)[u]? = some ((c.rows ps).getD u []) := by
      rw [List.getD_eq_getElem?_getD]
      cases e : (c.rows ps)[u]? with
      | none => rw [List.getD_eq_getElem?_getD, e] at hiu; cases hiu
      | some y => rfl
    rcases saf_at (saf_rows ps) hg with h | h | h
    · rw [h] at hiu; cases hiu
    · have e : (c.rows ps).getD (u + 1) [] = (c.rows ps).getD u [] := by
        rw [List.getD_eq_getElem?_getD, h]; rfl
      by_cases z : u + 1 < t
      · exact hmx (u + 1) (by omega) z (by rw [e]; exact hiu)
      · have z : t = u + 1 := by omega
        subst z
        unfold isNew row at q1
        rw [e] at hj
        simp at q1
        rw [List.getD_eq_getElem?_getD] at hj
        exact q1 hj
    · by_cases z : t ≤ u + (c.clg ((c.rows ps).getD u [])).toNat
      · rw [h t hu z] at hj; cases hj
      · have := clg_nn c ((c.rows ps).getD u [])
        omega
  unfold Cr.fault
  rw [h1, h2]
end A30
namespace A30
open PySem PySem.Spec PyProof.Rows L2 DL
theorem units65 {k : Nat} {A : Around} (hr : Room k A) : A.units + 65 < cLine := by have := hr.un; omega
/-! ### the text -/
def topS (i : Nat) : Stmt := PySem.Challenge.pw_greenheld_k30_whole_lamps_never_cross.main.body.getD i (.Pass ⟨0, 0, 0, 0⟩)
abbrev s_do_cross : Stmt := topS 1
theorem sc_do_cross : FnScope ["crossing", "i", "j", "row"] ["crossing", "i", "j"] (defScope s_do_cross) := ⟨rfl, rfl, rfl, by decide +kernel, rfl, by decide +kernel, by decide +kernel⟩
abbrev s_clearance : Stmt := topS 2
theorem sc_clearance : FnScope ["crossing", "i", "j", "one", "other", "ahead", "behind"] ["crossing", "i", "j"] (defScope s_clearance) := ⟨rfl, rfl, rfl, by decide +kernel, rfl, by decide +kernel, by decide +kernel⟩
abbrev s_fits_in : Stmt := topS 4
theorem sc_fits_in : FnScope ["crossing", "stage", "i", "k"] ["crossing", "stage", "i"] (defScope s_fits_in) := ⟨rfl, rfl, rfl, by decide +kernel, rfl, by decide +kernel, by decide +kernel⟩
abbrev s_with_movement : Stmt := topS 5
theorem sc_with_movement : FnScope ["crossing", "found", "i", "grown", "stage", "beside", "k"] ["crossing", "found", "i"] (defScope s_with_movement) := ⟨rfl, rfl, rfl, by decide +kernel, rfl, by decide +kernel, by decide +kernel⟩
abbrev s_stages : Stmt := topS 6
theorem sc_stages : FnScope ["crossing", "found", "i"] ["crossing"] (defScope s_stages) := ⟨rfl, rfl, rfl, by decide +kernel, rfl, by decide +kernel, by decide +kernel⟩
abbrev s_clearing_of : Stmt := topS 7
theorem sc_clearing_of : FnScope ["crossing", "stage", "i", "j"] ["crossing", "stage"] (defScope s_clearing_of) := ⟨rfl, rfl, rfl, by decide +kernel, rfl, by decide +kernel, by decide +kernel⟩
abbrev s_clearings : Stmt := topS 8
theorem sc_clearings : FnScope ["crossing", "stage"] ["crossing"] (defScope s_clearings) := ⟨rfl, rfl, rfl, by decide +kernel, rfl, by decide +kernel, by decide +kernel⟩
abbrev s_clear_ticks : Stmt := topS 9
theorem sc_clear_ticks : FnScope ["crossing", "s"] ["crossing", "s"] (defScope s_clear_ticks) := ⟨rfl, rfl, rfl, by decide +kernel, rfl, by decide +kernel, by decide +kernel⟩
abbrev s_greens : Stmt := topS 11
theorem sc_greens : FnScope ["crossing", "plan", "members", "cleared", "found", "begin", "s", "ticks", "i"] ["crossing", "plan"] (defScope s_greens) := ⟨rfl, rfl, rfl, by decide +kernel, rfl, by decide +kernel, by decide +kernel⟩
abbrev s_green_in : Stmt := topS 12
theorem sc_green_in : FnScope ["found", "tick", "i", "begin", "end"] ["found", "tick"] (defScope s_green_in) := ⟨rfl, rfl, rfl, by decide +kernel, rfl, by decide +kernel, by decide +kernel⟩
abbrev s_lamps_at : Stmt := topS 13
theorem sc_lamps_at : FnScope ["crossing", "plan", "tick"] ["crossing", "plan", "tick"] (defScope s_lamps_at) := ⟨rfl, rfl, rfl, by decide +kernel, rfl, by decide +kernel, by decide +kernel⟩
abbrev s_lamp_rows : Stmt := topS 14
theorem sc_lamp_rows : FnScope ["crossing", "plans", "rows", "plan", "found", "tick"] ["crossing", "plans"] (defScope s_lamp_rows) := ⟨rfl, rfl, rfl, by decide +kernel, rfl, by decide +kernel, by decide +kernel⟩
abbrev s_first_crossed : Stmt := topS 15
theorem sc_first_crossed : FnScope ["crossing", "row", "i", "j"] ["crossing", "row"] (defScope s_first_crossed) := ⟨rfl, rfl, rfl, by decide +kernel, rfl, by decide +kernel, by decide +kernel⟩
abbrev s_first_early : Stmt := topS 16
theorem sc_first_early : FnScope ["crossing", "last", "tick", "begun", "i", "j"] ["crossing", "last", "tick", "begun"] (defScope s_first_early) := ⟨rfl, rfl, rfl, by decide +kernel, rfl, by decide +kernel, by decide +kernel⟩
abbrev s_judge_lamps : Stmt := topS 17
theorem sc_judge_lamps : FnScope ["crossing", "rows", "tick", "row", "pair", "last", "ahead", "j", "i"] ["crossing", "rows"] (defScope s_judge_lamps) := ⟨rfl, rfl, rfl, by decide +kernel, rfl, by decide +kernel, by decide +kernel⟩
abbrev s__law_strict_town : Stmt := topS 19
theorem sc__law_strict_town : FnScope ["source", "most", "n", "lots", "crossings", "length", "q", "lot", "ways", "one", "others", "pairs", "i", "j"] ["source", "most"] (defScope s__law_strict_town) := ⟨rfl, rfl, rfl, by decide +kernel, rfl, by decide +kernel, by decide +kernel⟩
abbrev s__law_open_cells : Stmt := topS 20
theorem sc__law_open_cells : FnScope ["script", "stirred", "cell", "cells"] ["script"] (defScope s__law_open_cells) := ⟨rfl, rfl, rfl, by decide +kernel, rfl, by decide +kernel, by decide +kernel⟩
abbrev s__law_pick : Stmt := topS 21
theorem sc__law_pick : FnScope ["source", "most", "cells", "others", "lap", "stirred"] ["source", "most"] (defScope s__law_pick) := ⟨rfl, rfl, rfl, by decide +kernel, rfl, by decide +kernel, by decide +kernel⟩
abbrev s__law_any_order : Stmt := topS 22
theorem sc__law_any_order : FnScope ["source", "things", "others", "lap"] ["source", "things"] (defScope s__law_any_order) := ⟨rfl, rfl, rfl, by decide +kernel, rfl, by decide +kernel, by decide +kernel⟩
abbrev s__law_clearance : Stmt := topS 23
theorem sc__law_clearance : FnScope ["crossing", "i", "j", "a", "b", "late", "early"] ["crossing", "i", "j"] (defScope s__law_clearance) := ⟨rfl, rfl, rfl, by decide +kernel, rfl, by decide +kernel, by decide +kernel⟩
abbrev s__law_stages : Stmt := topS 24
theorem sc__law_stages : FnScope ["crossing", "many", "lots", "i", "lot", "found"] ["crossing"] (defScope s__law_stages) := ⟨rfl, rfl, rfl, by decide +kernel, rfl, by decide +kernel, by decide +kernel⟩
abbrev s__law_crosses_one : Stmt := topS 25
theorem sc__law_crosses_one : FnScope ["crossing", "lot", "i", "j"] ["crossing", "lot", "i"] (defScope s__law_crosses_one) := ⟨rfl, rfl, rfl, by decide +kernel, rfl, by decide +kernel, by decide +kernel⟩
abbrev s__law_clearing : Stmt := topS 26
theorem sc__law_clearing : FnScope ["crossing", "stage", "found", "i", "j"] ["crossing", "stage"] (defScope s__law_clearing) := ⟨rfl, rfl, rfl, by decide +kernel, rfl, by decide +kernel, by decide +kernel⟩
abbrev s__law_draw_crossing : Stmt := topS 27
theorem sc__law_draw_crossing : FnScope ["source", "n", "mine", "length", "movements", "q", "ways", "one", "lap", "movement", "crossed", "i", "j"] ["source", "n", "mine", "length"] (defScope s__law_draw_crossing) := ⟨rfl, rfl, rfl, by decide +kernel, rfl, by decide +kernel, by decide +kernel⟩
abbrev s__law_draw_town : Stmt := topS 28
theorem sc__law_draw_town : FnScope ["source", "most", "n", "length", "crossings", "lots", "q", "lot"] ["source", "most"] (defScope s__law_draw_town) := ⟨rfl, rfl, rfl, by decide +kernel, rfl, by decide +kernel, by decide +kernel⟩
abbrev s__law_draw_plan : Stmt := topS 29
theorem sc__law_draw_plan : FnScope ["source", "crossing", "plan", "rest", "stages_v", "s", "room", "ticks"] ["source", "crossing"] (defScope s__law_draw_plan) := ⟨rfl, rfl, rfl, by decide +kernel, rfl, by decide +kernel, by decide +kernel⟩
abbrev s__law_lamps : Stmt := topS 30
theorem sc__law_lamps : FnScope ["crossing", "plans", "found", "every", "plan", "some", "s", "ticks"] ["crossing", "plans"] (defScope s__law_lamps) := ⟨rfl, rfl, rfl, by decide +kernel, rfl, by decide +kernel, by decide +kernel⟩
abbrev s__law_lamp_fault : Stmt := topS 31
theorem sc__law_lamp_fault : FnScope ["crossing", "rows", "many", "tick", "lot", "i", "some", "j", "last", "t", "is_new", "wait"] ["crossing", "rows"] (defScope s__law_lamp_fault) := ⟨rfl, rfl, rfl, by decide +kernel, rfl, by decide +kernel, by decide +kernel⟩
abbrev s_law : Stmt := topS 32
theorem sc_law : FnScope ["script", "source", "lap", "town", "crossing", "every", "s", "one", "plans", "turn", "rows", "lot", "first", "t", "i", "begin", "end", "spoilt", "j"] ["script"] (defScope s_law) := ⟨rfl, rfl, rfl, by decide +kernel, rfl, by decide +kernel, by decide +kernel⟩
structure Tx (K : PySem.W.Frag) (mg : Str → Option Value) where
  a_do_cross : Addr
  d_do_cross : FuncData
  F_do_cross : Fun K "do_cross" "do_cross" s_do_cross a_do_cross d_do_cross
  g_do_cross : mg "do_cross" = some (.ref a_do_cross)
  b_do_cross : Binds K d_do_cross ["crossing", "i", "j"] []
  a_clearance : Addr
  d_clearance : FuncData
  F_clearance : Fun K "clearance" "clearance" s_clearance a_clearance d_clearance
  g_clearance : mg "clearance" = some (.ref a_clearance)
  b_clearance : Binds K d_clearance ["crossing", "i", "j"] []
  a_fits_in : Addr
  d_fits_in : FuncData
  F_fits_in : Fun K "fits_in" "fits_in" s_fits_in a_fits_in d_fits_in
  g_fits_in : mg "fits_in" = some (.ref a_fits_in)
  b_fits_in : Binds K d_fits_in ["crossing", "stage", "i"] []
  a_with_movement : Addr
  d_with_movement : FuncData
  F_with_movement : Fun K "with_movement" "with_movement" s_with_movement a_with_movement d_with_movement
  g_with_movement : mg "with_movement" = some (.ref a_with_movement)
  b_with_movement : Binds K d_with_movement ["crossing", "found", "i"] []
  a_stages : Addr
  d_stages : FuncData
  F_stages : Fun K "stages" "stages" s_stages a_stages d_stages
  g_stages : mg "stages" = some (.ref a_stages)
  b_stages : Binds K d_stages ["crossing"] []
  a_clearing_of : Addr
  d_clearing_of : FuncData
  F_clearing_of : Fun K "clearing_of" "clearing_of" s_clearing_of a_clearing_of d_clearing_of
  g_clearing_of : mg "clearing_of" = some (.ref a_clearing_of)
  b_clearing_of : Binds K d_clearing_of ["crossing", "stage"] []
  a_clearings : Addr
  d_clearings : FuncData
  F_clearings : Fun K "clearings" "clearings" s_clearings a_clearings d_clearings
  g_clearings : mg "clearings" = some (.ref a_clearings)
  b_clearings : Binds K d_clearings ["crossing"] []
  a_clear_ticks : Addr
  d_clear_ticks : FuncData
  F_clear_ticks : Fun K "clear_ticks" "clear_ticks" s_clear_ticks a_clear_ticks d_clear_ticks
  g_clear_ticks : mg "clear_ticks" = some (.ref a_clear_ticks)
  b_clear_ticks : Binds K d_clear_ticks ["crossing", "s"] []
  a_greens : Addr
  d_greens : FuncData
  F_greens : Fun K "greens" "greens" s_greens a_greens d_greens
  g_greens : mg "greens" = some (.ref a_greens)
  b_greens : Binds K d_greens ["crossing", "plan"] []
  a_green_in : Addr
  d_green_in : FuncData
  F_green_in : Fun K "green_in" "green_in" s_green_in a_green_in d_green_in
  g_green_in : mg "green_in" = some (.ref a_green_in)
  b_green_in : Binds K d_green_in ["found", "tick"] []
  a_lamps_at : Addr
  d_lamps_at : FuncData
  F_lamps_at : Fun K "lamps_at" "lamps_at" s_lamps_at a_lamps_at d_lamps_at
  g_lamps_at : mg "lamps_at" = some (.ref a_lamps_at)
  b_lamps_at : Binds K d_lamps_at ["crossing", "plan", "tick"] []
  a_lamp_rows : Addr
  d_lamp_rows : FuncData
  F_lamp_rows : Fun K "lamp_rows" "lamp_rows" s_lamp_rows a_lamp_rows d_lamp_rows
  g_lamp_rows : mg "lamp_rows" = some (.ref a_lamp_rows)
  b_lamp_rows : Binds K d_lamp_rows ["crossing", "plans"] []
  a_first_crossed : Addr
  d_first_crossed : FuncData
  F_first_crossed : Fun K "first_crossed" "first_crossed" s_first_crossed a_first_crossed d_first_crossed
  g_first_crossed : mg "first_crossed" = some (.ref a_first_crossed)
  b_first_crossed : Binds K d_first_crossed ["crossing", "row"] []
  a_first_early : Addr
  d_first_early : FuncData
  F_first_early : Fun K "first_early" "first_early" s_first_early a_first_early d_first_early
  g_first_early : mg "first_early" = some (.ref a_first_early)
  b_first_early : Binds K d_first_early ["crossing", "last", "tick", "begun"] []
  a_judge_lamps : Addr
  d_judge_lamps : FuncData
  F_judge_lamps : Fun K "judge_lamps" "judge_lamps" s_judge_lamps a_judge_lamps d_judge_lamps
  g_judge_lamps : mg "judge_lamps" = some (.ref a_judge_lamps)
  b_judge_lamps : Binds K d_judge_lamps ["crossing", "rows"] []
  a__law_strict_town : Addr
  d__law_strict_town : FuncData
  F__law_strict_town : Fun K "_law_strict_town" "_law_strict_town" s__law_strict_town a__law_strict_town d__law_strict_town
  g__law_strict_town : mg "_law_strict_town" = some (.ref a__law_strict_town)
  b__law_strict_town : Binds K d__law_strict_town ["source", "most"] []
  a__law_open_cells : Addr
  d__law_open_cells : FuncData
  F__law_open_cells : Fun K "_law_open_cells" "_law_open_cells" s__law_open_cells a__law_open_cells d__law_open_cells
  g__law_open_cells : mg "_law_open_cells" = some (.ref a__law_open_cells)
  b__law_open_cells : Binds K d__law_open_cells ["script"] []
  a__law_pick : Addr
  d__law_pick : FuncData
  F__law_pick : Fun K "_law_pick" "_law_pick" s__law_pick a__law_pick d__law_pick
  g__law_pick : mg "_law_pick" = some (.ref a__law_pick)
  b__law_pick : Binds K d__law_pick ["source", "most"] []
  a__law_any_order : Addr
  d__law_any_order : FuncData
  F__law_any_order : Fun K "_law_any_order" "_law_any_order" s__law_any_order a__law_any_order d__law_any_order
  g__law_any_order : mg "_law_any_order" = some (.ref a__law_any_order)
  b__law_any_order : Binds K d__law_any_order ["source", "things"] []
  a__law_clearance : Addr
  d__law_clearance : FuncData
  F__law_clearance : Fun K "_law_clearance" "_law_clearance" s__law_clearance a__law_clearance d__law_clearance
  g__law_clearance : mg "_law_clearance" = some (.ref a__law_clearance)
  b__law_clearance : Binds K d__law_clearance ["crossing", "i", "j"] []
  a__law_stages : Addr
  d__law_stages : FuncData
  F__law_stages : Fun K "_law_stages" "_law_stages" s__law_stages a__law_stages d__law_stages
  g__law_stages : mg "_law_stages" = some (.ref a__law_stages)
  b__law_stages : Binds K d__law_stages ["crossing"] []
  a__law_crosses_one : Addr
  d__law_crosses_one : FuncData
  F__law_crosses_one : Fun K "_law_crosses_one" "_law_crosses_one" s__law_crosses_one a__law_crosses_one d__law_crosses_one
  g__law_crosses_one : mg "_law_crosses_one" = some (.ref a__law_crosses_one)
  b__law_crosses_one : Binds K d__law_crosses_one ["crossing", "lot", "i"] []
  a__law_clearing : Addr
  d__law_clearing : FuncData
  F__law_clearing : Fun K "_law_clearing" "_law_clearing" s__law_clearing a__law_clearing d__law_clearing
  g__law_clearing : mg "_law_clearing" = some (.ref a__law_clearing)
  b__law_clearing : Binds K d__law_clearing ["crossing", "stage"] []
  a__law_draw_crossing : Addr
  d__law_draw_crossing : FuncData
  F__law_draw_crossing : Fun K "_law_draw_crossing" "_law_draw_crossing" s__law_draw_crossing a__law_draw_crossing d__law_draw_crossing
  g__law_draw_crossing : mg "_law_draw_crossing" = some (.ref a__law_draw_crossing)
  b__law_draw_crossing : Binds K d__law_draw_crossing ["source", "n", "mine", "length"] []
  a__law_draw_town : Addr
  d__law_draw_town : FuncData
  F__law_draw_town : Fun K "_law_draw_town" "_law_draw_town" s__law_draw_town a__law_draw_town d__law_draw_town
  g__law_draw_town : mg "_law_draw_town" = some (.ref a__law_draw_town)
  b__law_draw_town : Binds K d__law_draw_town ["source", "most"] []
  a__law_draw_plan : Addr
  d__law_draw_plan : FuncData
  F__law_draw_plan : Fun K "_law_draw_plan" "_law_draw_plan" s__law_draw_plan a__law_draw_plan d__law_draw_plan
  g__law_draw_plan : mg "_law_draw_plan" = some (.ref a__law_draw_plan)
  b__law_draw_plan : Binds K d__law_draw_plan ["source", "crossing"] []
  a__law_lamps : Addr
  d__law_lamps : FuncData
  F__law_lamps : Fun K "_law_lamps" "_law_lamps" s__law_lamps a__law_lamps d__law_lamps
  g__law_lamps : mg "_law_lamps" = some (.ref a__law_lamps)
  b__law_lamps : Binds K d__law_lamps ["crossing", "plans"] []
  a__law_lamp_fault : Addr
  d__law_lamp_fault : FuncData
  F__law_lamp_fault : Fun K "_law_lamp_fault" "_law_lamp_fault" s__law_lamp_fault a__law_lamp_fault d__law_lamp_fault
  g__law_lamp_fault : mg "_law_lamp_fault" = some (.ref a__law_lamp_fault)
  b__law_lamp_fault : Binds K d__law_lamp_fault ["crossing", "rows"] []
  a_law : Addr
  d_law : FuncData
  F_law : Fun K "law" "law" s_law a_law d_law
  g_law : mg "law" = some (.ref a_law)
  b_law : Binds K d_law ["script"] []
  z_abs : mg "abs" = none
  z_all : mg "all" = none
  z_any : mg "any" = none
  z_dict : mg "dict" = none
  z_enumerate : mg "enumerate" = none
  z_int : mg "int" = none
  z_len : mg "len" = none
  z_list : mg "list" = none
  z_max : mg "max" = none
  z_min : mg "min" = none
  z_range : mg "range" = none
  z_repr : mg "repr" = none
  z_set : mg "set" = none
  z_sorted : mg "sorted" = none
  z_sum : mg "sum" = none
  z_tuple : mg "tuple" = none
end A30
/-! Sp30: what each def promises. -/
namespace A30
open PySem PySem.Spec PyProof.Rows L2 DL
def encR (r : Int × Int × Int × Int) : D := .tup [.int r.1, .int r.2.1, .int r.2.2.1, .int r.2.2.2]
def Cr.enc (c : Cr) : D := .tup [.tup c.ms, .tup (c.cs.map encR), .int c.len]
def encK (x : Int × Int) : D := .tup [.int x.1, .int x.2]
def encP (p : Plan) : D := .tup (p.map encK)
def oI : Option Int → D
  | none => .non
  | some v => .int v
def oP : Option (Int × Int) → D
  | none => .non
  | some p => encK p
def sp_do_cross : SpD := fun ds W Q => ∃ c i j, ds = [Cr.enc c, .int i, .int j] ∧ Wf c ∧ Q (.bl (c.cross i j)) W
def sp_clearance : SpD := fun ds W Q => ∃ c i j, ds = [Cr.enc c, .int i, .int j] ∧ Wf c ∧ Q (.int (c.cl i j)) W
def sp_fits_in : SpD := fun ds W Q => ∃ c l i, ds = [Cr.enc c, tupI l, .int i] ∧ Wf c ∧ l.length ≤ 64 ∧ Q (.bl (c.fits l i)) W
def sp_with_movement : SpD := fun ds W Q => ∃ c a ls, ∃ i : Nat, ds = [Cr.enc c, .ref a, .int i] ∧ Wf c ∧ W a = some (.lst (ls.map tupI)) ∧ ls.length < 32 ∧ i ≤ 8 ∧ (∀ l ∈ ls, l.length ≤ 8) ∧
  ∀ (ys : List (List Int)) p W', Sub W W' → W p = none → W' p = some (.lst (ys.map tupI)) → ys.Nodup → ys.Pairwise (· ≤ ·) → (∀ l, l ∈ ys ↔ l ∈ c.gro ls i) → Q (.ref p) W'
def sp_stages : SpD := fun ds W Q => ∃ c, ds = [Cr.enc c] ∧ Wf c ∧ Q (.tup (c.sts.map tupI)) W
def sp_clearing_of : SpD := fun ds W Q => ∃ c l, ds = [Cr.enc c, tupI l] ∧ Wf c ∧ l ≠ [] ∧ l.length ≤ 8 ∧ Q (.int (c.clg l)) W
def sp_clearings : SpD := fun ds W Q => ∃ c, ds = [Cr.enc c] ∧ Wf c ∧ Q (.tup (c.sts.map fun l => .int (c.clg l))) W
def sp_clear_ticks : SpD := fun ds W Q => ∃ c s, ds = [Cr.enc c, .int s] ∧ Wf c ∧ 0 ≤ s ∧ s < c.sts.length ∧ Q (.int (c.clg (c.st s))) W
def sp_greens : SpD := fun ds W Q => ∃ c p, ds = [Cr.enc c, encP p] ∧ Wf c ∧ PlanOk c p ∧ Q (.tup ((c.grs p).map tupI)) W
def sp_green_in : SpD := fun ds W Q => ∃ gs t, ds = [.tup (gs.map tupI), .int t] ∧ (∀ z ∈ gs, ∃ i u v, z = [i, u, v]) ∧ gs.length ≤ 512 ∧ Q (tupI (grIn gs t)) W
def sp_lamps_at : SpD := fun ds W Q => ∃ c p t, ds = [Cr.enc c, encP p, .int t] ∧ Wf c ∧ PlanOk c p ∧ Q (tupI (grIn (c.grs p) t)) W
def sp_lamp_rows : SpD := fun ds W Q => ∃ c a ps, ds = [Cr.enc c, .ref a] ∧ Wf c ∧ W a = some (.lst (ps.map encP)) ∧ (∀ p ∈ ps, PlanOk c p) ∧ ps.length ≤ 5 ∧ ∀ p W', Sub W W' → W p = none → W' p = some (.lst ((c.rows ps).map tupI)) → Q (.ref p) W'
def sp_first_crossed : SpD := fun ds W Q => ∃ c row, ds = [Cr.enc c, tupI row] ∧ Wf c ∧ Q (oP (c.crossR row)) W
def sp_first_early : SpD := fun ds W Q => ∃ (c : Cr) (d b : Addr) (t : Int) (kvs : List (Key × D)) (ks : List Int) (val : Int → Int) (bg : List Int), ds = [Cr.enc c, .ref d, .int t, .ref b] ∧ Wf c ∧ W d = some (.dic kvs) ∧ kvs.map (·.1) = ks.map Sum.inl ∧ ks.length < 64 ∧
  (∀ i ∈ ks, valD kvs (.inl i) = some (.int (val i))) ∧ W b = some (.lst (bg.map D.int)) ∧ ∀ ys : List Int, ys.Perm ks → ys.Pairwise (· ≤ ·) → Q (oP (ys.findSome? fun i => bg.findSome? fun j => if decide (t - val i - 1 < c.cl i j) then some (i, j) else none)) W
def sp_judge_lamps : SpD := fun ds W Q => ∃ c a rows, ds = [Cr.enc c, .ref a] ∧ Wf c ∧ W a = some (.lst (rows.map tupI)) ∧ RowsOk c rows ∧ rows.length ≤ 64 ∧ Q (c.fault rows) W
/-! the source of draws -/
def Src (s c : Addr) (W : DW) : Prop := s ≠ c ∧ ∃ (l m t : Int) (xs : List Int), W s = some (.dic [(.inr "cells", .ref c), (.inr "left", .int l), (.inr "mixed", .int m), (.inr "turn", .int t)]) ∧ W c = some (.lst (xs.map D.int))
def Mv (s c : Addr) (W W' : DW) : Prop := (∀ a o, a ≠ s → a ≠ c → W a = some o → W' a = some o) ∧ (Src s c W → Src s c W')
def sp__law_open_cells : SpD := fun ds W Q => ∃ x xs, ds = [x] ∧ seqD W x = some (List.map D.int xs) ∧ (∀ ys, x ≠ .tup ys) ∧ xs.length ≤ 64 ∧ ∀ s c W', Sub W W' → Src s c W' → Q (.ref s) W'
def sp__law_pick : SpD := fun ds W Q => ∃ s c m, ds = [.ref s, .int m] ∧ Src s c W ∧ m ≤ 1000000 ∧ ∀ v W', Mv s c W W' → (m < 2 → v = 0) → (2 ≤ m → 0 ≤ v ∧ v < m) → Q (.int v) W'
def sp__law_any_order : SpD := fun ds W Q => ∃ s c a, ∃ xs : List D, ds = [.ref s, .ref a] ∧ Src s c W ∧ W a = some (.lst xs) ∧ a ≠ s ∧ a ≠ c ∧ xs.length ≤ 1000 ∧ ∀ ys p W', List.Perm ys xs → Mv s c W W' → W p = none → W' p = some (.lst ys) → Q (.ref p) W'
def encTown (n : Int) (cs : List Cr) : D := .tup [.int n, .tup (cs.map Cr.enc)]
def TownTo (s c : Addr) (W : DW) (Q : DK) : Prop := ∀ n cs W', Mv s c W W' → (∀ x ∈ cs, Wf x) → cs.length ≤ 8 → Q (encTown n cs) W'
def sp__law_strict_town : SpD := fun ds W Q => ∃ s c m, ds = [.ref s, .int m] ∧ Src s c W ∧ 2 ≤ m ∧ m ≤ 4 ∧ TownTo s c W Q
def sp__law_draw_town : SpD := fun ds W Q => ∃ s c m, ds = [.ref s, .int m] ∧ Src s c W ∧ 2 ≤ m ∧ m ≤ 4 ∧ TownTo s c W Q
def sp__law_draw_crossing : SpD := fun ds W Q => ∃ s c n a l, ∃ qs : List Int, ds = [.ref s, .int n, .ref a, .int l] ∧ Src s c W ∧ W a = some (.lst (qs.map D.int)) ∧ a ≠ s ∧ a ≠ c ∧ qs ≠ [] ∧ qs.length ≤ 4 ∧ 1 ≤ n ∧ n ≤ 4 ∧ 3 ≤ l ∧ l ≤ 8 ∧ ∀ x W', Mv s c W W' → Wf x → Q (Cr.enc x) W'
def sp__law_draw_plan : SpD := fun ds W Q => ∃ s c x, ds = [.ref s, Cr.enc x] ∧ Src s c W ∧ Wf x ∧ ∀ p W', Mv s c W W' → PlanOk x p → Q (encP p) W'
/-! the law's own -/
def sp__law_clearance : SpD := fun ds W Q => ∃ c i j, ds = [Cr.enc c, .int i, .int j] ∧ Wf c ∧ Q (oI (c.clO i j)) W
def sp__law_stages : SpD := fun ds W Q => ∃ c, ds = [Cr.enc c] ∧ Wf c ∧ ∀ p W', Sub W W' → W p = none → W' p = some (.lst (c.sts.map tupI)) → Q (.ref p) W'
def sp__law_crosses_one : SpD := fun ds W Q => ∃ c a l i, ds = [Cr.enc c, .ref a, .int i] ∧ Wf c ∧ W a = some (.lst (l.map D.int)) ∧ l.length ≤ 64 ∧ Q (.bl (c.c1 l i)) W
def sp__law_clearing : SpD := fun ds W Q => ∃ c l, ds = [Cr.enc c, tupI l] ∧ Wf c ∧ Q (.int (c.clg l)) W
def sp__law_lamps : SpD := fun ds W Q => ∃ c a ps, ds = [Cr.enc c, .ref a] ∧ Wf c ∧ W a = some (.lst (ps.map encP)) ∧ (∀ p ∈ ps, PlanOk c p) ∧ ps.length ≤ 5 ∧ ∀ p W', Sub W W' → W p = none → W' p = some (.lst ((c.rows ps).map tupI)) → Q (.ref p) W'
def sp__law_lamp_fault : SpD := fun ds W Q => ∃ c a rows, ds = [Cr.enc c, .ref a] ∧ Wf c ∧ W a = some (.lst (rows.map tupI)) ∧ RowsOk c rows ∧ rows.length ≤ 64 ∧ Q (c.fault rows) W
def sp_law : SpD := fun ds W Q => ∃ x xs, ds = [x] ∧ seqD W x = some (List.map D.int xs) ∧ (∀ ys, x ≠ .tup ys) ∧ xs.length ≤ 64 ∧ ∀ W', Q (.bl true) W'
end A30
namespace A30
open PySem PySem.Spec PyProof.Rows L2 DL
/-! ### readings -/
def f_do_cross : FS :=
    (sRet (fB1 bAny (fCons (fLc (fSeq (fBin pSub' (fVar 0) (fC (.int 1)))) (gN 3) fYes (fBin (pInA false) (fSl (fVar 3) fNoPart (fPart (fC (.int 2)))) (fTup (fCons (fTup (fCons (fVar 1) (fCons (fVar 2) fNil))) (fCons (fTup (fCons (fVar 2) (fCons (fVar 1) fNil))) fNil)))) [3]) fNil)))
def f_clearance : FS :=
    (sSeq (sFor (fSeq (fBin pSub' (fVar 0) (fC (.int 1)))) (gTp 4 (gCn (gN 3) (gCn (gN 4) (gCn (gN 5) (gCn (gN 6) gNl))))) (sSeq (sIf (fB (fBin pEq (fTup (fCons (fVar 3) (fCons (fVar 4) fNil))) (fTup (fCons (fVar 1) (fCons (fVar 2) fNil))))) (sRet (fVar 5)) (fun D δ W => D.nx δ W))
    (sIf (fB (fBin pEq (fTup (fCons (fVar 4) (fCons (fVar 3) fNil))) (fTup (fCons (fVar 1) (fCons (fVar 2) fNil))))) (sRet (fVar 6)) (fun D δ W => D.nx δ W))))
    (sRet (fC (.int 0))))
def f_fits_in : FS :=
    (sRet (fNotV (fB1 bAny (fCons (fLc (fSeq (fVar 1)) (gN 3) fYes (fCall sp_do_cross (fCons (fVar 0) (fCons (fVar 2) (fCons (fVar 3) fNil)))) [3]) fNil))))
def f_with_movement : FS :=
    (sSeq (sAsg (fLst fNil) (gN 3))
    (sSeq (sFor (fSeq (fVar 1)) (gN 4) (sSeq (sAsg (fBin pAdd (fB1 bTuple (fCons (fLc (fSeq (fVar 4)) (gN 6) (fNotT (fB (fCall sp_do_cross (fCons (fVar 0) (fCons (fVar 6) (fCons (fVar 2) fNil)))))) (fVar 6) [6]) fNil)) (fTup (fCons (fVar 2) fNil))) (gN 5))
    (sSeq (sIf (fNotT (fB (fCall sp_fits_in (fCons (fVar 0) (fCons (fVar 4) (fCons (fVar 2) fNil)))))) (sDrop (fM isL mAppend (fVar 3) (fCons (fVar 4) fNil))) (fun D δ W => D.nx δ W))
    (sIf (fNotT (fB (fB1 bAny (fCons (fLc (fRng1 (fCons (fVar 2) fNil)) (gN 6) fYes (fAndV (fBin (pInA true) (fVar 6) (fVar 5)) (fCall sp_fits_in (fCons (fVar 0) (fCons (fVar 5) (fCons (fVar 6) fNil))))) [6]) fNil)))) (sDrop (fM isL mAppend (fVar 3) (fCons (fVar 5) fNil))) (fun D δ W => D.nx δ W)))))
    (sRet (fSortSet (fCons (fVar 3) fNil)))))
def f_stages : FS :=
    (sSeq (sAsg (fLst (fCons (fTup fNil) fNil)) (gN 1))
    (sSeq (sFor (fRng1 (fCons (fB1 bLen (fCons (fBin pSub' (fVar 0) (fC (.int 0))) fNil)) fNil)) (gN 2) (sAsg (fCall sp_with_movement (fCons (fVar 0) (fCons (fVar 1) (fCons (fVar 2) fNil)))) (gN 1)))
    (sRet (fB1 bTuple (fCons (fVar 1) fNil)))))
def f_clearing_of : FS :=
    (sRet (fB1 bMax (fCons (fLc2 (fSeq (fVar 1)) (gN 2) fYes (fRng1 (fCons (fB1 bLen (fCons (fBin pSub' (fVar 0) (fC (.int 0))) fNil)) fNil)) (gN 3) fYes (fCall sp_clearance (fCons (fVar 0) (fCons (fVar 2) (fCons (fVar 3) fNil)))) [2, 3] [3]) fNil)))
def f_clearings : FS :=
    (sRet (fB1 bTuple (fCons (fLc (fSeq (fCall sp_stages (fCons (fVar 0) fNil))) (gN 1) fYes (fCall sp_clearing_of (fCons (fVar 0) (fCons (fVar 1) fNil))) [1]) fNil)))
def f_clear_ticks : FS :=
    (sRet (fCall sp_clearing_of (fCons (fVar 0) (fCons (fBin pSub' (fCall sp_stages (fCons (fVar 0) fNil)) (fVar 1)) fNil))))
def f_greens : FS :=
    (sSeq (sPar 2 3 (fCons (fCall sp_stages (fCons (fVar 0) fNil)) (fCons (fCall sp_clearings (fCons (fVar 0) fNil)) fNil)))
    (sSeq (sAsg (fLst fNil) (gN 4))
    (sSeq (sAsg (fC (.int 0)) (gN 5))
    (sSeq (sFor (fSeq (fVar 1)) (gTp 2 (gCn (gN 6) (gCn (gN 7) gNl))) (sSeq (sDrop (fM isL mExtend (fVar 4) (fCons (fLc (fSeq (fBin pSub' (fVar 2) (fVar 6))) (gN 8) fYes (fTup (fCons (fVar 8) (fCons (fVar 5) (fCons (fBin pAdd (fVar 5) (fVar 7)) fNil)))) [8]) fNil)))
    (sAug 5 (fBin pAdd (fVar 7) (fBin pSub' (fVar 3) (fVar 6))) (pII0 fun i j => .int (i + j)))))
    (sRet (fB1 bTuple (fCons (fB1 bSortA (fCons (fVar 4) fNil)) fNil)))))))
def f_green_in : FS :=
    (sRet (fB1 bTuple (fCons (fLc (fSeq (fVar 0)) (gTp 3 (gCn (gN 2) (gCn (gN 3) (gCn (gN 4) gNl)))) (fB (fChain (pII0 fun i j => .bl (decide (i ≤ j))) (pII0 fun i j => .bl (decide (i < j))) (fVar 3) (fVar 1) (fVar 4))) (fVar 2) [2, 3, 4]) fNil)))
def f_lamps_at : FS :=
    (sRet (fCall sp_green_in (fCons (fCall sp_greens (fCons (fVar 0) (fCons (fVar 1) fNil))) (fCons (fVar 2) fNil))))
def f_lamp_rows : FS :=
    (sSeq (sAsg (fLst fNil) (gN 2))
    (sSeq (sFor (fSeq (fVar 1)) (gN 3) (sSeq (sAsg (fCall sp_greens (fCons (fVar 0) (fCons (fVar 3) fNil))) (gN 4))
    (sDrop (fM isL mExtend (fVar 2) (fCons (fLc (fRng1 (fCons (fBin pSub' (fVar 0) (fC (.int 2))) fNil)) (gN 5) fYes (fCall sp_green_in (fCons (fVar 4) (fCons (fVar 5) fNil))) [5]) fNil)))))
    (sRet (fVar 2))))
def f_first_crossed : FS :=
    (sSeq (sFor (fSeq (fVar 1)) (gN 2) (sFor (fSeq (fVar 1)) (gN 3) (sIf (fAndT (fB (fBin (pII0 fun i j => .bl (decide (i < j))) (fVar 2) (fVar 3))) (fB (fCall sp_do_cross (fCons (fVar 0) (fCons (fVar 2) (fCons (fVar 3) fNil)))))) (sRet (fTup (fCons (fVar 2) (fCons (fVar 3) fNil)))) (fun D δ W => D.nx δ W))))
    (sRet (fC .non)))
def f_first_early : FS :=
    (sSeq (sFor (fSeq (fB1 bSortA (fCons (fVar 1) fNil))) (gN 4) (sFor (fSeq (fVar 3)) (gN 5) (sIf (fB (fBin (pII0 fun i j => .bl (decide (i < j))) (fBin pSub (fBin pSub (fVar 2) (fBin pSub' (fVar 1) (fVar 4))) (fC (.int 1))) (fCall sp_clearance (fCons (fVar 0) (fCons (fVar 4) (fCons (fVar 5) fNil)))))) (sRet (fTup (fCons (fVar 4) (fCons (fVar 5) fNil)))) (fun D δ W => D.nx δ W))))
    (sRet (fC .non)))
def f_judge_lamps : FS :=
    (sSeq (sFor (fEnum (fCons (fVar 1) fNil)) (gTp 2 (gCn (gN 2) (gCn (gN 3) gNl))) (sSeq (sAsg (fCall sp_first_crossed (fCons (fVar 0) (fCons (fVar 3) fNil))) (gN 4))
    (sIf (fB (fBin pNotN (fVar 4) (fC .non))) (sRet (fTup (fCons (fC (.str "crossed")) (fCons (fVar 2) (fCons (fBin pSub' (fVar 4) (fC (.int 0))) (fCons (fBin pSub' (fVar 4) (fC (.int 1))) fNil)))))) (fun D δ W => D.nx δ W))))
    (sSeq (sAsg fDnew (gN 5))
    (sSeq (sAsg (fTup fNil) (gN 6))
    (sSeq (sFor (fEnum (fCons (fVar 1) fNil)) (gTp 2 (gCn (gN 2) (gCn (gN 3) gNl))) (sSeq (sAsg (fCall sp_first_early (fCons (fVar 0) (fCons (fVar 5) (fCons (fVar 2) (fCons (fLc (fSeq (fVar 3)) (gN 7) (fB (fBin (pInA true) (fVar 7) (fVar 6))) (fVar 7) [7]) fNil))))) (gN 4))
    (sSeq (sIf (fB (fBin pNotN (fVar 4) (fC .non))) (sRet (fTup (fCons (fC (.str "early")) (fCons (fVar 2) (fCons (fBin pSub' (fVar 4) (fC (.int 0))) (fCons (fBin pSub' (fVar 4) (fC (.int 1))) fNil)))))) (fun D δ W => D.nx δ W))
    (sSeq (sFor (fSeq (fVar 3)) (gN 8) (sAsg (fVar 2) (gSb (fVar 5) (fVar 8) pSet)))
    (sAsg (fVar 3) (gN 6))))))
    (sRet (fC .non))))))
def f__law_strict_town : FS :=
    (sSeq (sPar3 2 3 4 (fCons (fBin pAdd (fC (.int 2)) (fCall sp__law_pick (fCons (fVar 0) (fCons (fB1 bMin2 (fCons (fC (.int 3)) (fCons (fBin pSub (fVar 1) (fC (.int 1))) fNil))) fNil)))) (fCons (fLst (fCons (fLst fNil) (fCons (fLst fNil) fNil))) (fCons (fLst fNil) fNil))))
    (sSeq (sAsg (fBin pAdd (fC (.int 4)) (fCall sp__law_pick (fCons (fVar 0) (fCons (fC (.int 3)) fNil)))) (gN 5))
    (sSeq (sFor (fRng1 (fCons (fVar 2) fNil)) (gN 6) (sDrop (fM isL mAppend (fBin pSub' (fVar 3) (fB1 bInt (fCons (fBin pEq (fCall sp__law_pick (fCons (fVar 0) (fCons (fC (.int 4)) fNil))) (fC (.int 0))) fNil))) (fCons (fVar 6) fNil))))
    (sSeq (sFor (fSeq (fLc (fSeq (fVar 3)) (gN 7) (fB (fBin pNe (fVar 7) (fLst fNil))) (fVar 7) [7])) (gN 7) (sSeq (sAsg (fTup (fCons (fLc (fSeq (fVar 7)) (gN 9) fYes (fTup (fCons (fVar 9) (fCons (fC .non) fNil))) [9]) (fCons (fBin pSub' (fVar 7) (fCall sp__law_pick (fCons (fVar 0) (fCons (fB1 bLen (fCons (fVar 7) fNil)) fNil)))) fNil))) (gTp 2 (gCn (gN 8) (gCn (gN 6) gNl))))
    (sSeq (sAsg (fLc (fRng1 (fCons (fVar 2) fNil)) (gN 9) (fB (fBin pNe (fVar 9) (fVar 6))) (fVar 9) [9]) (gN 10))
    (sSeq (sIf (fAndT (fB (fBin pEq (fCall sp__law_pick (fCons (fVar 0) (fCons (fC (.int 2)) fNil))) (fC (.int 0)))) (fB (fBin (pII0 fun i j => .bl (decide (i < j))) (fB1 bLen (fCons (fVar 8) fNil)) (fC (.int 4))))) (sDrop (fM isL mAppend (fVar 8) (fCons (fTup (fCons (fVar 6) (fCons (fBin pSub' (fVar 10) (fCall sp__law_pick (fCons (fVar 0) (fCons (fB1 bLen (fCons (fVar 10) fNil)) fNil)))) fNil))) fNil))) (fun D δ W => D.nx δ W))
    (sSeq (sAsg (fLst fNil) (gN 11))
    (sSeq (sFor (fRng1 (fCons (fB1 bLen (fCons (fVar 8) fNil)) fNil)) (gN 12) (sAsg (fBin pAdd (fVar 11) (fLc (fRng2 (fCons (fBin pAdd (fVar 12) (fC (.int 1))) (fCons (fB1 bLen (fCons (fVar 8) fNil)) fNil))) (gN 13) (fB (fBin (pII0 fun i j => .bl (decide (j < i))) (fCall sp__law_pick (fCons (fVar 0) (fCons (fC (.int 5)) fNil))) (fC (.int 0)))) (fTup (fCons (fVar 12) (fCons (fVar 13) (fCons (fC (.int 1)) (fCons (fC (.int 1)) fNil))))) [13])) (gN 11)))
    (sDrop (fM isL mAppend (fVar 4) (fCons (fTup (fCons (fB1 bTuple (fCons (fVar 8) fNil)) (fCons (fB1 bTuple (fCons (fVar 11) fNil)) (fCons (fVar 5) fNil)))) fNil)))))))))
    (sRet (fTup (fCons (fVar 2) (fCons (fB1 bTuple (fCons (fVar 4) fNil)) fNil))))))))
def f__law_open_cells : FS :=
    (sSeq (sAsg (fC (.int 11)) (gN 1))
    (sSeq (sFor (fSeq (fVar 0)) (gN 2) (sAsg (fBin pMod (fB1 bInt (fCons (fBin pAdd (fBin pAdd (fBin pMul (fVar 1) (fC (.int 69069))) (fBin pMul (fVar 2) (fC (.int 31)))) (fC (.int 5))) fNil)) (fC (.int 2147483629))) (gN 1)))
    (sSeq (sAsg (fLc (fSeq (fVar 0)) (gN 2) fYes (fB1 bAbs (fCons (fVar 2) fNil)) [2]) (gN 3))
    (sRet (fDisp [((fC (.str "cells")), (fRevL (fVar 3))), ((fC (.str "left")), (fC (.int 1))), ((fC (.str "mixed")), (fVar 1)), ((fC (.str "turn")), (fC (.int 0)))])))))
def f__law_pick : FS :=
    (sSeq (sIf (fB (fBin (pII0 fun i j => .bl (decide (i < j))) (fVar 1) (fC (.int 2)))) (sRet (fC (.int 0))) (fun D δ W => D.nx δ W))
    (sSeq (sAsg (fBin pSub' (fVar 0) (fC (.str "cells"))) (gN 2))
    (sSeq (sWhile (fAndT (fB (fBin (pII0 fun i j => .bl (decide (i < j))) (fBin pSub' (fVar 0) (fC (.str "left"))) (fC (.int 2)))) (fB (fBin (pII0 fun i j => .bl (decide (j < i))) (fB1 bLen (fCons (fVar 2) fNil)) (fC (.int 0))))) (sAsg (fM0 isL mPop (fVar 2)) (gSb (fVar 0) (fC (.str "left")) pSet)))
    (sSeq (sAsg (fBin pSub' (fVar 0) (fC (.str "left"))) (gN 3))
    (sSeq (sIf (fB (fBin (pII0 fun i j => .bl (decide (j < i))) (fVar 3) (fC (.int 1)))) (sSeq (sAsg (fBin pFdiv (fVar 3) (fVar 1)) (gSb (fVar 0) (fC (.str "left")) pSet))
    (sRet (fBin pMod (fB1 bInt (fCons (fVar 3) fNil)) (fVar 1)))) (fun D δ W => D.nx δ W))
    (sSeq (sAsg (fBin pAdd (fBin pSub' (fVar 0) (fC (.str "turn"))) (fC (.int 1))) (gSb (fVar 0) (fC (.str "turn")) pSet))
    (sSeq (sAsg (fBin pSub' (fVar 0) (fC (.str "turn"))) (gN 4))
    (sSeq (sAsg (fBin pMod (fB1 bInt (fCons (fBin pAdd (fBin pSub' (fVar 0) (fC (.str "mixed"))) (fBin pMul (fVar 4) (fC (.int 104729)))) fNil)) (fC (.int 998244353))) (gN 5))
    (sSeq (sAsg (fBin pMod (fB1 bInt (fCons (fBin pAdd (fBin pMul (fVar 5) (fVar 5)) (fBin pMul (fVar 4) (fC (.int 17)))) fNil)) (fC (.int 2147483647))) (gN 5))
    (sRet (fBin pMod (fB1 bInt (fCons (fBin pFdiv (fVar 5) (fC (.int 16))) fNil)) (fVar 1))))))))))))
def f__law_any_order : FS :=
    (sSeq (sAsg (fB1 bList (fCons (fVar 1) fNil)) (gN 2))
    (sRet (fLc (fRng1 (fCons (fB1 bLen (fCons (fVar 2) fNil)) fNil)) (gN 3) fYes (fM isL mPopAt (fVar 2) (fCons (fCall sp__law_pick (fCons (fVar 0) (fCons (fB1 bLen (fCons (fVar 2) fNil)) fNil))) fNil)) [3])))
def f__law_clearance : FS :=
    (sSeq (sFor (fSeq (fBin pSub' (fVar 0) (fC (.int 1)))) (gTp 4 (gCn (gN 3) (gCn (gN 4) (gCn (gN 5) (gCn (gN 6) gNl))))) (sSeq (sIf (fB (fBin pEq (fTup (fCons (fVar 3) (fCons (fVar 4) fNil))) (fTup (fCons (fVar 1) (fCons (fVar 2) fNil))))) (sRet (fVar 5)) (fun D δ W => D.nx δ W))
    (sIf (fB (fBin pEq (fTup (fCons (fVar 3) (fCons (fVar 4) fNil))) (fTup (fCons (fVar 2) (fCons (fVar 1) fNil))))) (sRet (fVar 6)) (fun D δ W => D.nx δ W))))
    (sRet (fC .non)))
def f__law_stages : FS :=
    (sSeq (sPar 1 2 (fCons (fB1 bLen (fCons (fBin pSub' (fVar 0) (fC (.int 0))) fNil)) (fCons (fLst (fCons (fLst fNil) fNil)) fNil)))
    (sSeq (sFor (fRng1 (fCons (fVar 1) fNil)) (gN 3) (sAsg (fBin pAdd (fVar 2) (fLc (fSeq (fVar 2)) (gN 4) (fNotT (fB (fCall sp__law_crosses_one (fCons (fVar 0) (fCons (fVar 4) (fCons (fVar 3) fNil)))))) (fBin pAdd (fVar 4) (fLst (fCons (fVar 3) fNil))) [4])) (gN 2)))
    (sSeq (sAsg (fLst fNil) (gN 5))
    (sSeq (sFor (fSeq (fVar 2)) (gN 4) (sIf (fB (fB1 bAll (fCons (fLc (fRng1 (fCons (fVar 1) fNil)) (gN 3) fYes (fOrV (fBin (pInA false) (fVar 3) (fVar 4)) (fCall sp__law_crosses_one (fCons (fVar 0) (fCons (fVar 4) (fCons (fVar 3) fNil))))) [3]) fNil))) (sDrop (fM isL mAppend (fVar 5) (fCons (fB1 bTuple (fCons (fVar 4) fNil)) fNil))) (fun D δ W => D.nx δ W)))
    (sRet (fB1 bSortA (fCons (fVar 5) fNil)))))))
def f__law_crosses_one : FS :=
    (sRet (fB1 bAny (fCons (fLc (fSeq (fVar 1)) (gN 3) (fB (fBin pNe (fVar 3) (fVar 2))) (fBin pNotN (fCall sp__law_clearance (fCons (fVar 0) (fCons (fVar 2) (fCons (fVar 3) fNil)))) (fC .non)) [3]) fNil)))
def f__law_clearing : FS :=
    (sSeq (sAsg (fC (.int 0)) (gN 2))
    (sSeq (sFor (fSeq (fVar 1)) (gN 3) (sFor (fRng1 (fCons (fB1 bLen (fCons (fBin pSub' (fVar 0) (fC (.int 0))) fNil)) fNil)) (gN 4) (sIf (fAndT (fB (fBin pNe (fVar 3) (fVar 4))) (fB (fBin pNotN (fCall sp__law_clearance (fCons (fVar 0) (fCons (fVar 3) (fCons (fVar 4) fNil)))) (fC .non)))) (sAsg (fB1 bMax2 (fCons (fVar 2) (fCons (fCall sp__law_clearance (fCons (fVar 0) (fCons (fVar 3) (fCons (fVar 4) fNil)))) fNil))) (gN 2)) (fun D δ W => D.nx δ W))))
    (sRet (fVar 2))))
def f__law_draw_crossing : FS :=
    (sSeq (sAsg (fLst fNil) (gN 4))
    (sSeq (sFor (fSeq (fVar 2)) (gN 5) (sSeq (sAsg (fBin pAdd (fLst (fCons (fC .non) fNil)) (fLc (fRng1 (fCons (fVar 1) fNil)) (gN 7) (fB (fBin pNe (fVar 7) (fVar 5))) (fVar 7) [7])) (gN 6))
    (sFor (fRng1 (fCons (fBin pAdd (fC (.int 1)) (fB1 bInt (fCons (fBin pEq (fCall sp__law_pick (fCons (fVar 0) (fCons (fC (.int 3)) fNil))) (fC (.int 0))) fNil))) fNil)) (gN 8) (sSeq (sAsg (fTup (fCons (fVar 5) (fCons (fBin pSub' (fVar 6) (fCall sp__law_pick (fCons (fVar 0) (fCons (fB1 bLen (fCons (fVar 6) fNil)) fNil)))) fNil))) (gN 9))
    (sIf (fB (fBin (pInA true) (fVar 9) (fVar 4))) (sDrop (fM isL mAppend (fVar 4) (fCons (fVar 9) fNil))) (fun D δ W => D.nx δ W))))))
    (sSeq (sPar 4 10 (fCons (fSl (fCall sp__law_any_order (fCons (fVar 0) (fCons (fVar 4) fNil))) fNoPart (fPart (fC (.int 4)))) (fCons (fLst fNil) fNil)))
    (sSeq (sFor (fRng1 (fCons (fB1 bLen (fCons (fVar 4) fNil)) fNil)) (gN 11) (sFor (fRng2 (fCons (fBin pAdd (fVar 11) (fC (.int 1))) (fCons (fB1 bLen (fCons (fVar 4) fNil)) fNil))) (gN 12) (sIf (fB (fBin pEq (fCall sp__law_pick (fCons (fVar 0) (fCons (fC (.int 2)) fNil))) (fC (.int 0)))) (sDrop (fM isL mAppend (fVar 10) (fCons (fTup (fCons (fVar 11) (fCons (fVar 12) (fCons (fCall sp__law_pick (fCons (fVar 0) (fCons (fC (.int 3)) fNil))) (fCons (fCall sp__law_pick (fCons (fVar 0) (fCons (fC (.int 3)) fNil))) fNil))))) fNil))) (fun D δ W => D.nx δ W))))
    (sRet (fTup (fCons (fB1 bTuple (fCons (fVar 4) fNil)) (fCons (fB1 bTuple (fCons (fVar 10) fNil)) (fCons (fVar 3) fNil)))))))))
def f__law_draw_town : FS :=
    (sSeq (sIf (fAndT (fB (fBin (pII0 fun i j => .bl (decide (j < i))) (fVar 1) (fC (.int 1)))) (fB (fBin pEq (fCall sp__law_pick (fCons (fVar 0) (fCons (fC (.int 3)) fNil))) (fC (.int 0))))) (sRet (fCall sp__law_strict_town (fCons (fVar 0) (fCons (fVar 1) fNil)))) (fun D δ W => D.nx δ W))
    (sSeq (sPar3 2 3 4 (fCons (fBin pAdd (fC (.int 1)) (fCall sp__law_pick (fCons (fVar 0) (fCons (fVar 1) fNil)))) (fCons (fBin pAdd (fC (.int 3)) (fCall sp__law_pick (fCons (fVar 0) (fCons (fC (.int 6)) fNil)))) (fCons (fLst fNil) fNil))))
    (sSeq (sAsg (fLst (fCons (fLst fNil) (fCons (fLst fNil) (fCons (fLst fNil) fNil)))) (gN 5))
    (sSeq (sFor (fRng1 (fCons (fVar 2) fNil)) (gN 6) (sDrop (fM isL mAppend (fBin pSub' (fVar 5) (fCall sp__law_pick (fCons (fVar 0) (fCons (fC (.int 3)) fNil)))) (fCons (fVar 6) fNil))))
    (sSeq (sFor (fSeq (fVar 5)) (gN 7) (sIf (fB (fBin pNe (fVar 7) (fLst fNil))) (sDrop (fM isL mAppend (fVar 4) (fCons (fCall sp__law_draw_crossing (fCons (fVar 0) (fCons (fVar 2) (fCons (fVar 7) (fCons (fVar 3) fNil))))) fNil))) (fun D δ W => D.nx δ W)))
    (sRet (fTup (fCons (fVar 2) (fCons (fB1 bTuple (fCons (fVar 4) fNil)) fNil)))))))))
def f__law_draw_plan : FS :=
    (sSeq (sPar3 2 3 4 (fCons (fTup fNil) (fCons (fBin pSub' (fVar 1) (fC (.int 2))) (fCons (fCall sp__law_stages (fCons (fVar 1) fNil)) fNil))))
    (sSeq (sFor (fSeq (fCall sp__law_any_order (fCons (fVar 0) (fCons (fLstR1 (fB1 bLen (fCons (fVar 4) fNil))) fNil)))) (gN 5) (sSeq (sAsg (fBin pSub (fVar 3) (fCall sp__law_clearing (fCons (fVar 1) (fCons (fBin pSub' (fVar 4) (fVar 5)) fNil)))) (gN 6))
    (sIf (fAndT (fB (fBin (pII0 fun i j => .bl (decide (j < i))) (fVar 6) (fC (.int 0)))) (fB (fBin (pII0 fun i j => .bl (decide (j < i))) (fCall sp__law_pick (fCons (fVar 0) (fCons (fC (.int 3)) fNil))) (fC (.int 0))))) (sSeq (sAsg (fBin pAdd (fC (.int 1)) (fCall sp__law_pick (fCons (fVar 0) (fCons (fVar 6) fNil)))) (gN 7))
    (sPar 2 3 (fCons (fBin pAdd (fVar 2) (fTup (fCons (fTup (fCons (fVar 5) (fCons (fVar 7) fNil))) fNil))) (fCons (fBin pSub (fBin pSub (fVar 3) (fVar 7)) (fCall sp__law_clearing (fCons (fVar 1) (fCons (fBin pSub' (fVar 4) (fVar 5)) fNil)))) fNil)))) (fun D δ W => D.nx δ W))))
    (sRet (fVar 2))))
def f__law_lamps : FS :=
    (sSeq (sPar 2 3 (fCons (fLst fNil) (fCons (fCall sp__law_stages (fCons (fVar 0) fNil)) fNil)))
    (sSeq (sFor (fSeq (fVar 1)) (gN 4) (sSeq (sAsg (fLst fNil) (gN 5))
    (sSeq (sFor (fSeq (fVar 4)) (gTp 2 (gCn (gN 6) (gCn (gN 7) gNl))) (sAsg (fBin pAdd (fBin pAdd (fVar 5) (fBin pMul (fLst (fCons (fBin pSub' (fVar 3) (fVar 6)) fNil)) (fVar 7))) (fBin pMul (fLst (fCons (fTup fNil) fNil)) (fCall sp__law_clearing (fCons (fVar 0) (fCons (fBin pSub' (fVar 3) (fVar 6)) fNil))))) (gN 5)))
    (sAsg (fBin pAdd (fBin pAdd (fVar 2) (fVar 5)) (fBin pMul (fLst (fCons (fTup fNil) fNil)) (fBin pSub (fBin pSub' (fVar 0) (fC (.int 2))) (fB1 bLen (fCons (fVar 5) fNil))))) (gN 2)))))
    (sRet (fVar 2))))
def f__law_lamp_fault : FS :=
    (sSeq (sAsg (fB1 bLen (fCons (fBin pSub' (fVar 0) (fC (.int 0))) fNil)) (gN 2))
    (sSeq (sFor (fEnum (fCons (fVar 1) fNil)) (gTp 2 (gCn (gN 3) (gCn (gN 4) gNl))) (sFor (fSeq (fVar 4)) (gN 5) (sSeq (sAsg (fLc (fSeq (fVar 4)) (gN 7) (fAndT (fB (fBin (pII0 fun i j => .bl (decide (j < i))) (fVar 7) (fVar 5))) (fB (fBin pNotN (fCall sp__law_clearance (fCons (fVar 0) (fCons (fVar 5) (fCons (fVar 7) fNil)))) (fC .non)))) (fVar 7) [7]) (gN 6))
    (sIf (fB (fBin pNe (fVar 6) (fLst fNil))) (sRet (fTup (fCons (fC (.str "crossed")) (fCons (fVar 3) (fCons (fVar 5) (fCons (fBin pSub' (fVar 6) (fC (.int 0))) fNil)))))) (fun D δ W => D.nx δ W)))))
    (sSeq (sFor (fEnum (fCons (fVar 1) fNil)) (gTp 2 (gCn (gN 3) (gCn (gN 4) gNl))) (sFor (fRng1 (fCons (fVar 2) fNil)) (gN 5) (sSeq (sAsg (fLc (fRng1 (fCons (fVar 3) fNil)) (gN 9) (fB (fBin (pInA false) (fVar 5) (fBin pSub' (fVar 1) (fVar 9)))) (fVar 9) [9]) (gN 8))
    (sFor (fSeq (fVar 4)) (gN 7) (sSeq (sPar 10 11 (fCons (fOrV (fBin pEq (fVar 3) (fC (.int 0))) (fBin (pInA true) (fVar 7) (fBin pSub' (fVar 1) (fBin pSub (fVar 3) (fC (.int 1)))))) (fCons (fIf (fB (fBin pNe (fVar 5) (fVar 7))) (fCall sp__law_clearance (fCons (fVar 0) (fCons (fVar 5) (fCons (fVar 7) fNil)))) (fC .non)) fNil)))
    (sIf (fAndT (fTru (fVar 10)) (fAndT (fB (fBin pNotN (fVar 11) (fC .non))) (fAndT (fB (fBin pNe (fVar 8) (fLst fNil))) (fB (fBin (pII0 fun i j => .bl (decide (i < j))) (fBin pSub (fBin pSub (fVar 3) (fBin pSub' (fVar 8) (fNeg (fC (.int 1))))) (fC (.int 1))) (fVar 11)))))) (sRet (fTup (fCons (fC (.str "early")) (fCons (fVar 3) (fCons (fVar 5) (fCons (fVar 7) fNil)))))) (fun D δ W => D.nx δ W)))))))
    (sRet (fC .non)))))
def f_law : FS :=
    (sSeq (sAsg (fCall sp__law_open_cells (fCons (fVar 0) fNil)) (gN 1))
    (sSeq (sFor (fRng1 (fCons (fC (.int 2)) fNil)) (gN 2) (sSeq (sAsg (fCall sp__law_draw_town (fCons (fVar 1) (fCons (fC (.int 4)) fNil))) (gN 3))
    (sFor (fSeq (fBin pSub' (fVar 3) (fC (.int 1)))) (gN 4) (sSeq (sAsg (fCall sp__law_stages (fCons (fVar 4) fNil)) (gN 5))
    (sSeq (sIf (fB (fBin pNe (fLc (fRng1 (fCons (fB1 bLen (fCons (fVar 5) fNil)) fNil)) (gN 6) fYes (fCall sp_clear_ticks (fCons (fVar 4) (fCons (fVar 6) fNil))) [6]) (fLc (fSeq (fVar 5)) (gN 7) fYes (fCall sp__law_clearing (fCons (fVar 4) (fCons (fVar 7) fNil))) [7]))) (sRet (fC (.bl false))) (fun D δ W => D.nx δ W))
    (sSeq (sAsg (fLc (fRng1 (fCons (fC (.int 5)) fNil)) (gN 9) fYes (fCall sp__law_draw_plan (fCons (fVar 1) (fCons (fVar 4) fNil))) [9]) (gN 8))
    (sSeq (sAsg (fCall sp__law_lamps (fCons (fVar 4) (fCons (fVar 8) fNil))) (gN 10))
    (sSeq (sIf (fB (fBin pNe (fLc (fSeq (fCall sp_lamp_rows (fCons (fVar 4) (fCons (fVar 8) fNil)))) (gN 11) fYes (fB1 bTuple (fCons (fVar 11) fNil)) [11]) (fVar 10))) (sRet (fC (.bl false))) (fun D δ W => D.nx δ W))
    (sSeq (sIf (fB (fBin pNotN (fCall sp__law_lamp_fault (fCons (fVar 4) (fCons (fVar 10) fNil))) (fC .non))) (sRet (fC (.bl false))) (fun D δ W => D.nx δ W))
    (sSeq (sIf (fB (fBin pNotN (fCall sp_judge_lamps (fCons (fVar 4) (fCons (fVar 10) fNil))) (fC .non))) (sRet (fC (.bl false))) (fun D δ W => D.nx δ W))
    (sSeq (sAsg (fCall sp__law_lamps (fCons (fVar 4) (fCons (fSl (fVar 8) fNoPart (fPart (fC (.int 1)))) fNil))) (gN 12))
    (sSeq (sIf (fB (fBin pNe (fLc (fRng1 (fCons (fBin pSub' (fVar 4) (fC (.int 2))) fNil)) (gN 13) fYes (fB1 bTuple (fCons (fCall sp_lamps_at (fCons (fVar 4) (fCons (fBin pSub' (fVar 8) (fC (.int 0))) (fCons (fVar 13) fNil)))) fNil)) [13]) (fVar 12))) (sRet (fC (.bl false))) (fun D δ W => D.nx δ W))
    (sSeq (sIf (fB (fBin pNe (fB1 bSum (fCons (fLc (fSeq (fCall sp_greens (fCons (fVar 4) (fCons (fBin pSub' (fVar 8) (fC (.int 0))) fNil)))) (gTp 3 (gCn (gN 14) (gCn (gN 15) (gCn (gN 16) gNl)))) fYes (fBin pSub (fVar 16) (fVar 15)) [14, 15, 16]) fNil)) (fB1 bSum (fCons (fLc (fSeq (fVar 12)) (gN 11) fYes (fB1 bLen (fCons (fVar 11) fNil)) [11]) fNil)))) (sRet (fC (.bl false))) (fun D δ W => D.nx δ W))
    (sFor (fRng1 (fCons (fC (.int 3)) fNil)) (gN 9) (sSeq (sPar 13 14 (fCons (fCall sp__law_pick (fCons (fVar 1) (fCons (fB1 bLen (fCons (fVar 10) fNil)) fNil))) (fCons (fCall sp__law_pick (fCons (fVar 1) (fCons (fB1 bLen (fCons (fBin pSub' (fVar 4) (fC (.int 0))) fNil)) fNil))) fNil)))
    (sSeq (sAsg (fBin pAdd (fBin pAdd (fSl (fVar 10) fNoPart (fPart (fVar 13))) (fLst (fCons (fB1 bTuple (fCons (fB1 bSortA (fCons (fB1 bDictP (fCons (fLc (fSeq (fBin pAdd (fBin pSub' (fVar 10) (fVar 13)) (fTup (fCons (fVar 14) fNil)))) (gN 18) fYes (fTup (fCons (fVar 18) (fCons (fC (.int 1)) fNil))) [18]) fNil)) fNil)) fNil)) fNil))) (fSl (fVar 10) (fPart (fBin pAdd (fVar 13) (fC (.int 1)))) fNoPart)) (gN 17))
    (sIf (fB (fBin pNe (fB1 bRepr (fCons (fCall sp_judge_lamps (fCons (fVar 4) (fCons (fVar 17) fNil))) fNil)) (fB1 bRepr (fCons (fCall sp__law_lamp_fault (fCons (fVar 4) (fCons (fVar 17) fNil))) fNil)))) (sRet (fC (.bl false))) (fun D δ W => D.nx δ W))))))))))))))))))
    (sRet (fC (.bl true)))))
end A30
/-! B30a: bodies, one by one. -/
namespace A30
open PySem PySem.Spec PyProof.Rows L2 DL
abbrev RT (Q : DK) : DE := { nx := fun _ W' => ∃ W2, Sub W2 W' ∧ Q .non W2, rt := fun d W' => ∃ W2, Sub W2 W' ∧ Q d W2 }
section
variable {f g : FE} {p q : FT} {s t : FS} {B : DE} {δ : DL.Env} {W W1 : DW} {d : D} {xs : List D} {Q : DK} {R : RW3} {k : Bool}
theorem st_if (e : EvT p δ W k) (h1 : k = true → ∀ W1, Sub W W1 → s B δ W1) (h2 : k = false → ∀ W1, Sub W W1 → t B δ W1) : sIf p s t B δ W := e W _ (Sub.refl _) fun W1 s1 => by
  cases k with
  | true => exact h1 rfl W1 s1
  | false => exact h2 rfl W1 s1
theorem st_asg {i : Nat} (e : Ev f δ W R) (h : ∀ d W1, Sub W W1 → R W d W1 → B.nx (δ.set i (some d)) W1) : sAsg f (gN i) B δ W := e W _ (Sub.refl _) h
theorem st_asgI {i : Nat} (e : Ev f δ W (Is d)) (h : ∀ W1, Sub W W1 → B.nx (δ.set i (some d)) W1) : sAsg f (gN i) B δ W := e W _ (Sub.refl _) fun x W1 s1 i => by rw [show x = d from i]; exact h W1 s1
theorem st_asgN {i : Nat} (e : Ev f δ W (New xs)) (h : ∀ p W1, Sub W W1 → W p = none → W1 p = some (.lst xs) → B.nx (δ.set i (some (.ref p))) W1) : sAsg f (gN i) B δ W := e W _ (Sub.refl _) fun x W1 s1 i => by obtain ⟨p, rfl, h1, h2⟩ := i; exact h p W1 s1 h1 h2
theorem st_ret {W0 : DW} (e : Ev f δ W (Is d)) (s0 : Sub W0 W) (h : Q d W0) : sRet f (RT Q) δ W := e W _ (Sub.refl _) fun x W1 s1 i => by rw [show x = d from i]; exact ⟨W0, s0.trans s1, h⟩
theorem st_retE (e : Ev f δ W (Is d)) (h : ∀ W1, Sub W W1 → B.rt d W1) : sRet f B δ W := e W _ (Sub.refl _) fun x W1 s1 i => by rw [show x = d from i]; exact h W1 s1
theorem gtp2 {i j : Nat} {a b : D} {Q : DL.Env → DW → Prop} (h : Q ((δ.set i (some a)).set j (some b)) W) : gTp 2 (gCn (gN i) (gCn (gN j) gNl)) (.tup [a, b]) δ W Q := ⟨rfl, rfl, h⟩
theorem gtp3 {i j l : Nat} {a b c : D} {Q : DL.Env → DW → Prop} (h : Q (((δ.set i (some a)).set j (some b)).set l (some c)) W) : gTp 3 (gCn (gN i) (gCn (gN j) (gCn (gN l) gNl))) (.tup [a, b, c]) δ W Q := ⟨rfl, rfl, h⟩
theorem gtp4 {i j l m : Nat} {a b c e : D} {Q : DL.Env → DW → Prop} (h : Q ((((δ.set i (some a)).set j (some b)).set l (some c)).set m (some e)) W) : gTp 4 (gCn (gN i) (gCn (gN j) (gCn (gN l) (gCn (gN m) gNl)))) (.tup [a, b, c, e]) δ W Q := ⟨rfl, rfl, h⟩
theorem ev_cut {n : Int} {ys : List D} (h : Ev f δ W (Is (.tup xs))) (e : cutD xs none (some n) = ys) : Ev (fSl f fNoPart (fPart (fC (.int n)))) δ W (Is (.tup ys)) := fun W1 Q s k => h W1 _ s fun x W2 s2 i => by
  rw [show x = D.tup xs from i]
  subst e
  exact k _ W2 s2 rfl
theorem any_encT (y : List Int) (xs : List (List Int)) : ((xs.map encT).any fun z => PyData.eqv z (encT y)) = decide (y ∈ xs) := by
  induction xs with
  | nil => simp
  | cons x xs ih =>
    rw [List.map_cons, List.any_cons, ih, eqv_encT]
    by_cases h : x = y
    · simp [h]
    · have : ¬ y = x := fun e => h e.symm
      simp [h, this]
theorem ins_tupT {W : DW} (xs : List (List Int)) : Ins W (.tup (xs.map tupI)) (xs.map encT) := .inr ⟨.tup (pys_map py_tupI xs), shaped_of (by simp only [PyData.canLay0]; exact lay_map lay_encT xs) (by simp only [PyData.depth]; have := dep_map dep_encT xs; omega)⟩
theorem ev_inTT {y : List Int} {zs : List (List Int)} (hf : Ev f δ W (Is (tupI y))) (hg : Ev g δ W (Is (.tup (zs.map tupI)))) : Ev (fBin (pInA false) f g) δ W (Is (.bl (decide (y ∈ zs)))) := by
  have := ev_bin hf hg (evo_in (py_tupI y) (ins_tupT zs) (shaped_encT y))
  rwa [any_encT] at this
theorem any_map_bl {α : Type} (u : α → Bool) (ys : List α) : ((ys.map u).map D.bl) = ys.map fun z => .bl (u z) := by rw [List.map_map]; rfl
theorem any_id_map {α : Type} (u : α → Bool) (ys : List α) : (ys.map u).any id = ys.any u := by rw [List.any_map]; rfl
theorem all_id_map {α : Type} (u : α → Bool) (ys : List α) : (ys.map u).all id = ys.all u := by rw [List.all_map]; rfl
/-- any([.. for .. in ..]) -/
theorem ev_anyM {α : Type} {enc : α → D} {ys : List α} {fi : FI} {gt : FG} {te : FE} {vs : List Nat} (u : α → Bool) (hi : EvI fi δ W (ys.map enc))
    (hx : ∀ z ∈ ys, ∃ δ2, (∀ W2 N, N δ2 W2 → gt (enc z) (wipeD δ vs) W2 N) ∧ Ev te δ2 W (Is (.bl (u z)))) (hl : ys.length ≤ sizeLine) : Ev (fB1 bAny (fCons (fLc fi gt fYes te vs) fNil)) δ W (Is (.bl (ys.any u))) :=
  ev_b1N (ev_lcM (fun z => .bl (u z)) hi hx hl) fun p W1 h1 => by
    have := evb_any (W := W1) (c := p) (ns := ys.map u) (by rw [h1, any_map_bl])
    rwa [any_id_map] at this
theorem ev_allM {α : Type} {enc : α → D} {ys : List α} {fi : FI} {gt : FG} {te : FE} {vs : List Nat} (u : α → Bool) (hi : EvI fi δ W (ys.map enc))
    (hx : ∀ z ∈ ys, ∃ δ2, (∀ W2 N, N δ2 W2 → gt (enc z) (wipeD δ vs) W2 N) ∧ Ev te δ2 W (Is (.bl (u z)))) (hl : ys.length ≤ sizeLine) : Ev (fB1 bAll (fCons (fLc fi gt fYes te vs) fNil)) δ W (Is (.bl (ys.all u))) :=
  ev_b1N (ev_lcM (fun z => .bl (u z)) hi hx hl) fun p W1 h1 => by
    have := evb_all (W := W1) (c := p) (ns := ys.map u) (by rw [h1, any_map_bl])
    rwa [all_id_map] at this
end
theorem sz (n : Nat) (h : n ≤ 1000 := by omega) : n ≤ sizeLine := Nat.le_trans h (by have := sizeLine_eq; omega)
/-! ### what calls come to -/
section
variable {W : DW} {c : Cr} (w : Wf c)
include w
theorem e_do_cross {i j : Int} : EvB sp_do_cross [c.enc, .int i, .int j] W (Is (.bl (c.cross i j))) := fun W1 Q s k => ⟨c, i, j, rfl, w, k _ W1 (Sub.refl _) rfl⟩
theorem e_clearance {i j : Int} : EvB sp_clearance [c.enc, .int i, .int j] W (Is (.int (c.cl i j))) := fun W1 Q s k => ⟨c, i, j, rfl, w, k _ W1 (Sub.refl _) rfl⟩
theorem e_fits_in {l : List Int} {i : Int} (h : l.length ≤ 64) : EvB sp_fits_in [c.enc, tupI l, .int i] W (Is (.bl (c.fits l i))) := fun W1 Q s k => ⟨c, l, i, rfl, w, h, k _ W1 (Sub.refl _) rfl⟩
theorem e_stages : EvB sp_stages [c.enc] W (Is (.tup (c.sts.map tupI))) := fun W1 Q s k => ⟨c, rfl, w, k _ W1 (Sub.refl _) rfl⟩
theorem e_clearing_of {l : List Int} (h : l ≠ []) (h2 : l.length ≤ 8) : EvB sp_clearing_of [c.enc, tupI l] W (Is (.int (c.clg l))) := fun W1 Q s k => ⟨c, l, rfl, w, h, h2, k _ W1 (Sub.refl _) rfl⟩
theorem e_clearings : EvB sp_clearings [c.enc] W (Is (.tup (c.sts.map fun l => .int (c.clg l)))) := fun W1 Q s k => ⟨c, rfl, w, k _ W1 (Sub.refl _) rfl⟩
theorem e_law_clearance {i j : Int} : EvB sp__law_clearance [c.enc, .int i, .int j] W (Is (oI (c.clO i j))) := fun W1 Q s k => ⟨c, i, j, rfl, w, k _ W1 (Sub.refl _) rfl⟩
end
/-! ### bodies -/
theorem len_do_cross : ∀ ds W Q, sp_do_cross ds W Q → ds.length = 3 := fun ds W Q ⟨c, i, j, e, _⟩ => by rw [e]; rfl
theorem body_do_cross : ∀ ds W Q, sp_do_cross ds W Q → f_do_cross (RT Q) (startD ["crossing", "i", "j", "row"] ds) W := by
  rintro ds W Q ⟨c, i, j, rfl, w, q⟩
  refine st_ret (d := .bl (c.cross i j)) ?_ (Sub.refl _) q
  refine ev_anyM (enc := encR) (ys := c.cs) (crs i j) (evi_seq (d := .tup (c.cs.map encR)) (ev_bin (ev_var rfl) ev_c (evo_ix rfl)) rfl).i (fun r hr => ⟨_, fun _ _ h => h, ?_⟩) (sz _ (by have := w.cs; omega))
  have e : crs i j r = decide ([r.1, r.2.1] ∈ [[i, j], [j, i]]) := by
    unfold crs
    rw [decide_eq_decide]
    simp
  rw [e]
  refine ev_inTT (ev_cut (xs := [.int r.1, .int r.2.1, .int r.2.2.1, .int r.2.2.2]) (ev_var rfl) rfl) ?_
  exact ev_tup (eva_cons (ev_tup (eva_cons (ev_var rfl) (eva_cons (ev_var rfl) eva_nil)) (sz 2)) (eva_cons (ev_tup (eva_cons (ev_var rfl) (eva_cons (ev_var rfl) eva_nil)) (sz 2)) eva_nil)) (sz 2)
theorem len_clearance : ∀ ds W Q, sp_clearance ds W Q → ds.length = 3 := fun ds W Q ⟨c, i, j, e, _⟩ => by rw [e]; rfl
theorem tup2 {f g : FE} {δ : DL.Env} {W : DW} {x y : D} (hf : Ev f δ W (Is x)) (hg : Ev g δ W (Is y)) : Ev (fTup (fCons f (fCons g fNil))) δ W (Is (.tup [x, y])) := ev_tup (eva_cons hf (eva_cons hg eva_nil)) (sz 2)
theorem ev_eq2 {f g h k : FE} {δ : DL.Env} {W : DW} {a b i j : Int} (ha : Ev f δ W (Is (.int a))) (hb : Ev g δ W (Is (.int b))) (hi : Ev h δ W (Is (.int i))) (hj : Ev k δ W (Is (.int j))) :
    EvT (fB (fBin pEq (fTup (fCons f (fCons g fNil))) (fTup (fCons h (fCons k fNil))))) δ W (decide (a = i ∧ b = j)) := by
  have := evt_b (ev_eqT (x := [a, b]) (y := [i, j]) (tup2 ha hb) (tup2 hi hj))
  simpa using this
theorem find_hit {c : Cr} {i j : Int} : c.cs.findSome? (fun r => (hit i j r).map D.int) = (c.clO i j).map D.int := by
  unfold Cr.clO
  induction c.cs with
  | nil => rfl
  | cons r rs ih =>
    rw [List.findSome?_cons, List.findSome?_cons]
    cases hit i j r with
    | none => exact ih
    | some v => rfl
theorem body_clearance : ∀ ds W Q, sp_clearance ds W Q → f_clearance (RT Q) (startD ["crossing", "i", "j", "one", "other", "ahead", "behind"] ds) W := by
  rintro ds W Q ⟨c, i, j, rfl, w, q⟩
  unfold f_clearance
  refine for_find (enc := encR) (ys := c.cs) (fun δ => ∃ a b l e : Option D, δ = [some c.enc, some (.int i), some (.int j), a, b, l, e]) (fun r => (hit i j r).map D.int) (evi_seq (d := .tup (c.cs.map encR)) (ev_bin (ev_var rfl) ev_c (evo_ix rfl)) rfl) ⟨_, _, _, _, rfl⟩ ?_ ?_ ?_
  · rintro r hr B' δ1 W1 ⟨a, b, l, e, rfl⟩ s1 hs hn
    refine gtp4 ?_
    refine st_if (ev_eq2 (ev_var rfl) (ev_var rfl) (ev_var rfl) (ev_var rfl)) (fun h W2 s2 => ?_) fun h W2 s2 => ?_
    · have h := of_decide_eq_true h
      refine st_retE (ev_var rfl) fun W3 s3 => hs _ ?_ W3 (s2.trans s3)
      unfold hit
      rw [if_pos h]
      rfl
    · have h := of_decide_eq_false h
      refine st_if (ev_eq2 (ev_var rfl) (ev_var rfl) (ev_var rfl) (ev_var rfl)) (fun h2 W3 s3 => ?_) fun h2 W3 s3 => ?_
      · have h2 := of_decide_eq_true h2
        refine st_retE (ev_var rfl) fun W4 s4 => hs _ ?_ W4 (s2.trans (s3.trans s4))
        unfold hit
        rw [if_neg h, if_pos h2]
        rfl
      · have h2 := of_decide_eq_false h2
        refine hn ?_ _ W3 ⟨_, _, _, _, rfl⟩ (s2.trans s3)
        unfold hit
        rw [if_neg h, if_neg h2]
        rfl
  · intro r hr W2 s2
    rw [find_hit] at hr
    obtain ⟨v, hv, rfl⟩ := Option.map_eq_some_iff.mp hr
    refine ⟨W, s2, ?_⟩
    rw [show c.cl i j = v by unfold Cr.cl; rw [hv]; rfl] at q
    exact q
  · rintro hr δ2 W2 ⟨a, b, l, e, rfl⟩ s2
    rw [find_hit, Option.map_eq_none_iff] at hr
    rw [show c.cl i j = 0 by unfold Cr.cl; rw [hr]; rfl] at q
    exact st_ret (δ := [some c.enc, some (.int i), some (.int j), a, b, l, e]) ev_c s2 q
theorem len__law_clearance : ∀ ds W Q, sp__law_clearance ds W Q → ds.length = 3 := fun ds W Q ⟨c, i, j, e, _⟩ => by rw [e]; rfl
theorem body__law_clearance : ∀ ds W Q, sp__law_clearance ds W Q → f__law_clearance (RT Q) (startD ["crossing", "i", "j", "a", "b", "late", "early"] ds) W := by
  rintro ds W Q ⟨c, i, j, rfl, w, q⟩
  unfold f__law_clearance
  refine for_find (enc := encR) (ys := c.cs) (fun δ => ∃ a b l e : Option D, δ = [some c.enc, some (.int i), some (.int j), a, b, l, e]) (fun r => (hit i j r).map D.int) (evi_seq (d := .tup (c.cs.map encR)) (ev_bin (ev_var rfl) ev_c (evo_ix rfl)) rfl) ⟨_, _, _, _, rfl⟩ ?_ ?_ ?_
  · rintro r hr B' δ1 W1 ⟨a, b, l, e, rfl⟩ s1 hs hn
    refine gtp4 ?_
    refine st_if (ev_eq2 (ev_var rfl) (ev_var rfl) (ev_var rfl) (ev_var rfl)) (fun h W2 s2 => ?_) fun h W2 s2 => ?_
    · have h := of_decide_eq_true h
      refine st_retE (ev_var rfl) fun W3 s3 => hs _ ?_ W3 (s2.trans s3)
      unfold hit
      rw [if_pos h]
      rfl
    · have h := of_decide_eq_false h
      refine st_if (ev_eq2 (ev_var rfl) (ev_var rfl) (ev_var rfl) (ev_var rfl)) (fun h2 W3 s3 => ?_) fun h2 W3 s3 => ?_
      · have h2 := of_decide_eq_true h2
        refine st_retE (ev_var rfl) fun W4 s4 => hs _ ?_ W4 (s2.trans (s3.trans s4))
        unfold hit
        rw [if_neg h, if_pos ⟨h2.2, h2.1⟩]
        rfl
      · have h2 := of_decide_eq_false h2
        refine hn ?_ _ W3 ⟨_, _, _, _, rfl⟩ (s2.trans s3)
        unfold hit
        rw [if_neg h, if_neg fun z => h2 ⟨z.2, z.1⟩]
        rfl
  · intro r hr W2 s2
    rw [find_hit] at hr
    obtain ⟨v, hv, rfl⟩ := Option.map_eq_some_iff.mp hr
    rw [hv] at q
    exact ⟨W, s2, q⟩
  · rintro hr δ2 W2 ⟨a, b, l, e, rfl⟩ s2
    rw [find_hit, Option.map_eq_none_iff] at hr
    rw [hr] at q
    exact st_ret (δ := [some c.enc, some (.int i), some (.int j), a, b, l, e]) ev_c s2 q
theorem len_fits_in : ∀ ds W Q, sp_fits_in ds W Q → ds.length = 3 := fun ds W Q ⟨c, i, j, e, _⟩ => by rw [e]; rfl
theorem body_fits_in : ∀ ds W Q, sp_fits_in ds W Q → f_fits_in (RT Q) (startD ["crossing", "stage", "i", "k"] ds) W := by
  rintro ds W Q ⟨c, l, i, rfl, w, hl, q⟩
  refine st_ret (d := .bl (c.fits l i)) (ev_notV ?_) (Sub.refl _) q
  refine ev_anyM (enc := D.int) (ys := l) (fun k => c.cross i k) (evi_seq (d := tupI l) (ev_var rfl) rfl).i (fun r hr => ⟨_, fun _ _ h => h, ?_⟩) (sz _)
  exact ev_call (eva_cons (ev_var rfl) (eva_cons (ev_var rfl) (eva_cons (ev_var rfl) eva_nil))) (e_do_cross w)
end A30
namespace A30
open PySem PySem.Spec PyProof.Rows L2 DL
section
variable {α : Type} {enc : α → D} {keep : DW → Prop} {g : FG} {body : FS} {B : DE} {fi : FI} {δ : DL.Env} {W W0 : DW}
theorem loop_acc {ys : List α} (I : List α → DL.Env → DW → Prop) (hk : ∀ done δ W', I done δ W' → keep W')
    (hs : ∀ done z rest δ W' (N : DL.Env → DW → Prop), ys = done ++ z :: rest → I done δ W' → (∀ δ2 W2, I (done ++ [z]) δ2 W2 → N δ2 W2) → g (enc z) δ W' fun δ2 W2 => body { nx := N, rt := B.rt, bk := B.nx, ct := N } δ2 W2)
    (he : ∀ δ W', I ys δ W' → B.nx δ W') : ∀ (rest done : List α) δ W', ys = done ++ rest → I done δ W' → loopD keep g body B (rest.map enc) δ W'
  | [], done, δ, W', e, h => ⟨hk _ _ _ h, he δ W' (by rw [e, List.append_nil]; exact h)⟩
  | z :: rest, done, δ, W', e, h => ⟨hk _ _ _ h, hs done z rest δ W' _ e h fun δ2 W2 h2 => loop_acc I hk hs he rest (done ++ [z]) δ2 W2 (by rw [e, List.append_assoc]; rfl) h2⟩
theorem for_acc {ys : List α} (I : List α → DL.Env → DW → Prop) (hi : EvJ fi δ W0 (ys.map enc)) (s0 : Sub W0 W) (hsub : ∀ done δ W', I done δ W' → Sub W0 W') (h0 : ∀ W1, Sub W W1 → I [] δ W1)
    (hs : ∀ done z rest δ W' (N : DL.Env → DW → Prop), ys = done ++ z :: rest → I done δ W' → (∀ δ2 W2, I (done ++ [z]) δ2 W2 → N δ2 W2) → g (enc z) δ W' fun δ2 W2 => body { nx := N, rt := B.rt, bk := B.nx, ct := N } δ2 W2)
    (he : ∀ δ W', I ys δ W' → B.nx δ W') : sFor fi g body B δ W := hi W _ s0 fun keep W2 s2 hk => loop_acc I (fun d e W' h => hk W' (hsub d e W' h)) hs he ys [] δ W2 rfl (h0 W2 s2)
end
theorem range_split {n z : Nat} {done rest : List Nat} (e : List.range n = done ++ z :: rest) : done = List.range z ∧ z < n := by
  have hl : done.length < n := by
    have := congrArg List.length e
    simp at this
    omega
  have h1 : (List.range n)[done.length]? = some z := by rw [e]; simp
  rw [List.getElem?_range hl] at h1
  have h1 : done.length = z := by simpa using h1
  have h2 : done = (List.range n).take done.length := by rw [e]; simp
  rw [List.take_range] at h2
  rw [Nat.min_eq_left (by omega), h1] at h2
  exact ⟨h2, by omega⟩
theorem rngD0 (n : Nat) : rngD 0 n = (List.range n).map fun k => D.int ((k : Nat) : Int) := by
  unfold rngD
  congr 1
  funext k
  rw [Int.zero_add]
theorem evi_rng {f : FE} {δ : DL.Env} {W : DW} {n : Nat} (h : Ev f δ W (Is (.int n))) (h2 : n ≤ 100000) : EvJ (fRng1 (fCons f fNil)) δ W ((List.range n).map fun k => D.int ((k : Nat) : Int)) := by
  have := evi_rng1 h (by omega) (by omega)
  rw [rngD0] at this
  simpa using this
theorem st_append {i : Nat} {f : FE} {B : DE} {δ : DL.Env} {W : DW} {p : Addr} {acc : List D} {d : D} (hv : δ[i]? = some (some (.ref p))) (w : W p = some (.lst acc)) (hl : acc.length < sizeLine) (e : Ev f δ W (Is d))
    (h : ∀ W1, Sub W W1 → W1 p = some (.lst acc) → B.nx δ (wup W1 p (.lst (acc ++ [d])))) : sDrop (fM isL mAppend (fVar i) (fCons f fNil)) B δ W :=
  ⟨_, hv, ⟨p, acc, rfl, w⟩, e W _ (Sub.refl _) fun x W1 s1 i => by rw [show x = d from i]; exact ⟨p, acc, d, rfl, rfl, s1 _ _ w, hl, h W1 s1 (s1 _ _ w)⟩⟩
theorem st_extend {i : Nat} {f : FE} {B : DE} {δ : DL.Env} {W : DW} {p : Addr} {acc xs : List D} (hv : δ[i]? = some (some (.ref p))) (w : W p = some (.lst acc)) (hl : acc.length + xs.length ≤ sizeLine) (e : Ev f δ W (New xs))
    (h : ∀ W1, Sub W W1 → W1 p = some (.lst acc) → B.nx δ (wup W1 p (.lst (acc ++ xs)))) : sDrop (fM isL mExtend (fVar i) (fCons f fNil)) B δ W :=
  ⟨_, hv, ⟨p, acc, rfl, w⟩, e W _ (Sub.refl _) fun x W1 s1 i => by obtain ⟨b, rfl, h1, h2⟩ := i; exact ⟨p, b, acc, xs, rfl, rfl, s1 _ _ w, h2, hl, h W1 s1 (s1 _ _ w)⟩⟩
theorem gro_len (c : Cr) (ls : List (List Int)) (i : Nat) : (c.gro ls i).length ≤ 2 * ls.length := by
  unfold Cr.gro
  induction ls with
  | nil => simp
  | cons l ls ih =>
    rw [List.flatMap_cons, List.length_append, List.length_cons]
    have : (c.gro1 l i).length ≤ 2 := by
      unfold Cr.gro1
      rw [List.length_append]
      split <;> split <;> simp
    omega
theorem gro_snoc (c : Cr) (ls : List (List Int)) (l : List Int) (i : Nat) : c.gro (ls ++ [l]) i = c.gro ls i ++ c.gro1 l i := by unfold Cr.gro; simp
theorem filterMap_filter_int (p : Int → Bool) (l : List Int) : (l.filterMap fun k => if p k then some (D.int k) else none) = (l.filter p).map D.int := by
  induction l with
  | nil => rfl
  | cons x l ih =>
    rw [List.filterMap_cons, List.filter_cons]
    cases p x with
    | true => simp [ih]
    | false => simp [ih]
theorem len_with_movement : ∀ ds W Q, sp_with_movement ds W Q → ds.length = 3 := fun ds W Q ⟨c, i, j, k, e, _⟩ => by rw [e]; rfl
theorem body_with_movement : ∀ ds W Q, sp_with_movement ds W Q → f_with_movement (RT Q) (startD ["crossing", "found", "i", "grown", "stage", "beside", "k"] ds) W := by
  rintro ds W Q ⟨c, a, ls, i, rfl, w, wa, hls, hi, hll, q⟩
  unfold f_with_movement
  refine st_asgN (ev_lst eva_nil (sz 0)) fun p W1 s1 hp w1 => ?_
  refine for_acc (W0 := W) (ys := ls) (enc := tupI) (fun done δ W' => (∃ x4 x5 x6 : Option D, δ = [some c.enc, some (.ref a), some (.int i), some (.ref p), x4, x5, x6]) ∧ Sub W W' ∧ W' p = some (.lst ((c.gro done i).map tupI)))
    (evi_seq (d := .ref a) (ev_var rfl) (by simp only [seqD]; rw [wa])) s1 (fun done δ W' h => h.2.1) (fun W2 s2 => ⟨⟨_, _, _, rfl⟩, s1.trans s2, s2 _ _ w1⟩) ?_ ?_
  · rintro done l rest δ W2 N e ⟨⟨x4, x5, x6, rfl⟩, s2, w2⟩ hN
    have hlm : l ∈ ls := by rw [e]; simp
    have hl8 := hll l hlm
    have hg := gro_len c done i
    have hdl : done.length < ls.length := by rw [e]; simp
    show sSeq _ _ _ [some c.enc, some (.ref a), some (.int i), some (.ref p), some (tupI l), x5, x6] W2
    refine st_asgI (d := tupI (c.beside l i)) ?_ fun W3 s3 => ?_
    · have h1 : Ev (fB1 bTuple (fCons (fLc (fSeq (fVar 4)) (gN 6) (fNotT (fB (fCall sp_do_cross (fCons (fVar 0) (fCons (fVar 6) (fCons (fVar 2) fNil)))))) (fVar 6) [6]) fNil)) [some c.enc, some (.ref a), some (.int i), some (.ref p), some (tupI l), x5, x6] W2 (Is (tupI (l.filter fun k => !c.cross k i))) := by
        refine ev_b1N (ev_lc (enc := D.int) (ys := l) (fun k => if !c.cross k i then some (.int k) else none) (evi_seq (d := tupI l) (ev_var rfl) rfl).i (fun k hk => ⟨_, fun _ _ h => h, ?_, ?_⟩) ?_) fun p1 W4 h4 => ?_
        · have := evt_not (evt_b (ev_call (eva_cons (ev_var (δ := [some c.enc, some (.ref a), some (.int i), some (.ref p), some (tupI l), x5, some (.int k)]) (i := 0) (W := W2) rfl) (eva_cons (ev_var (i := 6) rfl) (eva_cons (ev_var (i := 2) rfl) eva_nil))) (e_do_cross w (i := k) (j := i))))
          have e2 : (!c.cross k i) = (if !c.cross k i then some (D.int k) else none).isSome := by cases c.cross k i <;> rfl
          rw [← e2]
          exact this
        · intro y hy
          split at hy
          · cases hy; exact ev_var rfl
          · cases hy
        · rw [filterMap_filter_int]; have := List.length_filter_le (fun k => !c.cross k i) l; exact sz _ (by simp; omega)
        · rw [filterMap_filter_int] at h4
          exact evb_tuple (x := .ref p1) (by simp only [seqD]; rw [h4])
      have := ev_bin h1 (ev_tup (eva_cons (ev_var (i := 2) rfl) eva_nil) (sz 1)) (evo_addT (sz _ (by have := List.length_filter_le (fun k => !c.cross k i) l; simp; omega)))
      unfold Cr.beside
      rw [show tupI (List.filter (fun k => !c.cross k i) l ++ [(i : Int)]) = .tup (List.map D.int (List.filter (fun k => !c.cross k i) l) ++ [D.int i]) by unfold tupI; simp]
      exact this
    · have w3 := s3 _ _ w2
      have hb : (c.beside l i).length ≤ 64 := by unfold Cr.beside; have := List.length_filter_le (fun k => !c.cross k i) l; simp; omega
      -- first stage, then beside
      have step2 : ∀ acc W4, Sub W3 W4 ∨ True → Sub W W4 → W4 p = some (.lst (acc.map tupI)) → acc.length ≤ 64 → (∀ W5, Sub W W5 → W5 p = some (.lst ((acc ++ (if !c.open_ (c.beside l i) i then [c.beside l i] else [])).map tupI)) → N [some c.enc, some (.ref a), some (.int i), some (.ref p), some (tupI l), some (tupI (c.beside l i)), x6] W5) →
          (sIf (fNotT (fB (fB1 bAny (fCons (fLc (fRng1 (fCons (fVar 2) fNil)) (gN 6) fYes (fAndV (fBin (pInA true) (fVar 6) (fVar 5)) (fCall sp_fits_in (fCons (fVar 0) (fCons (fVar 5) (fCons (fVar 6) fNil))))) [6]) fNil)))) (sDrop (fM isL mAppend (fVar 3) (fCons (fVar 5) fNil))) (fun D δ W => D.nx δ W)) { nx := N, rt := (RT Q).rt, bk := N, ct := N } [some c.enc, some (.ref a), some (.int i), some (.ref p), some (tupI l), some (tupI (c.beside l i)), x6] W4 := by
        intro acc W4 _ s4 w4 hacc hN4
        refine st_if (k := !c.open_ (c.beside l i) i) (evt_not (evt_b ?_)) (fun h W5 s5 => ?_) fun h W5 s5 => ?_
        · refine ev_anyM (enc := fun k : Nat => D.int (k : Int)) (ys := List.range i) (fun k => !decide (((k : Nat) : Int) ∈ c.beside l i) && c.fits (c.beside l i) k) (evi_rng (ev_var rfl) (by omega)).i (fun k hk => ⟨_, fun _ _ h => h, ?_⟩) (sz _ (by simp; omega))
          refine ev_andV (ev_notInT (ev_var rfl) (ev_var rfl)) fun _ => ?_
          exact ev_call (eva_cons (ev_var rfl) (eva_cons (ev_var rfl) (eva_cons (ev_var rfl) eva_nil))) (e_fits_in w hb)
        · refine st_append rfl (s5 _ _ w4) (by simp; exact sz (acc.length + 1)) (ev_var rfl) fun W6 s6 w6 => hN4 _ ((s4.trans (s5.trans s6)).new hp) ?_
          rw [wup_same, if_pos h]
          simp
        · exact hN4 W5 (s4.trans s5) (by rw [if_neg (by simp [h])]; simpa using s5 _ _ w4)
      have fin : ∀ W5, Sub W W5 → W5 p = some (.lst ((c.gro (done ++ [l]) i).map tupI)) → N [some c.enc, some (.ref a), some (.int i), some (.ref p), some (tupI l), some (tupI (c.beside l i)), x6] W5 := fun W5 s5 w5 => hN _ _ ⟨⟨_, _, _, rfl⟩, s5, w5⟩
      have hgl : (c.gro done i).length ≤ 62 := by omega
      refine st_if (k := !c.fits l i) (evt_not (evt_b (ev_call (eva_cons (ev_var rfl) (eva_cons (ev_var rfl) (eva_cons (ev_var rfl) eva_nil))) (e_fits_in w (by omega))))) (fun h W4 s4 => ?_) fun h W4 s4 => ?_
      · refine st_append rfl (s4 _ _ w3) (by simp; exact sz ((c.gro done i).length + 1)) (ev_var rfl) fun W5 s5 w5 => ?_
        refine step2 (c.gro done i ++ [l]) _ (.inr trivial) ((s2.trans (s3.trans (s4.trans s5))).new hp) (by rw [wup_same]; simp) (by simp; omega) fun W6 s6 w6 => fin W6 s6 ?_
        rw [w6, gro_snoc]
        unfold Cr.gro1
        rw [if_pos h, List.append_assoc]
      · refine step2 (c.gro done i) W4 (.inr trivial) (s2.trans (s3.trans s4)) (s4 _ _ w3) (by omega) fun W6 s6 w6 => fin W6 s6 ?_
        rw [w6, gro_snoc]
        unfold Cr.gro1
        rw [if_neg (c := (!c.fits l i) = true) (by rw [h]; simp), List.nil_append]
  · rintro δ W2 ⟨⟨x4, x5, x6, rfl⟩, s2, w2⟩
    have hg := gro_len c ls i
    refine ⟨_, rfl, p, c.gro ls i, rfl, w2, fun x hx => gro_ne hx, by omega, fun ys p' h1 h2 h3 hp' => ?_⟩
    exact ⟨_, Sub.refl _, q ys p' _ (s2.new (s2.none hp')) (s2.none hp') wup_same h1 h2 h3⟩
end A30
namespace A30
open PySem PySem.Spec PyProof.Rows L2 DL
section
variable {f g h : FE} {r : FA} {B : DE} {δ : DL.Env} {W W0 : DW} {d : D} {ds xs : List D} {Q : DK} {R : RW3} {c : Cr}
theorem st_call {i : Nat} {sp : SpD} (e : EvA r δ W ds) (h : ∀ W1, Sub W W1 → sp ds W1 fun d W2 => B.nx (δ.set i (some d)) W2) : sAsg (fCall sp r) (gN i) B δ W := e W _ (Sub.refl _) h
theorem ev_len (e : Ev f δ W (Is d)) {n : Nat} (h : lenD W d = some n) : Ev (fB1 bLen (fCons f fNil)) δ W (Is (.int n)) := ev_b1 (eva_cons e eva_nil) (evb_len h)
theorem ev_ms {i : Nat} (h : δ[i]? = some (some c.enc)) : Ev (fB1 bLen (fCons (fBin pSub' (fVar i) (fC (.int 0))) fNil)) δ W (Is (.int (c.ms.length : Nat))) := ev_len (ev_bin (ev_var h) ev_c (evo_ix rfl)) rfl
theorem atD_map {α : Type} {en : α → D} {ys : List α} {s : Int} {z : α} (h1 : 0 ≤ s) (h2 : ys[s.toNat]? = some z) : atD (ys.map en) s = some (en z) := by
  obtain ⟨hl, _⟩ := List.getElem?_eq_some_iff.mp h2
  unfold atD ixN
  rw [List.length_map]
  simp only [h1, ↓reduceIte]
  rw [if_pos (by omega)]
  simp [h2]
theorem ev_chain {G G' : Int → Int → D} {a b e : Int} {k l : Bool} (ha : Ev f δ W (Is (.int a))) (hb : Ev g δ W (Is (.int b))) (he : Ev h δ W (Is (.int e))) (h1 : G a b = .bl k) (h2 : G' b e = .bl l) : Ev (fChain (pII0 G) (pII0 G') f g h) δ W (Is (.bl (k && l))) := fun W1 Q s n =>
  ha W1 _ s fun x W2 s2 i => by
    rw [show x = D.int a from i]
    refine hb W2 _ (s.trans s2) fun y W3 s3 j => ?_
    rw [show y = D.int b from j]
    show (match G a b with | .bl k => if k = true then h δ W3 fun w W4 => pII0 G' (.int b) w W4 Q else Q (.bl false) W3 | _ => False)
    rw [h1]
    cases k with
    | false => exact n _ W3 (s2.trans s3) rfl
    | true =>
      refine he W3 _ (s.trans (s2.trans s3)) fun z W4 s4 m => ?_
      rw [show z = D.int e from m]
      show Q (G' b e) W4
      rw [h2]
      exact n _ W4 (s2.trans (s3.trans s4)) rfl
end
theorem lots_len (c : Cr) : ∀ k : Nat, (c.lots k).length ≤ 2 ^ k
  | 0 => by simp [Cr.lots]
  | k + 1 => by
    have h1 := lots_len c k
    have h2 := List.length_filterMap_le (fun l => if c.c1 l (k : Nat) then none else some (l ++ [((k : Nat) : Int)])) (c.lots k)
    unfold Cr.lots Cr.grow
    rw [List.length_append, Nat.pow_succ]
    omega
theorem ind_len {c : Cr} {k : Nat} {l : List Int} (h : Ind c k l) : l.length ≤ k := by
  have hn : l.Nodup := h.asc.imp fun h => by omega
  have := hn.length_le_of_subset (l₂ := (List.range k).map fun m => ((m : Nat) : Int)) fun x hx => by
    have := h.bd x hx
    exact List.mem_map.mpr ⟨x.toNat, List.mem_range.mpr (by omega), by omega⟩
  simpa using this
theorem mis_len {c : Cr} (w : Wf c) {k : Nat} (hk : k ≤ 4) {ys : List (List Int)} (h1 : ys.Nodup) (h2 : ∀ l, l ∈ ys ↔ Mis c k l) : ys.length ≤ 16 := by
  have h3 := h1.length_le_of_subset (l₂ := c.lots k) fun l hl => (mem_lots w k l).mpr ((h2 l).mp hl).toInd
  have h4 := lots_len c k
  have : 2 ^ k ≤ 2 ^ 4 := Nat.pow_le_pow_right (by omega) hk
  omega
theorem sts_len {c : Cr} (w : Wf c) : c.sts.length ≤ 16 := mis_len w w.n4 (nodup_sts w) (mem_sts w)
theorem sts_l8 {c : Cr} (w : Wf c) {l : List Int} (h : l ∈ c.sts) : l.length ≤ 8 ∧ l ≠ [] := by
  have h1 := (mem_sts w l).mp h
  have := ind_len (k := c.ms.length) h1.toInd
  have := w.n4
  exact ⟨by omega, sts_ne w h1⟩
theorem len_stages : ∀ ds W Q, sp_stages ds W Q → ds.length = 1 := fun ds W Q ⟨c, e, _⟩ => by rw [e]; rfl
theorem body_stages : ∀ ds W Q, sp_stages ds W Q → f_stages (RT Q) (startD ["crossing", "found", "i"] ds) W := by
  rintro ds W Q ⟨c, rfl, w, q⟩
  unfold f_stages
  refine st_asgN (ev_lst (eva_cons (ev_tup eva_nil (sz 0)) eva_nil) (sz 1)) fun p W1 s1 hp w1 => ?_
  refine for_acc (W0 := W) (ys := List.range c.ms.length) (enc := fun k : Nat => D.int (k : Int)) (fun done δ W' => ∃ a x2 ys, δ = [some c.enc, some (.ref a), x2] ∧ Sub W W' ∧ W' a = some (.lst (ys.map tupI)) ∧ (∀ l, l ∈ ys ↔ Mis c done.length l) ∧ ys.Nodup ∧ ys.Pairwise (· ≤ ·))
    (evi_rng (ev_ms rfl) (by have := w.n4; omega)) s1 (fun done δ W' ⟨a, x2, ys, h1, h2, h3⟩ => h2) (fun W2 s2 => ⟨p, none, [[]], rfl, s1.trans s2, s2 _ _ w1, fun l => ?_, by simp, by simp⟩) ?_ ?_
  · simp only [List.length_nil, List.mem_singleton]
    constructor
    · rintro rfl
      exact ⟨⟨by simp, by simp, by simp⟩, fun k a b => by simp at b; omega⟩
    · intro h
      cases l with
      | nil => rfl
      | cons x l => have := h.bd x (by simp); simp at this; omega
  · rintro done k rest δ W2 N e ⟨a, x2, ys, rfl, s2, wa, hm, hn, hs⟩ hN
    obtain ⟨e1, e2⟩ := range_split e
    have hd : done.length = k := by rw [e1]; simp
    rw [hd] at hm
    have hk : k ≤ 4 := by have := w.n4; omega
    have hl := mis_len w hk hn hm
    show sAsg _ _ _ [some c.enc, some (.ref a), some (.int k)] W2
    refine st_call (eva_cons (ev_var rfl) (eva_cons (ev_var rfl) (eva_cons (ev_var rfl) eva_nil))) fun W3 s3 => ?_
    refine ⟨c, a, ys, k, rfl, w, s3 _ _ wa, by omega, by omega, fun l h => ?_, fun zs p2 W4 s4 h1 h2 h3 h4 h5 => ?_⟩
    · have := ind_len ((hm l).mp h).toInd
      omega
    · refine hN _ _ ⟨p2, some (.int k), zs, rfl, s2.trans (s3.trans s4), h2, fun l => ?_, h3, h4⟩
      rw [h5 l, mem_gro w hm, List.length_append, hd]
      rfl
  · rintro δ W2 ⟨a, x2, ys, rfl, s2, wa, hm, hn, hs⟩
    rw [List.length_range] at hm
    have e := eq_sts w hn hs hm
    show sRet (fB1 bTuple (fCons (fVar 1) fNil)) (RT Q) [some c.enc, some (.ref a), x2] W2
    refine st_ret (d := .tup (c.sts.map tupI)) ?_ s2 q
    rw [← e]
    exact ev_b1 (eva_cons (ev_var rfl) eva_nil) (evb_tuple (by simp only [seqD]; rw [wa]))
theorem len_clearing_of : ∀ ds W Q, sp_clearing_of ds W Q → ds.length = 2 := fun ds W Q ⟨c, l, e, _⟩ => by rw [e]; rfl
theorem cls_int (c : Cr) (l : List Int) : (l.flatMap fun i => (List.range c.ms.length).map fun k : Nat => D.int (c.cl i k)) = (c.cls l).map D.int := by
  unfold Cr.cls Cr.rng
  rw [List.map_flatMap]
  congr 1
  funext i
  rw [List.map_map, List.map_map]
  rfl
theorem cls_len (c : Cr) (l : List Int) : (c.cls l).length = l.length * c.ms.length := by
  unfold Cr.cls
  induction l with
  | nil => simp
  | cons x l ih =>
    rw [List.flatMap_cons, List.length_append, ih, List.length_map, List.length_cons, Nat.add_mul]
    unfold Cr.rng
    simp
    omega
theorem body_clearing_of : ∀ ds W Q, sp_clearing_of ds W Q → f_clearing_of (RT Q) (startD ["crossing", "stage", "i", "j"] ds) W := by
  rintro ds W Q ⟨c, l, rfl, w, hl, hl2, q⟩
  have hn := w.n4
  have hn1 := w.n1
  have hlen : (c.cls l).length ≤ 32 := by
    rw [cls_len]
    calc l.length * c.ms.length ≤ 8 * 4 := Nat.mul_le_mul hl2 hn
      _ ≤ 32 := by omega
  refine st_ret (d := .int (c.clg l)) ?_ (Sub.refl _) q
  refine ev_b1N (xs := (c.cls l).map D.int) ?_ fun p W1 h1 => evb_max h1 ?_ fun z hz hy => mx0_of (fun x hx => ?_) hz hy
  · rw [← cls_int]
    refine ev_lc2 (enc := D.int) (en1 := fun k : Nat => D.int (k : Int)) (ys := l) (bs := fun _ => List.range c.ms.length) (fun i k => D.int (c.cl i k)) (evi_seq (d := tupI l) (ev_var rfl) rfl).i
      (fun i hi => ⟨_, fun _ _ h => h, evi_rng (ev_ms rfl) (by omega), fun k hk => ⟨_, fun _ _ h => h, ?_⟩⟩) ?_
    · exact ev_call (eva_cons (ev_var rfl) (eva_cons (ev_var rfl) (eva_cons (ev_var rfl) eva_nil))) (e_clearance w)
    · rw [cls_int, List.length_map]; exact sz _
  · rw [cls_len]
    exact Nat.mul_pos (List.length_pos_iff.mpr hl) (by omega)
  · unfold Cr.cls at hx
    obtain ⟨i, _, h⟩ := List.mem_flatMap.mp hx
    obtain ⟨j, _, rfl⟩ := List.mem_map.mp h
    exact (cl_bd w i j).1
theorem len_clearings : ∀ ds W Q, sp_clearings ds W Q → ds.length = 1 := fun ds W Q ⟨c, e, _⟩ => by rw [e]; rfl
theorem body_clearings : ∀ ds W Q, sp_clearings ds W Q → f_clearings (RT Q) (startD ["crossing", "stage"] ds) W := by
  rintro ds W Q ⟨c, rfl, w, q⟩
  refine st_ret (d := .tup (c.sts.map fun l => .int (c.clg l))) ?_ (Sub.refl _) q
  refine ev_b1N (ev_lcM (enc := tupI) (ys := c.sts) (fun l => .int (c.clg l)) (evi_seq (d := .tup (c.sts.map tupI)) (ev_call (eva_cons (ev_var rfl) eva_nil) (e_stages w)) rfl).i (fun l hl => ⟨_, fun _ _ h => h, ?_⟩) (sz _ (by have := sts_len w; omega))) fun p W1 h1 => evb_tuple (by simp only [seqD]; rw [h1])
  have := sts_l8 w hl
  exact ev_call (eva_cons (ev_var rfl) (eva_cons (ev_var rfl) eva_nil)) (e_clearing_of w this.2 this.1)
theorem len_clear_ticks : ∀ ds W Q, sp_clear_ticks ds W Q → ds.length = 2 := fun ds W Q ⟨c, s, e, _⟩ => by rw [e]; rfl
theorem st_get {c : Cr} {s : Int} (h1 : 0 ≤ s) (h2 : s < c.sts.length) : c.sts[s.toNat]? = some (c.st s) := by
  unfold Cr.st
  rw [List.getD_eq_getElem?_getD, List.getElem?_eq_getElem (by omega)]
  rfl
theorem body_clear_ticks : ∀ ds W Q, sp_clear_ticks ds W Q → f_clear_ticks (RT Q) (startD ["crossing", "s"] ds) W := by
  rintro ds W Q ⟨c, s, rfl, w, h1, h2, q⟩
  refine st_ret (d := .int (c.clg (c.st s))) ?_ (Sub.refl _) q
  have := sts_l8 w (st_mem h1 h2)
  exact ev_call (eva_cons (ev_var rfl) (eva_cons (ev_bin (ev_call (eva_cons (ev_var rfl) eva_nil) (e_stages w)) (ev_var rfl) (evo_ix (show ixD W (.tup (c.sts.map tupI)) (.int s) = some (tupI (c.st s)) from atD_map h1 (st_get h1 h2)))) eva_nil)) (e_clearing_of w this.2 this.1)
end A30
namespace A30
open PySem PySem.Spec PyProof.Rows L2 DL
def Cr.dur (c : Cr) (p : Plan) : Int := (p.map fun x => x.2 + c.clg (c.st x.1)).sum
theorem trip_app (c : Cr) : ∀ (p r : Plan) (b : Int), c.trip b (p ++ r) = c.trip b p ++ c.trip (b + c.dur p) r
  | [], r, b => by simp [Cr.dur, Cr.trip]
  | (s, k) :: p, r, b => by
    have h1 : b + (k + c.clg (c.st s)) + c.dur p = b + c.dur ((s, k) :: p) := by
      unfold Cr.dur
      rw [List.map_cons, List.sum_cons]
      simp only
      omega
    rw [← h1]
    show (c.st s).map (fun i => [i, b, b + k]) ++ c.trip (b + (k + c.clg (c.st s))) (p ++ r) = ((c.st s).map (fun i => [i, b, b + k]) ++ c.trip (b + (k + c.clg (c.st s))) p) ++ _
    rw [trip_app c p r, List.append_assoc]
theorem blk_app (c : Cr) (p r : Plan) : c.blk (p ++ r) = c.blk p ++ c.blk r := by
  induction p with
  | nil => rfl
  | cons x p ih =>
    obtain ⟨s, k⟩ := x
    show List.replicate k.toNat (c.st s) ++ List.replicate (c.clg (c.st s)).toNat [] ++ c.blk (p ++ r) = (List.replicate k.toNat (c.st s) ++ List.replicate (c.clg (c.st s)).toNat [] ++ c.blk p) ++ c.blk r
    rw [ih, List.append_assoc, List.append_assoc, List.append_assoc]
theorem trip_len {c : Cr} (w : Wf c) : ∀ {p : Plan} {b : Int}, (∀ x ∈ p, 0 ≤ x.1 ∧ x.1 < c.sts.length ∧ 1 ≤ x.2) → (c.trip b p).length ≤ 8 * (c.blk p).length
  | [], _, _ => by simp [Cr.trip]
  | (s, k) :: r, b, h => by
    have h0 := h (s, k) (by simp)
    simp only at h0
    have h1 := (sts_l8 w (st_mem h0.1 h0.2.1)).1
    have h2 := trip_len w (p := r) (b := b + (k + c.clg (c.st s))) fun x hx => h x (by simp [hx])
    unfold Cr.trip Cr.blk
    simp only [List.length_append, List.length_map, List.length_replicate]
    have : 1 ≤ k.toNat := by omega
    omega
theorem plan_len {c : Cr} : ∀ {p : Plan}, (∀ x ∈ p, 0 ≤ x.1 ∧ x.1 < c.sts.length ∧ 1 ≤ x.2) → p.length ≤ (c.blk p).length
  | [], _ => by simp
  | (s, k) :: r, h => by
    have h0 := h (s, k) (by simp)
    simp only at h0
    have h2 := plan_len (p := r) fun x hx => h x (by simp [hx])
    unfold Cr.blk
    simp only [List.length_append, List.length_replicate, List.length_cons]
    have : 1 ≤ k.toNat := by omega
    omega
theorem len_green_in : ∀ ds W Q, sp_green_in ds W Q → ds.length = 2 := fun ds W Q ⟨c, s, e, _⟩ => by rw [e]; rfl
theorem fm_int {α : Type} (u : α → Option Int) (ys : List α) : (ys.filterMap fun z => (u z).map D.int) = (ys.filterMap u).map D.int := by
  rw [List.map_filterMap]
theorem body_green_in : ∀ ds W Q, sp_green_in ds W Q → f_green_in (RT Q) (startD ["found", "tick", "i", "begin", "end"] ds) W := by
  rintro ds W Q ⟨gs, t, rfl, h3, hl, q⟩
  refine st_ret (d := tupI (grIn gs t)) ?_ (Sub.refl _) q
  have hfl := List.length_filterMap_le (atT t) gs
  refine ev_b1N (ev_lc (enc := tupI) (ys := gs) (fun z => (atT t z).map D.int) (evi_seq (d := .tup (gs.map tupI)) (ev_var rfl) rfl).i (fun z hz => ?_) (by rw [fm_int, List.length_map]; exact sz _)) fun p W1 h1 => ?_
  · obtain ⟨i, u, v, rfl⟩ := h3 z hz
    refine ⟨_, fun _ _ h => gtp3 h, ?_, fun y hy => ?_⟩
    · have e : (Option.map D.int (atT t [i, u, v])).isSome = (decide (u ≤ t) && decide (t < v)) := by
        rw [atT3]
        by_cases h1 : u ≤ t <;> by_cases h2 : t < v <;> simp [h1, h2]
      rw [e]
      exact evt_b (ev_chain (a := u) (b := t) (e := v) (ev_var rfl) (ev_var rfl) (ev_var rfl) rfl rfl)
    · rw [atT3] at hy
      split at hy
      · cases hy; exact ev_var rfl
      · cases hy
  · rw [fm_int] at h1
    exact evb_tuple (by simp only [seqD]; rw [h1]; rfl)
theorem e_green_in {W : DW} {gs : List (List Int)} {t : Int} (h : ∀ z ∈ gs, ∃ i u v, z = [i, u, v]) (hl : gs.length ≤ 512) : EvB sp_green_in [.tup (gs.map tupI), .int t] W (Is (tupI (grIn gs t))) := fun W1 Q s k => ⟨gs, t, rfl, h, hl, k _ W1 (Sub.refl _) rfl⟩
theorem e_greens {W : DW} {c : Cr} (w : Wf c) {p : Plan} (h : PlanOk c p) : EvB sp_greens [c.enc, encP p] W (Is (.tup ((c.grs p).map tupI))) := fun W1 Q s k => ⟨c, p, rfl, w, h, k _ W1 (Sub.refl _) rfl⟩
theorem grs_len {c : Cr} (w : Wf c) {p : Plan} (h : PlanOk c p) : (c.grs p).length ≤ 64 := by
  unfold Cr.grs
  rw [List.length_mergeSort]
  have := trip_len w (b := 0) h.each
  have := h.fit
  have := w.l2
  omega
theorem len_lamps_at : ∀ ds W Q, sp_lamps_at ds W Q → ds.length = 3 := fun ds W Q ⟨c, s, i, e, _⟩ => by rw [e]; rfl
theorem body_lamps_at : ∀ ds W Q, sp_lamps_at ds W Q → f_lamps_at (RT Q) (startD ["crossing", "plan", "tick"] ds) W := by
  rintro ds W Q ⟨c, p, t, rfl, w, hp, q⟩
  refine st_ret (d := tupI (grIn (c.grs p) t)) ?_ (Sub.refl _) q
  exact ev_call (eva_cons (ev_call (eva_cons (ev_var rfl) (eva_cons (ev_var rfl) eva_nil)) (e_greens w hp)) (eva_cons (ev_var rfl) eva_nil)) (e_green_in (fun z hz => grs3 hz) (by have := grs_len w hp; omega))
theorem len_lamp_rows : ∀ ds W Q, sp_lamp_rows ds W Q → ds.length = 2 := fun ds W Q ⟨c, s, i, e, _⟩ => by rw [e]; rfl
theorem rows_len {c : Cr} (w : Wf c) : ∀ {ps : List Plan}, (∀ p ∈ ps, PlanOk c p) → (c.rows ps).length = ps.length * c.len.toNat
  | [], _ => by simp [Cr.rows]
  | p :: ps, h => by
    have h1 := rows_len w (ps := ps) fun x hx => h x (by simp [hx])
    unfold Cr.rows at *
    rw [List.flatMap_cons, List.length_append, h1, frame_len (h p (by simp)).fit, List.length_cons, Nat.add_mul]
    omega
theorem rows_snoc (c : Cr) (ps : List Plan) (p : Plan) : c.rows (ps ++ [p]) = c.rows ps ++ c.frame p := by unfold Cr.rows; simp
theorem body_lamp_rows : ∀ ds W Q, sp_lamp_rows ds W Q → f_lamp_rows (RT Q) (startD ["crossing", "plans", "rows", "plan", "found", "tick"] ds) W := by
  rintro ds W Q ⟨c, a, ps, rfl, w, wa, hp, hl, q⟩
  unfold f_lamp_rows
  have l1 := w.l1
  have l2 := w.l2
  refine st_asgN (ev_lst eva_nil (sz 0)) fun p W1 s1 hp0 w1 => ?_
  refine for_acc (W0 := W) (ys := ps) (enc := encP) (fun done δ W' => (∃ x3 x4 x5 : Option D, δ = [some c.enc, some (.ref a), some (.ref p), x3, x4, x5]) ∧ Sub W W' ∧ W' p = some (.lst ((c.rows done).map tupI)))
    (evi_seq (d := .ref a) (ev_var rfl) (by simp only [seqD]; rw [wa])) s1 (fun done δ W' h => h.2.1) (fun W2 s2 => ⟨⟨_, _, _, rfl⟩, s1.trans s2, s2 _ _ w1⟩) ?_ ?_
  · rintro done pl rest δ W2 N e ⟨⟨x3, x4, x5, rfl⟩, s2, w2⟩ hN
    have hpm : PlanOk c pl := hp pl (by rw [e]; simp)
    have hdl : done.length < ps.length := by rw [e]; simp
    have hrl := rows_len w (ps := done) fun x hx => hp x (by rw [e]; simp [hx])
    have hrl2 : done.length * c.len.toNat ≤ 5 * 8 := Nat.mul_le_mul (by omega) (by omega)
    show sSeq _ _ _ [some c.enc, some (.ref a), some (.ref p), some (encP pl), x4, x5] W2
    refine st_asgI (ev_call (eva_cons (ev_var rfl) (eva_cons (ev_var rfl) eva_nil)) (e_greens w hpm)) fun W3 s3 => ?_
    refine st_extend (xs := (c.frame pl).map tupI) rfl (s3 _ _ w2) (by rw [List.length_map, List.length_map, frame_len hpm.fit]; exact sz _ (by omega)) ?_ fun W4 s4 w4 => hN _ _ ⟨⟨_, _, _, rfl⟩, (s2.trans (s3.trans s4)).new hp0, ?_⟩
    · have e2 := frame_eq w hpm
      rw [← e2, List.map_map]
      have hl3 : ((c.len.toNat : Nat) : Int) = c.len := by omega
      refine ev_lcM (enc := fun k : Nat => D.int (k : Int)) (ys := List.range c.len.toNat) (fun k => tupI (grIn (c.grs pl) ((k : Nat) : Int))) (evi_rng (n := c.len.toNat) (by rw [hl3]; exact ev_bin (ev_var rfl) ev_c (evo_ix rfl)) (by omega)).i (fun k hk => ⟨_, fun _ _ h => h, ?_⟩) (sz _ (by simp; omega))
      exact ev_call (eva_cons (ev_var rfl) (eva_cons (ev_var rfl) eva_nil)) (e_green_in (fun z hz => grs3 hz) (by have := grs_len w hpm; omega))
    · rw [wup_same, rows_snoc, List.map_append]
  · rintro δ W2 ⟨⟨x3, x4, x5, rfl⟩, s2, w2⟩
    exact ⟨_, rfl, W2, Sub.refl _, q p W2 s2 hp0 w2⟩
theorem st_par {i j : Nat} {r : FA} {B : DE} {δ : DL.Env} {W : DW} {v w : D} (e : EvA r δ W [v, w]) (h : ∀ W1, Sub W W1 → B.nx ((δ.set i (some v)).set j (some w)) W1) : sPar i j r B δ W := e W _ (Sub.refl _) fun W1 s1 => ⟨v, w, rfl, h W1 s1⟩
theorem st_par3 {i j l : Nat} {r : FA} {B : DE} {δ : DL.Env} {W : DW} {u v w : D} (e : EvA r δ W [u, v, w]) (h : ∀ W1, Sub W W1 → B.nx (((δ.set i (some u)).set j (some v)).set l (some w)) W1) : sPar3 i j l r B δ W := e W _ (Sub.refl _) fun W1 s1 => ⟨u, v, w, rfl, h W1 s1⟩
theorem len_greens : ∀ ds W Q, sp_greens ds W Q → ds.length = 2 := fun ds W Q ⟨c, s, e, _⟩ => by rw [e]; rfl
theorem body_greens : ∀ ds W Q, sp_greens ds W Q → f_greens (RT Q) (startD ["crossing", "plan", "members", "cleared", "found", "begin", "s", "ticks", "i"] ds) W := by
  rintro ds W Q ⟨c, pl, rfl, w, hp, q⟩
  unfold f_greens
  have l2 := w.l2
  have hfit := hp.fit
  refine st_par (eva_cons (ev_call (eva_cons (ev_var rfl) eva_nil) (e_stages w)) (eva_cons (ev_call (eva_cons (ev_var rfl) eva_nil) (e_clearings w)) eva_nil)) fun W1 s1 => ?_
  refine st_asgN (ev_lst eva_nil (sz 0)) fun p W2 s2 hp0 w2 => ?_
  refine st_asgI ev_c fun W3 s3 => ?_
  have hp1 : W p = none := s1.none hp0
  refine for_acc (W0 := W) (ys := pl) (enc := encK) (fun done δ W' => (∃ x6 x7 x8 : Option D, δ = [some c.enc, some (encP pl), some (.tup (c.sts.map tupI)), some (.tup (c.sts.map fun l => .int (c.clg l))), some (.ref p), some (.int (c.dur done)), x6, x7, x8]) ∧ Sub W W' ∧ W' p = some (.lst ((c.trip 0 done).map tupI)))
    (evi_seq (d := encP pl) (ev_var rfl) rfl) (s1.trans (s2.trans s3)) (fun done δ W' h => h.2.1) (fun W4 s4 => ⟨⟨none, none, none, rfl⟩, s1.trans (s2.trans (s3.trans s4)), (s4 _ _ (s3 _ _ w2))⟩) ?_ ?_
  · rintro done ⟨s, k⟩ rest δ W4 N e ⟨⟨x6, x7, x8, rfl⟩, s4, w4⟩ hN
    have hx := hp.each (s, k) (by rw [e]; simp)
    simp only at hx
    have hst : c.sts[s.toNat]? = some (c.st s) := st_get hx.1 hx.2.1
    have htl := trip_len w (p := done) (b := 0) fun x hx => hp.each x (by rw [e]; simp [hx])
    have hbl : (c.blk done).length ≤ (c.blk pl).length := by rw [e, blk_app]; simp
    have hl8 := (sts_l8 w (st_mem hx.1 hx.2.1)).1
    refine gtp2 ?_
    refine st_extend (xs := ((c.st s).map fun i => tupI [i, c.dur done, c.dur done + k])) rfl w4 (by simp only [List.length_map]; exact sz _ (by omega)) ?_ fun W5 s5 w5 => ?_
    · refine ev_lcM (enc := D.int) (ys := c.st s) (fun i => tupI [i, c.dur done, c.dur done + k]) (evi_seq (d := tupI (c.st s)) (ev_bin (ev_var rfl) (ev_var rfl) (evo_ix (show ixD W4 (.tup (c.sts.map tupI)) (.int s) = some (tupI (c.st s)) from atD_map hx.1 hst))) rfl).i (fun i hi => ⟨_, fun _ _ h => h, ?_⟩) (sz _)
      exact ev_tup (eva_cons (ev_var rfl) (eva_cons (ev_var rfl) (eva_cons (ev_bin (ev_var rfl) (ev_var rfl) evo_addI) eva_nil))) (sz 3)
    · refine ⟨_, rfl, ?_⟩
      refine (ev_bin (ev_var (i := 7) rfl) (ev_bin (ev_var (i := 3) rfl) (ev_var (i := 6) rfl) (evo_ix (d := .int (c.clg (c.st s))) ?_)) evo_addI).runI fun W6 s6 => ?_
      · exact atD_map (en := fun l => D.int (c.clg l)) hx.1 hst
      · refine hN _ _ ⟨⟨some (.int s), some (.int k), x8, ?_⟩, ?_, ?_⟩
        · show [some c.enc, _, _, _, _, some (.int (c.dur done + (k + c.clg (c.st s)))), _, _, _] = _
          have : c.dur (done ++ [(s, k)]) = c.dur done + (k + c.clg (c.st s)) := by unfold Cr.dur; simp
          rw [this]
        · exact ((s4.trans s5).new hp1).trans s6
        · refine s6 _ _ ?_
          rw [wup_same, trip_app]
          simp [Cr.trip]
  · rintro δ W4 ⟨⟨x6, x7, x8, rfl⟩, s4, w4⟩
    show sRet (fB1 bTuple (fCons (fB1 bSortA (fCons (fVar 4) fNil)) fNil)) (RT Q) _ W4
    refine st_ret (d := .tup ((c.grs pl).map tupI)) ?_ s4 q
    refine ev_b1N (ev_b1 (eva_cons (ev_var rfl) eva_nil) (evb_sortT w4 fun z hz => ?_)) fun p W1 h1 => evb_tuple (by simp only [seqD]; rw [h1]; rfl)
    obtain ⟨i, u, v, rfl⟩ := trip3 hz
    simp
end A30
namespace A30
open PySem PySem.Spec PyProof.Rows L2 DL
theorem fs_map {α β : Type} (u : α → Option β) (k : β → D) (ys : List α) : (ys.findSome? fun z => (u z).map k) = (ys.findSome? u).map k := by
  induction ys with
  | nil => rfl
  | cons y ys ih =>
    rw [List.findSome?_cons, List.findSome?_cons]
    cases u y with
    | none => exact ih
    | some v => rfl
theorem oP_none {o : Option (Int × Int)} (h : o = none) : oP o = .non := by rw [h]; rfl
theorem len_first_crossed : ∀ ds W Q, sp_first_crossed ds W Q → ds.length = 2 := fun ds W Q ⟨c, s, e, _⟩ => by rw [e]; rfl
theorem body_first_crossed : ∀ ds W Q, sp_first_crossed ds W Q → f_first_crossed (RT Q) (startD ["crossing", "row", "i", "j"] ds) W := by
  rintro ds W Q ⟨c, row, rfl, w, q⟩
  unfold f_first_crossed
  refine for_find (W := W) (enc := D.int) (ys := row) (fun δ => ∃ a b : Option D, δ = [some c.enc, some (tupI row), a, b]) (fun i => (c.cross1 row i).map encK) (evi_seq (d := tupI row) (ev_var rfl) rfl) ⟨_, _, rfl⟩ ?_ ?_ ?_
  · rintro i hi B' δ1 W1 ⟨a, b, rfl⟩ s1 hs hn
    refine for_find (W := W1) (enc := D.int) (ys := row) (fun δ => ∃ b : Option D, δ = [some c.enc, some (tupI row), some (.int i), b]) (fun j => (if decide (i < j) && c.cross i j then some (i, j) else none).map encK) (evi_seq (d := tupI row) (ev_var rfl) rfl) ⟨_, rfl⟩ ?_ ?_ ?_
    · rintro j hj B2 δ2 W2 ⟨b, rfl⟩ s2 hs2 hn2
      refine st_if (k := decide (i < j) && c.cross i j) (evt_and (evt_b (ev_bin (ev_var rfl) (ev_var rfl) evo_ii)) fun _ => evt_b (ev_call (eva_cons (ev_var rfl) (eva_cons (ev_var rfl) (eva_cons (ev_var rfl) eva_nil))) (e_do_cross w))) (fun h W3 s3 => ?_) fun h W3 s3 => ?_
      · refine st_retE (tup2 (ev_var rfl) (ev_var rfl)) fun W4 s4 => hs2 _ ?_ W4 (s3.trans s4)
        rw [if_pos h]
        rfl
      · refine hn2 ?_ _ W3 ⟨_, rfl⟩ s3
        rw [if_neg (by rw [h]; simp)]
        rfl
    · intro r hr W2 s2
      rw [fs_map] at hr
      exact hs r hr W2 s2
    · rintro hr δ2 W2 ⟨b, rfl⟩ s2
      rw [fs_map] at hr
      exact hn hr _ W2 ⟨_, _, rfl⟩ s2
  · intro r hr W2 s2
    rw [fs_map] at hr
    refine ⟨W, s2, ?_⟩
    obtain ⟨v, hv, rfl⟩ := Option.map_eq_some_iff.mp hr
    rw [show c.crossR row = some v from hv] at q
    exact q
  · rintro hr δ2 W2 ⟨a, b, rfl⟩ s2
    rw [fs_map, Option.map_eq_none_iff] at hr
    rw [show c.crossR row = none from hr] at q
    exact st_ret (δ := [some c.enc, some (tupI row), a, b]) ev_c s2 q
theorem len_first_early : ∀ ds W Q, sp_first_early ds W Q → ds.length = 4 := fun ds W Q ⟨c, d, b, t, kvs, ks, val, bg, e, _⟩ => by rw [e]; rfl
theorem body_first_early : ∀ ds W Q, sp_first_early ds W Q → f_first_early (RT Q) (startD ["crossing", "last", "tick", "begun", "i", "j"] ds) W := by
  rintro ds W Q ⟨c, d, b, t, kvs, ks, val, bg, rfl, w, wd, hk, hl, hv, wb, q⟩
  unfold f_first_early
  show ∃ _, _
  refine ⟨_, rfl, d, rfl, .inr ⟨kvs, ks, wd, hk, hl, fun ys p hp hs hp0 => ?_⟩⟩
  have s0 : Sub W (wup W p (.lst (ys.map D.int))) := (Sub.refl W).new hp0
  have q := q ys hp hs
  refine ⟨ys.map D.int, by simp only [seqD]; rw [wup_same], ?_⟩
  refine loop_find (W := wup W p (.lst (ys.map D.int))) (enc := D.int) (ys := ys) (fun δ => ∃ x y : Option D, δ = [some c.enc, some (.ref d), some (.int t), some (.ref b), x, y]) (fun i => (bg.findSome? fun j => if decide (t - val i - 1 < c.cl i j) then some (i, j) else none).map encK) (fun W3 s3 => s3 _ _ wup_same) ⟨_, _, rfl⟩ (Sub.refl _) ?_ ?_ ?_
  · rintro i hi B' δ1 W1 ⟨x, y, rfl⟩ s1 hs hn
    have hvi := hv i (hp.mem_iff.mp hi)
    refine for_find (W := W1) (enc := D.int) (ys := bg) (fun δ => ∃ y : Option D, δ = [some c.enc, some (.ref d), some (.int t), some (.ref b), some (.int i), y]) (fun j => (if decide (t - val i - 1 < c.cl i j) then some (i, j) else none).map encK) (evi_seq (d := .ref b) (ev_var rfl) (by simp only [seqD]; rw [s1 _ _ (s0 _ _ wb)])) ⟨_, rfl⟩ ?_ ?_ ?_
    · rintro j hj B2 δ2 W2 ⟨y, rfl⟩ s2 hs2 hn2
      refine st_if (k := decide (t - val i - 1 < c.cl i j)) (evt_b (ev_bin (ev_bin (ev_bin (ev_var rfl) (ev_bin (ev_var (i := 1) rfl) (ev_var (i := 4) rfl) (evo_ix (d := .int (val i)) ?_)) evo_ii) ev_c evo_ii) (ev_call (eva_cons (ev_var rfl) (eva_cons (ev_var rfl) (eva_cons (ev_var rfl) eva_nil))) (e_clearance w)) evo_ii)) (fun h W3 s3 => ?_) fun h W3 s3 => ?_
      · simp only [ixD]
        rw [s2 _ _ (s1 _ _ (s0 _ _ wd))]
        exact hvi
      · refine st_retE (tup2 (ev_var rfl) (ev_var rfl)) fun W4 s4 => hs2 _ ?_ W4 (s3.trans s4)
        rw [if_pos h]
        rfl
      · refine hn2 ?_ _ W3 ⟨_, rfl⟩ s3
        rw [if_neg (by rw [h]; simp)]
        rfl
    · intro r hr W2 s2
      rw [fs_map] at hr
      exact hs r hr W2 s2
    · rintro hr δ2 W2 ⟨y, rfl⟩ s2
      rw [fs_map] at hr
      exact hn hr _ W2 ⟨_, _, rfl⟩ s2
  · intro r hr W2 s2
    rw [fs_map] at hr
    refine ⟨W, s0.trans s2, ?_⟩
    obtain ⟨v, hv, rfl⟩ := Option.map_eq_some_iff.mp hr
    rw [hv] at q
    exact q
  · rintro hr δ2 W2 ⟨x, y, rfl⟩ s2
    rw [fs_map, Option.map_eq_none_iff] at hr
    rw [hr] at q
    exact st_ret (δ := [some c.enc, some (.ref d), some (.int t), some (.ref b), x, y]) ev_c (s0.trans s2) q
theorem len__law_crosses_one : ∀ ds W Q, sp__law_crosses_one ds W Q → ds.length = 3 := fun ds W Q ⟨c, a, l, i, e, _⟩ => by rw [e]; rfl
theorem oI_isN (o : Option Int) : (!(oI o).isN) = o.isSome := by cases o <;> rfl
theorem any_filter {α : Type} (p u : α → Bool) (ys : List α) : (ys.any fun z => p z && u z) = (ys.filterMap fun z => if p z then some (u z) else none).any id := by
  induction ys with
  | nil => rfl
  | cons y ys ih =>
    rw [List.any_cons, List.filterMap_cons, ih]
    cases p y <;> simp
theorem body__law_crosses_one : ∀ ds W Q, sp__law_crosses_one ds W Q → f__law_crosses_one (RT Q) (startD ["crossing", "lot", "i", "j"] ds) W := by
  rintro ds W Q ⟨c, a, l, i, rfl, w, wa, hl, q⟩
  refine st_ret (d := .bl (c.c1 l i)) ?_ (Sub.refl _) q
  have hle := List.length_filterMap_le (fun j => if decide (j ≠ i) then some (D.bl (c.clO i j).isSome) else none) l
  refine ev_b1N (ev_lc (enc := D.int) (ys := l) (fun j => if decide (j ≠ i) then some (D.bl (c.clO i j).isSome) else none) (evi_seq (d := .ref a) (ev_var rfl) (by simp only [seqD]; rw [wa])).i (fun j hj => ⟨_, fun _ _ h => h, ?_, fun y hy => ?_⟩) (sz _)) fun p W1 h1 => ?_
  · have e : (if decide (j ≠ i) = true then some (D.bl (c.clO i j).isSome) else none).isSome = !decide (j = i) := by
      by_cases h : j = i <;> simp [h]
    rw [e]
    exact evt_b (ev_neI (ev_var rfl) (ev_var rfl))
  · split at hy
    · cases hy
      rw [← oI_isN]
      exact ev_bin (ev_call (eva_cons (ev_var rfl) (eva_cons (ev_var rfl) (eva_cons (ev_var rfl) eva_nil))) (e_law_clearance w)) ev_c evo_notN
    · cases hy
  · have e : (l.filterMap fun j => if decide (j ≠ i) then some (D.bl (c.clO i j).isSome) else none) = (l.filterMap fun j => if decide (j ≠ i) then some (c.clO i j).isSome else none).map D.bl := by
      rw [List.map_filterMap]
      congr 1
      funext j
      by_cases h : j = i <;> simp [h]
    rw [e] at h1
    unfold Cr.c1
    rw [any_filter]
    exact evb_any h1
theorem e_crosses_one {W : DW} {c : Cr} (w : Wf c) {a : Addr} {l : List Int} {i : Int} (h : W a = some (.lst (l.map D.int))) (hl : l.length ≤ 64) : EvB sp__law_crosses_one [c.enc, .ref a, .int i] W (Is (.bl (c.c1 l i))) := fun W1 Q s k => ⟨c, a, l, i, rfl, w, s _ _ h, hl, k _ W1 (Sub.refl _) rfl⟩
theorem len__law_clearing : ∀ ds W Q, sp__law_clearing ds W Q → ds.length = 2 := fun ds W Q ⟨c, l, e, _⟩ => by rw [e]; rfl
theorem fold_snoc (xs : List Int) (x a : Int) : (xs ++ [x]).foldl max a = max (xs.foldl max a) x := by rw [List.foldl_append]; rfl
theorem body__law_clearing : ∀ ds W Q, sp__law_clearing ds W Q → f__law_clearing (RT Q) (startD ["crossing", "stage", "found", "i", "j"] ds) W := by
  rintro ds W Q ⟨c, l, rfl, w, q⟩
  unfold f__law_clearing
  have hn := w.n4
  refine st_asgI ev_c fun W1 s1 => ?_
  refine for_acc (W0 := W) (ys := l) (enc := D.int) (fun done δ W' => (∃ x3 x4 : Option D, δ = [some c.enc, some (tupI l), some (.int (mx0 (c.cls done))), x3, x4]) ∧ Sub W W')
    (evi_seq (d := tupI l) (ev_var rfl) rfl) s1 (fun done δ W' h => h.2) (fun W2 s2 => ⟨⟨none, none, rfl⟩, s1.trans s2⟩) ?_ ?_
  · rintro done i rest δ W2 N e ⟨⟨x3, x4, rfl⟩, s2⟩ hN
    refine for_acc (W0 := W2) (W := W2) (δ := [some c.enc, some (tupI l), some (.int (mx0 (c.cls done))), some (.int i), x4]) (ys := List.range c.ms.length) (enc := fun k : Nat => D.int (k : Int)) (fun dn δ W' => (∃ x4 : Option D, δ = [some c.enc, some (tupI l), some (.int (mx0 (c.cls done ++ dn.map fun k : Nat => c.cl i k))), some (.int i), x4]) ∧ Sub W2 W')
      (evi_rng (ev_ms rfl) (by omega)) (Sub.refl _) (fun done δ W' h => h.2) (fun W3 s3 => ⟨⟨x4, by simp⟩, s3⟩) ?_ ?_
    · rintro dn k rs δ W3 N2 e2 ⟨⟨x5, rfl⟩, s3⟩ hN2
      refine st_if (k := !decide (i = k) && (c.clO i k).isSome) (evt_and (evt_b (ev_neI (ev_var rfl) (ev_var rfl))) fun _ => ?_) (fun h W4 s4 => ?_) fun h W4 s4 => ?_
      · rw [← oI_isN]
        exact evt_b (ev_bin (ev_call (eva_cons (ev_var rfl) (eva_cons (ev_var rfl) (eva_cons (ev_var rfl) eva_nil))) (e_law_clearance w)) ev_c evo_notN)
      · rw [Bool.and_eq_true] at h
        obtain ⟨v, hv⟩ := Option.isSome_iff_exists.mp h.2
        have hcl : c.cl i k = v := by unfold Cr.cl; rw [hv]; rfl
        refine st_asgI (d := .int (max (mx0 (c.cls done ++ dn.map fun k : Nat => c.cl i k)) v)) ?_ fun W5 s5 => hN2 _ _ ⟨⟨some (.int k), ?_⟩, s3.trans (s4.trans s5)⟩
        · refine ev_b1 (eva_cons (ev_var rfl) (eva_cons ?_ eva_nil)) evb_max2
          have := ev_call (sp := sp__law_clearance) (eva_cons (ev_var (δ := [some c.enc, some (tupI l), some (.int (mx0 (c.cls done ++ dn.map fun k : Nat => c.cl i k))), some (.int i), some (.int k)]) (W := W4) (i := 0) rfl) (eva_cons (ev_var (i := 3) rfl) (eva_cons (ev_var (i := 4) rfl) eva_nil))) (e_law_clearance w)
          rw [hv] at this
          exact this
        · show [_, _, some (D.int (max _ v)), _, _] = _
          unfold mx0
          rw [List.map_append, ← List.append_assoc, List.map_cons, List.map_nil, fold_snoc, hcl]
      · refine hN2 _ _ ⟨⟨some (.int k), ?_⟩, s3.trans s4⟩
        have h0 : c.cl i k = 0 := by
          apply cl_zero
          rw [← clO_some]
          by_cases e3 : i = k
          · rw [clO_some, e3]; exact cross_irr w _
          · simpa [e3] using h
        show [_, _, some (D.int (mx0 _)), _, _] = _
        have hnn : 0 ≤ mx0 (c.cls done ++ dn.map fun k : Nat => c.cl i k) := (foldl_max_ge _ 0).1
        have : mx0 (c.cls done ++ (dn ++ [k]).map fun k : Nat => c.cl i k) = mx0 (c.cls done ++ dn.map fun k : Nat => c.cl i k) := by
          unfold mx0 at *
          rw [List.map_append, ← List.append_assoc, List.map_cons, List.map_nil, fold_snoc, h0]
          omega
        rw [this]
    · rintro δ W3 ⟨⟨x5, rfl⟩, s3⟩
      refine hN _ _ ⟨⟨some (.int i), x5, ?_⟩, s2.trans s3⟩
      have : c.cls (done ++ [i]) = c.cls done ++ (List.range c.ms.length).map fun k : Nat => c.cl i k := by
        unfold Cr.cls Cr.rng
        rw [List.flatMap_append, List.flatMap_singleton, List.map_map]
        rfl
      rw [this]
  · rintro δ W2 ⟨⟨x3, x4, rfl⟩, s2⟩
    exact st_ret (f := fVar 2) (δ := [some c.enc, some (tupI l), some (.int (mx0 (c.cls l))), x3, x4]) (ev_var rfl) s2 q
end A30
namespace A30
open PySem PySem.Spec PyProof.Rows L2 DL
theorem enD_rows (rows : Rws) : enD (rows.map tupI) = (List.range rows.length).map fun t : Nat => .tup [.int t, tupI (row rows t)] := by
  unfold enD
  rw [List.length_map]
  refine List.map_congr_left fun t ht => ?_
  have ht := List.mem_range.mp ht
  unfold row
  simp [ht]
theorem evi_enumR {f : FE} {δ : DL.Env} {W : DW} {a : Addr} {rows : Rws} (h : Ev f δ W (Is (.ref a))) (e : W a = some (.lst (rows.map tupI))) : EvJ (fEnum (fCons f fNil)) δ W ((List.range rows.length).map fun t : Nat => .tup [.int t, tupI (row rows t)]) := by
  have := evi_enum h e
  rwa [enD_rows] at this
theorem row_ok {c : Cr} {rows : Rws} (h : RowsOk c rows) (t : Nat) : (row rows t).Pairwise (· < ·) ∧ ∀ x ∈ row rows t, 0 ≤ x ∧ x < c.n := by
  unfold row
  rcases getD_mem (xs := rows) (i := t) (d := []) with e | e
  · rw [e]; simp
  · exact h _ e
theorem row_len {c : Cr} (w : Wf c) {rows : Rws} (h : RowsOk c rows) (t : Nat) : (row rows t).length ≤ 4 := by
  have h1 := row_ok h t
  have hn : (row rows t).Nodup := h1.1.imp fun h => by omega
  have := hn.length_le_of_subset (l₂ := (List.range c.ms.length).map fun m => ((m : Nat) : Int)) fun x hx => by
    have := h1.2 x hx
    unfold Cr.n at this
    exact List.mem_map.mpr ⟨x.toNat, List.mem_range.mpr (by omega), by omega⟩
  have := w.n4
  simp at *
  omega
def early3 (s : String) (t : Nat) (p : Int × Int) : D := .tup [.str s, .int t, .int p.1, .int p.2]
theorem len_judge_lamps : ∀ ds W Q, sp_judge_lamps ds W Q → ds.length = 2 := fun ds W Q ⟨c, a, l, e, _⟩ => by rw [e]; rfl
theorem valD_put {κ : Type} [DecidableEq κ] (kvs : List (κ × D)) (k k' : κ) (v : D) : valD (putD kvs k v) k' = if k' = k then some v else valD kvs k' := by
  unfold putD
  by_cases h : (kvs.any fun kv => decide (kv.1 = k)) = true
  · rw [if_pos h]
    unfold valD
    induction kvs with
    | nil => simp at h
    | cons x xs ih =>
      rw [List.map_cons, List.find?_cons, List.find?_cons]
      by_cases e : x.1 = k
      · rw [if_pos e]
        by_cases e2 : k' = k
        · subst e2
          simp [e]
        · have : ¬ k = k' := fun z => e2 z.symm
          simp only [e, this, decide_false, if_neg e2]
          clear ih h
          induction xs with
          | nil => rfl
          | cons y ys ih =>
            rw [List.map_cons, List.find?_cons, List.find?_cons]
            by_cases e3 : y.1 = k
            · rw [if_pos e3]
              simp only [e3, this, decide_false]
              exact ih
            · rw [if_neg e3]
              by_cases e4 : y.1 = k'
              · simp [e4]
              · simp only [e4, decide_false]; exact ih
      · rw [if_neg e]
        rw [List.any_cons, decide_eq_false e, Bool.false_or] at h
        have ih := ih h
        by_cases e2 : x.1 = k'
        · have : ¬ k' = k := fun z => e (e2.trans z)
          simp [e2, this]
        · simp only [e2, decide_false]
          exact ih
  · rw [if_neg h]
    unfold valD
    rw [List.find?_append]
    by_cases e2 : k' = k
    · subst e2
      rw [if_pos rfl]
      have : kvs.find? (fun kv => decide (kv.1 = k')) = none := by
        rw [List.find?_eq_none]
        intro x hx z
        exact h (List.any_eq_true.mpr ⟨x, hx, z⟩)
      rw [this]
      simp
    · rw [if_neg e2]
      have : ¬ k = k' := fun z => e2 z.symm
      cases kvs.find? (fun kv => decide (kv.1 = k')) with
      | none => simp [this]
      | some y => rfl
theorem keys_put {κ : Type} [DecidableEq κ] (kvs : List (κ × D)) (k : κ) (v : D) : (putD kvs k v).map (·.1) = if k ∈ kvs.map (·.1) then kvs.map (·.1) else kvs.map (·.1) ++ [k] := by
  have hm : (kvs.any fun kv => decide (kv.1 = k)) = true ↔ k ∈ kvs.map (·.1) := by
    rw [List.any_eq_true, List.mem_map]
    constructor
    · rintro ⟨x, hx, e⟩; exact ⟨x, hx, of_decide_eq_true e⟩
    · rintro ⟨x, hx, e⟩; exact ⟨x, hx, decide_eq_true e⟩
  unfold putD
  by_cases h : k ∈ kvs.map (·.1)
  · rw [if_pos (hm.mpr h), if_pos h, List.map_map]
    refine List.map_congr_left fun x _ => ?_
    show (if x.1 = k then (x.1, v) else x).1 = x.1
    split <;> rfl
  · rw [if_neg fun z => h (hm.mp z), if_neg h, List.map_append]
    rfl
/-- what was shown last -/
structure Lst (rows : Rws) (kvs : List (Key × D)) (S : Int → Prop) (val : Int → Int) (ks : List Int) : Prop where
  key : kvs.map (·.1) = ks.map Sum.inl
  nd : ks.Nodup
  mem : ∀ i, i ∈ ks ↔ S i
  val : ∀ i ∈ ks, valD kvs (.inl i) = some (.int (val i))
theorem Lst.put {rows : Rws} {kvs : List (Key × D)} {S : Int → Prop} {val : Int → Int} {ks : List Int} (h : Lst rows kvs S val ks) (i t : Int) : ∃ ks', Lst rows (putD kvs (.inl i) (.int t)) (fun j => S j ∨ j = i) (fun j => if j = i then t else val j) ks' := by
  have hk := keys_put kvs (.inl i) (.int t)
  rw [h.key] at hk
  have hv : ∀ j, (j ∈ ks ∨ j = i) → valD (putD kvs (.inl i) (.int t)) (.inl j) = some (.int (if j = i then t else val j)) := fun j hj => by
    rw [valD_put]
    by_cases e : j = i
    · rw [if_pos (by rw [e]), if_pos e]
    · rw [if_neg (fun z => e (Sum.inl.inj z)), if_neg e]
      exact h.val j (hj.resolve_right e)
  by_cases hm : i ∈ ks
  · rw [if_pos (List.mem_map.mpr ⟨i, hm, rfl⟩)] at hk
    exact ⟨ks, hk, h.nd, fun j => ⟨fun z => .inl ((h.mem j).mp z), fun z => z.elim (h.mem j).mpr fun e => e ▸ hm⟩, fun j hj => hv j (.inl hj)⟩
  · rw [if_neg (fun z => by
      obtain ⟨j, hj, e⟩ := List.mem_map.mp z
      cases e
      exact hm hj)] at hk
    refine ⟨ks ++ [i], by rw [hk]; simp, ?_, fun j => ?_, fun j hj => hv j (by simpa using hj)⟩
    · rw [List.nodup_append]
      exact ⟨h.nd, by simp, fun a ha b hb e => by simp at hb; subst hb; subst e; exact hm ha⟩
    · rw [List.mem_append, h.mem]
      simp
theorem seen_succ (rows : Rws) (t : Nat) (i : Int) : seen rows (t + 1) i = seen rows t i ++ if i ∈ row rows t then [t] else [] := by
  unfold seen
  rw [List.range_succ, List.filter_append]
  congr 1
  by_cases h : i ∈ row rows t <;> simp [h]
theorem lastS_succ (rows : Rws) (t : Nat) (i : Int) : lastS rows (t + 1) i = if i ∈ row rows t then t else lastS rows t i := by
  unfold lastS
  rw [seen_succ]
  by_cases h : i ∈ row rows t <;> simp [h]
theorem seen_ne (rows : Rws) (t : Nat) (i : Int) : (seen rows (t + 1) i).isEmpty = false ↔ (seen rows t i).isEmpty = false ∨ i ∈ row rows t := by
  rw [seen_succ]
  by_cases h : i ∈ row rows t <;> simp [h]
def ahead (rows : Rws) (t : Nat) : List Int := if t = 0 then [] else row rows (t - 1)
theorem isNew_ahead (rows : Rws) (t : Nat) (j : Int) : isNew rows t j = !decide (j ∈ ahead rows t) := by
  unfold isNew ahead
  by_cases h : t = 0 <;> simp [h]
theorem Lst.next {rows : Rws} {kvs : List (Key × D)} {ks : List Int} {t : Nat} {S : Int → Prop} {val : Int → Int} (h : Lst rows kvs S val ks) (hS : ∀ j, S j ↔ ((seen rows t j).isEmpty = false ∨ j ∈ row rows t)) (hval : ∀ j, val j = if j ∈ row rows t then ((t : Nat) : Int) else lastS rows t j) :
    Lst rows kvs (fun j => (seen rows (t + 1) j).isEmpty = false) (fun j => lastS rows (t + 1) j) ks :=
  ⟨h.key, h.nd, fun j => by rw [h.mem, hS, seen_ne], fun j hj => by
    rw [h.val j hj, hval, lastS_succ]
    by_cases e : j ∈ row rows t <;> simp [e]⟩
theorem keys_sorted {c : Cr} {rows : Rws} (hr : RowsOk c rows) {t : Nat} {ks ys : List Int} (hn : ks.Nodup) (hm : ∀ i, i ∈ ks ↔ (seen rows t i).isEmpty = false) (hp : ys.Perm ks) (hs : ys.Pairwise (· ≤ ·)) : ys = keysS c rows t := by
  have a1 : (keysS c rows t).Pairwise (· < ·) := by
    unfold keysS Cr.rng
    refine List.Pairwise.filter _ ?_
    rw [List.pairwise_map]
    exact List.pairwise_lt_range.imp fun h => by omega
  have p : ks.Perm (keysS c rows t) := by
    rw [List.perm_ext_iff_of_nodup hn (a1.imp fun h => by omega)]
    intro i
    unfold keysS
    rw [hm, List.mem_filter, mem_rng]
    constructor
    · intro h
      refine ⟨?_, by rw [h]; rfl⟩
      obtain ⟨hu, hi⟩ := mem_seen.mp (lastS_mem h)
      exact (row_ok hr _).2 i hi
    · rintro ⟨_, h⟩
      simpa using h
  exact (hp.trans p).eq_of_pairwise (fun a b _ _ h g => Int.le_antisymm h g) hs (a1.imp fun h => by omega)
theorem keys_len {c : Cr} (w : Wf c) {rows : Rws} (hr : RowsOk c rows) {t : Nat} {ks : List Int} (hn : ks.Nodup) (hm : ∀ i, i ∈ ks ↔ (seen rows t i).isEmpty = false) : ks.length ≤ 4 := by
  have := hn.length_le_of_subset (l₂ := c.rng) fun i hi => by
    rw [mem_rng]
    obtain ⟨hu, h⟩ := mem_seen.mp (lastS_mem ((hm i).mp hi))
    exact (row_ok hr _).2 i h
  have := w.n4
  unfold Cr.rng at *
  simp at *
  omega
theorem st_put {i j l : Nat} {B : DE} {δ : DL.Env} {W : DW} {d : Addr} {kvs : List (Key × D)} {k : Int} {v : D} (h1 : δ[i]? = some (some v)) (h2 : δ[j]? = some (some (.ref d))) (h3 : δ[l]? = some (some (.int k))) (w : W d = some (.dic kvs)) (hl : kvs.length < sizeLine) (h : B.nx δ (wup W d (.dic (putD kvs (.inl k) v)))) : sAsg (fVar i) (gSb (fVar j) (fVar l) pSet) B δ W :=
  ⟨_, h1, _, h2, _, h3, .inr ⟨kvs, .inl k, w, rfl, hl, h⟩⟩
theorem ev_oP {f : FE} {δ : DL.Env} {W : DW} {p : Int × Int} (h : Ev f δ W (Is (oP (some p)))) : Ev (fBin pSub' f (fC (.int 0))) δ W (Is (.int p.1)) ∧ Ev (fBin pSub' f (fC (.int 1))) δ W (Is (.int p.2)) := ⟨ev_bin h ev_c (evo_ix rfl), ev_bin h ev_c (evo_ix rfl)⟩
theorem body_judge_lamps : ∀ ds W Q, sp_judge_lamps ds W Q → f_judge_lamps (RT Q) (startD ["crossing", "rows", "tick", "row", "pair", "last", "ahead", "j", "i"] ds) W := by
  rintro ds W Q ⟨c, a, rows, rfl, w, wa, hr, hl, q⟩
  unfold f_judge_lamps
  refine for_find (W := W) (enc := fun t : Nat => D.tup [.int t, tupI (row rows t)]) (ys := List.range rows.length) (fun δ => ∃ x2 x3 x4 : Option D, δ = [some c.enc, some (.ref a), x2, x3, x4, none, none, none, none]) (c.crossT rows) (evi_enumR (ev_var rfl) wa) ⟨_, _, _, rfl⟩ ?_ ?_ ?_
  · rintro t ht B' δ1 W1 ⟨x2, x3, x4, rfl⟩ s1 hs hn
    refine gtp2 ?_
    refine st_asgI (ev_call (R := Is (oP (c.crossR (row rows t)))) (eva_cons (ev_var rfl) (eva_cons (ev_var rfl) eva_nil)) fun W2 Q2 s2 k => ⟨c, row rows t, rfl, w, k _ W2 (Sub.refl _) rfl⟩) fun W2 s2 => ?_
    cases hc : c.crossR (row rows t) with
    | none =>
      refine st_if (k := false) (evt_b (ev_bin (ev_var rfl) ev_c evo_notN)) (fun h => by cases h) fun _ W3 s3 => ?_
      exact hn (by unfold Cr.crossT; rw [hc]; rfl) _ W3 ⟨_, _, _, rfl⟩ (s2.trans s3)
    | some p =>
      refine st_if (k := true) (evt_b (ev_bin (ev_var rfl) ev_c evo_notN)) (fun _ W3 s3 => ?_) fun h => by cases h
      have ev4 : Ev (fVar 4) [some c.enc, some (.ref a), some (.int t), some (tupI (row rows t)), some (oP (some p)), none, none, none, none] W3 (Is (oP (some p))) := ev_var rfl
      refine st_retE (d := early3 "crossed" t p) (ev_tup (eva_cons ev_c (eva_cons (ev_var rfl) (eva_cons (ev_oP ev4).1 (eva_cons (ev_oP ev4).2 eva_nil)))) (sz 4)) fun W4 s4 => hs _ (by unfold Cr.crossT; rw [hc]; rfl) W4 (s2.trans (s3.trans s4))
  · intro r hr2 W2 s2
    refine ⟨W, s2, ?_⟩
    unfold Cr.fault at q
    rw [hr2] at q
    exact q
  · rintro hc δ2 W2 ⟨x2, x3, x4, rfl⟩ s2
    refine ?_
    have q : Q (match (List.range rows.length).findSome? (c.earlyT rows) with | some d => d | none => .non) W := by unfold Cr.fault at q; rw [hc] at q; exact q
    show ∀ p, W2 p = none → _
    intro d hd
    have hd0 : W d = none := s2.none hd
    have s3 : Sub W (wup W2 d (.dic [])) := s2.new hd0
    refine st_asgI (d := tupI []) (ev_tup eva_nil (sz 0)) fun W4 s4 => ?_
    refine for_acc (W0 := W) (enc := fun t : Nat => D.tup [.int t, tupI (row rows t)]) (ys := List.range rows.length) (fun done δ W' => (∃ x2 x3 x4 x7 x8 : Option D, δ = [some c.enc, some (.ref a), x2, x3, x4, some (.ref d), some (tupI (ahead rows done.length)), x7, x8]) ∧ Sub W W' ∧ (∀ t ∈ done, c.earlyT rows t = none) ∧ ∃ kvs ks, W' d = some (.dic kvs) ∧ Lst rows kvs (fun j => (seen rows done.length j).isEmpty = false) (fun j => lastS rows done.length j) ks)
      (evi_enumR (ev_var rfl) wa) (s3.trans s4) (fun done δ W' h => h.2.1) (fun W5 s5 => ⟨⟨x2, x3, x4, none, none, rfl⟩, s3.trans (s4.trans s5), (by simp), [], [], s5 _ _ (s4 _ _ wup_same), rfl, by simp, fun i => by simp [seen], by simp⟩) ?_ ?_
    · rintro done t rest δ W5 N e ⟨⟨x2, x3, x4, x7, x8, rfl⟩, s5, hno, kvs, ks, wd, hL⟩ hN
      obtain ⟨e1, e2⟩ := range_split e
      have hdl : done.length = t := by rw [e1]; simp
      rw [hdl] at hL
      rw [hdl]
      have hkl := keys_len w hr hL.nd hL.mem
      have hrl := row_len w hr t
      refine gtp2 ?_
      -- the call of first_early
      refine ⟨_, rfl, _, rfl, _, rfl, ?_⟩
      refine (ev_lc (W := W5) (enc := D.int) (ys := row rows t) (fun j => if isNew rows t j then some (.int j) else none) (evi_seq (d := tupI (row rows t)) (ev_var rfl) rfl).i (fun j hj => ⟨_, fun _ _ h => h, ?_, fun y hy => ?_⟩) ?_).runN fun b W6 s6 hb wb => ?_
      · have : (if isNew rows t j then some (D.int j) else none).isSome = !decide (j ∈ ahead rows t) := by
          rw [isNew_ahead]
          by_cases h : j ∈ ahead rows t <;> simp [h]
        rw [this]
        exact evt_b (ev_notInT (ev_var rfl) (ev_var rfl))
      · split at hy
        · cases hy; exact ev_var rfl
        · cases hy
      · rw [filterMap_filter_int, List.length_map]
        have := List.length_filter_le (isNew rows t) (row rows t)
        exact sz _
      rw [filterMap_filter_int] at wb
      refine ⟨c, d, b, t, kvs, ks, fun i => lastS rows t i, begun rows t, rfl, w, s6 _ _ wd, hL.key, by omega, hL.val, wb, fun ys hp hs => ?_⟩
      have he : (ys.findSome? fun i => (begun rows t).findSome? fun j => if decide ((t : Int) - (lastS rows t i : Nat) - 1 < c.cl i j) then some (i, j) else none) = c.earlyR rows t := by
        rw [keys_sorted hr hL.nd hL.mem hp hs]
        exact early_eq w rows t
      rw [he]
      show sSeq _ _ _ [some c.enc, some (.ref a), some (.int t), some (tupI (row rows t)), some (oP (c.earlyR rows t)), some (.ref d), some (tupI (ahead rows t)), x7, x8] W6
      cases hc2 : c.earlyR rows t with
      | some p =>
        refine st_if (k := true) (evt_b (ev_bin (ev_var rfl) ev_c evo_notN)) (fun _ W7 s7 => ?_) fun h => by cases h
        have ev4 : Ev (fVar 4) [some c.enc, some (.ref a), some (.int t), some (tupI (row rows t)), some (oP (some p)), some (.ref d), some (tupI (ahead rows t)), x7, x8] W7 (Is (oP (some p))) := ev_var rfl
        refine st_ret (d := early3 "early" t p) (ev_tup (eva_cons ev_c (eva_cons (ev_var rfl) (eva_cons (ev_oP ev4).1 (eva_cons (ev_oP ev4).2 eva_nil)))) (sz 4)) (s5.trans (s6.trans s7)) ?_
        have hf : (List.range rows.length).findSome? (c.earlyT rows) = some (early3 "early" t p) := by
          rw [e, List.findSome?_append, List.findSome?_eq_none_iff.mpr hno, Option.none_or, List.findSome?_cons]
          unfold Cr.earlyT
          rw [hc2]
          rfl
        rw [hf] at q
        exact q
      | none =>
        refine st_if (k := false) (evt_b (ev_bin (ev_var rfl) ev_c evo_notN)) (fun h => by cases h) fun _ W7 s7 => ?_
        refine for_acc (W0 := W) (W := W7) (enc := D.int) (ys := row rows t) (δ := [some c.enc, some (.ref a), some (.int t), some (tupI (row rows t)), some (oP none), some (.ref d), some (tupI (ahead rows t)), x7, x8])
          (fun dn δ W' => (∃ x8 : Option D, δ = [some c.enc, some (.ref a), some (.int t), some (tupI (row rows t)), some (oP none), some (.ref d), some (tupI (ahead rows t)), x7, x8]) ∧ Sub W W' ∧ ∃ kvs ks, W' d = some (.dic kvs) ∧ Lst rows kvs (fun j => (seen rows t j).isEmpty = false ∨ j ∈ dn) (fun j => if j ∈ dn then ((t : Nat) : Int) else lastS rows t j) ks)
          (evi_seq (d := tupI (row rows t)) (ev_var rfl) rfl) (s5.trans (s6.trans s7)) (fun dn δ W' h => h.2.1) (fun W8 s8 => ⟨⟨x8, rfl⟩, s5.trans (s6.trans (s7.trans s8)), kvs, ks, s8 _ _ (s7 _ _ (s6 _ _ wd)), hL.key, hL.nd, fun i => by rw [hL.mem]; simp, fun i hi => by rw [hL.val i hi]; simp⟩) ?_ ?_
        · rintro dn i rs δ W8 N2 er ⟨⟨x8, rfl⟩, s8, kvs2, ks2, wd2, hL2⟩ hN2
          have hkl2 : kvs2.length < sizeLine := by
            have e3 := congrArg List.length hL2.key
            simp at e3
            have : ks2.length ≤ 4 := by
              have := hL2.nd.length_le_of_subset (l₂ := c.rng) fun j hj => by
                rw [mem_rng]
                rcases (hL2.mem j).mp hj with h | h
                · obtain ⟨hu, h⟩ := mem_seen.mp (lastS_mem h)
                  exact (row_ok hr _).2 j h
                · exact (row_ok hr t).2 j (by rw [er]; simp [h])
              have := w.n4
              unfold Cr.rng at *
              simp at *
              omega
            have := sizeLine_eq
            omega
          obtain ⟨ks3, hL3⟩ := hL2.put i t
          refine st_put rfl rfl rfl wd2 hkl2 (hN2 _ _ ⟨⟨_, rfl⟩, s8.new hd0, _, ks3, wup_same, hL3.key, hL3.nd, fun j => ?_, fun j hj => ?_⟩)
          · rw [hL3.mem]; simp [or_assoc]
          · rw [hL3.val j hj]
            by_cases e4 : j = i
            · simp [e4]
            · by_cases e5 : j ∈ dn <;> simp [e4, e5]
        · rintro δ W8 ⟨⟨x8, rfl⟩, s8, kvs2, ks2, wd2, hL2⟩
          refine st_asgI (ev_var rfl) fun W9 s9 => hN _ _ ⟨⟨some (.int t), some (tupI (row rows t)), some (oP none), x7, x8, ?_⟩, s8.trans s9, ?_, kvs2, ks2, s9 _ _ wd2, ?_⟩
          · have : ahead rows (done ++ [t]).length = row rows t := by
              rw [List.length_append, hdl]
              rfl
            rw [this]
            rfl
          · intro u hu
            rcases List.mem_append.mp hu with hu | hu
            · exact hno u hu
            · simp at hu
              subst hu
              unfold Cr.earlyT
              rw [hc2]
              rfl
          · have := hL2.next (t := t) (fun j => Iff.rfl) (fun j => rfl)
            rw [List.length_append, hdl]
            exact this
    · rintro δ W5 ⟨⟨x2, x3, x4, x7, x8, rfl⟩, s5, hno, _⟩
      rw [List.findSome?_eq_none_iff.mpr hno] at q
      show sRet (fC .non) (RT Q) [some c.enc, some (.ref a), x2, x3, x4, some (.ref d), some (tupI (ahead rows (List.range rows.length).length)), x7, x8] W5
      exact st_ret ev_c s5 q
end A30
namespace A30
open PySem PySem.Spec PyProof.Rows L2 DL
theorem py_nil {W : DW} {p : Addr} (h : W p = some (.lst [])) : Py W (.ref p) (.list []) := .lst h .nil
theorem eqv_nilI (l : List Int) : PyData.eqv (.list (l.map PyData.int)) (.list []) = l.isEmpty := by
  simp only [PyData.eqv]
  cases l <;> simp [PyData.eqvAll]
/-- a list of ints, is it not empty -/
theorem ev_neNil {f : FE} {δ : DL.Env} {W : DW} {p : Addr} {l : List Int} (h : Ev f δ W (Is (.ref p))) (w : W p = some (.lst (l.map D.int))) : Ev (fBin pNe f (fLst fNil)) δ W (Is (.bl (!l.isEmpty))) := fun W1 Q s k =>
  h W1 _ s fun x W2 s2 i => by
    rw [show x = D.ref p from i]
    refine ev_lst (δ := δ) (W := W2) eva_nil (sz 0) W2 _ (Sub.refl _) fun y W3 s3 j => ?_
    obtain ⟨r, rfl, h1, h2⟩ := j
    refine ⟨_, _, .lst (s3 _ _ (s2 _ _ (s _ _ w))) (pys_map (fun i => .int i) l), py_nil h2, shaped_intsL l, shaped_of (by simp [PyData.canLay0, PyData.canLayAll0]) (by simp [PyData.depth, PyData.depthAll]), ?_⟩
    rw [eqv_nilI]
    exact k _ W3 (s2.trans s3) rfl
theorem filter_map_opt {α : Type} (en : α → D) (p : α → Bool) (ys : List α) : (ys.filterMap fun z => if p z then some (en z) else none) = (ys.filter p).map en := by
  induction ys with
  | nil => rfl
  | cons y ys ih =>
    rw [List.filterMap_cons, List.filter_cons]
    cases p y with
    | true => simp [ih]
    | false => simp [ih]
/-- [x for x in xs if p(x)] -/
theorem ev_lcF {α : Type} {enc : α → D} {ys : List α} {fi : FI} {gt : FG} {tt : FT} {te : FE} {vs : List Nat} {δ : DL.Env} {W : DW} (p : α → Bool) (en : α → D) (hi : EvI fi δ W (ys.map enc))
    (hx : ∀ z ∈ ys, ∃ δ2, (∀ W2 N, N δ2 W2 → gt (enc z) (wipeD δ vs) W2 N) ∧ EvT tt δ2 W (p z) ∧ (p z = true → Ev te δ2 W (Is (en z)))) (hl : ys.length ≤ sizeLine) : Ev (fLc fi gt tt te vs) δ W (New ((ys.filter p).map en)) := by
  rw [← filter_map_opt]
  refine ev_lc (fun z => if p z then some (en z) else none) hi (fun z hz => ?_) (Nat.le_trans (List.length_filterMap_le _ _) hl)
  obtain ⟨δ2, h1, h2, h3⟩ := hx z hz
  refine ⟨δ2, h1, ?_, fun y hy => ?_⟩
  · have : (if p z = true then some (en z) else none).isSome = p z := by cases p z <;> rfl
    rw [this]
    exact h2
  · split at hy
    · rename_i h; cases hy; exact h3 h
    · cases hy
theorem ev_rowI {f g : FE} {δ : DL.Env} {W : DW} {a : Addr} {rows : Rws} {t : Nat} (hf : Ev f δ W (Is (.ref a))) (hg : Ev g δ W (Is (.int t))) (w : W a = some (.lst (rows.map tupI))) (ht : t < rows.length) : Ev (fBin pSub' f g) δ W (Is (tupI (row rows t))) := by
  refine ev_bin hf hg (evo_ix ?_)
  simp only [ixD]
  rw [w]
  refine atD_map (by omega) ?_
  unfold row
  rw [List.getD_eq_getElem?_getD, show ((t : Nat) : Int).toNat = t by omega, List.getElem?_eq_getElem ht]
  rfl
theorem gnP {i : Nat} {d : D} {δ : DL.Env} {W : DW} {Q : DL.Env → DW → Prop} (h : Q (δ.set i (some d)) W) : gN i d δ W Q := h
theorem seqP0 {s t : FS} {B : DE} {δ : DL.Env} {W : DW} (h : s { B with nx := t B } δ W) : sSeq s t B δ W := h
theorem atD_last {en : Nat → D} {xs : List Nat} (h : xs ≠ []) : atD (xs.map en) (-1) = some (en (xs.getLast?.getD 0)) := by
  have hpos := List.length_pos_iff.mpr h
  unfold atD ixN
  rw [List.length_map, if_neg (by omega), if_pos (by omega)]
  simp only [Option.bind_some]
  rw [show (-1 + (xs.length : Int)).toNat = xs.length - 1 by omega, List.getElem?_map, List.getLast?_eq_getElem?]
  cases e : xs[xs.length - 1]? with
  | none => rw [List.getElem?_eq_none_iff] at e; omega
  | some u => rfl
theorem cross1_some {c : Cr} {l : List Int} {i : Int} : c.cross1 l i = ((l.filter fun j => decide (i < j) && (c.clO i j).isSome).head?).map fun j => (i, j) := cross1_law c l i
theorem len__law_lamp_fault : ∀ ds W Q, sp__law_lamp_fault ds W Q → ds.length = 2 := fun ds W Q ⟨c, a, l, e, _⟩ => by rw [e]; rfl
theorem body__law_lamp_fault : ∀ ds W Q, sp__law_lamp_fault ds W Q → f__law_lamp_fault (RT Q) (startD ["crossing", "rows", "many", "tick", "lot", "i", "some", "j", "last", "t", "is_new", "wait"] ds) W := by
  rintro ds W Q ⟨c, a, rows, rfl, w, wa, hr, hl, q⟩
  unfold f__law_lamp_fault
  have hn4 := w.n4
  refine st_asgI (ev_ms rfl) fun W1 s1 => ?_
  have wa1 := s1 _ _ wa
  refine for_find (W := W1) (enc := fun t : Nat => D.tup [.int t, tupI (row rows t)]) (ys := List.range rows.length) (fun δ => ∃ x3 x4 x5 x6 : Option D, δ = [some c.enc, some (.ref a), some (.int (c.ms.length : Nat)), x3, x4, x5, x6, none, none, none, none, none]) (c.crossT rows) (evi_enumR (ev_var rfl) wa1) ⟨none, none, none, none, rfl⟩ ?_ ?_ ?_
  · rintro t ht B' δ1 W2 ⟨x3, x4, x5, x6, rfl⟩ s2 hs hn
    refine gtp2 ?_
    refine for_find (W := W2) (enc := D.int) (ys := row rows t) (fun δ => ∃ x5 x6 : Option D, δ = [some c.enc, some (.ref a), some (.int (c.ms.length : Nat)), some (.int t), some (tupI (row rows t)), x5, x6, none, none, none, none, none]) (fun i => (c.cross1 (row rows t) i).map (early3 "crossed" t)) (evi_seq (d := tupI (row rows t)) (ev_var rfl) rfl) ⟨_, _, rfl⟩ ?_ ?_ ?_
    · rintro i hi B2 δ2 W3 ⟨x5, x6, rfl⟩ s3 hs2 hn2
      have hrl := row_len w hr t
      show sSeq _ _ _ [some c.enc, some (.ref a), some (.int (c.ms.length : Nat)), some (.int t), some (tupI (row rows t)), some (.int i), x6, none, none, none, none, none] W3
      refine st_asgN (ev_lcF (W := W3) (enc := D.int) (en := D.int) (ys := row rows t) (fun j => decide (i < j) && (c.clO i j).isSome) (evi_seq (d := tupI (row rows t)) (ev_var rfl) rfl).i (fun j hj => ⟨_, fun _ _ h => h, ?_, fun _ => ev_var rfl⟩) (sz _)) fun p W4 s4 hp wp => ?_
      · refine evt_and (evt_b (ev_bin (ev_var rfl) (ev_var rfl) evo_ii)) fun _ => ?_
        rw [← oI_isN]
        exact evt_b (ev_bin (ev_call (eva_cons (ev_var rfl) (eva_cons (ev_var rfl) (eva_cons (ev_var rfl) eva_nil))) (e_law_clearance w)) ev_c evo_notN)
      · refine st_if (evt_b (ev_neNil (ev_var rfl) wp)) (fun h W5 s5 => ?_) fun h W5 s5 => ?_
        · cases e : (row rows t).filter (fun j => decide (i < j) && (c.clO i j).isSome) with
          | nil => rw [e] at h; cases h
          | cons j js =>
            rw [e] at wp
            refine st_retE (d := early3 "crossed" t (i, j)) (ev_tup (eva_cons ev_c (eva_cons (ev_var rfl) (eva_cons (ev_var rfl) (eva_cons (ev_bin (ev_var (i := 6) rfl) ev_c (evo_ix (d := .int j) ?_)) eva_nil)))) (sz 4)) fun W6 s6 => hs2 _ ?_ W6 (s4.trans (s5.trans s6))
            · simp only [ixD]
              rw [s5 _ _ wp]
              exact atD_map (en := D.int) (ys := j :: js) (by omega) rfl
            · rw [cross1_law, e]
              rfl
        · refine hn2 ?_ _ W5 ⟨_, _, rfl⟩ (s4.trans s5)
          rw [cross1_law]
          cases e : (row rows t).filter (fun j => decide (i < j) && (c.clO i j).isSome) with
          | nil => rfl
          | cons j js => rw [e] at h; cases h
    · intro r hr W3 s3
      rw [fs_map] at hr
      exact hs r hr W3 s3
    · rintro hr δ2 W3 ⟨x5, x6, rfl⟩ s3
      rw [fs_map] at hr
      exact hn hr _ W3 ⟨_, _, _, _, rfl⟩ s3
  · intro r hr2 W2 s2
    refine ⟨W, s1.trans s2, ?_⟩
    unfold Cr.fault at q
    rw [hr2] at q
    exact q
  · rintro hc δ2 W2 ⟨x3, x4, x5, x6, rfl⟩ s2
    have q : Q (match (List.range rows.length).findSome? (c.earlyT rows) with | some d => d | none => .non) W := by unfold Cr.fault at q; rw [hc] at q; exact q
    have wa2 := s2 _ _ wa1
    refine for_find (W := W2) (enc := fun t : Nat => D.tup [.int t, tupI (row rows t)]) (ys := List.range rows.length) (fun δ => ∃ x3 x4 x5 x6 x7 x8 x10 x11 : Option D, δ = [some c.enc, some (.ref a), some (.int (c.ms.length : Nat)), x3, x4, x5, x6, x7, x8, none, x10, x11]) (c.earlyT rows) (evi_enumR (ev_var rfl) wa2) ⟨x3, x4, x5, x6, none, none, none, none, rfl⟩ ?_ ?_ ?_
    · rintro t ht B' δ1 W3 ⟨y3, y4, y5, y6, y7, y8, y10, y11, rfl⟩ s3 hs hn
      have ht' := List.mem_range.mp ht
      have wa3 := s3 _ _ wa2
      refine gtp2 ?_
      refine for_find (W := W3) (enc := fun k : Nat => D.int (k : Int)) (ys := List.range c.ms.length) (fun δ => ∃ x5 x6 x7 x8 x10 x11 : Option D, δ = [some c.enc, some (.ref a), some (.int (c.ms.length : Nat)), some (.int t), some (tupI (row rows t)), x5, x6, x7, x8, none, x10, x11]) (fun i : Nat => (c.earlyL rows t i).map (early3 "early" t)) (evi_rng (ev_var rfl) (by omega)) ⟨_, _, _, _, _, _, rfl⟩ ?_ ?_ ?_
      · rintro i hi B2 δ2 W4 ⟨z5, z6, z7, z8, z10, z11, rfl⟩ s4 hs2 hn2
        have wa4 := s4 _ _ wa3
        show sSeq _ _ _ [some c.enc, some (.ref a), some (.int (c.ms.length : Nat)), some (.int t), some (tupI (row rows t)), some (.int i), z6, z7, z8, none, z10, z11] W4
        refine st_asgN (ev_lcF (W := W4) (enc := fun k : Nat => D.int (k : Int)) (en := fun k : Nat => D.int (k : Int)) (ys := List.range t) (fun u => decide (((i : Nat) : Int) ∈ row rows u)) (evi_rng (ev_var rfl) (by omega)).i (fun u hu => ⟨_, fun _ _ h => h, ?_, fun _ => ev_var rfl⟩) (sz _ (by simp; omega))) fun p W5 s5 hp wp => ?_
        · have hu' := List.mem_range.mp hu
          exact evt_b (ev_inT (ev_var rfl) (ev_rowI (ev_var rfl) (ev_var rfl) wa4 (by omega)))
        · have wp : W5 p = some (.lst ((seen rows t i).map fun k : Nat => D.int (k : Int))) := wp
          have wp' : W5 p = some (.lst (((seen rows t i).map fun k : Nat => (k : Int)).map D.int)) := by rw [wp, List.map_map]; rfl
          have wa5 := s5 _ _ wa4
          refine for_find (W := W5) (enc := D.int) (ys := row rows t) (fun δ => ∃ x7 x10 x11 : Option D, δ = [some c.enc, some (.ref a), some (.int (c.ms.length : Nat)), some (.int t), some (tupI (row rows t)), some (.int i), z6, x7, some (.ref p), none, x10, x11]) (fun j => (if isNew rows t j && ((decide (((i : Nat) : Int) ≠ j) && (c.clO i j).isSome) && (!(seen rows t i).isEmpty && decide ((t : Int) - lastS rows t i - 1 < c.cl i j))) then some (((i : Nat) : Int), j) else none).map (early3 "early" t)) (evi_seq (d := tupI (row rows t)) (ev_var rfl) rfl) ⟨_, _, _, rfl⟩ ?_ ?_ ?_
          · rintro j hj B3 δ3 W6 ⟨u7, u10, u11, rfl⟩ s6 hs3 hn3
            have wa6 := s6 _ _ wa5
            have hnew : Ev (fOrV (fBin pEq (fVar 3) (fC (.int 0))) (fBin (pInA true) (fVar 7) (fBin pSub' (fVar 1) (fBin pSub (fVar 3) (fC (.int 1)))))) [some c.enc, some (.ref a), some (.int (c.ms.length : Nat)), some (.int t), some (tupI (row rows t)), some (.int i), z6, some (.int j), some (.ref p), none, u10, u11] W6 (Is (.bl (isNew rows t j))) := by
              have e0 : isNew rows t j = (decide (((t : Nat) : Int) = 0) || !decide (j ∈ row rows (t - 1))) := by
                unfold isNew
                congr 1
                rw [decide_eq_decide]
                omega
              rw [e0]
              refine ev_orV (ev_eqI (ev_var rfl) ev_c) fun h0 => ev_notInT (ev_var rfl) (ev_rowI (ev_var rfl) ?_ wa6 (by omega))
              have h0 := of_decide_eq_false h0
              rw [show (((t - 1 : Nat) : Nat) : Int) = (t : Int) - 1 by omega]
              exact ev_bin (ev_var rfl) ev_c evo_ii
            have hwait : Ev (fIf (fB (fBin pNe (fVar 5) (fVar 7))) (fCall sp__law_clearance (fCons (fVar 0) (fCons (fVar 5) (fCons (fVar 7) fNil)))) (fC .non)) [some c.enc, some (.ref a), some (.int (c.ms.length : Nat)), some (.int t), some (tupI (row rows t)), some (.int i), z6, some (.int j), some (.ref p), none, u10, u11] W6 (Is (oI (if decide (((i : Nat) : Int) ≠ j) then c.clO i j else none))) := by
              refine ev_if (k := !decide (((i : Nat) : Int) = j)) (evt_b (ev_neI (ev_var rfl) (ev_var rfl))) (fun h => ?_) fun h => ?_
              · have h : ((i : Nat) : Int) ≠ j := by simpa using h
                rw [if_pos (decide_eq_true h)]
                exact ev_call (eva_cons (ev_var rfl) (eva_cons (ev_var rfl) (eva_cons (ev_var rfl) eva_nil))) (e_law_clearance w)
              · have h : ((i : Nat) : Int) = j := by simpa using h
                rw [if_neg (by simp [h])]
                exact ev_c
            refine gnP ?_
            refine seqP0 (st_par (eva_cons hnew (eva_cons hwait eva_nil)) fun W7 s7 => ?_)
            have wp7 := s7 _ _ (s6 _ _ wp)
            have wp7' := s7 _ _ (s6 _ _ wp')
            dsimp only
            refine st_if (k := isNew rows t j && ((decide (((i : Nat) : Int) ≠ j) && (c.clO i j).isSome) && (!(seen rows t i).isEmpty && decide ((t : Int) - lastS rows t i - 1 < c.cl i j)))) ?_ (fun h W8 s8 => ?_) fun h W8 s8 => ?_
            · refine evt_and (evt_tru (d := .bl (isNew rows t j)) (ev_var rfl) fun _ _ => rfl) fun _ => ?_
              refine evt_and ?_ fun hh => ?_
              · have e : (decide (((i : Nat) : Int) ≠ j) && (c.clO i j).isSome) = !(oI (if decide (((i : Nat) : Int) ≠ j) then c.clO i j else none)).isN := by
                  rw [oI_isN]
                  by_cases h : ((i : Nat) : Int) = j <;> simp [h]
                rw [e]
                exact evt_b (ev_bin (ev_var rfl) ev_c evo_notN)
              · rw [Bool.and_eq_true] at hh
                obtain ⟨v, hv⟩ := Option.isSome_iff_exists.mp hh.2
                have hcl : c.cl i j = v := by unfold Cr.cl; rw [hv]; rfl
                refine evt_and ?_ fun hne => ?_
                · have := evt_b (ev_neNil (ev_var (δ := [some c.enc, some (.ref a), some (.int (c.ms.length : Nat)), some (.int t), some (tupI (row rows t)), some (.int i), z6, some (.int j), some (.ref p), none, some (.bl (isNew rows t j)), some (oI (if decide (((i : Nat) : Int) ≠ j) then c.clO i j else none))]) (i := 8) rfl) wp7')
                  rw [List.isEmpty_map] at this
                  exact this
                · have hse : (seen rows t i).isEmpty = false := by simpa using hne
                  rw [hcl]
                  have ev11 : Ev (fVar 11) [some c.enc, some (.ref a), some (.int (c.ms.length : Nat)), some (.int t), some (tupI (row rows t)), some (.int i), z6, some (.int j), some (.ref p), none, some (.bl (isNew rows t j)), some (oI (if decide (((i : Nat) : Int) ≠ j) then c.clO i j else none))] W7 (Is (.int v)) := ev_var (by rw [if_pos hh.1, hv]; rfl)
                  refine evt_b (ev_bin (ev_bin (ev_bin (ev_var rfl) (ev_bin (a := .ref p) (b := .int (-1)) (ev_var rfl) ?_ (evo_ix (d := .int (lastS rows t i)) ?_)) evo_ii) ev_c evo_ii) ev11 evo_ii)
                  · exact fun W8 Q8 s8 k => ⟨1, rfl, k _ W8 (Sub.refl _) rfl⟩
                  · simp only [ixD]
                    rw [wp7]
                    refine atD_last (en := fun k : Nat => D.int (k : Int)) ?_ 
                    intro z
                    rw [z] at hse
                    cases hse
            · refine st_retE (d := early3 "early" t (i, j)) (ev_tup (eva_cons ev_c (eva_cons (ev_var rfl) (eva_cons (ev_var rfl) (eva_cons (ev_var rfl) eva_nil)))) (sz 4)) fun W9 s9 => hs3 _ ?_ W9 (s7.trans (s8.trans s9))
              rw [if_pos h]
              rfl
            · refine hn3 ?_ _ W8 ⟨_, _, _, rfl⟩ (s7.trans s8)
              rw [if_neg (by rw [h]; simp)]
              rfl
          · intro r hr W6 s6
            rw [fs_map] at hr
            exact hs2 r hr W6 (s5.trans s6)
          · rintro hr δ3 W6 ⟨u7, u10, u11, rfl⟩ s6
            rw [fs_map] at hr
            exact hn2 hr _ W6 ⟨_, _, _, _, _, _, rfl⟩ (s5.trans s6)
      · intro r hr W4 s4
        rw [fs_map] at hr
        refine hs r ?_ W4 s4
        unfold Cr.earlyT Cr.earlyR Cr.rng
        rw [List.findSome?_map]
        exact hr
      · rintro hr δ2 W4 ⟨u5, u6, u7, u8, u10, u11, rfl⟩ s4
        rw [fs_map] at hr
        refine hn ?_ _ W4 ⟨_, _, _, _, _, _, _, _, rfl⟩ s4
        unfold Cr.earlyT Cr.earlyR Cr.rng
        rw [List.findSome?_map]
        exact hr
    · intro r hr2 W3 s3
      rw [hr2] at q
      exact ⟨W, s1.trans (s2.trans s3), q⟩
    · rintro hr2 δ3 W3 ⟨y3, y4, y5, y6, y7, y8, y10, y11, rfl⟩ s3
      rw [hr2] at q
      show sRet (fC .non) (RT Q) [some c.enc, some (.ref a), some (.int (c.ms.length : Nat)), y3, y4, y5, y6, y7, y8, none, y10, y11] W3
      exact st_ret ev_c (s1.trans (s2.trans s3)) q
end A30
namespace A30
open PySem PySem.Spec PyProof.Rows L2 DL
section
variable {f g : FE} {δ : DL.Env} {W : DW} {xs ys : List D} {d : D} {R : RW3}
/-- two values one behind the other, however they are -/
theorem ev_bin2 {F : R2D} {R1 R2 : RW3} (ha : Ev f δ W R1) (hb : Ev g δ W R2) (ho : ∀ x y W1 W2 W3, Sub W W1 → Sub W1 W2 → Sub W2 W3 → R1 W1 x W2 → R2 W2 y W3 → ∀ Q : DK, (∀ d W4, Sub W3 W4 → R W1 d W4 → Q d W4) → F x y W3 Q) : Ev (fBin F f g) δ W R := fun W1 Q s k =>
  ha W1 _ s fun x W2 s2 i => hb W2 _ (s.trans s2) fun y W3 s3 j => ho x y W1 W2 W3 s s2 s3 i j Q fun d W4 s4 r => k d W4 (s2.trans (s3.trans s4)) r
theorem ev_addN {a : Addr} (ha : Ev f δ W (Is (.ref a))) (w : W a = some (.lst xs)) (hb : Ev g δ W (New ys)) (hl : xs.length + ys.length ≤ sizeLine) : Ev (fBin pAdd f g) δ W (New (xs ++ ys)) :=
  ev_bin2 ha hb fun x y W1 W2 W3 s1 s2 s3 i j Q k => by
    rw [show x = D.ref a from i]
    obtain ⟨b, rfl, h1, h2⟩ := j
    exact ⟨xs, ys, s3 _ _ (s2 _ _ (s1 _ _ w)), h2, hl, fun p hp => k _ _ ((Sub.refl W3).new hp) ⟨p, rfl, (s2.trans s3).none hp, wup_same⟩⟩
theorem ev_addNN (ha : Ev f δ W (New xs)) (hb : Ev g δ W (New ys)) (hl : xs.length + ys.length ≤ sizeLine) : Ev (fBin pAdd f g) δ W (New (xs ++ ys)) :=
  ev_bin2 ha hb fun x y W1 W2 W3 s1 s2 s3 i j Q k => by
    obtain ⟨a, rfl, h1, h2⟩ := i
    obtain ⟨b, rfl, h3, h4⟩ := j
    exact ⟨xs, ys, s3 _ _ h2, h4, hl, fun p hp => k _ _ ((Sub.refl W3).new hp) ⟨p, rfl, (s2.trans s3).none hp, wup_same⟩⟩
theorem ev_mulN {j : Int} (ha : Ev f δ W (New [d])) (hb : Ev g δ W (Is (.int j))) (hj : -1000 ≤ j) (hj2 : j ≤ 1000) : Ev (fBin pMul f g) δ W (New (List.replicate j.toNat d)) :=
  ev_bin2 ha hb fun x y W1 W2 W3 s1 s2 s3 i i2 Q k => by
    obtain ⟨a, rfl, h1, h2⟩ := i
    rw [show y = D.int j from i2]
    refine ⟨[d], s3 _ _ h2, by omega, by omega, by rw [List.length_singleton, Nat.one_mul]; exact sz _ (by omega), fun p hp => ?_⟩
    have : (List.replicate j.toNat [d]).flatten = List.replicate j.toNat d := by
      generalize j.toNat = n
      induction n with
      | zero => rfl
      | succ n ih => rw [List.replicate_succ, List.flatten_cons, ih]; rfl
    rw [this]
    exact k _ _ ((Sub.refl W3).new hp) ⟨p, rfl, (s2.trans s3).none hp, wup_same⟩
end
/-! lists of lists -/
abbrev LL := List (Addr × List Int)
def refs (L : LL) : List D := L.map fun z => .ref z.1
def AllL (W : DW) (L : LL) : Prop := ∀ z ∈ L, W z.1 = some (.lst (z.2.map D.int))
def NewL (ls : List (List Int)) : RW3 := fun A x B => ∃ p L, x = .ref p ∧ A p = none ∧ B p = some (.lst (refs L)) ∧ L.map (·.2) = ls ∧ AllL B L
theorem lcD_new {α : Type} {enc : α → D} {keep : DW → Prop} {gt : FG} {tt : FT} {te : FE} {vs : List Nat} {δ : DL.Env} {W : DW} {u : α → Option (List Int)} {pp : Addr} {Q : DW → Prop} (hp : W pp = none) (hk : ∀ W3, Sub W W3 → keep W3)
    : ∀ {ys : List α} {L : LL} {W1 : DW}, Sub W W1 → W1 pp = some (.lst (refs L)) → AllL W1 L → (∀ z ∈ L, z.1 ≠ pp) → (∀ z ∈ ys, ∃ δ2, (∀ W2 N, N δ2 W2 → gt (enc z) (wipeD δ vs) W2 N) ∧ EvT tt δ2 W (u z).isSome ∧ ∀ y, u z = some y → Ev te δ2 W (New (y.map D.int))) →
      L.length + ys.length ≤ sizeLine → (∀ W2 L2, Sub W W2 → W2 pp = some (.lst (refs (L ++ L2))) → L2.map (·.2) = ys.filterMap u → AllL W2 (L ++ L2) → Q W2) → lcD keep gt tt te pp vs Q (ys.map enc) δ W1 := by
  intro ys
  induction ys with
  | nil => intro L W1 s w ha hne _ _ q; exact ⟨hk W1 s, q W1 [] s (by simpa using w) rfl (by simpa using ha)⟩
  | cons z ys ih =>
    intro L W1 s w ha hne hx hl q
    obtain ⟨δ2, hg, ht, he⟩ := hx z (by simp)
    simp only [List.length_cons] at hl
    refine ⟨hk W1 s, hg W1 _ (ht W1 _ s fun W2 s2 => ?_)⟩
    cases hu : u z with
    | none =>
      simp only [Option.isSome_none, Bool.false_eq_true, ↓reduceIte]
      refine ih (s.trans s2) (s2 _ _ w) (fun y hy => s2 _ _ (ha y hy)) hne (fun y hy => hx y (by simp [hy])) (by omega) fun W3 L2 s3 w3 e3 a3 => q W3 L2 s3 w3 ?_ a3
      rw [List.filterMap_cons, hu]
      exact e3
    | some y =>
      simp only [Option.isSome_some, ↓reduceIte]
      refine he y hu W2 _ (s.trans s2) fun x W3 s3 i => ?_
      obtain ⟨r, rfl, h1, h2⟩ := i
      have w2 := s2 _ _ w
      have w3 := s3 _ _ w2
      have hr : r ≠ pp := fun e => by subst e; rw [w2] at h1; cases h1
      refine ⟨refs L, w3, by unfold refs; rw [List.length_map]; omega, ih (L := L ++ [(r, y)]) ((s.trans (s2.trans s3)).new hp) (by rw [wup_same]; unfold refs; simp) (fun v hv => ?_) (fun v hv => ?_) (fun y hy => hx y (by simp [hy])) (by simp; omega) fun W4 L2 s4 w4 e4 a4 => q W4 ((r, y) :: L2) s4 (by simpa using w4) ?_ (by simpa using a4)⟩
      · rcases List.mem_append.mp hv with hv | hv
        · rw [wup_ne (hne v hv)]; exact s3 _ _ (s2 _ _ (ha v hv))
        · simp at hv; subst hv; rw [wup_ne hr]; exact h2
      · rcases List.mem_append.mp hv with hv | hv
        · exact hne v hv
        · simp at hv; subst hv; exact hr
      · rw [List.filterMap_cons, hu, List.map_cons, e4]
theorem ev_lcN {α : Type} {enc : α → D} {ys : List α} {fi : FI} {gt : FG} {tt : FT} {te : FE} {vs : List Nat} {δ : DL.Env} {W : DW} (u : α → Option (List Int)) (hi : EvI fi δ W (ys.map enc))
    (hx : ∀ z ∈ ys, ∃ δ2, (∀ W2 N, N δ2 W2 → gt (enc z) (wipeD δ vs) W2 N) ∧ EvT tt δ2 W (u z).isSome ∧ ∀ y, u z = some y → Ev te δ2 W (New (y.map D.int))) (hl : ys.length ≤ sizeLine) : Ev (fLc fi gt tt te vs) δ W (NewL (ys.filterMap u)) := fun W1 Q s k =>
  hi W1 _ s fun keep W2 s2 hk p hp => lcD_new (W := W2) (L := []) hp hk ((Sub.refl W2).new hp) wup_same (by intro z hz; cases hz) (by simp) (fun z hz => by
      obtain ⟨δ2, h1, h2, h3⟩ := hx z hz
      exact ⟨δ2, h1, h2.up (s.trans s2), fun y e => (h3 y e).up (s.trans s2)⟩) (by simpa using hl)
    fun W3 L2 s3 w3 e3 a3 => k _ W3 (s2.trans s3) ⟨p, L2, rfl, s2.none hp, w3, e3, a3⟩
theorem AllL.up {W W1 : DW} {L : LL} (h : AllL W L) (s : Sub W W1) : AllL W1 L := fun z hz => s _ _ (h z hz)
theorem rm_newL {ls : List (List Int)} : RM (NewL ls) := fun A B d C s ⟨p, L, e, h, r⟩ => ⟨p, L, e, s.none h, r⟩
theorem ev_nil1 {δ : DL.Env} {W : DW} : Ev (fLst (fCons (fLst fNil) fNil)) δ W (NewL [[]]) := fun W1 Q s k => by
    refine (show fCons (fLst fNil) fNil δ W1 (fun xs W1 => xs.length ≤ sizeLine ∧ ∀ p, W1 p = none → Q (.ref p) (wup W1 p (.lst xs))) from ?_)
    show fLst fNil δ W1 _
    refine (ev_lst (δ := δ) (W := W1) eva_nil (sz 0)) W1 _ (Sub.refl _) fun x W2 s2 i => ?_
    obtain ⟨q0, rfl, h1, h2⟩ := i
    refine ⟨sz 1, fun p hp => k _ _ (s2.new (s2.none hp)) ⟨p, [(q0, [])], rfl, s2.none hp, wup_same, rfl, fun z hz => ?_⟩⟩
    simp at hz
    subst hz
    rw [wup_ne (fun e : q0 = p => by rw [e, hp] at h2; cases h2)]
    exact h2
theorem st_parR {f g : FE} {i j : Nat} {B : DE} {δ : DL.Env} {W : DW} {v : D} {R : RW3} (e1 : Ev f δ W (Is v)) (e2 : Ev g δ W R) (hR : RM R) (h : ∀ d W1, Sub W W1 → R W d W1 → B.nx ((δ.set i (some v)).set j (some d)) W1) : sPar i j (fCons f (fCons g fNil)) B δ W :=
  e1 W _ (Sub.refl _) fun x W1 s1 hx => by
    rw [show x = v from hx]
    exact e2 W1 _ s1 fun y W2 s2 hy => ⟨v, y, rfl, h y W2 (s1.trans s2) (hR _ _ _ _ s1 hy)⟩
theorem st_parNN {f g : FE} {i j : Nat} {B : DE} {δ : DL.Env} {W : DW} {xs ys : List D} (e1 : Ev f δ W (New xs)) (e2 : Ev g δ W (New ys)) (h : ∀ p q W1, Sub W W1 → W p = none → W q = none → W1 p = some (.lst xs) → W1 q = some (.lst ys) → B.nx ((δ.set i (some (.ref p))).set j (some (.ref q))) W1) : sPar i j (fCons f (fCons g fNil)) B δ W :=
  e1 W _ (Sub.refl _) fun x W1 s1 hx => e2 W1 _ s1 fun y W2 s2 hy => by
    obtain ⟨p, rfl, h1, h2⟩ := hx
    obtain ⟨q, rfl, h3, h4⟩ := hy
    exact ⟨.ref p, .ref q, rfl, h p q W2 (s1.trans s2) h1 (s1.none h3) (s2 _ _ h2) h4⟩
theorem ind_len2 {c : Cr} (w : Wf c) {k : Nat} {l : List Int} (h : l ∈ c.lots k) : l.length ≤ k := ind_len ((mem_lots w k l).mp h)
theorem len__law_stages : ∀ ds W Q, sp__law_stages ds W Q → ds.length = 1 := fun ds W Q ⟨c, e, _⟩ => by rw [e]; rfl
theorem body__law_stages : ∀ ds W Q, sp__law_stages ds W Q → f__law_stages (RT Q) (startD ["crossing", "many", "lots", "i", "lot", "found"] ds) W := by
  rintro ds W Q ⟨c, rfl, w, q⟩
  unfold f__law_stages
  have hn4 := w.n4
  -- many, lots
  refine st_parR (ev_ms rfl) ev_nil1 rm_newL fun x W1 s1 hx => ?_
  obtain ⟨a0, L0, rfl, ha0', wa0, hm0, hL0⟩ := hx
  refine for_acc (W0 := W) (ys := List.range c.ms.length) (enc := fun k : Nat => D.int (k : Int)) (fun done δ W' => ∃ a x3 L, δ = [some c.enc, some (.int (c.ms.length : Nat)), some (.ref a), x3, none, none] ∧ Sub W W' ∧ W' a = some (.lst (refs L)) ∧ AllL W' L ∧ L.map (·.2) = c.lots done.length)
    (evi_rng (ev_var rfl) (by omega)) s1 (fun done δ W' ⟨a, x3, L, h1, h2, h3⟩ => h2) (fun W3 s3 => ⟨a0, none, L0, rfl, s1.trans s3, s3 _ _ wa0, hL0.up s3, hm0⟩) ?_ ?_
  · rintro done k rest δ W3 N e ⟨a, x3, L, rfl, s3, wa, hL, hm⟩ hN
    obtain ⟨e1, e2⟩ := range_split e
    have hd : done.length = k := by rw [e1]; simp
    rw [hd] at hm
    have hll := lots_len c k
    have hk2 : 2 ^ k ≤ 2 ^ 4 := Nat.pow_le_pow_right (by omega) (by omega)
    have hlen : L.length = (c.lots k).length := by rw [← hm, List.length_map]
    have hmem : ∀ z ∈ L, z.2 ∈ c.lots k := fun z hz => by rw [← hm]; exact List.mem_map.mpr ⟨z, hz, rfl⟩
    have hcomp : Ev (fLc (fSeq (fVar 2)) (gN 4) (fNotT (fB (fCall sp__law_crosses_one (fCons (fVar 0) (fCons (fVar 4) (fCons (fVar 3) fNil)))))) (fBin pAdd (fVar 4) (fLst (fCons (fVar 3) fNil))) [4]) [some c.enc, some (.int (c.ms.length : Nat)), some (.ref a), some (.int (k : Nat)), none, none] W3 (NewL (L.filterMap fun z => if c.c1 z.2 k then none else some (z.2 ++ [((k : Nat) : Int)]))) := by
      refine ev_lcN (enc := fun z : Addr × List Int => D.ref z.1) (ys := L) (fun z => if c.c1 z.2 k then none else some (z.2 ++ [((k : Nat) : Int)])) (evi_seq (d := .ref a) (ev_var rfl) (by simp only [seqD]; rw [wa]; rfl)).i (fun z hz => ⟨[some c.enc, some (.int (c.ms.length : Nat)), some (.ref a), some (.int (k : Nat)), some (.ref z.1), none], fun _ _ h => h, ?_, fun y hy => ?_⟩) (sz _ (by omega))
      · have hz8 := ind_len2 w (hmem z hz)
        have e3 : (if c.c1 z.2 k = true then none else some (z.2 ++ [((k : Nat) : Int)])).isSome = !c.c1 z.2 k := by cases c.c1 z.2 k <;> rfl
        rw [e3]
        exact evt_not (evt_b (ev_call (eva_cons (ev_var rfl) (eva_cons (ev_var rfl) (eva_cons (ev_var rfl) eva_nil))) (e_crosses_one w (hL z hz) (by omega))))
      · split at hy
        · cases hy
        · cases hy
          have hz8 := ind_len2 w (hmem z hz)
          rw [List.map_append]
          exact ev_addN (ev_var rfl) (hL z hz) (ev_lst (eva_cons (ev_var rfl) eva_nil) (sz 1)) (by simp; exact sz _ (by omega))
    have hfm : (L.filterMap fun z => if c.c1 z.2 k then none else some (z.2 ++ [((k : Nat) : Int)])) = (c.lots k).filterMap fun l => if c.c1 l k then none else some (l ++ [((k : Nat) : Int)]) := by
      rw [← hm, List.filterMap_map]
      rfl
    rw [hfm] at hcomp
    show sAsg _ _ _ [some c.enc, some (.int (c.ms.length : Nat)), some (.ref a), some (.int (k : Nat)), none, none] W3
    refine ⟨_, rfl, hcomp W3 _ (Sub.refl _) fun x W4 s4 hx => ?_⟩
    obtain ⟨b, L2, rfl, hb, wb, hm2, hL2⟩ := hx
    have hl2 := List.length_filterMap_le (fun l => if c.c1 l k then none else some (l ++ [((k : Nat) : Int)])) (c.lots k)
    have hl2' : L2.length ≤ 16 := by
      have := congrArg List.length hm2
      rw [List.length_map] at this
      omega
    refine ⟨refs L, refs L2, s4 _ _ wa, wb, by unfold refs; rw [List.length_map, List.length_map]; exact sz _ (by omega), fun p hp => hN _ _ ⟨p, some (.int (k : Nat)), L ++ L2, rfl, (s3.trans s4).new ((s3.trans s4).none hp), ?_, fun z hz => ?_, ?_⟩⟩
    · rw [wup_same]; unfold refs; rw [List.map_append]
    · have h5 : W4 z.1 = some (.lst (z.2.map D.int)) := by
        rcases List.mem_append.mp hz with hz | hz
        · exact s4 _ _ (hL z hz)
        · exact hL2 z hz
      rw [wup_ne (fun e => by rw [e, hp] at h5; cases h5)]
      exact h5
    · rw [List.map_append, hm, hm2, List.length_append, hd]
      rfl
  · rintro δ W3 ⟨a, x3, L, rfl, s3, wa, hL, hm⟩
    rw [List.length_range] at hm
    have hmem : ∀ z ∈ L, z.2 ∈ c.lots c.ms.length := fun z hz => by rw [← hm]; exact List.mem_map.mpr ⟨z, hz, rfl⟩
    have hll := lots_len c c.ms.length
    have hk2 : 2 ^ c.ms.length ≤ 2 ^ 4 := Nat.pow_le_pow_right (by omega) (by omega)
    have hlen : L.length = (c.lots c.ms.length).length := by rw [← hm, List.length_map]
    show sSeq _ _ _ [some c.enc, some (.int (c.ms.length : Nat)), some (.ref a), x3, none, none] W3
    refine st_asgN (ev_lst eva_nil (sz 0)) fun p W4 s4 hp wp => ?_
    have hpW : W p = none := s3.none hp
    refine for_acc (W0 := W3) (ys := L) (enc := fun z : Addr × List Int => D.ref z.1) (fun done δ W' => (∃ x4 : Option D, δ = [some c.enc, some (.int (c.ms.length : Nat)), some (.ref a), x3, x4, some (.ref p)]) ∧ Sub W3 W' ∧ W' p = some (.lst (((done.map (·.2)).filter c.full).map tupI)))
      (evi_seq (d := .ref a) (ev_var rfl) (by simp only [seqD]; rw [wa]; rfl)) s4 (fun done δ W' h => h.2.1) (fun W5 s5 => ⟨⟨_, rfl⟩, s4.trans s5, s5 _ _ wp⟩) ?_ ?_
    · rintro done z rest δ W5 N e ⟨⟨x4, rfl⟩, s5, wp5⟩ hN
      have hz : z ∈ L := by rw [e]; simp
      have hz8 := ind_len2 w (hmem z hz)
      have wz := s5 _ _ (hL z hz)
      have hdl : done.length ≤ L.length := by rw [e]; simp
      have hfl := List.length_filter_le c.full (done.map (·.2))
      rw [List.length_map] at hfl
      have hfull : c.full z.2 = (List.range c.ms.length).all fun k : Nat => decide (((k : Nat) : Int) ∈ z.2) || c.c1 z.2 k := by
        unfold Cr.full Cr.rng
        rw [List.all_map]
        rfl
      refine st_if (k := c.full z.2) (evt_b ?_) (fun h W6 s6 => ?_) fun h W6 s6 => ?_
      · rw [hfull]
        refine ev_allM (enc := fun k : Nat => D.int (k : Int)) (ys := List.range c.ms.length) (fun k : Nat => decide (((k : Nat) : Int) ∈ z.2) || c.c1 z.2 k) (evi_rng (ev_var rfl) (by omega)).i (fun k hk => ⟨[some c.enc, some (.int (c.ms.length : Nat)), some (.ref a), some (.int (k : Nat)), some (.ref z.1), some (.ref p)], fun _ _ h => h, ?_⟩) (sz _ (by simp; omega))
        exact ev_orV (ev_inL (ev_var rfl) (ev_var rfl) wz) fun _ => ev_call (eva_cons (ev_var rfl) (eva_cons (ev_var rfl) (eva_cons (ev_var rfl) eva_nil))) (e_crosses_one w wz (by omega))
      · refine st_append (d := tupI z.2) rfl (s6 _ _ wp5) (by rw [List.length_map]; have := sizeLine_eq; omega) (ev_b1 (eva_cons (ev_var rfl) eva_nil) (evb_tuple (by simp only [seqD]; rw [s6 _ _ wz]))) fun W7 s7 w7 => hN _ _ ⟨⟨_, rfl⟩, (s5.trans (s6.trans s7)).new hp, ?_⟩
        rw [wup_same, List.map_append, List.filter_append]
        simp [h]
      · refine hN _ _ ⟨⟨_, rfl⟩, s5.trans s6, ?_⟩
        rw [List.map_append, List.filter_append]
        simp [h]
        simpa using s6 _ _ wp5
    · rintro δ W5 ⟨⟨x4, rfl⟩, s5, wp5⟩
      rw [hm] at wp5
      show fB1 bSortA (fCons (fVar 5) fNil) [some c.enc, some (.int (c.ms.length : Nat)), some (.ref a), x3, x4, some (.ref p)] W5 _
      refine (ev_b1 (eva_cons (ev_var (i := 5) rfl) eva_nil) (evb_sortT wp5 fun z hz => ?_)).runN fun r W6 s6 hr wr => ⟨W6, Sub.refl _, q r W6 (s3.trans (s5.trans s6)) (s3.none (s5.none hr)) wr⟩
      obtain ⟨h1, h2⟩ := List.mem_filter.mp hz
      exact sts_ne w ((mis_iff w z).mpr ⟨(mem_lots w _ z).mp h1, h2⟩)
end A30
namespace A30
open PySem PySem.Spec PyProof.Rows L2 DL
theorem e_law_clearing {W : DW} {c : Cr} (w : Wf c) {l : List Int} : EvB sp__law_clearing [c.enc, tupI l] W (Is (.int (c.clg l))) := fun W1 Q s k => ⟨c, l, rfl, w, k _ W1 (Sub.refl _) rfl⟩
theorem e_law_stages {W : DW} {c : Cr} (w : Wf c) : EvB sp__law_stages [c.enc] W (New (c.sts.map tupI)) := fun W1 Q s k => ⟨c, rfl, w, fun p W2 s2 h1 h2 => k _ W2 s2 ⟨p, rfl, h1, h2⟩⟩
theorem len__law_lamps : ∀ ds W Q, sp__law_lamps ds W Q → ds.length = 2 := fun ds W Q ⟨c, a, p, e, _⟩ => by rw [e]; rfl
theorem body__law_lamps : ∀ ds W Q, sp__law_lamps ds W Q → f__law_lamps (RT Q) (startD ["crossing", "plans", "found", "every", "plan", "some", "s", "ticks"] ds) W := by
  rintro ds W Q ⟨c, a, ps, rfl, w, wa, hp, hl, q⟩
  unfold f__law_lamps
  have l1 := w.l1
  have l2 := w.l2
  refine st_parNN (ev_lst eva_nil (sz 0)) (ev_call (eva_cons (ev_var rfl) eva_nil) (e_law_stages w)) fun p0 ev W1 s1 hp0 hev wp0 wev => ?_
  refine for_acc (W0 := W1) (ys := ps) (enc := encP) (fun done δ W' => ∃ (p : Addr) (x4 x5 x6 x7 : Option D), δ = [some c.enc, some (.ref a), some (.ref p), some (.ref ev), x4, x5, x6, x7] ∧ Sub W1 W' ∧ W p = none ∧ W' p = some (.lst ((c.rows done).map tupI)))
    (evi_seq (d := .ref a) (ev_var rfl) (by simp only [seqD]; rw [s1 _ _ wa])) (Sub.refl _) (fun done δ W' ⟨p, _, _, _, _, h1, h2, _⟩ => h2) (fun W2 s2 => ⟨p0, _, _, _, _, rfl, s2, hp0, s2 _ _ wp0⟩) ?_ ?_
  · rintro done pl rest δ W2 N e ⟨p, x4, x5, x6, x7, rfl, s2, hpn, wp⟩ hN
    have hpm : PlanOk c pl := hp pl (by rw [e]; simp)
    have hfit := hpm.fit
    have hdl : done.length < ps.length := by rw [e]; simp
    have hrl := rows_len w (ps := done) fun x hx => hp x (by rw [e]; simp [hx])
    have hrl2 : done.length * c.len.toNat ≤ 5 * 8 := Nat.mul_le_mul (by omega) (by omega)
    show sSeq _ _ _ [some c.enc, some (.ref a), some (.ref p), some (.ref ev), some (encP pl), x5, x6, x7] W2
    refine st_asgN (ev_lst eva_nil (sz 0)) fun b0 W3 s3 hb0 wb0 => ?_
    refine for_acc (W0 := W2) (ys := pl) (enc := encK) (fun dn δ W' => ∃ (b : Addr) (x6 x7 : Option D), δ = [some c.enc, some (.ref a), some (.ref p), some (.ref ev), some (encP pl), some (.ref b), x6, x7] ∧ Sub W2 W' ∧ W' b = some (.lst ((c.blk dn).map tupI)))
      (evi_seq (d := encP pl) (ev_var rfl) rfl) s3 (fun dn δ W' ⟨b, _, _, h1, h2, _⟩ => h2) (fun W4 s4 => ⟨b0, x6, x7, rfl, s3.trans s4, s4 _ _ wb0⟩) ?_ ?_
    · rintro dn ⟨s, k⟩ rs δ W4 N2 e2 ⟨b, y6, y7, rfl, s4, wb⟩ hN2
      have hx := hpm.each (s, k) (by rw [e2]; simp)
      simp only at hx
      have hst := st_get hx.1 hx.2.1
      have wev4 := s4 _ _ (s2 _ _ wev)
      have hbl : (c.blk (dn ++ [(s, k)])).length ≤ (c.blk pl).length := by rw [e2, show dn ++ (s, k) :: rs = (dn ++ [(s, k)]) ++ rs by simp, blk_app c _ rs]; simp
      have hb1 : c.blk (dn ++ [(s, k)]) = c.blk dn ++ List.replicate k.toNat (c.st s) ++ List.replicate (c.clg (c.st s)).toNat [] := by
        rw [blk_app]
        show c.blk dn ++ (List.replicate k.toNat (c.st s) ++ List.replicate (c.clg (c.st s)).toNat [] ++ []) = _
        simp
      rw [hb1] at hbl
      simp only [List.length_append, List.length_replicate] at hbl
      have hcg := clg_nn c (c.st s)
      have hcl := clg_le w (c.st s)
      refine gtp2 ?_
      have evs : Ev (fBin pSub' (fVar 3) (fVar 6)) [some c.enc, some (.ref a), some (.ref p), some (.ref ev), some (encP pl), some (.ref b), some (.int s), some (.int k)] W4 (Is (tupI (c.st s))) := by
        refine ev_bin (ev_var rfl) (ev_var rfl) (evo_ix ?_)
        simp only [ixD]
        rw [wev4]
        exact atD_map hx.1 hst
      refine st_asgN (xs := ((c.blk (dn ++ [(s, k)])).map tupI)) ?_ fun b2 W5 s5 hb2 wb2 => hN2 _ _ ⟨b2, _, _, rfl, s4.trans s5, wb2⟩
      rw [hb1, List.map_append, List.map_append, List.map_replicate, List.map_replicate]
      refine ev_addNN (ev_addN (ev_var rfl) wb (ev_mulN (ev_lst (eva_cons evs eva_nil) (sz 1)) (ev_var rfl) (by omega) (by omega)) ?_) (ev_mulN (ev_lst (eva_cons (ev_tup eva_nil (sz 0)) eva_nil) (sz 1)) (ev_call (eva_cons (ev_var rfl) (eva_cons evs eva_nil)) (e_law_clearing w)) (by omega) (by omega)) ?_
      · simp only [List.length_map, List.length_replicate]; exact sz _ (by omega)
      · simp only [List.length_map, List.length_replicate, List.length_append]; exact sz _ (by omega)
    · rintro δ W4 ⟨b, y6, y7, rfl, s4, wb⟩
      have wp4 := s4 _ _ wp
      dsimp only
      refine st_asgN (xs := ((c.rows (done ++ [pl])).map tupI)) ?_ fun p2 W5 s5 hp2 wp2 => hN _ _ ⟨p2, _, _, _, _, rfl, s2.trans (s4.trans s5), s1.none (s2.none (s4.none hp2)), wp2⟩
      rw [rows_snoc]
      unfold Cr.frame
      rw [← List.append_assoc, List.map_append, List.map_append, List.map_replicate]
      refine ev_addNN (xs := (c.rows done).map tupI ++ (c.blk pl).map tupI) ?_ (ev_mulN (ev_lst (eva_cons (ev_tup eva_nil (sz 0)) eva_nil) (sz 1)) (ev_bin (ev_bin (ev_var rfl) ev_c (evo_ix rfl)) (ev_len (d := .ref b) (n := (c.blk pl).length) (ev_var rfl) (by simp only [lenD]; rw [wb]; simp)) evo_ii) (by omega) (by omega)) ?_
      · refine ev_bin (ev_var rfl) (ev_var rfl) (a := .ref p) (b := .ref b) fun W5 Q5 s5 k5 => ⟨_, _, s5 _ _ wp4, s5 _ _ wb, ?_, fun z hz => k5 _ _ ((Sub.refl W5).new hz) ⟨z, rfl, hz, wup_same⟩⟩
        simp only [List.length_map]
        exact sz _ (by omega)
      · simp only [List.length_map, List.length_append, List.length_replicate]
        exact sz _ (by omega)
  · rintro δ W2 ⟨p, x4, x5, x6, x7, rfl, s2, hpn, wp⟩
    exact ⟨_, rfl, W2, Sub.refl _, q p W2 (s1.trans s2) hpn wp⟩
end A30
namespace A30
open PySem PySem.Spec PyProof.Rows L2 DL
/-! ### the source -/
def dcS (c : Addr) (l m t : Int) : List (Key × D) := [(.inr "cells", .ref c), (.inr "left", .int l), (.inr "mixed", .int m), (.inr "turn", .int t)]
def St (s c : Addr) (l m t : Int) (xs : List Int) (W : DW) : Prop := s ≠ c ∧ W s = some (.dic (dcS c l m t)) ∧ W c = some (.lst (xs.map D.int))
theorem St.src {s c : Addr} {l m t : Int} {xs : List Int} {W : DW} (h : St s c l m t xs W) : Src s c W := ⟨h.1, l, m, t, xs, h.2.1, h.2.2⟩
theorem Src.st {s c : Addr} {W : DW} (h : Src s c W) : ∃ l m t xs, St s c l m t xs W := by
  obtain ⟨h1, l, m, t, xs, h2, h3⟩ := h
  exact ⟨l, m, t, xs, h1, h2, h3⟩
theorem St.up {s c : Addr} {l m t : Int} {xs : List Int} {W W1 : DW} (h : St s c l m t xs W) (u : Sub W W1) : St s c l m t xs W1 := ⟨h.1, u _ _ h.2.1, u _ _ h.2.2⟩
def Bk (s c : Addr) (W W' : DW) : Prop := ∀ a o, a ≠ s → a ≠ c → W a = some o → W' a = some o
theorem Bk.refl {s c : Addr} (W : DW) : Bk s c W W := fun _ _ _ _ h => h
theorem Bk.sub {s c : Addr} {W W1 W2 : DW} (h : Bk s c W W1) (u : Sub W1 W2) : Bk s c W W2 := fun a o h1 h2 h3 => u _ _ (h a o h1 h2 h3)
theorem Bk.trans {s c : Addr} {W W1 W2 : DW} (h : Bk s c W W1) (u : Bk s c W1 W2) : Bk s c W W2 := fun a o h1 h2 h3 => u a o h1 h2 (h a o h1 h2 h3)
theorem Bk.ws {s c : Addr} {W W1 : DW} {o : DO} (h : Bk s c W W1) : Bk s c W (wup W1 s o) := fun a o h1 h2 h3 => by rw [wup_ne h1]; exact h a o h1 h2 h3
theorem Bk.wc {s c : Addr} {W W1 : DW} {o : DO} (h : Bk s c W W1) : Bk s c W (wup W1 c o) := fun a o h1 h2 h3 => by rw [wup_ne h2]; exact h a o h1 h2 h3
theorem Bk.new {s c : Addr} {W W1 : DW} {p : Addr} {o : DO} (h : Bk s c W W1) (hp : W p = none) : Bk s c W (wup W1 p o) := fun a u h1 h2 h3 => by
  have : a ≠ p := fun e => by subst e; rw [hp] at h3; cases h3
  rw [wup_ne this]
  exact h a u h1 h2 h3
theorem mv_of {s c : Addr} {W W1 : DW} (h : Bk s c W W1) (g : Src s c W1) : Mv s c W W1 := ⟨h, fun _ => g⟩
theorem Mv.sub {s c : Addr} {W W1 W2 : DW} (h : Mv s c W W1) (u : Sub W1 W2) : Mv s c W W2 := ⟨Bk.sub h.1 u, fun g => by
  obtain ⟨l, m, t, xs, g⟩ := (h.2 g).st
  exact (g.up u).src⟩
theorem Mv.trans {s c : Addr} {W W1 W2 : DW} (h : Mv s c W W1) (u : Mv s c W1 W2) : Mv s c W W2 := ⟨Bk.trans h.1 u.1, fun g => u.2 (h.2 g)⟩
theorem Mv.refl {s c : Addr} (W : DW) : Mv s c W W := ⟨Bk.refl W, id⟩
theorem kCL : ¬ ((("cells" : Str)) = ("left" : Str)) := by decide +kernel
theorem kCM : ¬ ((("cells" : Str)) = ("mixed" : Str)) := by decide +kernel
theorem kCT : ¬ ((("cells" : Str)) = ("turn" : Str)) := by decide +kernel
theorem kLM : ¬ ((("left" : Str)) = ("mixed" : Str)) := by decide +kernel
theorem kLT : ¬ ((("left" : Str)) = ("turn" : Str)) := by decide +kernel
theorem kMT : ¬ ((("mixed" : Str)) = ("turn" : Str)) := by decide +kernel
theorem vC (c : Addr) (l m t : Int) : valD (dcS c l m t) (.inr "cells") = some (.ref c) := by simp [valD, dcS]
theorem vL (c : Addr) (l m t : Int) : valD (dcS c l m t) (.inr "left") = some (.int l) := by simp [valD, dcS, kCL]
theorem vM (c : Addr) (l m t : Int) : valD (dcS c l m t) (.inr "mixed") = some (.int m) := by simp [valD, dcS, kCM, kLM]
theorem vT (c : Addr) (l m t : Int) : valD (dcS c l m t) (.inr "turn") = some (.int t) := by simp [valD, dcS, kCT, kLT, kMT]
theorem pL (c : Addr) (l m t v : Int) : putD (dcS c l m t) (.inr "left") (.int v) = dcS c v m t := by
  have h1 : ¬ ((("mixed" : Str)) = ("left" : Str)) := fun e => kLM e.symm
  have h2 : ¬ ((("turn" : Str)) = ("left" : Str)) := fun e => kLT e.symm
  simp [putD, dcS, kCL, h1, h2]
theorem pT (c : Addr) (l m t v : Int) : putD (dcS c l m t) (.inr "turn") (.int v) = dcS c l m v := by simp [putD, dcS, kCT, kLT, kMT]
section
variable {s c : Addr} {l m t : Int} {xs : List Int} {W : DW} {f g : FE} {δ : DL.Env} (h : St s c l m t xs W)
include h
theorem St.left (e : Ev f δ W (Is (.ref s))) : Ev (fBin pSub' f (fC (.str "left"))) δ W (Is (.int l)) := ev_bin e ev_c (evo_ix (by simp only [ixD]; rw [h.2.1]; exact vL c l m t))
theorem St.cells (e : Ev f δ W (Is (.ref s))) : Ev (fBin pSub' f (fC (.str "cells"))) δ W (Is (.ref c)) := ev_bin e ev_c (evo_ix (by simp only [ixD]; rw [h.2.1]; exact vC c l m t))
theorem St.mixed (e : Ev f δ W (Is (.ref s))) : Ev (fBin pSub' f (fC (.str "mixed"))) δ W (Is (.int m)) := ev_bin e ev_c (evo_ix (by simp only [ixD]; rw [h.2.1]; exact vM c l m t))
theorem St.turn (e : Ev f δ W (Is (.ref s))) : Ev (fBin pSub' f (fC (.str "turn"))) δ W (Is (.int t)) := ev_bin e ev_c (evo_ix (by simp only [ixD]; rw [h.2.1]; exact vT c l m t))
theorem St.putL (v : Int) : St s c v m t xs (wup W s (.dic (dcS c v m t))) := ⟨h.1, wup_same, by rw [wup_ne h.1.symm]; exact h.2.2⟩
theorem St.putT (v : Int) : St s c l m v xs (wup W s (.dic (dcS c l m v))) := ⟨h.1, wup_same, by rw [wup_ne h.1.symm]; exact h.2.2⟩
theorem St.putC (ys : List Int) : St s c l m t ys (wup W c (.lst (ys.map D.int))) := ⟨h.1, by rw [wup_ne h.1]; exact h.2.1, wup_same⟩
end
theorem evo_mod {i j : Int} {W : DW} (h : 0 < j) : EvO pMod (.int i) (.int j) W (Is (.int (i % j))) := fun W1 Q s k => ⟨h, k _ W1 (Sub.refl _) rfl⟩
theorem evo_fdiv {i j : Int} {W : DW} (h : 0 < j) (h2 : j ≤ 1000000) : EvO pFdiv (.int i) (.int j) W (Is (.int (i / j))) := fun W1 Q s k => ⟨⟨h, by
  have h3 : j.natAbs < 2 ^ 64 := by omega
  by_cases h0 : j.natAbs = 0
  · omega
  · have := (Nat.log2_lt h0).mpr h3; omega⟩, k _ W1 (Sub.refl _) rfl⟩
theorem evo_mulC {i j : Int} {W : DW} (h1 : -(2 ^ 64) < j) (h2 : j < 2 ^ 64) : EvO pMul (.int i) (.int j) W (Is (.int (i * j))) := fun W1 Q s k => ⟨.inl (.inr ⟨h1, h2⟩), k _ W1 (Sub.refl _) rfl⟩
theorem st_sput {f o : FE} {B : DE} {δ : DL.Env} {W : DW} {s : Addr} {v : D} {k : Str} {kvs : List (Key × D)} (hf : Ev f δ W (Is v)) (ho : ∀ W1, Sub W W1 → Ev o δ W1 (Is (.ref s))) (w : W s = some (.dic kvs)) (hl : kvs.length < sizeLine)
    (h : ∀ W1, Sub W W1 → B.nx δ (wup W1 s (.dic (putD kvs (.inr k) v)))) : sAsg f (gSb o (fC (.str k)) pSet) B δ W :=
  hf W _ (Sub.refl _) fun x W1 s1 i => by
    rw [show x = v from i]
    refine (ho W1 s1) W1 _ (Sub.refl _) fun y W2 s2 j => ?_
    rw [show y = D.ref s from j]
    exact .inr ⟨kvs, .inr k, s2 _ _ (s1 _ _ w), rfl, hl, h W2 (s1.trans s2)⟩
theorem len__law_pick : ∀ ds W Q, sp__law_pick ds W Q → ds.length = 2 := fun ds W Q ⟨s, c, m, e, _⟩ => by rw [e]; rfl
theorem pick_while {s c : Addr} {B : DE} {most m t : Int} {W : DW} {δ : DL.Env} (hδ : δ = [some (.ref s), some (.int most), some (.ref c), none, none, none])
    (hB : ∀ l xs W1, Bk s c W W1 → St s c l m t xs W1 → B.nx δ W1) : ∀ (k : Nat) (l : Int) (xs : List Int) (W1 : DW), xs.length = k → Bk s c W W1 → St s c l m t xs W1 →
      whileD (fAndT (fB (fBin (pII0 fun i j => .bl (decide (i < j))) (fBin pSub' (fVar 0) (fC (.str "left"))) (fC (.int 2)))) (fB (fBin (pII0 fun i j => .bl (decide (j < i))) (fB1 bLen (fCons (fVar 2) fNil)) (fC (.int 0))))) (sAsg (fM0 isL mPop (fVar 2)) (gSb (fVar 0) (fC (.str "left")) pSet)) B (k + 1) δ W1
  | k, l, xs, W1, hk, hb, hs => by
    subst hδ
    refine (evt_and (k := decide (l < 2)) (l := decide ((0 : Int) < ((xs.length : Nat) : Int))) (evt_b (ev_bin (hs.left (ev_var rfl)) ev_c evo_ii)) fun _ => evt_b (ev_bin (ev_len (d := .ref c) (n := xs.length) (ev_var rfl) (by simp only [lenD]; rw [hs.2.2]; simp)) ev_c evo_ii)).run fun W2 s2 => ?_
    have hs2 := hs.up s2
    have hb2 := hb.sub s2
    by_cases h : (decide (l < 2) && decide ((0 : Int) < ((xs.length : Nat) : Int))) = true
    · rw [if_pos h]
      simp at h
      cases k with
      | zero => omega
      | succ k =>
        have hx : xs ≠ [] := fun e => by rw [e] at hk; cases hk
        obtain ⟨ys, y, rfl⟩ : ∃ ys y, xs = ys ++ [y] := ⟨xs.dropLast, xs.getLast hx, (List.dropLast_concat_getLast hx).symm⟩
        refine ⟨_, rfl, ⟨c, _, rfl, hs2.2.2⟩, ⟨c, _, .int y, rfl, hs2.2.2, by simp, ?_⟩⟩
        have e : ((ys ++ [y]).map D.int).dropLast = ys.map D.int := by simp
        rw [e]
        have hs3 := hs2.putC ys
        refine ⟨_, rfl, .inr ⟨_, _, hs3.2.1, rfl, sz 5, ?_⟩⟩
        rw [pL]
        exact pick_while rfl hB k y ys _ (by simpa using hk) hb2.wc.ws (hs3.putL y)
    · rw [if_neg h]
      exact hB l xs W2 hb2 hs2
theorem body__law_pick : ∀ ds W Q, sp__law_pick ds W Q → f__law_pick (RT Q) (startD ["source", "most", "cells", "others", "lap", "stirred"] ds) W := by
  rintro ds W Q ⟨s, c, most, rfl, hS, hm, q⟩
  unfold f__law_pick
  obtain ⟨l, m, t, xs, hS⟩ := hS.st
  have fin : ∀ v W1, Bk s c W W1 → Src s c W1 → (most < 2 → v = 0) → (2 ≤ most → 0 ≤ v ∧ v < most) → ∃ W2, Sub W2 W1 ∧ Q (.int v) W2 := fun v W1 h1 h2 h3 h4 => ⟨W1, Sub.refl _, q v W1 (mv_of h1 h2) h3 h4⟩
  refine st_if (k := decide (most < 2)) (evt_b (ev_bin (ev_var rfl) ev_c evo_ii)) (fun h W1 s1 => ?_) fun h W1 s1 => ?_
  · exact st_retE (B := RT Q) ev_c fun W2 s2 => fin 0 W2 ((Bk.refl W).sub (s1.trans s2)) (hS.up (s1.trans s2)).src (fun _ => rfl) fun h2 => by simp at h; omega
  · have h := of_decide_eq_false h
    have hp : 0 < most := by omega
    have hS1 := hS.up s1
    have hb1 : Bk s c W W1 := (Bk.refl W).sub s1
    refine st_asgI (hS1.cells (ev_var rfl)) fun W2 s2 => ?_
    have hS2 := hS1.up s2
    have hb2 := hb1.sub s2
    refine ⟨xs.length + 1, pick_while (W := W) (most := most) (m := m) (t := t) rfl (fun l xs W3 hb3 hS3 => ?_) xs.length l xs W2 rfl hb2 hS2⟩
    dsimp only
    refine st_asgI (hS3.left (ev_var rfl)) fun W4 s4 => ?_
    have hS4 := hS3.up s4
    have hb4 := hb3.sub s4
    refine st_if (k := decide (1 < l)) (evt_b (ev_bin (ev_var rfl) ev_c evo_ii)) (fun h1 W5 s5 => ?_) fun h1 W5 s5 => ?_
    · have hS5 := hS4.up s5
      refine st_sput (ev_bin (ev_var rfl) (ev_var rfl) (evo_fdiv hp hm)) (fun W6 s6 => ev_var rfl) hS5.2.1 (sz 5) fun W6 s6 => ?_
      rw [pL]
      have hS6 := (hS5.up s6).putL (l / most)
      refine st_retE (B := RT Q) (ev_bin (ev_b1 (eva_cons (ev_var rfl) eva_nil) evb_intI) (ev_var rfl) (evo_mod hp)) fun W7 s7 => fin (l % most) W7 (((hb4.sub (s5.trans s6)).ws).sub s7) (hS6.up s7).src (fun z => by omega) fun _ => ⟨Int.emod_nonneg _ (by omega), Int.emod_lt_of_pos _ hp⟩
    · have hS5 := hS4.up s5
      have hb5 := hb4.sub s5
      refine st_sput (ev_bin (hS5.turn (ev_var rfl)) ev_c evo_addI) (fun W6 s6 => ev_var rfl) hS5.2.1 (sz 5) fun W6 s6 => ?_
      rw [pT]
      have hS6 := (hS5.up s6).putT (t + 1)
      have hb6 : Bk s c W (wup W6 s (.dic (dcS c l m (t + 1)))) := (hb5.sub s6).ws
      refine st_asgI (hS6.turn (ev_var rfl)) fun W7 s7 => ?_
      have hS7 := hS6.up s7
      refine st_asgI (ev_bin (ev_b1 (eva_cons (ev_bin (hS7.mixed (ev_var rfl)) (ev_bin (ev_var rfl) ev_c (evo_mulC (by omega) (by omega))) evo_addI) eva_nil) evb_intI) ev_c (evo_mod (by omega))) fun W8 s8 => ?_
      have b1 : 0 ≤ (m + (t + 1) * 104729) % 998244353 := Int.emod_nonneg _ (by omega)
      have b2 : (m + (t + 1) * 104729) % 998244353 < 998244353 := Int.emod_lt_of_pos _ (by omega)
      refine st_asgI (ev_bin (ev_b1 (eva_cons (ev_bin (ev_bin (ev_var rfl) (ev_var rfl) (evo_mulC (by omega) (by omega))) (ev_bin (ev_var rfl) ev_c (evo_mulC (by omega) (by omega))) evo_addI) eva_nil) evb_intI) ev_c (evo_mod (by omega))) fun W9 s9 => ?_
      exact st_retE (B := RT Q) (ev_bin (ev_b1 (eva_cons (ev_bin (ev_var rfl) ev_c (evo_fdiv (by omega) (by omega))) eva_nil) evb_intI) (ev_var rfl) (evo_mod hp)) fun W10 s10 => fin _ W10 (hb6.sub (s7.trans (s8.trans (s9.trans s10)))) (hS7.up (s8.trans (s9.trans s10))).src (fun z => by omega) fun _ => ⟨Int.emod_nonneg _ (by omega), Int.emod_lt_of_pos _ hp⟩
end A30
namespace A30
open PySem PySem.Spec PyProof.Rows L2 DL
theorem mergeD_dcS (c : Addr) (l m t : Int) : mergeD [] (dcS c l m t) = dcS c l m t := by
  simp [mergeD, putD, dcS, kCL, kCM, kCT, kLM, kLT, kMT]
theorem evb_abs {i : Int} {W : DW} : EvB bAbs [.int i] W (Is (.int (if i < 0 then -i else i))) := fun W1 Q s k => ⟨i, rfl, k _ W1 (Sub.refl _) rfl⟩
theorem rng_run {f : FE} {δ : DL.Env} {W : DW} {n : Nat} (h : Ev f δ W (Is (.int n))) (h2 : n ≤ 100000) {R : List D → (DW → Prop) → DW → Prop} (k : ∀ W1, Sub W W1 → R ((List.range n).map fun k => D.int ((k : Nat) : Int)) (fun _ => True) W1) : fRng1 (fCons f fNil) δ W R :=
  h W _ (Sub.refl _) fun x W1 s1 i => by
    rw [show x = D.int n from i]
    refine ⟨n, rfl, by omega, by omega, ?_⟩
    rw [show ((n : Nat) : Int).toNat = n by omega, rngD0]
    exact k W1 s1
theorem seq_run {f : FE} {δ : DL.Env} {W : DW} {d : D} {xs : List D} (h : Ev f δ W (Is d)) (e : seqD W d = some xs) {R : List D → (DW → Prop) → DW → Prop} (k : ∀ W1, Sub W W1 → R xs (keepD d xs) W1) : fSeq f δ W R :=
  h W _ (Sub.refl _) fun x W1 s1 i => by
    rw [show x = d from i]
    exact ⟨xs, seqD_sub s1 e, k W1 s1⟩
theorem lc_acc {α : Type} {enc : α → D} {keep : DW → Prop} {g : FG} {tt : FT} {te : FE} {p : Addr} {vs : List Nat} {Q : DW → Prop} {δ : DL.Env} {ys : List α} (I : List α → DW → Prop) (hk : ∀ done W', I done W' → keep W')
    (hs : ∀ done z rest W' (N : DW → Prop), ys = done ++ z :: rest → I done W' → (∀ W2, I (done ++ [z]) W2 → N W2) → g (enc z) (wipeD δ vs) W' fun δ2 W2 => tt δ2 W2 fun b W3 => if b = true then te δ2 W3 fun y W4 => ∃ acc, W4 p = some (.lst acc) ∧ acc.length < sizeLine ∧ N (wup W4 p (.lst (acc ++ [y]))) else N W3)
    (he : ∀ W', I ys W' → Q W') : ∀ (rest done : List α) W', ys = done ++ rest → I done W' → lcD keep g tt te p vs Q (rest.map enc) δ W'
  | [], done, W', e, h => ⟨hk _ _ h, he W' (by rw [e, List.append_nil]; exact h)⟩
  | z :: rest, done, W', e, h => ⟨hk _ _ h, hs done z rest W' (fun W => lcD keep g tt te p vs Q (rest.map enc) δ W) e h fun W2 h2 => lc_acc I hk hs he rest (done ++ [z]) W2 (by rw [e, List.append_assoc]; rfl) h2⟩
theorem pick_run {f g : FE} {δ : DL.Env} {W : DW} {s c : Addr} {m : Int} (hS : Src s c W) (ef : Ev f δ W (Is (.ref s))) (eg : Ev g δ W (Is (.int m))) (hm : m ≤ 1000000) {Q : DK} (k : ∀ v W', Mv s c W W' → (m < 2 → v = 0) → (2 ≤ m → 0 ≤ v ∧ v < m) → Q (.int v) W') : fCall sp__law_pick (fCons f (fCons g fNil)) δ W Q :=
  (eva_cons ef (eva_cons eg eva_nil)) W _ (Sub.refl _) fun W1 s1 => ⟨s, c, m, rfl, ((Mv.refl W).sub s1).2 hS, hm, fun v W' h1 h2 h3 => k v W' (((Mv.refl W).sub s1).trans h1) h2 h3⟩
theorem Src.ne {s c : Addr} {W : DW} (h : Src s c W) {p : Addr} (hp : W p = none) : p ≠ s ∧ p ≠ c := by
  obtain ⟨l, m, t, xs, h⟩ := h.st
  refine ⟨fun e => ?_, fun e => ?_⟩
  · subst e; rw [h.2.1] at hp; cases hp
  · subst e; rw [h.2.2] at hp; cases hp
theorem Src.up {s c : Addr} {W W1 : DW} (h : Src s c W) (u : Sub W W1) : Src s c W1 := ((Mv.refl W).sub u).2 h
theorem Mv.at {s c : Addr} {W W1 : DW} (h : Mv s c W W1) {p : Addr} {o : DO} (hp : p ≠ s ∧ p ≠ c) (w : W p = some o) : W1 p = some o := h.1 p o hp.1 hp.2 w
/-- an own list changes -/
theorem Mv.own {s c : Addr} {W W1 : DW} {p : Addr} {o : DO} (h : Mv s c W W1) (hp : W p = none) (hn : p ≠ s ∧ p ≠ c) : Mv s c W (wup W1 p o) := ⟨Bk.new h.1 hp, fun g => by
  obtain ⟨l, m, t, xs, z⟩ := (h.2 g).st
  exact ⟨z.1, l, m, t, xs, by rw [wup_ne hn.1.symm]; exact z.2.1, by rw [wup_ne hn.2.symm]; exact z.2.2⟩⟩
theorem Mv.none {s c : Addr} {W W1 : DW} (h : Mv s c W W1) (hS : Src s c W) {p : Addr} (hp : W1 p = Option.none) : W p = Option.none := by
  have hn := (h.2 hS).ne hp
  cases e : W p with
  | none => rfl
  | some o => have := h.at hn e; rw [hp] at this; cases this
theorem len__law_open_cells : ∀ ds W Q, sp__law_open_cells ds W Q → ds.length = 1 := fun ds W Q ⟨s, xs, e, _⟩ => by rw [e]; rfl
theorem body__law_open_cells : ∀ ds W Q, sp__law_open_cells ds W Q → f__law_open_cells (RT Q) (startD ["script", "stirred", "cell", "cells"] ds) W := by
  rintro ds W Q ⟨x, xs, rfl, hx, hnt, hl, q⟩
  unfold f__law_open_cells
  refine st_asgI ev_c fun W1 s1 => ?_
  refine for_acc (W0 := W) (ys := xs) (enc := D.int) (fun done δ W' => (∃ (v : Int) (x2 : Option D), δ = [some x, some (.int v), x2, none]) ∧ Sub W W') (evi_seq (ev_var rfl) hx) s1 (fun done δ W' h => h.2) (fun W2 s2 => ⟨⟨11, none, rfl⟩, s1.trans s2⟩) ?_ ?_
  · rintro done i rest δ W2 N e ⟨⟨v, x2, rfl⟩, s2⟩ hN
    show sAsg _ _ _ [some x, some (.int v), some (.int i), none] W2
    exact st_asgI (ev_bin (ev_b1 (eva_cons (ev_bin (ev_bin (ev_bin (ev_var rfl) ev_c (evo_mulC (by omega) (by omega))) (ev_bin (ev_var rfl) ev_c (evo_mulC (by omega) (by omega))) evo_addI) ev_c evo_addI) eva_nil) evb_intI) ev_c (evo_mod (by omega))) fun W3 s3 => hN _ _ ⟨⟨_, _, rfl⟩, s2.trans s3⟩
  · rintro δ W2 ⟨⟨v, x2, rfl⟩, s2⟩
    dsimp only
    refine st_asgN (ev_lcM (enc := D.int) (ys := xs) (fun i => .int (if i < 0 then -i else i)) (evi_seq (ev_var rfl) (seqD_sub s2 hx)).i (fun i hi => ⟨_, fun _ _ h => h, ?_⟩) (sz _)) fun p W3 s3 hp wp => ?_
    · exact ev_b1 (eva_cons (ev_var rfl) eva_nil) evb_abs
    · have wp' : W3 p = some (.lst ((xs.map fun i => if i < 0 then -i else i).map D.int)) := by rw [wp, List.map_map]; rfl
      show fDisp _ [some x, some (.int v), x2, some (.ref p)] W3 _
      intro d hd
      have hne : p ≠ d := fun e => by rw [e, hd] at wp; cases wp
      refine ⟨_, rfl, _, by simp only [seqD]; rw [wup_ne hne, wp'], by simp, fun r hr => ?_⟩
      have hne2 : r ≠ d := fun e => by rw [e, wup_same] at hr; cases hr
      refine ⟨_, rfl, ?_⟩
      refine ⟨by rw [wup_ne hne2.symm]; exact wup_same, dcS r 1 v 0, rfl, by simp [dcS], ?_⟩
      rw [mergeD_dcS]
      have hr0 : W3 r = none := by rw [wup_ne hne2] at hr; exact hr
      refine ⟨_, Sub.refl _, q d r _ ?_ ⟨hne2.symm, 1, v, 0, (xs.map fun i => if i < 0 then -i else i).reverse, wup_same, ?_⟩⟩
      · have hd0 : W d = none := s2.none (s3.none hd)
        have hr1 : W r = none := s2.none (s3.none hr0)
        exact (((s2.trans s3).new hd0).new hr1).new hd0
      · rw [wup_ne hne2, wup_same, List.map_reverse]
theorem lcs_yes {te : FE} {p : Addr} {N : DW → Prop} {δ2 : DL.Env} {W : DW} (h : te δ2 W fun y W4 => ∃ acc, W4 p = some (.lst acc) ∧ acc.length < sizeLine ∧ N (wup W4 p (.lst (acc ++ [y])))) : fYes δ2 W fun b W3 => if b = true then te δ2 W3 fun y W4 => ∃ acc, W4 p = some (.lst acc) ∧ acc.length < sizeLine ∧ N (wup W4 p (.lst (acc ++ [y]))) else N W3 := by
  unfold fYes
  simp only [↓reduceIte]
  exact h
theorem len__law_any_order : ∀ ds W Q, sp__law_any_order ds W Q → ds.length = 2 := fun ds W Q ⟨s, c, a, xs, e, _⟩ => by rw [e]; rfl
theorem erase_perm {α : Type} {xs : List α} {j : Nat} {y : α} (h : xs[j]? = some y) (acc : List α) : (acc ++ [y] ++ xs.eraseIdx j).Perm (acc ++ xs) := by
  obtain ⟨hj, e⟩ := List.getElem?_eq_some_iff.mp h
  rw [List.append_assoc]
  refine List.Perm.append_left acc ?_
  rw [List.eraseIdx_eq_take_drop_succ]
  have h2 : xs = xs.take j ++ y :: xs.drop (j + 1) := by
    rw [← e, List.getElem_cons_drop hj, List.take_append_drop]
  refine List.Perm.trans ?_ (List.Perm.of_eq h2.symm)
  show (y :: (xs.take j ++ xs.drop (j + 1))).Perm _
  exact List.perm_middle.symm
theorem body__law_any_order : ∀ ds W Q, sp__law_any_order ds W Q → f__law_any_order (RT Q) (startD ["source", "things", "others", "lap"] ds) W := by
  rintro ds W Q ⟨s, c, a, xs, rfl, hS, wa, has, hac, hl, q⟩
  unfold f__law_any_order
  refine st_asgN (ev_b1 (eva_cons (ev_var rfl) eva_nil) (evb_list (by simp only [seqD]; rw [wa]))) fun o W1 s1 ho wo => ?_
  have hno := hS.ne ho
  show fLc (fRng1 (fCons (fB1 bLen (fCons (fVar 2) fNil)) fNil)) (gN 3) fYes (fM isL mPopAt (fVar 2) (fCons (fCall sp__law_pick (fCons (fVar 0) (fCons (fB1 bLen (fCons (fVar 2) fNil)) fNil))) fNil)) [3] [some (.ref s), some (.ref a), some (.ref o), none] W1 _
  refine rng_run (n := xs.length) (ev_len (ev_var rfl) (by simp only [lenD]; rw [wo])) (by omega) fun W2 s2 p hp => ?_
  have hpW : W p = none := s1.none (s2.none hp)
  have hnp := hS.ne hpW
  have hpo : p ≠ o := fun e => by rw [e, s2 _ _ wo] at hp; cases hp
  refine lc_acc (ys := List.range xs.length) (enc := fun k : Nat => D.int (k : Int)) (fun done W' => Mv s c W W' ∧ ∃ acc rem, W' p = some (.lst acc) ∧ W' o = some (.lst rem) ∧ (acc ++ rem).Perm xs ∧ rem.length + done.length = xs.length) (fun _ _ _ => trivial) ?_ ?_ _ [] _ rfl ⟨((Mv.refl W).sub (s1.trans s2)).own hpW hnp, [], xs, wup_same, by rw [wup_ne hpo.symm]; exact s2 _ _ wo, List.Perm.refl _, by simp⟩
  · rintro done z rest W3 N e ⟨hM, acc, rem, wp, wo3, hpm, hlen⟩ hN
    have hd : done.length < xs.length := by
      have := congrArg List.length e
      simp at this
      omega
    have hS3 := hM.2 hS
    refine lcs_yes (te := fM isL mPopAt (fVar 2) (fCons (fCall sp__law_pick (fCons (fVar 0) (fCons (fB1 bLen (fCons (fVar 2) fNil)) fNil))) fNil)) (δ2 := [some (.ref s), some (.ref a), some (.ref o), some (.int (z : Nat))]) ?_
    refine ⟨_, rfl, ⟨o, rem, rfl, wo3⟩, ?_⟩
    refine pick_run hS3 (ev_var rfl) (ev_len (d := .ref o) (n := rem.length) (ev_var rfl) (by simp only [lenD]; rw [wo3])) (by omega) fun v W4 hM4 h1 h2 => ?_
    have hv : 0 ≤ v ∧ v < rem.length := by
      by_cases h : (rem.length : Int) < 2
      · have := h1 h; omega
      · have := h2 (by omega); omega
    have wo4 := hM4.at hno wo3
    have wp4 := hM4.at hnp wp
    have hj : v.toNat < rem.length := by omega
    refine ⟨o, rem, v, v.toNat, rem[v.toNat], rfl, rfl, wo4, by omega, by omega, ?_, List.getElem?_eq_getElem hj, ?_⟩
    · unfold seqIndex?
      simp only [show ¬ v < 0 by omega, ↓reduceIte]
      rw [if_pos (by simp; omega)]
    · have hla : acc.length + rem.length = xs.length := by have := hpm.length_eq; simpa using this
      refine ⟨acc, by rw [wup_ne hpo]; exact wp4, by have := sizeLine_eq; omega, hN _ ⟨((hM.trans hM4).own ho hno).own hpW hnp, _, _, wup_same, by rw [wup_ne hpo.symm, wup_same], (erase_perm (List.getElem?_eq_getElem hj) acc).trans hpm, ?_⟩⟩
      rw [List.length_eraseIdx, if_pos hj, List.length_append]
      simp
      omega
  · rintro W3 ⟨hM, acc, rem, wp, wo3, hpm, hlen⟩
    rw [List.length_range] at hlen
    have : rem = [] := List.eq_nil_of_length_eq_zero (by omega)
    subst this
    rw [List.append_nil] at hpm
    exact ⟨W3, Sub.refl _, q acc p W3 hpm hM hpW wp⟩
end A30
namespace A30
open PySem PySem.Spec PyProof.Rows L2 DL
theorem order_run {f : FE} {g : FE} {δ : DL.Env} {W : DW} {s c : Addr} {xs : List D} (hS : Src s c W) (ef : Ev f δ W (Is (.ref s))) (eg : Ev g δ W (New xs)) (hl : xs.length ≤ 1000) {Q : DK} (k : ∀ ys p W', List.Perm ys xs → Mv s c W W' → W p = none → W' p = some (.lst ys) → Q (.ref p) W') : fCall sp__law_any_order (fCons f (fCons g fNil)) δ W Q :=
  ef W _ (Sub.refl _) fun x W1 s1 i => by
    rw [show x = D.ref s from i]
    refine eg W1 _ s1 fun y W2 s2 j => ?_
    obtain ⟨a, rfl, h1, h2⟩ := j
    have hn := (hS.up s1).ne h1
    exact ⟨s, c, a, xs, rfl, hS.up (s1.trans s2), h2, hn.1, hn.2, hl, fun ys p W' hp hM hp0 hw => k ys p W' hp (((Mv.refl W).sub (s1.trans s2)).trans hM) (s1.none (s2.none hp0)) hw⟩
theorem ev_lstR {f : FE} {δ : DL.Env} {W : DW} {n : Nat} (h : Ev f δ W (Is (.int n))) (hn : n ≤ 1000) : Ev (fLstR1 f) δ W (New ((List.range n).map fun k => D.int ((k : Nat) : Int))) := fun W1 Q s k => h W1 _ s fun x W2 s2 i => by
  rw [show x = D.int n from i]
  refine ⟨n, rfl, RgOk.of_le (by omega) (by omega) (by omega) (by omega), fun p hp => ?_⟩
  rw [show ((n : Nat) : Int).toNat = n by omega, rngD0]
  exact k _ _ (s2.new (s2.none hp)) ⟨p, rfl, s2.none hp, wup_same⟩
theorem st_par3R {f g h : FE} {i j l : Nat} {B : DE} {δ : DL.Env} {W : DW} {u v : D} {R : RW3} (e1 : Ev f δ W (Is u)) (e2 : Ev g δ W (Is v)) (e3 : Ev h δ W R) (hR : RM R) (k : ∀ d W1, Sub W W1 → R W d W1 → B.nx (((δ.set i (some u)).set j (some v)).set l (some d)) W1) : sPar3 i j l (fCons f (fCons g (fCons h fNil))) B δ W :=
  e1 W _ (Sub.refl _) fun x W1 s1 hx => by
    rw [show x = u from hx]
    refine e2 W1 _ s1 fun y W2 s2 hy => ?_
    rw [show y = v from hy]
    exact e3 W2 _ (s1.trans s2) fun z W3 s3 hz => ⟨u, v, z, rfl, k z W3 (s1.trans (s2.trans s3)) (hR _ _ _ _ (s1.trans s2) hz)⟩
/-- a test by a draw -/
theorem pick_gt0 {f : FE} {δ : DL.Env} {W : DW} {s c : Addr} {m : Int} (hS : Src s c W) (ef : Ev f δ W (Is (.ref s))) (hm : m ≤ 1000000) {Q : Bool → DW → Prop} (k : ∀ b W', Mv s c W W' → Q b W') : fB (fBin (pII0 fun i j => .bl (decide (j < i))) (fCall sp__law_pick (fCons f (fCons (fC (.int m)) fNil))) (fC (.int 0))) δ W Q :=
  pick_run hS ef ev_c hm fun v W' hM _ _ => k _ W' hM
theorem pick_eq0 {f : FE} {δ : DL.Env} {W : DW} {s c : Addr} {m : Int} (hS : Src s c W) (ef : Ev f δ W (Is (.ref s))) (hm : m ≤ 1000000) {Q : Bool → DW → Prop} (k : ∀ b W', Mv s c W W' → Q b W') : fB (fBin pEq (fCall sp__law_pick (fCons f (fCons (fC (.int m)) fNil))) (fC (.int 0))) δ W Q :=
  pick_run hS ef ev_c hm fun v W' hM _ _ => ⟨_, _, .int v, .int 0, shaped_int, shaped_int, k _ W' hM⟩
theorem of_perm_map {n : Nat} : ∀ {ys : List D}, List.Perm ys ((List.range n).map fun k : Nat => D.int (k : Int)) → ∃ ks : List Nat, ys = ks.map (fun k : Nat => D.int (k : Int)) ∧ ∀ k ∈ ks, k < n := fun {ys} h => by
  have : ∀ y ∈ ys, ∃ k : Nat, y = D.int k ∧ k < n := fun y hy => by
    obtain ⟨k, hk, rfl⟩ := List.mem_map.mp (h.mem_iff.mp hy)
    exact ⟨k, rfl, List.mem_range.mp hk⟩
  clear h
  induction ys with
  | nil => exact ⟨[], rfl, by simp⟩
  | cons y ys ih =>
    obtain ⟨k, rfl, hk⟩ := this y (by simp)
    obtain ⟨ks, rfl, hks⟩ := ih fun z hz => this z (by simp [hz])
    exact ⟨k :: ks, rfl, fun z hz => by
      rcases List.mem_cons.mp hz with e | e
      · rw [e]; exact hk
      · exact hks z e⟩
theorem st_ifP {p : FT} {t u : FS} {B : DE} {δ : DL.Env} {W : DW} (h : p δ W fun k W1 => if k = true then t B δ W1 else u B δ W1) : sIf p t u B δ W := h
theorem st_asgP {f : FE} {i : Nat} {B : DE} {δ : DL.Env} {W : DW} (h : f δ W fun d W1 => B.nx (δ.set i (some d)) W1) : sAsg f (gN i) B δ W := h
theorem and_run {p q : FT} {k : Bool} {δ : DL.Env} {W : DW} {Q : Bool → DW → Prop} (e : EvT p δ W k) (h1 : k = true → ∀ W1, Sub W W1 → q δ W1 Q) (h2 : k = false → ∀ W1, Sub W W1 → Q false W1) : fAndT p q δ W Q := e W _ (Sub.refl _) fun W1 s1 => by
  cases k with
  | true => exact h1 rfl W1 s1
  | false => exact h2 rfl W1 s1
theorem add_pick {f g h : FE} {a m : Int} {δ : DL.Env} {W : DW} {s c : Addr} (hS : Src s c W) (ea : Ev f δ W (Is (.int a))) (ef : ∀ W1, Sub W W1 → Ev g δ W1 (Is (.ref s))) (eg : ∀ W1, Sub W W1 → Ev h δ W1 (Is (.int m))) (hm : m ≤ 1000000) {Q : DK} (k : ∀ v W', Mv s c W W' → (m < 2 → v = 0) → (2 ≤ m → 0 ≤ v ∧ v < m) → Q (.int (a + v)) W') : fBin pAdd f (fCall sp__law_pick (fCons g (fCons h fNil))) δ W Q :=
  ea W _ (Sub.refl _) fun x W1 s1 i => by
    rw [show x = D.int a from i]
    exact pick_run (hS.up s1) (ef W1 s1) (eg W1 s1) hm fun v W' hM h1 h2 => k v W' (((Mv.refl W).sub s1).trans hM) h1 h2
theorem len__law_draw_plan : ∀ ds W Q, sp__law_draw_plan ds W Q → ds.length = 2 := fun ds W Q ⟨s, c, a, e, _⟩ => by rw [e]; rfl
theorem body__law_draw_plan : ∀ ds W Q, sp__law_draw_plan ds W Q → f__law_draw_plan (RT Q) (startD ["source", "crossing", "plan", "rest", "stages_v", "s", "room", "ticks"] ds) W := by
  rintro ds W Q ⟨s, c, x, rfl, hS, w, q⟩
  unfold f__law_draw_plan
  have l1 := w.l1
  have l2 := w.l2
  have hsl := sts_len w
  refine st_par3R (u := .tup []) (v := .int x.len) (ev_tup eva_nil (sz 0)) (ev_bin (ev_var rfl) ev_c (evo_ix rfl)) (ev_call (eva_cons (ev_var rfl) eva_nil) (e_law_stages w)) rm_new fun d W1 s1 hd => ?_
  obtain ⟨ev, rfl, hev, wev⟩ := hd
  have hevn := hS.ne hev
  -- the order
  show fCall sp__law_any_order (fCons (fVar 0) (fCons (fLstR1 (fB1 bLen (fCons (fVar 4) fNil))) fNil)) [some (.ref s), some x.enc, some (.tup []), some (.int x.len), some (.ref ev), none, none, none] W1 _
  refine order_run (hS.up s1) (ev_var rfl) (ev_lstR (n := x.sts.length) (ev_len (d := .ref ev) (ev_var rfl) (by simp only [lenD]; rw [wev]; simp)) (by omega)) (by simp; omega) fun ys o W2 hp hM ho wo => ?_
  have hon := (hS.up s1).ne ho
  have hM0 : Mv s c W W2 := ((Mv.refl W).sub s1).trans hM
  obtain ⟨ks, rfl, hks⟩ := of_perm_map hp
  refine ⟨_, by simp only [seqD]; rw [wo], ?_⟩
  refine loop_acc (enc := fun k : Nat => D.int (k : Int)) (ys := ks) (fun done δ W' => ∃ (p : Plan) (x5 x6 x7 : Option D), δ = [some (.ref s), some x.enc, some (encP p), some (.int (x.len - (x.blk p).length)), some (.ref ev), x5, x6, x7] ∧ Mv s c W W' ∧ PlanOk x p ∧ W' ev = some (.lst (x.sts.map tupI)) ∧ W' o = some (.lst (ks.map fun k : Nat => D.int (k : Int))))
    (fun done δ W' ⟨p, _, _, _, h1, h2, h3, h4, h5⟩ => h5) ?_ ?_ ks [] _ W2 rfl ⟨[], none, none, none, by simp [Cr.blk]; rfl, hM0, ⟨by simp, by simp [Cr.blk]; omega⟩, hM.at hevn wev, wo⟩
  · rintro done k rest δ W3 N e ⟨p, x5, x6, x7, rfl, hM3, hpo, wev3, wo3⟩ hN
    have hk : k < x.sts.length := hks k (by rw [e]; simp)
    have hS3 := hM3.2 hS
    have hfit := hpo.fit
    have hst := st_get (c := x) (s := (k : Nat)) (by omega) (by omega)
    have hcg := clg_nn x (x.st k)
    have hcl := clg_le w (x.st k)
    show sSeq _ _ _ [some (.ref s), some x.enc, some (encP p), some (.int (x.len - (x.blk p).length)), some (.ref ev), some (.int k), x6, x7] W3
    have evc : ∀ (W4 : DW) (a6 a7 : Option D) (pl rs : D), W4 ev = some (.lst (x.sts.map tupI)) → Ev (fCall sp__law_clearing (fCons (fVar 1) (fCons (fBin pSub' (fVar 4) (fVar 5)) fNil))) [some (.ref s), some x.enc, some pl, some rs, some (.ref ev), some (.int k), a6, a7] W4 (Is (.int (x.clg (x.st k)))) := fun W4 a6 a7 pl rs h4 => by
      refine ev_call (eva_cons (ev_var rfl) (eva_cons (ev_bin (ev_var rfl) (ev_var rfl) (evo_ix (d := tupI (x.st k)) ?_)) eva_nil)) (e_law_clearing w)
      simp only [ixD]
      rw [h4]
      exact atD_map (by omega) hst
    refine st_asgI (ev_bin (ev_var rfl) (evc W3 _ _ _ _ wev3) evo_ii) fun W4 s4 => ?_
    have hM4 := hM3.sub s4
    generalize hroom : x.len - ((x.blk p).length : Int) - x.clg (x.st k) = room
    refine st_ifP (and_run (k := decide (0 < room)) (evt_b (ev_bin (ev_var rfl) ev_c evo_ii)) (fun hr W5 s5 => ?_) fun hr W5 s5 => ?_)
    · have hr := of_decide_eq_true hr
      have hM5 := hM4.sub s5
      have wev5 := s5 _ _ (s4 _ _ wev3)
      have wo5 := s5 _ _ (s4 _ _ wo3)
      refine pick_gt0 (hM5.2 hS) (ev_var rfl) (by omega) fun b W6 hM6 => ?_
      have hM6' := hM5.trans hM6
      have wev6 := hM6.at hevn wev5
      have wo6 := hM6.at hon wo5
      cases b with
      | false => exact hN _ _ ⟨p, some (.int k), some (.int room), x7, rfl, hM6', hpo, wev6, wo6⟩
      | true =>
        simp only [↓reduceIte]
        refine st_asgP (add_pick (hM6'.2 hS) ev_c (fun W7 s7 => ev_var rfl) (fun W7 s7 => ev_var (d := .int room) rfl) (by omega) fun v W7 hM7 h1 h2 => ?_)
        have hv : 0 ≤ v ∧ v < room := by
          by_cases hh : room < 2
          · have := h1 hh; omega
          · exact h2 (by omega)
        have hM7' := hM6'.trans hM7
        have wev7 := hM7.at hevn wev6
        have wo7 := hM7.at hon wo6
        have hbl : (x.blk (p ++ [((k : Int), 1 + v)])).length = (x.blk p).length + ((1 + v).toNat + (x.clg (x.st k)).toNat) := by
          rw [blk_app, List.length_append]
          show _ + (List.replicate (1 + v).toNat (x.st k) ++ List.replicate (x.clg (x.st k)).toNat [] ++ []).length = _
          simp
        have hpl := plan_len hpo.each
        dsimp only
        refine st_par (v := encP (p ++ [((k : Int), 1 + v)])) (w := .int (x.len - (x.blk (p ++ [((k : Int), 1 + v)])).length)) (eva_cons ?_ (eva_cons ?_ eva_nil)) ?_
        · have : encP (p ++ [((k : Int), 1 + v)]) = .tup (p.map encK ++ [encK ((k : Int), 1 + v)]) := by unfold encP; rw [List.map_append]; rfl
          rw [this]
          exact ev_bin (ev_var rfl) (ev_tup (eva_cons (ev_tup (eva_cons (ev_var rfl) (eva_cons (ev_var rfl) eva_nil)) (sz 2)) eva_nil) (sz 1)) (evo_addT (by simp; exact sz _ (by omega)))
        · have : x.len - ((x.blk (p ++ [((k : Int), 1 + v)])).length : Int) = x.len - (x.blk p).length - (1 + v) - x.clg (x.st k) := by rw [hbl]; omega
          rw [this]
          exact ev_bin (ev_bin (ev_var rfl) (ev_var rfl) evo_ii) (evc W7 _ _ _ _ wev7) evo_ii
        · intro W8 s8
          refine hN _ _ ⟨p ++ [((k : Int), 1 + v)], some (.int k), some (.int room), some (.int (1 + v)), rfl, hM7'.sub s8, ⟨fun y hy => ?_, ?_⟩, s8 _ _ wev7, s8 _ _ wo7⟩
          · rcases List.mem_append.mp hy with hy | hy
            · exact hpo.each y hy
            · simp at hy; subst hy; simp only; omega
          · rw [hbl]; omega
    · exact hN _ _ ⟨p, some (.int k), some (.int room), x7, rfl, hM4.sub s5, hpo, s5 _ _ (s4 _ _ wev3), s5 _ _ (s4 _ _ wo3)⟩
  · rintro δ W3 ⟨p, x5, x6, x7, rfl, hM3, hpo, wev3, wo3⟩
    exact ⟨_, rfl, W3, Sub.refl _, q p W3 hM3 hpo⟩
end A30
namespace A30
open PySem PySem.Spec PyProof.Rows L2 DL
abbrev Mm := Int × Option Int
def encM (m : Mm) : D := .tup [.int m.1, oI m.2]
def pyO : Option Int → PyData
  | none => .none
  | some v => .int v
def pyM (m : Mm) : PyData := .tuple [.int m.1, pyO m.2]
theorem py_M {W : DW} (m : Mm) : Py W (encM m) (pyM m) := .tup (.cons (.int _) (.cons (by cases m.2 <;> constructor) .nil))
theorem lay_M (m : Mm) : PyData.canLay0 (pyM m) = true := by unfold pyM pyO; cases m.2 <;> simp [PyData.canLay0, PyData.canLayAll0]
theorem dep_M (m : Mm) : PyData.depth (pyM m) ≤ 1 := by unfold pyM pyO; cases m.2 <;> simp [PyData.depth, PyData.depthAll]
theorem ev_notInM {f g : FE} {δ : DL.Env} {W : DW} {p : Addr} {L : List Mm} {m : Mm} (hf : Ev f δ W (Is (encM m))) (hg : Ev g δ W (Is (.ref p))) (w : W p = some (.lst (L.map encM))) : Ev (fBin (pInA true) f g) δ W (Is (.bl (!(L.map pyM).any fun z => PyData.eqv z (pyM m)))) :=
  ev_bin hf hg (evo_notIn (py_M m) (.inl ⟨.lst w (pys_map py_M L), shaped_of (by simp only [PyData.canLay0]; exact lay_map lay_M L) (by simp only [PyData.depth]; have := dep_map dep_M L; omega)⟩) (shaped_of (lay_M m) (Nat.le_trans (dep_M m) (by decide))))
theorem ix_pick {f g h : FE} {δ : DL.Env} {W : DW} {s c p : Addr} {ys : List D} (hS : Src s c W) (ef : ∀ W1, Sub W W1 → Ev f δ W1 (Is (.ref p))) (eg : ∀ W1, Sub W W1 → Ev g δ W1 (Is (.ref s))) (w : W p = some (.lst ys)) (hp : p ≠ s ∧ p ≠ c) (h0 : ys ≠ []) (hl : ys.length ≤ 1000) (eh : ∀ W1, Sub W W1 → Ev h δ W1 (Is (.ref p))) {Q : DK} (k : ∀ y W', y ∈ ys → Mv s c W W' → Q y W') :
    fBin pSub' f (fCall sp__law_pick (fCons g (fCons (fB1 bLen (fCons h fNil)) fNil))) δ W Q :=
  (ef W (Sub.refl _)) W _ (Sub.refl _) fun x W1 s1 i => by
    rw [show x = D.ref p from i]
    have hpos := List.length_pos_iff.mpr h0
    refine pick_run (hS.up s1) (eg W1 s1) (ev_len (n := ys.length) (eh W1 s1) (by simp only [lenD]; rw [s1 _ _ w])) (by omega) fun v W2 hM h1 h2 => ?_
    have hv : 0 ≤ v ∧ v < ys.length := by
      by_cases hh : (ys.length : Int) < 2
      · have := h1 hh; omega
      · exact h2 (by omega)
    have hj : v.toNat < ys.length := by omega
    refine ⟨ys[v.toNat], ?_, k _ W2 (List.getElem_mem hj) (((Mv.refl W).sub s1).trans hM)⟩
    simp only [ixD]
    rw [hM.at hp (s1 _ _ w)]
    have := atD_map (en := id) (ys := ys) (s := v) hv.1 (List.getElem?_eq_getElem hj)
    rwa [List.map_id] at this
theorem cnt_run {f : FE} {δ : DL.Env} {W : DW} {s c : Addr} {m : Int} (hS : Src s c W) (ef : Ev f δ W (Is (.ref s))) (hm : m ≤ 1000000) {Q : DK} (k : ∀ (b : Bool) W', Mv s c W W' → Q (.int (if b then 1 else 0)) W') : fB1 bInt (fCons (fBin pEq (fCall sp__law_pick (fCons f (fCons (fC (.int m)) fNil))) (fC (.int 0))) fNil) δ W Q :=
  pick_run hS ef ev_c hm fun v W' hM _ _ => ⟨_, _, .int v, .int 0, shaped_int, shaped_int, k _ W' hM⟩
theorem rng2_run {f g : FE} {δ : DL.Env} {W : DW} {m n : Int} (h : Ev f δ W (Is (.int m))) (h' : Ev g δ W (Is (.int n))) (hb : 0 ≤ m ∧ m < 1000 ∧ 0 ≤ n ∧ n < 1000) {R : List D → (DW → Prop) → DW → Prop} (k : ∀ W1, Sub W W1 → R ((List.range (n - m).toNat).map fun k => D.int (m + (k : Nat))) (fun _ => True) W1) : fRng2 (fCons f (fCons g fNil)) δ W R :=
  h W _ (Sub.refl _) fun x W1 s1 i => by
    rw [show x = D.int m from i]
    refine h' W1 _ s1 fun y W2 s2 j => ?_
    rw [show y = D.int n from j]
    exact ⟨m, n, rfl, by omega, k W2 (s1.trans s2)⟩
/-- a row of a crossing below n -/
def RowOk (n : Nat) (r : Int × Int × Int × Int) : Prop := 0 ≤ r.1 ∧ r.1 < r.2.1 ∧ r.2.1 < n ∧ 0 ≤ r.2.2.1 ∧ 0 ≤ r.2.2.2 ∧ r.2.2.1 ≤ 2 ∧ r.2.2.2 ≤ 2
theorem wf_of {ms : List D} {cs : List (Int × Int × Int × Int)} {l : Int} (h1 : 1 ≤ ms.length) (h2 : ms.length ≤ 4) (h3 : cs.length ≤ 16) (h4 : ∀ r ∈ cs, RowOk ms.length r) (h5 : 1 ≤ l) (h6 : l ≤ 8) : Wf ⟨ms, cs, l⟩ := ⟨h1, h2, h3, h4, h5, h6⟩
theorem cut4 (ys : List D) (h : ys ≠ []) : 1 ≤ (DL.cutD ys none (some 4)).length ∧ (DL.cutD ys none (some 4)).length ≤ 4 := by
  have := List.length_pos_iff.mpr h
  unfold DL.cutD
  rw [List.length_take, List.length_drop]
  have e1 : HT.sIx ys.length 0 none = 0 := rfl
  have e2 : HT.sIx ys.length ys.length (some 4) = min 4 ys.length := rfl
  rw [e1, e2]
  omega
section
variable {f : FE} {r : FA} {fi : FI} {gt : FG} {body : FS} {B : DE} {δ : DL.Env} {W : DW}
theorem consP {Q : List D → DW → Prop} (h : f δ W fun x W1 => r δ W1 fun xs W2 => Q (x :: xs) W2) : fCons f r δ W Q := h
theorem tupP {Q : DK} (h : r δ W fun xs W1 => xs.length ≤ sizeLine ∧ Q (.tup xs) W1) : fTup r δ W Q := h
theorem parP {i j : Nat} (h : r δ W fun vs W1 => ∃ v w, vs = [v, w] ∧ B.nx ((δ.set i (some v)).set j (some w)) W1) : sPar i j r B δ W := h
theorem forP (h : fi δ W fun xs keep W1 => loopD keep gt body B xs δ W1) : sFor fi gt body B δ W := h
theorem seqP {s t : FS} (h : s { B with nx := t B } δ W) : sSeq s t B δ W := h
end
theorem len__law_draw_crossing : ∀ ds W Q, sp__law_draw_crossing ds W Q → ds.length = 4 := fun ds W Q ⟨s, c, n, a, l, qs, e, _⟩ => by rw [e]; rfl
theorem body__law_draw_crossing : ∀ ds W Q, sp__law_draw_crossing ds W Q → f__law_draw_crossing (RT Q) (startD ["source", "n", "mine", "length", "movements", "q", "ways", "one", "lap", "movement", "crossed", "i", "j"] ds) W := by
  rintro ds W Q ⟨s, c, n, a, l, qs, rfl, hS, wa, has, hac, hq0, hq4, hn1, hn4, hl3, hl8, q⟩
  unfold f__law_draw_crossing
  refine st_asgN (ev_lst eva_nil (sz 0)) fun p W1 s1 hp wp => ?_
  have hpn := hS.ne hp
  have key : ∀ (B : DE), (∀ (x5 x6 x8 x9 : Option D) W' (L : List Mm), Mv s c W W' → W' p = some (.lst (L.map encM)) → L ≠ [] → L.length ≤ 8 → B.nx [some (.ref s), some (.int n), some (.ref a), some (.int l), some (.ref p), x5, x6, none, x8, x9, none, none, none] W') →
      (sFor (fSeq (fVar 2)) (gN 5) (sSeq (sAsg (fBin pAdd (fLst (fCons (fC .non) fNil)) (fLc (fRng1 (fCons (fVar 1) fNil)) (gN 7) (fB (fBin pNe (fVar 7) (fVar 5))) (fVar 7) [7])) (gN 6))
    (sFor (fRng1 (fCons (fBin pAdd (fC (.int 1)) (fB1 bInt (fCons (fBin pEq (fCall sp__law_pick (fCons (fVar 0) (fCons (fC (.int 3)) fNil))) (fC (.int 0))) fNil))) fNil)) (gN 8) (sSeq (sAsg (fTup (fCons (fVar 5) (fCons (fBin pSub' (fVar 6) (fCall sp__law_pick (fCons (fVar 0) (fCons (fB1 bLen (fCons (fVar 6) fNil)) fNil)))) fNil))) (gN 9))
    (sIf (fB (fBin (pInA true) (fVar 9) (fVar 4))) (sDrop (fM isL mAppend (fVar 4) (fCons (fVar 9) fNil))) (fun D δ W => D.nx δ W)))))) B [some (.ref s), some (.int n), some (.ref a), some (.int l), some (.ref p), none, none, none, none, none, none, none, none] W1 := by
    intro B hB
    refine seq_run (d := .ref a) (ev_var rfl) (by simp only [seqD]; rw [s1 _ _ wa]) fun W2 s2 => ?_
    refine loop_acc (enc := D.int) (ys := qs) (fun done δ W' => ∃ (x5 x6 x8 x9 : Option D) (L : List Mm), δ = [some (.ref s), some (.int n), some (.ref a), some (.int l), some (.ref p), x5, x6, none, x8, x9, none, none, none] ∧ Mv s c W W' ∧ W' p = some (.lst (L.map encM)) ∧ L.length ≤ 2 * done.length ∧ (done ≠ [] → L ≠ []))
      (fun done δ W' ⟨_, _, _, _, _, h1, h2, h3⟩ => h2.at ⟨has, hac⟩ wa) ?_ ?_ qs [] _ W2 rfl ⟨none, none, none, none, [], rfl, (Mv.refl W).sub (s1.trans s2), s2 _ _ wp, by simp, by simp⟩
    · rintro done i rest δ W3 N e ⟨x5, x6, x8, x9, L, rfl, hM3, wp3, hL, hLn⟩ hN
      have hdl : done.length < qs.length := by rw [e]; simp
      show sSeq _ _ _ [some (.ref s), some (.int n), some (.ref a), some (.int l), some (.ref p), some (.int i), x6, none, x8, x9, none, none, none] W3
      have hfl := List.length_filter_le (fun k : Nat => !decide (((k : Nat) : Int) = i)) (List.range n.toNat)
      rw [List.length_range] at hfl
      have hn : ((n.toNat : Nat) : Int) = n := by omega
      refine st_asgN (xs := [D.non] ++ ((List.range n.toNat).filter fun k : Nat => !decide (((k : Nat) : Int) = i)).map fun k : Nat => D.int (k : Int)) (ev_addNN (ev_lst (eva_cons ev_c eva_nil) (sz 1)) (ev_lcF (enc := fun k : Nat => D.int (k : Int)) (ys := List.range n.toNat) (fun k : Nat => !decide (((k : Nat) : Int) = i)) (fun k : Nat => D.int (k : Int)) (evi_rng (n := n.toNat) (by rw [hn]; exact ev_var rfl) (by omega)).i (fun k hk => ⟨_, fun _ _ h => h, evt_b (ev_neI (ev_var rfl) (ev_var rfl)), fun _ => ev_var rfl⟩) (sz _ (by simp; omega))) (by simp only [List.length_map, List.length_singleton]; exact sz _ (by omega))) fun wy W4 s4 hwy wwy => ?_
      generalize hV : ([none] ++ ((List.range n.toNat).filter fun k : Nat => !decide (((k : Nat) : Int) = i)).map fun k : Nat => some ((k : Nat) : Int) : List (Option Int)) = V
      have wwy : W4 wy = some (.lst (V.map oI)) := by rw [wwy, ← hV, List.map_append, List.map_map]; rfl
      have hV0 : V ≠ [] := by rw [← hV]; simp
      have hVl : V.length ≤ 8 := by rw [← hV]; simp only [List.length_append, List.length_map, List.length_singleton]; omega
      have hM4 := hM3.sub s4
      have hwyW : W wy = none := hM3.none hS hwy
      have hwyn := hS.ne hwyW
      have hpwy : p ≠ wy := fun e => by rw [e] at wp3; rw [wp3] at hwy; cases hwy
      have wp4 := s4 _ _ wp3
      show fBin pAdd (fC (.int 1)) (fB1 bInt (fCons (fBin pEq (fCall sp__law_pick (fCons (fVar 0) (fCons (fC (.int 3)) fNil))) (fC (.int 0))) fNil)) [some (.ref s), some (.int n), some (.ref a), some (.int l), some (.ref p), some (.int i), some (.ref wy), none, x8, x9, none, none, none] W4 _
      refine cnt_run (hM4.2 hS) (ev_var rfl) (by omega) fun b W5 hM5 => ?_
      have hM5' := hM4.trans hM5
      have wp5 := hM5.at hpn wp4
      have wwy5 := hM5.at hwyn wwy
      refine ⟨_, rfl, by cases b <;> simp, by cases b <;> simp, ?_⟩
      obtain ⟨cn, hcn, hc1, hc2⟩ : ∃ cn : Nat, (1 + (if b = true then (1 : Int) else 0)).toNat = cn ∧ 1 ≤ cn ∧ cn ≤ 2 := ⟨_, rfl, by cases b <;> simp, by cases b <;> simp⟩
      rw [hcn, rngD0]
      refine loop_acc (enc := fun k : Nat => D.int (k : Int)) (ys := List.range cn) (fun dn δ W' => ∃ (x8 x9 : Option D) (L : List Mm), δ = [some (.ref s), some (.int n), some (.ref a), some (.int l), some (.ref p), some (.int i), some (.ref wy), none, x8, x9, none, none, none] ∧ Mv s c W W' ∧ W' p = some (.lst (L.map encM)) ∧ W' wy = some (.lst (V.map oI)) ∧ L.length ≤ 2 * done.length + dn.length ∧ (done ≠ [] ∨ dn ≠ [] → L ≠ []))
        (fun _ _ _ _ => trivial) ?_ ?_ (List.range cn) [] _ W5 rfl ⟨x8, x9, L, rfl, hM5', wp5, wwy5, by simpa using hL, fun h => hLn (h.resolve_right (by simp))⟩
      · rintro dn k rs δ W6 N2 e2 ⟨y8, y9, L2, rfl, hM6, wp6, wwy6, hL2, hLn2⟩ hN2
        have hdn : dn.length < cn := by have := congrArg List.length e2; simp at this; omega
        show sSeq _ _ _ [some (.ref s), some (.int n), some (.ref a), some (.int l), some (.ref p), some (.int i), some (.ref wy), none, some (.int k), y9, none, none, none] W6
        refine st_asgP (tupP (consP ⟨_, rfl, consP ?_⟩))
        refine ix_pick (hM6.2 hS) (fun W7 s7 => ev_var rfl) (fun W7 s7 => ev_var rfl) wwy6 hwyn (by simpa using hV0) (by simp; omega) (fun W7 s7 => ev_var rfl) fun y W7 hy hM7 => ?_
        obtain ⟨o, ho, rfl⟩ := List.mem_map.mp hy
        have wp7 := hM7.at hpn wp6
        have wwy7 := hM7.at hwyn wwy6
        have hM7' := hM6.trans hM7
        refine ⟨sz 2, ?_⟩
        refine st_if (evt_b (ev_notInM (m := (i, o)) (ev_var rfl) (ev_var rfl) wp7)) (fun h W8 s8 => ?_) fun h W8 s8 => ?_
        · refine st_append rfl (s8 _ _ wp7) (by simp; exact sz (L2.length + 1)) (d := encM (i, o)) (ev_var rfl) fun W9 s9 w9 => hN2 _ _ ⟨some (.int k), some (encM (i, o)), L2 ++ [(i, o)], rfl, ((hM7'.sub s8).sub s9).own hp hpn, by rw [wup_same]; simp, by rw [wup_ne hpwy.symm]; exact s9 _ _ (s8 _ _ wwy7), by simp; omega, by simp⟩
        · refine hN2 _ _ ⟨some (.int k), some (encM (i, o)), L2, rfl, hM7'.sub s8, s8 _ _ wp7, s8 _ _ wwy7, by simp; omega, fun _ z => ?_⟩
          subst z
          simp at h
      · rintro δ W6 ⟨y8, y9, L2, rfl, hM6, wp6, wwy6, hL2, hLn2⟩
        exact hN _ _ ⟨some (.int i), some (.ref wy), y8, y9, L2, rfl, hM6, wp6, by simp at hL2 ⊢; omega, fun _ => hLn2 (.inr (by intro z; have := congrArg List.length z; simp at this; omega))⟩
    · rintro δ W3 ⟨x5, x6, x8, x9, L, rfl, hM3, wp3, hL, hLn⟩
      exact hB x5 x6 x8 x9 W3 L hM3 wp3 (hLn hq0) (by omega)
  refine key _ fun x5 x6 x8 x9 W2 L hM2 wp2 hL0 hL8 => ?_
  clear key
  -- the order, cut
  show fCall sp__law_any_order (fCons (fVar 0) (fCons (fVar 4) fNil)) [some (.ref s), some (.int n), some (.ref a), some (.int l), some (.ref p), x5, x6, none, x8, x9, none, none, none] W2 _
  refine (eva_cons (ev_var (d := .ref s) rfl) (eva_cons (ev_var (d := .ref p) rfl) eva_nil)) W2 _ (Sub.refl _) fun W3 s3 => ?_
  have hM3 := hM2.sub s3
  refine ⟨s, c, p, _, rfl, hM3.2 hS, s3 _ _ wp2, hpn.1, hpn.2, by simp; omega, fun ys o W4 hperm hM4 ho wo => ?_⟩
  have hM4' := hM3.trans hM4
  have hys : ys ≠ [] := fun e => by
    have := hperm.length_eq
    rw [e, List.length_map] at this
    exact hL0 (List.eq_nil_of_length_eq_zero this.symm)
  refine ⟨ys, wo, fun mv hmv => ?_⟩
  obtain ⟨hc1, hc2⟩ := cut4 ys hys
  generalize hms : DL.cutD ys none (some 4) = ms at *
  have hmvW : W mv = none := hM4'.none hS hmv
  have hmvn := hS.ne hmvW
  have hM5 : Mv s c W (wup W4 mv (.lst ms)) := hM4'.own hmvW hmvn
  generalize hW5 : wup W4 mv (.lst ms) = W5 at *
  have wmv5 : W5 mv = some (.lst ms) := by rw [← hW5]; exact wup_same
  show fLst fNil [some (.ref s), some (.int n), some (.ref a), some (.int l), some (.ref p), x5, x6, none, x8, x9, none, none, none] W5 _
  refine (ev_lst eva_nil (sz 0)).runN fun cr W6 s6 hcr wcr => ?_
  have hcrW : W cr = none := hM5.none hS hcr
  have hcrn := hS.ne hcrW
  have hmc : mv ≠ cr := fun e => by rw [e] at wmv5; rw [wmv5] at hcr; cases hcr
  refine ⟨_, _, rfl, ?_⟩
  dsimp only
  refine seqP (forP (rng_run (n := ms.length) (ev_len (d := .ref mv) (ev_var rfl) (by simp only [lenD]; rw [s6 _ _ wmv5])) (by omega) fun W7 s7 => ?_))
  refine loop_acc (enc := fun k : Nat => D.int (k : Int)) (ys := List.range ms.length) (fun done δ W' => ∃ (x11 x12 : Option D) (cs : List (Int × Int × Int × Int)), δ = [some (.ref s), some (.int n), some (.ref a), some (.int l), some (.ref mv), x5, x6, none, x8, x9, some (.ref cr), x11, x12] ∧ Mv s c W W' ∧ W' mv = some (.lst ms) ∧ W' cr = some (.lst (cs.map encR)) ∧ (∀ r ∈ cs, RowOk ms.length r) ∧ cs.length ≤ 4 * done.length)
    (fun _ _ _ _ => trivial) ?_ ?_ (List.range ms.length) [] _ W7 rfl ⟨none, none, [], rfl, (hM5.sub s6).sub s7, s7 _ _ (s6 _ _ wmv5), s7 _ _ wcr, by simp, by simp⟩
  · rintro done i rest δ W8 N e ⟨x11, x12, cs, rfl, hM8, wmv8, wcr8, hrow, hcl⟩ hN
    obtain ⟨e1, e2⟩ := range_split e
    have hdl : done.length = i := by rw [e1]; simp
    show sFor _ _ _ _ [some (.ref s), some (.int n), some (.ref a), some (.int l), some (.ref mv), x5, x6, none, x8, x9, some (.ref cr), some (.int i), x12] W8
    refine forP (rng2_run (m := (i : Int) + 1) (n := (ms.length : Nat)) (ev_bin (ev_var rfl) ev_c evo_addI) (ev_len (d := .ref mv) (ev_var rfl) (by simp only [lenD]; rw [wmv8])) (by omega) fun W9 s9 => ?_)
    refine loop_acc (enc := fun k : Nat => D.int ((i : Int) + 1 + (k : Nat))) (ys := List.range (((ms.length : Nat) : Int) - ((i : Int) + 1)).toNat) (fun dn δ W' => ∃ (x12 : Option D) (cs : List (Int × Int × Int × Int)), δ = [some (.ref s), some (.int n), some (.ref a), some (.int l), some (.ref mv), x5, x6, none, x8, x9, some (.ref cr), some (.int i), x12] ∧ Mv s c W W' ∧ W' mv = some (.lst ms) ∧ W' cr = some (.lst (cs.map encR)) ∧ (∀ r ∈ cs, RowOk ms.length r) ∧ cs.length ≤ 4 * done.length + dn.length)
      (fun _ _ _ _ => trivial) ?_ ?_ _ [] _ W9 rfl ⟨x12, cs, rfl, hM8.sub s9, s9 _ _ wmv8, s9 _ _ wcr8, hrow, by simpa using hcl⟩
    · rintro dn k rs δ W10 N2 e3 ⟨y12, cs2, rfl, hM10, wmv10, wcr10, hrow10, hcl10⟩ hN2
      obtain ⟨e4, e5⟩ := range_split e3
      have hdn : dn.length = k := by rw [e4]; simp
      show sIf _ _ _ _ [some (.ref s), some (.int n), some (.ref a), some (.int l), some (.ref mv), x5, x6, none, x8, x9, some (.ref cr), some (.int i), some (.int ((i : Int) + 1 + (k : Nat)))] W10
      refine st_ifP (pick_eq0 (hM10.2 hS) (ev_var rfl) (by omega) fun b W11 hM11 => ?_)
      have hM11' := hM10.trans hM11
      have wmv11 := hM11.at hmvn wmv10
      have wcr11 := hM11.at hcrn wcr10
      cases b with
      | false => exact hN2 _ _ ⟨_, cs2, rfl, hM11', wmv11, wcr11, hrow10, by simp; omega⟩
      | true =>
        simp only [↓reduceIte]
        refine ⟨_, rfl, ⟨cr, _, rfl, wcr11⟩, _, rfl, _, rfl, ?_⟩
        refine pick_run (hM11'.2 hS) (ev_var rfl) ev_c (by omega) fun v1 W12 hM12 _ hv1 => ?_
        refine pick_run ((hM11'.trans hM12).2 hS) (ev_var rfl) ev_c (by omega) fun v2 W13 hM13 _ hv2 => ?_
        have hv1 := hv1 (by omega)
        have hv2 := hv2 (by omega)
        have wcr13 := hM13.at hcrn (hM12.at hcrn wcr11)
        have wmv13 := hM13.at hmvn (hM12.at hmvn wmv11)
        refine ⟨sz 4, cr, _, _, rfl, rfl, wcr13, by simp; exact sz (cs2.length + 1), ?_⟩
        refine hN2 _ _ ⟨_, cs2 ++ [((i : Int), (i : Int) + 1 + (k : Nat), v1, v2)], rfl, ((hM11'.trans hM12).trans hM13).own hcrW hcrn, by rw [wup_ne hmc]; exact wmv13, by rw [wup_same, List.map_append]; rfl, fun r hr => ?_, by simp; omega⟩
        rcases List.mem_append.mp hr with hr | hr
        · exact hrow10 r hr
        · simp at hr
          subst hr
          unfold RowOk
          simp only
          omega
    · rintro δ W10 ⟨y12, cs2, rfl, hM10, wmv10, wcr10, hrow10, hcl10⟩
      exact hN _ _ ⟨_, _, cs2, rfl, hM10, wmv10, wcr10, hrow10, by simp at hcl10 ⊢; omega⟩
  · rintro δ W8 ⟨x11, x12, cs, rfl, hM8, wmv8, wcr8, hrow, hcl⟩
    rw [List.length_range] at hcl
    show sRet (fTup (fCons (fB1 bTuple (fCons (fVar 4) fNil)) (fCons (fB1 bTuple (fCons (fVar 10) fNil)) (fCons (fVar 3) fNil)))) (RT Q) [some (.ref s), some (.int n), some (.ref a), some (.int l), some (.ref mv), x5, x6, none, x8, x9, some (.ref cr), x11, x12] W8
    refine st_ret (d := Cr.enc ⟨ms, cs, l⟩) (ev_tup (eva_cons (ev_b1 (eva_cons (ev_var rfl) eva_nil) (evb_tuple (by simp only [seqD]; rw [wmv8]))) (eva_cons (ev_b1 (eva_cons (ev_var rfl) eva_nil) (evb_tuple (by simp only [seqD]; rw [wcr8]))) (eva_cons (ev_var rfl) eva_nil))) (sz 3)) (Sub.refl _) ?_
    exact q _ W8 hM8 (wf_of hc1 hc2 (by omega) hrow (by omega) hl8)
end A30
namespace A30
open PySem PySem.Spec PyProof.Rows L2 DL
/-! ### lists of own lists -/
def EvNs (r : FA) (δ : DL.Env) (n : Nat) : Prop := ∀ W1 (Q : List D → DW → Prop), (∀ (rs : List Addr) W2, Sub W1 W2 → rs.Nodup → (∀ a ∈ rs, W1 a = none ∧ W2 a = some (.lst [])) → rs.length = n → Q (rs.map D.ref) W2) → r δ W1 Q
theorem evns_nil {δ : DL.Env} : EvNs fNil δ 0 := fun W1 Q k => k [] W1 (Sub.refl _) (by simp) (by simp) rfl
theorem evns_cons {r : FA} {δ : DL.Env} {n : Nat} (h : EvNs r δ n) : EvNs (fCons (fLst fNil) r) δ (n + 1) := fun W1 Q k => consP ((ev_lst (δ := δ) (W := W1) eva_nil (sz 0)).runN fun p W2 s2 hp wp => h W2 _ fun rs W3 s3 hn hrs hl => k (p :: rs) W3 (s2.trans s3) (List.nodup_cons.mpr ⟨fun hm => (by
    have z := (hrs p hm).1
    rw [wp] at z
    cases z), hn⟩) (fun a ha => by
    rcases List.mem_cons.mp ha with e | ha
    · rw [e]; exact ⟨hp, s3 _ _ wp⟩
    · exact ⟨s2.none (hrs a ha).1, (hrs a ha).2⟩) (by simp [hl]))
/-- own lists, with what is in them -/
structure Lots (W0 W : DW) (p : Addr) (rs : List Addr) (f : Addr → List Int) : Prop where
  p0 : W0 p = none
  at_ : W p = some (.lst (rs.map D.ref))
  nd : rs.Nodup
  r0 : ∀ a ∈ rs, W0 a = none
  ne : ∀ a ∈ rs, a ≠ p
  in_ : ∀ a ∈ rs, W a = some (.lst ((f a).map D.int))
def NewLots (n : Nat) : RW3 := fun A x B => ∃ p rs, x = .ref p ∧ Lots A B p rs (fun _ => []) ∧ rs.length = n
theorem ev_lots {r : FA} {δ : DL.Env} {n : Nat} {W : DW} (h : EvNs r δ n) (hn : n ≤ 10) : Ev (fLst r) δ W (NewLots n) := fun W1 Q s k => h W1 _ fun rs W2 s2 hnd hrs hl => ⟨sz _ (by simp; omega), fun p hp => k _ _ (s2.new (s2.none hp)) ⟨p, rs, rfl, by
    have hne : ∀ a ∈ rs, a ≠ p := fun a ha e => by have := (hrs a ha).2; rw [e, hp] at this; cases this
    exact ⟨s2.none hp, wup_same, hnd, fun a ha => (hrs a ha).1, hne, fun a ha => by rw [wup_ne (hne a ha)]; exact (hrs a ha).2⟩, hl⟩⟩
theorem Lots.down {W0 W1 W : DW} {p : Addr} {rs : List Addr} {f : Addr → List Int} (h : Lots W1 W p rs f) (s : Sub W0 W1) : Lots W0 W p rs f := ⟨s.none h.p0, h.at_, h.nd, fun a ha => s.none (h.r0 a ha), h.ne, h.in_⟩
theorem Lots.downM {W0 W1 W : DW} {s c p : Addr} {rs : List Addr} {f : Addr → List Int} (h : Lots W1 W p rs f) (m : Mv s c W0 W1) (hS : Src s c W0) : Lots W0 W p rs f := ⟨m.none hS h.p0, h.at_, h.nd, fun a ha => m.none hS (h.r0 a ha), h.ne, h.in_⟩
theorem Lots.mv {W0 W W' : DW} {s c p : Addr} {rs : List Addr} {f : Addr → List Int} (h : Lots W0 W p rs f) (hS : Src s c W0) (m : Mv s c W W') : Lots W0 W' p rs f := ⟨h.p0, m.at (hS.ne h.p0) h.at_, h.nd, h.r0, h.ne, fun a ha => m.at (hS.ne (h.r0 a ha)) (h.in_ a ha)⟩
theorem Lots.sub {W0 W W' : DW} {p : Addr} {rs : List Addr} {f : Addr → List Int} (h : Lots W0 W p rs f) (m : Sub W W') : Lots W0 W' p rs f := ⟨h.p0, m _ _ h.at_, h.nd, h.r0, h.ne, fun a ha => m _ _ (h.in_ a ha)⟩
/-- another own list changes -/
theorem Lots.other {W0 W : DW} {p q : Addr} {o : DO} {rs : List Addr} {f : Addr → List Int} (h : Lots W0 W p rs f) (h1 : q ≠ p) (h2 : q ∉ rs) : Lots W0 (wup W q o) p rs f := ⟨h.p0, by rw [wup_ne h1.symm]; exact h.at_, h.nd, h.r0, h.ne, fun a ha => by
  have hne : a ≠ q := fun e => h2 (by rw [← e]; exact ha)
  rw [wup_ne hne]; exact h.in_ a ha⟩
theorem Lots.push {W0 W : DW} {p a : Addr} {rs : List Addr} {f : Addr → List Int} (h : Lots W0 W p rs f) (ha : a ∈ rs) (i : Int) : Lots W0 (wup W a (.lst ((f a).map D.int ++ [.int i]))) p rs (fun b => if b = a then f a ++ [i] else f b) := ⟨h.p0, by rw [wup_ne (h.ne a ha).symm]; exact h.at_, h.nd, h.r0, h.ne, fun b hb => by
  by_cases e : b = a
  · subst e; rw [wup_same, if_pos rfl, List.map_append]; rfl
  · rw [wup_ne e, if_neg e]; exact h.in_ b hb⟩
/-- a ref at a place -/
theorem lots_ix {W : DW} {p : Addr} {rs : List Addr} {v : Int} (w : W p = some (.lst (rs.map D.ref))) (h1 : 0 ≤ v) (h2 : v < rs.length) : ∃ a ∈ rs, ixD W (.ref p) (.int v) = some (.ref a) := by
  have hj : v.toNat < rs.length := by omega
  refine ⟨rs[v.toNat], List.getElem_mem hj, ?_⟩
  simp only [ixD]
  rw [w]
  exact atD_map (en := D.ref) h1 (List.getElem?_eq_getElem hj)
theorem e_town {n : Int} {cs : List Cr} {f g : FE} {δ : DL.Env} {W : DW} {p : Addr} (hf : Ev f δ W (Is (.int n))) (hg : Ev g δ W (Is (.ref p))) (w : W p = some (.lst (cs.map Cr.enc))) : Ev (fTup (fCons f (fCons (fB1 bTuple (fCons g fNil)) fNil))) δ W (Is (encTown n cs)) := tup2 hf (ev_b1 (eva_cons hg eva_nil) (evb_tuple (by simp only [seqD]; rw [w])))
theorem retCallP {sp : SpD} {r : FA} {B : DE} {δ : DL.Env} {W : DW} (h : r δ W fun xs W1 => sp xs W1 B.rt) : sRet (fCall sp r) B δ W := h
theorem len__law_draw_town : ∀ ds W Q, sp__law_draw_town ds W Q → ds.length = 2 := fun ds W Q ⟨s, c, m, e, _⟩ => by rw [e]; rfl
theorem body__law_draw_town : ∀ ds W Q, sp__law_draw_town ds W Q → f__law_draw_town (RT Q) (startD ["source", "most", "n", "length", "crossings", "lots", "q", "lot"] ds) W := by
  rintro ds W Q ⟨s, c, m, rfl, hS, hm2, hm4, q⟩
  unfold f__law_draw_town
  refine seqP (st_ifP (and_run (k := decide (1 < m)) (evt_b (ev_bin (ev_var rfl) ev_c evo_ii)) (fun _ W1 s1 => ?_) fun h W1 s1 => by simp at h; omega))
  refine pick_eq0 (hS.up s1) (ev_var rfl) (by omega) fun b W2 hM2 => ?_
  have hM2 := ((Mv.refl W).sub s1).trans hM2
  cases b with
  | true =>
    simp only [↓reduceIte]
    refine retCallP (consP ?_)
    refine ⟨_, rfl, ?_⟩
    refine consP ?_
    refine ⟨_, rfl, ?_⟩
    exact ⟨s, c, m, rfl, hM2.2 hS, hm2, hm4, fun n cs W4 hM4 h1 h2 => ⟨W4, Sub.refl _, q n cs W4 (hM2.trans hM4) h1 h2⟩⟩
  | false =>
    simp only [Bool.false_eq_true, ↓reduceIte]
    -- n, length, crossings
    refine seqP ?_
    refine consP (add_pick (hM2.2 hS) ev_c (fun W3 s3 => ev_var rfl) (fun W3 s3 => ev_var (d := .int m) rfl) (by omega) fun v1 W3 hM3 _ hv1 => ?_)
    have hv1 := hv1 (by omega)
    have hM3 := hM2.trans hM3
    refine consP (add_pick (hM3.2 hS) ev_c (fun W4 s4 => ev_var rfl) (fun W4 s4 => ev_c) (by omega) fun v2 W4 hM4 _ hv2 => ?_)
    have hv2 := hv2 (by omega)
    have hM4 := hM3.trans hM4
    refine consP ((ev_lst (δ := startD ["source", "most", "n", "length", "crossings", "lots", "q", "lot"] [.ref s, .int m]) (W := W4) eva_nil (sz 0)).runN fun cr W5 s5 hcr wcr => ?_)
    have hcrW : W cr = none := hM4.none hS hcr
    have hcrn := hS.ne hcrW
    have hM5 := hM4.sub s5
    refine ⟨_, _, _, rfl, ?_⟩
    dsimp only
    refine seqP (st_asg (ev_lots (evns_cons (evns_cons (evns_cons evns_nil))) (by omega)) fun d W6 s6 hd => ?_)
    obtain ⟨p, rs, rfl, hL, hrl⟩ := hd
    have hcrp : cr ≠ p := fun e => by have := hL.p0; rw [← e, wcr] at this; cases this
    have hcrr : cr ∉ rs := fun e => by have := hL.r0 cr e; rw [wcr] at this; cases this
    have hL := hL.downM hM5 hS
    have hM6 := hM5.sub s6
    have wcr6 := s6 _ _ wcr
    have hn : (((1 + v1).toNat : Nat) : Int) = 1 + v1 := by omega
    dsimp only
    refine seqP (forP (rng_run (n := (1 + v1).toNat) (by rw [hn]; exact ev_var rfl) (by omega) fun W7 s7 => ?_))
    refine loop_acc (enc := fun k : Nat => D.int (k : Int)) (ys := List.range (1 + v1).toNat) (fun done δ W' => ∃ (x6 : Option D) (f : Addr → List Int), δ = [some (.ref s), some (.int m), some (.int (1 + v1)), some (.int (3 + v2)), some (.ref cr), some (.ref p), x6, none] ∧ Mv s c W W' ∧ W' cr = some (.lst []) ∧ Lots W W' p rs f ∧ ∀ a ∈ rs, (f a).length ≤ done.length)
      (fun _ _ _ _ => trivial) ?_ ?_ _ [] _ W7 rfl ⟨none, _, rfl, hM6.sub s7, s7 _ _ wcr6, hL.sub s7, by simp⟩
    · rintro done k rest δ W8 N e ⟨x6, f, rfl, hM8, wcr8, hL8, hf⟩ hN
      refine ⟨_, rfl, pick_run (hM8.2 hS) (ev_var rfl) ev_c (by omega) fun v W9 hM9 _ hv => ?_⟩
      have hv := hv (by omega)
      have hL9 := hL8.mv hS hM9
      obtain ⟨a, ha, hix⟩ := lots_ix hL9.at_ hv.1 (by omega)
      refine ⟨_, hix, ⟨a, _, rfl, hL9.in_ a ha⟩, _, rfl, a, _, _, rfl, rfl, hL9.in_ a ha, ?_, ?_⟩
      · have h1 := hf a ha
        have h2 : done.length < (1 + v1).toNat := by have := congrArg List.length e; simp at this; omega
        rw [List.length_map]
        have := sizeLine_eq
        omega
      · refine hN _ _ ⟨some (.int k), _, rfl, (hM8.trans hM9).own (hL9.r0 a ha) (hS.ne (hL9.r0 a ha)), ?_, hL9.push ha k, fun b hb => ?_⟩
        · rw [wup_ne (fun e => hcrr (by rw [e]; exact ha))]
          exact hM9.at hcrn wcr8
        · have h1 := hf a ha
          have h2 := hf b hb
          split
          · simp; omega
          · simp; omega
    · rintro δ W8 ⟨x6, f, rfl, hM8, wcr8, hL8, hf⟩
      rw [List.length_range] at hf
      dsimp only
      refine seqP (forP (seq_run (d := .ref p) (ev_var rfl) (by simp only [seqD]; rw [hL8.at_]) fun W9 s9 => ?_))
      refine loop_acc (enc := D.ref) (ys := rs) (fun done δ W' => ∃ (x6 x7 : Option D) (cs : List Cr), δ = [some (.ref s), some (.int m), some (.int (1 + v1)), some (.int (3 + v2)), some (.ref cr), some (.ref p), x6, x7] ∧ Mv s c W W' ∧ W' cr = some (.lst (cs.map Cr.enc)) ∧ Lots W W' p rs f ∧ (∀ y ∈ cs, Wf y) ∧ cs.length ≤ done.length)
        (fun done δ W' ⟨_, _, _, _, _, _, h, _⟩ => h.at_) ?_ ?_ rs [] _ W9 rfl ⟨x6, none, [], rfl, hM8.sub s9, s9 _ _ wcr8, hL8.sub s9, by simp, by simp⟩
      · rintro done a rest δ W10 N e ⟨y6, y7, cs, rfl, hM10, wcr10, hL10, hwf, hcl⟩ hN
        have ha : a ∈ rs := by rw [e]; simp
        have hdl : done.length < rs.length := by rw [e]; simp
        have haW := hL10.r0 a ha
        have han := hS.ne haW
        refine st_if (B := _) (evt_b (ev_neNil (ev_var rfl) (hL10.in_ a ha))) (fun h W11 s11 => ?_) fun h W11 s11 => ?_
        · have hM11 := hM10.sub s11
          have hL11 := hL10.sub s11
          have wcr11 := s11 _ _ wcr10
          refine ⟨_, rfl, ⟨cr, _, rfl, wcr11⟩, consP ⟨_, rfl, consP ⟨_, rfl, consP ⟨_, rfl, consP ⟨_, rfl, ?_⟩⟩⟩⟩⟩
          refine ⟨s, c, 1 + v1, a, 3 + v2, f a, rfl, hM11.2 hS, hL11.in_ a ha, han.1, han.2, fun z => ?_, ?_, by omega, by omega, by omega, by omega, fun y W12 hM12 hy => ?_⟩
          · rw [z] at h; cases h
          · have := hf a ha; omega
          · have wcr12 := hM12.at hcrn wcr11
            refine ⟨cr, _, _, rfl, rfl, wcr12, by simp; exact Nat.lt_of_lt_of_le (show cs.length < 8 by omega) (sz 8), ?_⟩
            exact hN _ _ ⟨y6, some (.ref a), cs ++ [y], rfl, (hM11.trans hM12).own hcrW hcrn, by rw [wup_same]; simp, (hL11.mv hS hM12).other hcrp hcrr, fun z hz => by
              rcases List.mem_append.mp hz with hz | hz
              · exact hwf z hz
              · simp at hz; subst hz; exact hy, by simp; omega⟩
        · exact hN _ _ ⟨y6, some (.ref a), cs, rfl, hM10.sub s11, s11 _ _ wcr10, hL10.sub s11, hwf, by simp; omega⟩
      · rintro δ W10 ⟨y6, y7, cs, rfl, hM10, wcr10, hL10, hwf, hcl⟩
        dsimp only
        exact st_retE (B := RT Q) (e_town (ev_var rfl) (ev_var rfl) wcr10) fun W11 s11 => ⟨W11, Sub.refl _, q _ cs W11 (hM10.sub s11) hwf (by omega)⟩
end A30
namespace A30
open PySem PySem.Spec PyProof.Rows L2 DL
theorem if_join {p : FT} {t u : FS} {B : DE} {δ : DL.Env} {W : DW} (P : DW → Prop) (h : ∀ B' : DE, (∀ W', P W' → B'.nx δ W') → p δ W fun k W1 => if k = true then t B' δ W1 else u B' δ W1) (hB : ∀ W', P W' → B.nx δ W') : sIf p t u B δ W := h B hB
theorem asgP {f : FE} {g : FG} {B : DE} {δ : DL.Env} {W : DW} (h : f δ W fun x W1 => g x δ W1 B.nx) : sAsg f g B δ W := h
theorem binP {F : R2D} {f g : FE} {δ : DL.Env} {W : DW} {Q : DK} (h : f δ W fun x W1 => g δ W1 fun y W2 => F x y W2 Q) : fBin F f g δ W Q := h
theorem lcP {fi : FI} {g : FG} {tt : FT} {te : FE} {vs : List Nat} {δ : DL.Env} {W : DW} {Q : DK} (h : fi δ W fun xs keep W1 => ∀ p, W1 p = none → lcD keep g tt te p vs (fun W2 => Q (.ref p) W2) xs δ (wup W1 p (.lst []))) : fLc fi g tt te vs δ W Q := h
theorem len__law_strict_town : ∀ ds W Q, sp__law_strict_town ds W Q → ds.length = 2 := fun ds W Q ⟨s, c, m, e, _⟩ => by rw [e]; rfl
theorem body__law_strict_town : ∀ ds W Q, sp__law_strict_town ds W Q → f__law_strict_town (RT Q) (startD ["source", "most", "n", "lots", "crossings", "length", "q", "lot", "ways", "one", "others", "pairs", "i", "j"] ds) W := by
  rintro ds W Q ⟨s, c, m, rfl, hS, hm2, hm4, q⟩
  unfold f__law_strict_town
  refine seqP ?_
  refine consP (add_pick (m := min 3 (m - 1)) hS ev_c (fun W1 s1 => ev_var rfl) (fun W1 s1 => ev_b1 (eva_cons ev_c (eva_cons (ev_bin (ev_var (d := .int m) rfl) ev_c evo_ii) eva_nil)) evb_min2) (by omega) fun v1 W1 hM1 hv0 hv1 => ?_)
  have hv1 : 0 ≤ v1 ∧ v1 ≤ 2 := by
    by_cases h : min 3 (m - 1) < 2
    · have := hv0 h; omega
    · have := hv1 (by omega); omega
  refine consP ?_
  refine (ev_lots (δ := startD ["source", "most", "n", "lots", "crossings", "length", "q", "lot", "ways", "one", "others", "pairs", "i", "j"] [.ref s, .int m]) (W := W1) (evns_cons (evns_cons evns_nil)) (by omega)).run fun d W2 s2 hd => ?_
  obtain ⟨p, rs, rfl, hL, hrl⟩ := hd
  have hL := hL.downM hM1 hS
  have hM2 := hM1.sub s2
  refine consP ((ev_lst (δ := startD ["source", "most", "n", "lots", "crossings", "length", "q", "lot", "ways", "one", "others", "pairs", "i", "j"] [.ref s, .int m]) (W := W2) eva_nil (sz 0)).runN fun cr W3 s3 hcr wcr => ?_)
  have hcrp : cr ≠ p := fun e => by have := hL.at_; rw [← e, hcr] at this; cases this
  have hcrr : cr ∉ rs := fun e => by have := hL.in_ cr e; rw [hcr] at this; cases this
  have hcrW : W cr = none := hM2.none hS hcr
  have hcrn := hS.ne hcrW
  have hM3 := hM2.sub s3
  have hL3 := hL.sub s3
  refine ⟨_, _, _, rfl, ?_⟩
  dsimp only
  refine seqP (st_asgP (add_pick (hM3.2 hS) ev_c (fun W4 s4 => ev_var rfl) (fun W4 s4 => ev_c) (by omega) fun v2 W4 hM4 _ hv2 => ?_))
  have hv2 := hv2 (by omega)
  have hL4 := hL3.mv hS hM4
  have wcr4 := hM4.at hcrn wcr
  have hM4 := hM3.trans hM4
  generalize hnn : 2 + v1 = n at *
  generalize hll : 4 + v2 = l at *
  have hn : ((n.toNat : Nat) : Int) = n := by omega
  dsimp only
  refine seqP (forP (rng_run (n := n.toNat) (by rw [hn]; exact ev_var rfl) (by omega) fun W5 s5 => ?_))
  refine loop_acc (enc := fun k : Nat => D.int (k : Int)) (ys := List.range n.toNat) (fun done δ W' => ∃ (x6 : Option D) (f : Addr → List Int), δ = [some (.ref s), some (.int m), some (.int n), some (.ref p), some (.ref cr), some (.int l), x6, none, none, none, none, none, none, none] ∧ Mv s c W W' ∧ W' cr = some (.lst []) ∧ Lots W W' p rs f ∧ ∀ a ∈ rs, (f a).length ≤ done.length)
    (fun _ _ _ _ => trivial) ?_ ?_ _ [] _ W5 rfl ⟨none, _, rfl, hM4.sub s5, s5 _ _ wcr4, hL4.sub s5, by simp⟩
  · rintro done k rest δ W8 N e ⟨x6, f, rfl, hM8, wcr8, hL8, hf⟩ hN
    refine ⟨_, rfl, cnt_run (hM8.2 hS) (ev_var rfl) (by omega) fun b W9 hM9 => ?_⟩
    have hL9 := hL8.mv hS hM9
    obtain ⟨a, ha, hix⟩ := lots_ix (v := if b then 1 else 0) hL9.at_ (by cases b <;> simp) (by rw [hrl]; cases b <;> simp)
    refine ⟨_, hix, ⟨a, _, rfl, hL9.in_ a ha⟩, _, rfl, a, _, _, rfl, rfl, hL9.in_ a ha, ?_, ?_⟩
    · have h1 := hf a ha
      have h2 : done.length < n.toNat := by have := congrArg List.length e; simp at this; omega
      rw [List.length_map]
      have := sizeLine_eq
      omega
    · refine hN _ _ ⟨some (.int k), _, rfl, (hM8.trans hM9).own (hL9.r0 a ha) (hS.ne (hL9.r0 a ha)), ?_, hL9.push ha k, fun b hb => ?_⟩
      · rw [wup_ne (fun e => hcrr (by rw [e]; exact ha))]
        exact hM9.at hcrn wcr8
      · have h1 := hf a ha
        have h2 := hf b hb
        split
        · simp; omega
        · simp; omega
  · rintro δ W8 ⟨x6, f, rfl, hM8, wcr8, hL8, hf⟩
    rw [List.length_range] at hf
    dsimp only
    refine seqP (forP ((ev_lcF (enc := D.ref) (ys := rs) (fun a => !(f a).isEmpty) D.ref (evi_seq (d := .ref p) (ev_var rfl) (by simp only [seqD]; rw [hL8.at_])).i (fun a ha => ⟨_, fun _ _ h => h, evt_b (ev_neNil (ev_var rfl) (hL8.in_ a ha)), fun _ => ev_var rfl⟩) (sz _ (by omega))).runN fun fl W9 s9 hfl wfl => ?_))
    have hflW : W fl = none := hM8.none hS hfl
    have hfln := hS.ne hflW
    have hflp : cr ≠ fl := fun e => by rw [e] at wcr8; rw [wcr8] at hfl; cases hfl
    have hfr := List.length_filter_le (fun a => !(f a).isEmpty) rs
    refine ⟨_, by simp only [seqD]; rw [wfl], ?_⟩
    refine loop_acc (enc := D.ref) (ys := rs.filter fun a => !(f a).isEmpty) (fun done δ W' => ∃ (x6 x7 x8 x10 x11 x12 : Option D) (cs : List Cr), δ = [some (.ref s), some (.int m), some (.int n), some (.ref p), some (.ref cr), some (.int l), x6, x7, x8, none, x10, x11, x12, none] ∧ Mv s c W W' ∧ W' cr = some (.lst (cs.map Cr.enc)) ∧ Lots W W' p rs f ∧ (∀ y ∈ cs, Wf y) ∧ cs.length ≤ done.length ∧ W' fl = some (.lst ((rs.filter fun a => !(f a).isEmpty).map D.ref)))
      (fun done δ W' ⟨_, _, _, _, _, _, _, _, _, _, _, _, _, h⟩ => h) ?_ ?_ _ [] _ W9 rfl ⟨x6, none, none, none, none, none, [], rfl, hM8.sub s9, s9 _ _ wcr8, hL8.sub s9, by simp, by simp, wfl⟩
    · rintro done a rest δ W10 N e ⟨y6, y7, y8, y10, y11, y12, cs, rfl, hM10, wcr10, hL10, hwf, hcl, wfl10⟩ hN
      have ham : a ∈ rs.filter fun a => !(f a).isEmpty := by rw [e]; simp
      obtain ⟨ha, hfa⟩ := List.mem_filter.mp ham
      have hdl : done.length < (rs.filter fun a => !(f a).isEmpty).length := by rw [e]; simp
      have haW := hL10.r0 a ha
      have han := hS.ne haW
      have hfl4 := hf a ha
      have hf0 : f a ≠ [] := fun z => by rw [z] at hfa; cases hfa
      show sSeq _ _ _ [some (.ref s), some (.int m), some (.int n), some (.ref p), some (.ref cr), some (.int l), y6, some (.ref a), y8, none, y10, y11, y12, none] W10
      -- ways, q
      refine seqP (asgP (tupP (consP ?_)))
      refine (ev_lcM (enc := D.int) (ys := f a) (fun i => encM (i, none)) (evi_seq (d := .ref a) (ev_var rfl) (by simp only [seqD]; rw [hL10.in_ a ha])).i (fun i hi => ⟨_, fun _ _ h => h, tup2 (ev_var rfl) ev_c⟩) (sz _ (by omega))).runN fun wy W11 s11 hwy wwy => ?_
      have hM11 := hM10.sub s11
      have hwyW : W wy = none := hM10.none hS hwy
      have hwyn := hS.ne hwyW
      have hwyc : cr ≠ wy := fun e => by rw [e] at wcr10; rw [wcr10] at hwy; cases hwy
      have hwyf : fl ≠ wy := fun e => by rw [e] at wfl10; rw [wfl10] at hwy; cases hwy
      have hwyp : wy ≠ p := fun e => by have := hL10.at_; rw [← e, hwy] at this; cases this
      have hwyr : wy ∉ rs := fun e => by have := hL10.in_ wy e; rw [hwy] at this; cases this
      have hL11 := hL10.sub s11
      refine consP (ix_pick (hM11.2 hS) (fun W7 s7 => ev_var rfl) (fun W7 s7 => ev_var rfl) (hL11.in_ a ha) han (by simpa using hf0) (by simp; omega) (fun W7 s7 => ev_var rfl) fun y W12 hy hM12 => ?_)
      obtain ⟨qv, hqv, rfl⟩ := List.mem_map.mp hy
      have hL12 := hL11.mv hS hM12
      have wwy12 := hM12.at hwyn wwy
      have wcr12 := hM12.at hcrn (s11 _ _ wcr10)
      have wfl12 := hM12.at hfln (s11 _ _ wfl10)
      have hM12 := hM11.trans hM12
      refine ⟨sz 2, gtp2 ?_⟩
      -- others
      dsimp only
      refine seqP (st_asgN (ev_lcF (enc := fun k : Nat => D.int (k : Int)) (ys := List.range n.toNat) (fun k : Nat => !decide (((k : Nat) : Int) = qv)) (fun k : Nat => D.int (k : Int)) (evi_rng (n := n.toNat) (by rw [hn]; exact ev_var rfl) (by omega)).i (fun k hk => ⟨_, fun _ _ h => h, evt_b (ev_neI (ev_var rfl) (ev_var rfl)), fun _ => ev_var rfl⟩) (sz _ (by simp; omega))) fun ot W13 s13 hot wot => ?_)
      have hot0 : ((List.range n.toNat).filter fun k : Nat => !decide (((k : Nat) : Int) = qv)).map (fun k : Nat => D.int (k : Int)) ≠ [] := by
        intro z
        rw [List.map_eq_nil_iff, List.filter_eq_nil_iff] at z
        have z0 := z 0 (List.mem_range.mpr (by omega))
        have z1 := z 1 (List.mem_range.mpr (by omega))
        simp at z0 z1
        omega
      have hotl : (((List.range n.toNat).filter fun k : Nat => !decide (((k : Nat) : Int) = qv)).map (fun k : Nat => D.int (k : Int))).length ≤ 1000 := by
        rw [List.length_map]
        have := List.length_filter_le (fun k : Nat => !decide (((k : Nat) : Int) = qv)) (List.range n.toNat)
        simp at this
        omega
      have hotel : ∀ y ∈ ((List.range n.toNat).filter fun k : Nat => !decide (((k : Nat) : Int) = qv)).map (fun k : Nat => D.int (k : Int)), ∃ v, y = D.int v := fun y hy => by
        obtain ⟨k, _, rfl⟩ := List.mem_map.mp hy
        exact ⟨_, rfl⟩
      generalize (((List.range n.toNat).filter fun k : Nat => !decide (((k : Nat) : Int) = qv)).map (fun k : Nat => D.int (k : Int))) = os at *
      have hotW : W ot = none := hM12.none hS hot
      have hotn := hS.ne hotW
      have hM13 := hM12.sub s13
      have hL13 := hL12.sub s13
      dsimp only
      refine seqP (if_join (fun W' => ∃ L : List Mm, Mv s c W W' ∧ W' wy = some (.lst (L.map encM)) ∧ 1 ≤ L.length ∧ L.length ≤ 4 ∧ W' cr = some (.lst (cs.map Cr.enc)) ∧ Lots W W' p rs f ∧ W' fl = some (.lst ((rs.filter fun a => !(f a).isEmpty).map D.ref))) ?_ ?_)
      · intro B' hB'
        have wwy13 := s13 _ _ wwy12
        have wwy13 : W13 wy = some (.lst (((f a).map fun i => ((i, none) : Mm)).map encM)) := by rw [wwy13, List.map_map]; rfl
        have hpos := List.length_pos_iff.mpr hf0
        have base : ∀ W', Mv s c W13 W' → B'.nx _ W' := fun W' hM' => hB' W' ⟨(f a).map fun i => ((i, none) : Mm), hM13.trans hM', hM'.at hwyn wwy13, by rw [List.length_map]; omega, by rw [List.length_map]; omega, hM'.at hcrn (s13 _ _ wcr12), hL13.mv hS hM', hM'.at hfln (s13 _ _ wfl12)⟩
        refine pick_eq0 (hM13.2 hS) (ev_var rfl) (by omega) fun b W14 hM14 => ?_
        cases b with
        | false => exact base W14 hM14
        | true =>
          simp only [↓reduceIte]
          have wwy14 := hM14.at hwyn wwy13
          refine (evt_b (ev_bin (ev_len (d := .ref wy) (n := (f a).length) (ev_var rfl) (by simp only [lenD]; rw [wwy14]; simp)) ev_c evo_ii)).run fun W15 s15 => ?_
          have hM15 := hM14.sub s15
          by_cases h4 : decide (((f a).length : Int) < 4) = true
          · rw [if_pos h4]
            have h4 := of_decide_eq_true h4
            have wwy15 := s15 _ _ wwy14
            refine ⟨_, rfl, ⟨wy, _, rfl, wwy15⟩, consP (tupP (consP ⟨_, rfl, consP ?_⟩))⟩
            refine ix_pick ((hM13.trans hM15).2 hS) (fun W7 s7 => ev_var rfl) (fun W7 s7 => ev_var rfl) (hM15.at hotn wot) hotn hot0 hotl (fun W7 s7 => ev_var rfl) fun y W16 hy hM16 => ?_
            obtain ⟨v, rfl⟩ := hotel y hy
            have hM16' := hM15.trans hM16
            refine ⟨sz 2, wy, _, _, rfl, rfl, hM16.at hwyn wwy15, by simp; exact Nat.lt_of_lt_of_le (show (f a).length < 8 by omega) (sz 8), ?_⟩
            exact hB' _ ⟨((f a).map fun i => ((i, none) : Mm)) ++ [(qv, some v)], (hM13.trans hM16').own hwyW hwyn, by rw [wup_same]; simp; rfl, by simp, by simp; omega, by rw [wup_ne hwyc]; exact hM16'.at hcrn (s13 _ _ wcr12), (hL13.mv hS hM16').other hwyp hwyr, by rw [wup_ne hwyf]; exact hM16'.at hfln (s13 _ _ wfl12)⟩
          · rw [if_neg h4]
            exact base W15 hM15
      · rintro W14 ⟨L, hM14, wwy14, hL1, hL4, wcr14, hLL14, wfl14⟩
        dsimp only
        refine seqP (st_asgN (ev_lst eva_nil (sz 0)) fun pr W15 s15 hpr wpr => ?_)
        have hM15 := hM14.sub s15
        have hprW := hM14.none hS hpr
        dsimp only
        refine seqP (forP (rng_run (n := L.length) (ev_len (d := .ref wy) (ev_var rfl) (by simp only [lenD]; rw [s15 _ _ wwy14]; simp)) (by omega) fun W16 s16 => ?_))
        refine loop_acc (enc := fun k : Nat => D.int (k : Int)) (ys := List.range L.length) (fun dn δ W' => ∃ (x12 : Option D) (pr : Addr) (cp : List (Int × Int × Int × Int)), δ = [some (.ref s), some (.int m), some (.int n), some (.ref p), some (.ref cr), some (.int l), some (.int qv), some (.ref a), some (.ref wy), none, some (.ref ot), some (.ref pr), x12, none] ∧ Mv s c W W' ∧ W' wy = some (.lst (L.map encM)) ∧ W' pr = some (.lst (cp.map encR)) ∧ W pr = none ∧ (∀ r ∈ cp, RowOk L.length r) ∧ cp.length ≤ 4 * dn.length ∧ W' cr = some (.lst (cs.map Cr.enc)) ∧ Lots W W' p rs f ∧ W' fl = some (.lst ((rs.filter fun a => !(f a).isEmpty).map D.ref)))
          (fun _ _ _ _ => trivial) ?_ ?_ _ [] _ W16 rfl ⟨y12, pr, [], rfl, hM15.sub s16, s16 _ _ (s15 _ _ wwy14), s16 _ _ wpr, hprW, by simp, by simp, s16 _ _ (s15 _ _ wcr14), hLL14.sub (s15.trans s16), s16 _ _ (s15 _ _ wfl14)⟩
        · rintro dn i rs2 δ W17 N2 e2 ⟨z12, pr, cp, rfl, hM17, wwy17, wpr17, hpr0, hrow, hcpl, wcr17, hLL17, wfl17⟩ hN2
          obtain ⟨e3, e4⟩ := range_split e2
          have hdn : dn.length = i := by rw [e3]; simp
          have hprn := hS.ne hpr0
          show sAsg _ _ _ [some (.ref s), some (.int m), some (.int n), some (.ref p), some (.ref cr), some (.int l), some (.int qv), some (.ref a), some (.ref wy), none, some (.ref ot), some (.ref pr), some (.int i), none] W17
          refine asgP (binP ⟨_, rfl, lcP ?_⟩)
          refine rng2_run (m := (i : Int) + 1) (n := (L.length : Nat)) (ev_bin (ev_var rfl) ev_c evo_addI) (ev_len (d := .ref wy) (ev_var rfl) (by simp only [lenD]; rw [wwy17]; simp)) (by omega) fun W18 s18 pc hpc => ?_
          have hM18 := hM17.sub s18
          have hpcW := hM18.none hS hpc
          have hpcn := hS.ne hpcW
          have nne : ∀ {z : Addr} {o : DO}, W17 z = some o → z ≠ pc := fun hz e => by have := s18 _ _ hz; rw [e, hpc] at this; cases this
          have hpcp : pc ≠ p := fun e => nne hLL17.at_ e.symm
          have hpcr : pc ∉ rs := fun e => nne (hLL17.in_ pc e) rfl
          refine lc_acc (enc := fun k : Nat => D.int ((i : Int) + 1 + (k : Nat))) (ys := List.range (((L.length : Nat) : Int) - ((i : Int) + 1)).toNat) (fun d3 W' => ∃ cq : List (Int × Int × Int × Int), Mv s c W W' ∧ W' wy = some (.lst (L.map encM)) ∧ W' pr = some (.lst (cp.map encR)) ∧ W' pc = some (.lst (cq.map encR)) ∧ (∀ r ∈ cq, RowOk L.length r) ∧ cq.length ≤ d3.length ∧ W' cr = some (.lst (cs.map Cr.enc)) ∧ Lots W W' p rs f ∧ W' fl = some (.lst ((rs.filter fun a => !(f a).isEmpty).map D.ref)))
            (fun _ _ _ => trivial) ?_ ?_ _ [] _ rfl ⟨[], hM18.own hpcW hpcn, by rw [wup_ne (nne wwy17)]; exact s18 _ _ wwy17, by rw [wup_ne (nne wpr17)]; exact s18 _ _ wpr17, wup_same, by simp, by simp, by rw [wup_ne (nne wcr17)]; exact s18 _ _ wcr17, (hLL17.sub s18).other hpcp hpcr, by rw [wup_ne (nne wfl17)]; exact s18 _ _ wfl17⟩
          · rintro d3 k r3 W19 N3 e5 ⟨cq, hM19, wwy19, wpr19, wpc19, hrow19, hcql, wcr19, hLL19, wfl19⟩ hN3
            obtain ⟨e6, e7⟩ := range_split e5
            refine pick_gt0 (δ := [some (.ref s), some (.int m), some (.int n), some (.ref p), some (.ref cr), some (.int l), some (.int qv), some (.ref a), some (.ref wy), none, some (.ref ot), some (.ref pr), some (.int i), some (.int ((i : Int) + 1 + (k : Nat)))]) (hM19.2 hS) (ev_var rfl) (by omega) fun b W20 hM20 => ?_
            have hM20' := hM19.trans hM20
            cases b with
            | false => exact hN3 _ ⟨cq, hM20', hM20.at hwyn wwy19, hM20.at hprn wpr19, hM20.at hpcn wpc19, hrow19, by simp; omega, hM20.at hcrn wcr19, hLL19.mv hS hM20, hM20.at hfln wfl19⟩
            | true =>
              simp only [↓reduceIte]
              refine (ev_tup (eva_cons (ev_var (d := .int i) rfl) (eva_cons (ev_var (d := .int ((i : Int) + 1 + (k : Nat))) rfl) (eva_cons (ev_c (d := .int 1)) (eva_cons (ev_c (d := .int 1)) eva_nil)))) (sz 4)).runI fun W21 s21 => ?_
              have hM21 := hM20.sub s21
              refine ⟨_, hM21.at hpcn wpc19, by simp; exact Nat.lt_of_lt_of_le (show cq.length < 100 by have := congrArg List.length e5; simp at this; omega) (sz 100), ?_⟩
              refine hN3 _ ⟨cq ++ [((i : Int), (i : Int) + 1 + (k : Nat), 1, 1)], (hM19.trans hM21).own hpcW hpcn, by rw [wup_ne (nne wwy17)]; exact hM21.at hwyn wwy19, by rw [wup_ne (nne wpr17)]; exact hM21.at hprn wpr19, by rw [wup_same, List.map_append]; rfl, fun r hr => ?_, by simp; omega, by rw [wup_ne (nne wcr17)]; exact hM21.at hcrn wcr19, (hLL19.mv hS hM21).other hpcp hpcr, by rw [wup_ne (nne wfl17)]; exact hM21.at hfln wfl19⟩
              rcases List.mem_append.mp hr with hr | hr
              · exact hrow19 r hr
              · simp at hr
                subst hr
                unfold RowOk
                simp only
                omega
          · rintro W19 ⟨cq, hM19, wwy19, wpr19, wpc19, hrow19, hcql, wcr19, hLL19, wfl19⟩
            simp at hcql
            refine ⟨_, _, wpr19, wpc19, by simp only [List.length_map]; exact sz _ (by omega), fun p2 hp2 => ?_⟩
            have hp2W := hM19.none hS hp2
            have nne2 : ∀ {z : Addr} {o : DO}, W19 z = some o → z ≠ p2 := fun hz e => by rw [e, hp2] at hz; cases hz
            refine hN2 _ _ ⟨some (.int i), p2, cp ++ cq, rfl, hM19.own hp2W (hS.ne hp2W), by rw [wup_ne (nne2 wwy19)]; exact wwy19, by rw [wup_same, List.map_append], hp2W, fun r hr => ?_, by simp; omega, by rw [wup_ne (nne2 wcr19)]; exact wcr19, hLL19.other (fun e => nne2 hLL19.at_ e.symm) (fun e => nne2 (hLL19.in_ p2 e) rfl), by rw [wup_ne (nne2 wfl19)]; exact wfl19⟩
            rcases List.mem_append.mp hr with hr | hr
            · exact hrow r hr
            · exact hrow19 r hr
        · rintro δ W17 ⟨z12, pr, cp, rfl, hM17, wwy17, wpr17, hpr0, hrow, hcpl, wcr17, hLL17, wfl17⟩
          rw [List.length_range] at hcpl
          dsimp only
          have hwf2 : Wf ⟨L.map encM, cp, l⟩ := wf_of (by simpa using hL1) (by simpa using hL4) (by omega) (by simpa using hrow) (by omega) (by omega)
          refine st_append (d := Cr.enc ⟨L.map encM, cp, l⟩) rfl wcr17 (by simp; exact Nat.lt_of_lt_of_le (show cs.length < 8 by omega) (sz 8)) (ev_tup (eva_cons (ev_b1 (eva_cons (ev_var rfl) eva_nil) (evb_tuple (by simp only [seqD]; rw [wwy17]))) (eva_cons (ev_b1 (eva_cons (ev_var rfl) eva_nil) (evb_tuple (by simp only [seqD]; rw [wpr17]))) (eva_cons (ev_var rfl) eva_nil))) (sz 3)) fun W18 s18 w18 => ?_
          exact hN _ _ ⟨some (.int qv), some (.ref a), some (.ref wy), some (.ref ot), some (.ref pr), z12, cs ++ [⟨L.map encM, cp, l⟩], rfl, (hM17.sub s18).own hcrW hcrn, by rw [wup_same]; simp, (hLL17.sub s18).other hcrp hcrr, fun z hz => by
            rcases List.mem_append.mp hz with hz | hz
            · exact hwf z hz
            · simp at hz; subst hz; exact hwf2, by simp; omega, by rw [wup_ne hflp.symm]; exact s18 _ _ wfl17⟩
    · rintro δ W10 ⟨y6, y7, y8, y10, y11, y12, cs, rfl, hM10, wcr10, hL10, hwf, hcl, wfl10⟩
      dsimp only
      exact st_retE (B := RT Q) (e_town (ev_var rfl) (ev_var rfl) wcr10) fun W11 s11 => ⟨W11, Sub.refl _, q _ cs W11 (hM10.sub s11) hwf (by omega)⟩
end A30
namespace A30
open PySem PySem.Spec PyProof.Rows L2 DL
/-! ### texts of faults -/
theorem strOk_app (a b : Str) : PyData.strOk (a ++ b) = (PyData.strOk a && PyData.strOk b) := by
  show (a.cps ++ b.cps).all _ = _
  rw [Array.all_append]
  rfl
theorem len_app (a b : Str) : (a ++ b).length = a.length + b.length := Array.size_append
theorem int_text : ∀ t < 64, PyData.strOk (PyData.shown (.int (t : Nat))) = true ∧ (PyData.shown (.int (t : Nat))).length ≤ 3 := by decide +kernel
def pyF (s : Str) (t i j : Int) : PyData := .tuple [.str s, .int t, .int i, .int j]
theorem shown4 (s : Str) (t i j : Int) : (pyF s t i j).shown = ("(" : Str) ++ (PyData.shown (.str s) ++ ", " ++ (PyData.shown (.int t) ++ ", " ++ (PyData.shown (.int i) ++ ", " ++ PyData.shown (.int j)))) ++ ((")" : String) : Str) := rfl
structure Showy (y : PyData) : Prop where
  s1 : y.showable = true
  s2 : y.hasDict = false
  s3 : y.depth ≤ 60
  s4 : y.shown.length ≤ sizeLine
  s5 : PyData.strOk y.shown = true
theorem showy4 {s : Str} (hs : PyData.strOk (PyData.shown (.str s)) = true) (hl : (PyData.shown (.str s)).length ≤ 20) {t i j : Int} (ht : 0 ≤ t ∧ t < 64) (hi : 0 ≤ i ∧ i < 64) (hj : 0 ≤ j ∧ j < 64) (hs1 : PyData.showable (.str s) = true) : Showy (pyF s t i j) := by
  obtain ⟨a1, a2⟩ := int_text t.toNat (by omega)
  obtain ⟨b1, b2⟩ := int_text i.toNat (by omega)
  obtain ⟨c1, c2⟩ := int_text j.toNat (by omega)
  rw [show ((t.toNat : Nat) : Int) = t by omega] at a1 a2
  rw [show ((i.toNat : Nat) : Int) = i by omega] at b1 b2
  rw [show ((j.toNat : Nat) : Int) = j by omega] at c1 c2
  have e1 : PyData.strOk ("(" : Str) = true := by decide +kernel
  have e2 : PyData.strOk (", " : Str) = true := by decide +kernel
  have e3 : PyData.strOk ((")" : String) : Str) = true := by decide +kernel
  have l1 : ("(" : Str).length = 1 := rfl
  have l2 : (", " : Str).length = 2 := rfl
  have l3 : ((")" : String) : Str).length = 1 := rfl
  refine ⟨?_, ?_, ?_, ?_, ?_⟩
  · unfold pyF
    simp only [PyData.showable, PyData.showableAll] at hs1 ⊢
    simp [hs1]
    have h1 := Nat.log2_le_self t.natAbs
    have h2 := Nat.log2_le_self i.natAbs
    have h3 := Nat.log2_le_self j.natAbs
    omega
  · unfold pyF
    simp [PyData.hasDict, PyData.hasDictAll]
  · unfold pyF
    simp [PyData.depth, PyData.depthAll]
  · rw [shown4]
    simp only [len_app, l1, l2, l3]
    have := sizeLine_eq
    omega
  · rw [shown4]
    simp only [strOk_app, hs, a1, b1, c1, e1, e2, e3]
    rfl
theorem showyN : Showy .none := ⟨by decide +kernel, by decide +kernel, by decide +kernel, by decide +kernel, by decide +kernel⟩
/-- the fault as data -/
theorem fault_py {c : Cr} (w : Wf c) {rows : Rws} (hr : RowsOk c rows) (hl : rows.length ≤ 64) (W : DW) : ∃ y, Py W (c.fault rows) y ∧ Showy y := by
  have hn := w.n4
  have hrow : ∀ {t x}, x ∈ row rows t → 0 ≤ x ∧ x < 64 := fun {t x} h => by
    have := (row_ok hr t).2 x h
    unfold Cr.n at this
    omega
  unfold Cr.fault
  cases h1 : (List.range rows.length).findSome? (c.crossT rows) with
  | some d =>
    obtain ⟨t, ht, e⟩ := List.exists_of_findSome?_eq_some h1
    unfold Cr.crossT at e
    obtain ⟨p, hp, rfl⟩ := Option.map_eq_some_iff.mp e
    unfold Cr.crossR at hp
    obtain ⟨i, hi, e2⟩ := List.exists_of_findSome?_eq_some hp
    unfold Cr.cross1 at e2
    obtain ⟨j, hj, e3⟩ := List.exists_of_findSome?_eq_some e2
    split at e3
    · cases e3
      have := List.mem_range.mp ht
      exact ⟨pyF "crossed" t i j, .tup (.cons (.str _) (.cons (.int _) (.cons (.int _) (.cons (.int _) .nil)))), showy4 (by decide +kernel) (by decide +kernel) (by omega) (hrow hi) (hrow hj) (by decide +kernel)⟩
    · cases e3
  | none =>
    cases h2 : (List.range rows.length).findSome? (c.earlyT rows) with
    | none => exact ⟨.none, .non, showyN⟩
    | some d =>
      obtain ⟨t, ht, e⟩ := List.exists_of_findSome?_eq_some h2
      unfold Cr.earlyT at e
      obtain ⟨p, hp, rfl⟩ := Option.map_eq_some_iff.mp e
      unfold Cr.earlyR at hp
      obtain ⟨i, hi, e2⟩ := List.exists_of_findSome?_eq_some hp
      unfold Cr.earlyL at e2
      obtain ⟨j, hj, e3⟩ := List.exists_of_findSome?_eq_some e2
      have hi := mem_rng.mp hi
      unfold Cr.n at hi
      split at e3
      · cases e3
        have := List.mem_range.mp ht
        exact ⟨pyF "early" t i j, .tup (.cons (.str _) (.cons (.int _) (.cons (.int _) (.cons (.int _) .nil)))), showy4 (by decide +kernel) (by decide +kernel) (by omega) (by omega) (hrow hj) (by decide +kernel)⟩
      · cases e3
/-! ### equal lists -/
theorem neT {W : DW} {p q : Addr} {l : Rws} (h1 : W p = some (.lst (l.map tupI))) (h2 : W q = some (.lst (l.map tupI))) {Q : DK} (k : Q (.bl false) W) : pNe (.ref p) (.ref q) W Q :=
  ⟨_, _, .lst h1 (pys_map py_tupI l), .lst h2 (pys_map py_tupI l), shaped_encTs l, shaped_encTs l, by
    simp only [PyData.eqv]
    rw [eqvAll_map eqv_encT]
    simpa using k⟩
theorem neI {W : DW} {p q : Addr} {l : List Int} (h1 : W p = some (.lst (l.map D.int))) (h2 : W q = some (.lst (l.map D.int))) {Q : DK} (k : Q (.bl false) W) : pNe (.ref p) (.ref q) W Q :=
  ⟨_, _, .lst h1 (pys_map (fun i => .int i) l), .lst h2 (pys_map (fun i => .int i) l), shaped_intsL l, shaped_intsL l, by
    simp only [PyData.eqv]
    rw [eqvAll_map eqv_int]
    simpa using k⟩
theorem ev_neNN {f g : FE} {δ : DL.Env} {W : DW} {l : List Int} (ha : Ev f δ W (New (l.map D.int))) (hb : Ev g δ W (New (l.map D.int))) : Ev (fBin pNe f g) δ W (Is (.bl false)) :=
  ev_bin2 ha hb fun x y W1 W2 W3 s1 s2 s3 i j Q k => by
    obtain ⟨a, rfl, h1, h2⟩ := i
    obtain ⟨b, rfl, h3, h4⟩ := j
    exact neI (s3 _ _ h2) h4 (k _ W3 (Sub.refl _) rfl)
theorem ev_neNR {f g : FE} {δ : DL.Env} {W : DW} {l : Rws} {p : Addr} (ha : Ev f δ W (New (l.map tupI))) (hb : Ev g δ W (Is (.ref p))) (w : W p = some (.lst (l.map tupI))) : Ev (fBin pNe f g) δ W (Is (.bl false)) :=
  ev_bin2 ha hb fun x y W1 W2 W3 s1 s2 s3 i j Q k => by
    obtain ⟨a, rfl, h1, h2⟩ := i
    rw [show y = D.ref p from j]
    exact neT (s3 _ _ h2) (s3 _ _ (s2 _ _ (s1 _ _ w))) (k _ W3 (Sub.refl _) rfl)
theorem ev_callN2 {f g : FE} {δ : DL.Env} {W : DW} {sp : SpD} {d : D} {xs : List D} {R : RW3} (hf : Ev f δ W (Is d)) (h : Ev g δ W (New xs)) (hs : ∀ p W1, W1 p = some (.lst xs) → EvB sp [d, .ref p] W1 R) (hR : RM R := by first | exact rm_is | exact rm_new) : Ev (fCall sp (fCons f (fCons g fNil))) δ W R := fun W1 Q s k =>
  hf W1 _ s fun y W2 s2 j => by
    rw [show y = d from j]
    refine h W2 _ (s.trans s2) fun x W3 s3 i => ?_
    obtain ⟨p, rfl, h1, h2⟩ := i
    exact hs p W3 h2 W3 Q (Sub.refl _) fun z W4 s4 l => k z W4 (s2.trans (s3.trans s4)) (hR _ _ _ _ (s2.trans s3) l)
/-! ### slices -/
theorem ev_cutR {f g : FE} {δ : DL.Env} {W : DW} {p : Addr} {xs : List D} {n : Nat} (h : Ev f δ W (Is (.ref p))) (w : W p = some (.lst xs)) (hg : Ev g δ W (Is (.int n))) : Ev (fSl f fNoPart (fPart g)) δ W (New (xs.take n)) := fun W1 Q s k => h W1 _ s fun x W2 s2 i => by
  rw [show x = D.ref p from i]
  refine hg W2 _ (s.trans s2) fun y W3 s3 j => ?_
  rw [show y = D.int n from j]
  refine ⟨xs, s3 _ _ (s2 _ _ (s _ _ w)), fun r hr => ?_⟩
  have e : DL.cutD xs none (some ((n : Nat) : Int)) = xs.take n := by
    unfold DL.cutD
    rw [HT.sIx_nat]
    show (xs.drop 0).take (min n xs.length - 0) = _
    rw [List.drop_zero, Nat.sub_zero, ← List.take_take, List.take_length]
  rw [e]
  exact k _ _ ((s2.trans s3).new ((s2.trans s3).none hr)) ⟨r, rfl, (s2.trans s3).none hr, wup_same⟩
theorem ev_cutL {f g : FE} {δ : DL.Env} {W : DW} {p : Addr} {xs : List D} {n : Nat} (h : Ev f δ W (Is (.ref p))) (w : W p = some (.lst xs)) (hg : Ev g δ W (Is (.int n))) : Ev (fSl f (fPart g) fNoPart) δ W (New (xs.drop n)) := fun W1 Q s k => h W1 _ s fun x W2 s2 i => by
  rw [show x = D.ref p from i]
  refine hg W2 _ (s.trans s2) fun y W3 s3 j => ?_
  rw [show y = D.int n from j]
  refine ⟨xs, s3 _ _ (s2 _ _ (s _ _ w)), fun r hr => ?_⟩
  have e : DL.cutD xs (some ((n : Nat) : Int)) none = xs.drop n := by
    unfold DL.cutD
    rw [HT.sIx_nat]
    show (xs.drop (min n xs.length)).take (xs.length - min n xs.length) = _
    by_cases hn : n ≤ xs.length
    · rw [Nat.min_eq_left hn, List.take_of_length_le (by simp)]
    · rw [Nat.min_eq_right (by omega), List.drop_of_length_le (Nat.le_refl _), List.drop_of_length_le (by omega)]
      simp
  rw [e]
  exact k _ _ ((s2.trans s3).new ((s2.trans s3).none hr)) ⟨r, rfl, (s2.trans s3).none hr, wup_same⟩
end A30
namespace A30
open PySem PySem.Spec PyProof.Rows L2 DL
theorem merge_keys : ∀ (ys : List Int) (acc : List (Key × D)) (ka : List Int), acc.map (·.1) = ka.map Sum.inl → ka.Nodup → ∃ ks : List Int, (mergeD acc (ys.map fun j => ((Sum.inl j : Key), D.int 1))).map (·.1) = ks.map Sum.inl ∧ ks.Nodup ∧ ∀ j, j ∈ ks ↔ j ∈ ka ∨ j ∈ ys
  | [], acc, ka, h, hn => ⟨ka, h, hn, by simp⟩
  | y :: ys, acc, ka, h, hn => by
    have hk := keys_put acc (.inl y) (.int 1)
    rw [h] at hk
    by_cases hm : y ∈ ka
    · rw [if_pos (List.mem_map.mpr ⟨y, hm, rfl⟩)] at hk
      obtain ⟨ks, h1, h2, h3⟩ := merge_keys ys _ ka hk hn
      exact ⟨ks, h1, h2, fun j => by
        rw [h3, List.mem_cons]
        constructor
        · rintro (h | h)
          · exact .inl h
          · exact .inr (.inr h)
        · rintro (h | h | h)
          · exact .inl h
          · subst h; exact .inl hm
          · exact .inr h⟩
    · rw [if_neg (fun z => by
        obtain ⟨j, hj, e⟩ := List.mem_map.mp z
        cases e
        exact hm hj)] at hk
      obtain ⟨ks, h1, h2, h3⟩ := merge_keys ys _ (ka ++ [y]) (by rw [hk]; simp) (by
        rw [List.nodup_append]
        exact ⟨hn, by simp, fun a ha b hb e => by simp at hb; subst hb; subst e; exact hm ha⟩)
      exact ⟨ks, h1, h2, fun j => by rw [h3]; simp [or_assoc]⟩
/-- a row with one more -/
def Spoilt (ys S : List Int) : Prop := S.Pairwise (· < ·) ∧ ∀ j, j ∈ S ↔ j ∈ ys
def NewSp (ys : List Int) : RW3 := fun _ x _ => ∃ S, x = tupI S ∧ Spoilt ys S
theorem rm_sp {ys : List Int} : RM (NewSp ys) := fun _ _ _ _ _ h => h
theorem ev_spoilt {f : FE} {δ : DL.Env} {W : DW} {ys : List Int} (h : Ev f δ W (New (ys.map fun j => D.tup [.int j, .int 1]))) (hl : ys.length ≤ 60) : Ev (fB1 bTuple (fCons (fB1 bSortA (fCons (fB1 bDictP (fCons f fNil)) fNil)) fNil)) δ W (NewSp ys) := fun W1 Q s k =>
  h W1 _ s fun x W2 s2 i => by
    obtain ⟨a, rfl, h1, h2⟩ := i
    obtain ⟨ks, e1, e2, e3⟩ := merge_keys ys [] [] rfl (by simp)
    refine ⟨a, ys.map fun j => ((Sum.inl j : Key), D.int 1), rfl, by rw [h2, List.map_map]; rfl, fun d hd => ?_⟩
    have hkl : ks.length ≤ ys.length := e2.length_le_of_subset fun j hj => ((e3 j).mp hj).resolve_left (by simp)
    refine ⟨d, rfl, .inr ⟨_, ks, wup_same, e1, by omega, fun S p hp hs hp0 => ?_⟩⟩
    refine ⟨.ref p, S.map D.int, rfl, by simp only [seqD]; rw [wup_same], ?_⟩
    refine k _ _ (((s2.new (s2.none hd)).new ?_)) ⟨S, rfl, ?_, fun j => ?_⟩
    · exact (s2.new (s2.none hd)).none hp0
    · have hnd : S.Nodup := hp.nodup_iff.mpr e2
      have := List.Pairwise.and hs hnd
      exact this.imp fun h => by omega
    · rw [hp.mem_iff, e3]
      simp
theorem spoilt_ok {c : Cr} {rows : Rws} (hr : RowsOk c rows) {t : Nat} {i : Int} (hi : 0 ≤ i ∧ i < c.n) {S : List Int} (hS : Spoilt (row rows t ++ [i]) S) : RowsOk c (rows.take t ++ [S] ++ rows.drop (t + 1)) := fun l hl => by
  rcases List.mem_append.mp hl with hl | hl
  · rcases List.mem_append.mp hl with hl | hl
    · exact hr l (List.mem_of_mem_take hl)
    · simp at hl
      subst hl
      refine ⟨hS.1, fun x hx => ?_⟩
      rcases List.mem_append.mp ((hS.2 x).mp hx) with h | h
      · exact (row_ok hr t).2 x h
      · simp at h; subst h; exact hi
  · exact hr l (List.mem_of_mem_drop hl)
section
variable {W : DW} {c : Cr} (w : Wf c)
include w
theorem e_law_lamps {a : Addr} {ps : List Plan} (h : W a = some (.lst (ps.map encP))) (hp : ∀ p ∈ ps, PlanOk c p) (hl : ps.length ≤ 5) : EvB sp__law_lamps [c.enc, .ref a] W (New ((c.rows ps).map tupI)) := fun W1 Q s k => ⟨c, a, ps, rfl, w, s _ _ h, hp, hl, fun p W2 s2 h1 h2 => k _ W2 s2 ⟨p, rfl, h1, h2⟩⟩
theorem e_lamp_rows {a : Addr} {ps : List Plan} (h : W a = some (.lst (ps.map encP))) (hp : ∀ p ∈ ps, PlanOk c p) (hl : ps.length ≤ 5) : EvB sp_lamp_rows [c.enc, .ref a] W (New ((c.rows ps).map tupI)) := fun W1 Q s k => ⟨c, a, ps, rfl, w, s _ _ h, hp, hl, fun p W2 s2 h1 h2 => k _ W2 s2 ⟨p, rfl, h1, h2⟩⟩
theorem e_law_fault {a : Addr} {rows : Rws} (h : W a = some (.lst (rows.map tupI))) (hr : RowsOk c rows) (hl : rows.length ≤ 64) : EvB sp__law_lamp_fault [c.enc, .ref a] W (Is (c.fault rows)) := fun W1 Q s k => ⟨c, a, rows, rfl, w, s _ _ h, hr, hl, k _ W1 (Sub.refl _) rfl⟩
theorem e_judge {a : Addr} {rows : Rws} (h : W a = some (.lst (rows.map tupI))) (hr : RowsOk c rows) (hl : rows.length ≤ 64) : EvB sp_judge_lamps [c.enc, .ref a] W (Is (c.fault rows)) := fun W1 Q s k => ⟨c, a, rows, rfl, w, s _ _ h, hr, hl, k _ W1 (Sub.refl _) rfl⟩
theorem e_clear_ticks {s : Int} (h1 : 0 ≤ s) (h2 : s < c.sts.length) : EvB sp_clear_ticks [c.enc, .int s] W (Is (.int (c.clg (c.st s)))) := fun W1 Q u k => ⟨c, s, rfl, w, h1, h2, k _ W1 (Sub.refl _) rfl⟩
theorem e_lamps_at {p : Plan} {t : Int} (h : PlanOk c p) : EvB sp_lamps_at [c.enc, encP p, .int t] W (Is (tupI (grIn (c.grs p) t))) := fun W1 Q u k => ⟨c, p, t, rfl, w, h, k _ W1 (Sub.refl _) rfl⟩
end
theorem evb_repr {d : D} {y : PyData} {W : DW} (h : Py W d y) (hs : Showy y) : EvB bRepr [d] W (Is (.str y.shown)) := fun W1 Q s k => ⟨d, y, rfl, h.up s, hs.s1, hs.s2, hs.s3, hs.s4, k _ W1 (Sub.refl _) rfl⟩
theorem ev_neS {f g : FE} {δ : DL.Env} {W : DW} {x : Str} (hf : Ev f δ W (Is (.str x))) (hg : Ev g δ W (Is (.str x))) (h : PyData.strOk x = true) : Ev (fBin pNe f g) δ W (Is (.bl false)) := by
  have := ev_bin hf hg (evo_ne (.str x) (.str x) (shaped_of (by simp only [PyData.canLay0]; exact h) (by simp [PyData.depth])) (shaped_of (by simp only [PyData.canLay0]; exact h) (by simp [PyData.depth])))
  simpa [PyData.eqv] using this
theorem clears_eq (c : Cr) : (List.range c.sts.length).map (fun k : Nat => c.clg (c.st k)) = c.sts.map c.clg := by
  have h := list_by_getD c.sts []
  have : c.sts.map c.clg = ((List.range c.sts.length).map fun t => c.sts.getD t []).map c.clg := by rw [h]
  rw [this, List.map_map]
  rfl
theorem len__law : True := trivial
theorem len_law : ∀ ds W Q, sp_law ds W Q → ds.length = 1 := fun ds W Q ⟨x, xs, e, _⟩ => by rw [e]; rfl
end A30
namespace A30
open PySem PySem.Spec PyProof.Rows L2 DL
/-- the frame of names of the law -/
theorem body_law : ∀ ds W Q, sp_law ds W Q → f_law (RT Q) (startD ["script", "source", "lap", "town", "crossing", "every", "s", "one", "plans", "turn", "rows", "lot", "first", "t", "i", "begin", "end", "spoilt", "j"] ds) W := by
  rintro ds W Q ⟨x, xs, rfl, hx, hnt, hl, q⟩
  unfold f_law
  refine seqP (asgP ?_)
  refine (eva_cons (ev_var (d := x) rfl) eva_nil) W _ (Sub.refl _) fun W1 s1 => ?_
  refine ⟨x, xs, rfl, seqD_sub s1 hx, hnt, hl, fun s c W2 s2 hS2 => ?_⟩
  dsimp only
  refine seqP (forP (rng_run (n := 2) ev_c (by omega) fun W3 s3 => ?_))
  refine loop_acc (enc := fun k : Nat => D.int (k : Int)) (ys := List.range 2) (fun done δ W' => (∃ x2 x3 x4 x5 x8 x9 x10 x12 x13 x14 x17 : Option D, δ = [some x, some (.ref s), x2, x3, x4, x5, none, none, x8, x9, x10, none, x12, x13, x14, none, none, x17, none]) ∧ Src s c W')
    (fun _ _ _ _ => trivial) ?_ ?_ _ [] _ W3 rfl ⟨⟨none, none, none, none, none, none, none, none, none, none, none, rfl⟩, hS2.up s3⟩
  · rintro done lap rest δ W4 N e ⟨⟨x2, x3, x4, x5, x8, x9, x10, x12, x13, x14, x17, rfl⟩, hS4⟩ hN
    show sSeq _ _ _ [some x, some (.ref s), some (.int lap), x3, x4, x5, none, none, x8, x9, x10, none, x12, x13, x14, none, none, x17, none] W4
    refine seqP (asgP ?_)
    refine (eva_cons (ev_var (d := .ref s) rfl) (eva_cons (ev_c (d := .int 4)) eva_nil)) W4 _ (Sub.refl _) fun W5 s5 => ?_
    refine ⟨s, c, 4, rfl, hS4.up s5, by omega, by omega, fun n cs W6 hM6 hwf hcl => ?_⟩
    have hS6 := hM6.2 (hS4.up s5)
    dsimp only
    refine forP (seq_run (d := .tup (cs.map Cr.enc)) (ev_bin (ev_var (d := encTown n cs) rfl) ev_c (evo_ix rfl)) rfl fun W7 s7 => ?_)
    refine loop_acc (enc := Cr.enc) (ys := cs) (fun done δ W' => (∃ x4 x5 x8 x9 x10 x12 x13 x14 x17 : Option D, δ = [some x, some (.ref s), some (.int lap), some (encTown n cs), x4, x5, none, none, x8, x9, x10, none, x12, x13, x14, none, none, x17, none]) ∧ Src s c W')
      (fun _ _ _ _ => trivial) ?_ ?_ _ [] _ W7 rfl ⟨⟨_, _, _, _, _, _, _, _, _, rfl⟩, hS6.up s7⟩
    · rintro dn y rest2 δ W8 N2 e2 ⟨⟨y4, y5, y8, y9, y10, y12, y13, y14, y17, rfl⟩, hS8⟩ hN2
      have w : Wf y := hwf y (by rw [e2]; simp)
      have l1 := w.l1
      have l2 := w.l2
      have n1 := w.n1
      have n4 := w.n4
      have hsl := sts_len w
      show sSeq _ _ _ [some x, some (.ref s), some (.int lap), some (encTown n cs), some y.enc, y5, none, none, y8, y9, y10, none, y12, y13, y14, none, none, y17, none] W8
      -- every
      refine seqP (st_asgN (ev_call (eva_cons (ev_var rfl) eva_nil) (e_law_stages w)) fun ev W9 s9 hev wev => ?_)
      have hS9 := hS8.up s9
      dsimp only
      -- clearings
      refine seqP (st_if (k := false) (evt_b (ev_neNN (l := y.sts.map y.clg) ?_ ?_)) (fun h => by cases h) fun _ W10 s10 => ?_)
      · rw [← clears_eq, List.map_map]
        refine ev_lcM (enc := fun k : Nat => D.int (k : Int)) (ys := List.range y.sts.length) (fun k : Nat => D.int (y.clg (y.st k))) (evi_rng (ev_len (d := .ref ev) (ev_var rfl) (by simp only [lenD]; rw [wev]; simp)) (by omega)).i (fun k hk => ⟨_, fun _ _ h => h, ?_⟩) (sz _ (by simp; omega))
        have := List.mem_range.mp hk
        exact ev_call (eva_cons (ev_var rfl) (eva_cons (ev_var rfl) eva_nil)) (e_clear_ticks w (by omega) (by omega))
      · rw [List.map_map]
        exact ev_lcM (enc := tupI) (ys := y.sts) (fun l => D.int (y.clg l)) (evi_seq (d := .ref ev) (ev_var rfl) (by simp only [seqD]; rw [wev])).i (fun l hl => ⟨_, fun _ _ h => h, ev_call (eva_cons (ev_var rfl) (eva_cons (ev_var rfl) eva_nil)) (e_law_clearing w)⟩) (sz _ (by omega))
      have hS10 := hS9.up s10
      dsimp only
      -- plans
      refine seqP (asgP (lcP (rng_run (n := 5) ev_c (by omega) fun W11 s11 pp hpp => ?_)))
      have hS11 := hS10.up s11
      have hppn := hS11.ne hpp
      refine lc_acc (enc := fun k : Nat => D.int (k : Int)) (ys := List.range 5) (fun d3 W' => ∃ ps : List Plan, Mv s c W11 W' ∧ W' pp = some (.lst (ps.map encP)) ∧ (∀ p ∈ ps, PlanOk y p) ∧ ps.length = d3.length) (fun _ _ _ => trivial) ?_ ?_ _ [] _ rfl ⟨[], (Mv.refl W11).own hpp hppn, wup_same, by simp, rfl⟩
      · rintro d3 k r3 W12 N3 e3 ⟨ps, hM12, wpp12, hok, hpl⟩ hN3
        have hd3 : d3.length < 5 := by have := congrArg List.length e3; simp at this; omega
        refine lcs_yes (te := fCall sp__law_draw_plan (fCons (fVar 1) (fCons (fVar 4) fNil))) (δ2 := [some x, some (.ref s), some (.int lap), some (encTown n cs), some y.enc, some (.ref ev), none, none, y8, some (.int (k : Nat)), y10, none, y12, y13, y14, none, none, y17, none]) ?_
        refine (eva_cons (ev_var (d := .ref s) rfl) (eva_cons (ev_var (d := y.enc) rfl) eva_nil)) W12 _ (Sub.refl _) fun W13 s13 => ?_
        have hM13 := hM12.sub s13
        refine ⟨s, c, y, rfl, hM13.2 hS11, w, fun p W14 hM14 hpo => ?_⟩
        refine ⟨_, hM14.at hppn (s13 _ _ wpp12), by simp; exact Nat.lt_of_lt_of_le (show ps.length < 8 by omega) (sz 8), hN3 _ ⟨ps ++ [p], (hM13.trans hM14).own hpp hppn, by rw [wup_same]; simp, fun z hz => ?_, by simp; omega⟩⟩
        rcases List.mem_append.mp hz with hz | hz
        · exact hok z hz
        · simp at hz; subst hz; exact hpo
      · rintro W12 ⟨ps, hM12, wpp12, hok, hpl⟩
        rw [List.length_range] at hpl
        have hS12 := hM12.2 hS11
        obtain ⟨p0, pr, rfl⟩ : ∃ p0 pr, ps = p0 :: pr := by
          cases ps with
          | nil => cases hpl
          | cons p0 pr => exact ⟨p0, pr, rfl⟩
        have hok0 : PlanOk y p0 := hok p0 (by simp)
        have hrl := rows_len w hok
        have hrl5 : (y.rows (p0 :: pr)).length ≤ 40 := by
          rw [hrl, hpl]
          have := Nat.mul_le_mul (Nat.le_refl 5) (show y.len.toNat ≤ 8 by omega)
          omega
        have hrl1 : 5 ≤ (y.rows (p0 :: pr)).length := by
          rw [hrl, hpl]
          have := Nat.mul_le_mul (Nat.le_refl 5) (show 1 ≤ y.len.toNat by omega)
          omega
        have hrok := rows_ok w hok
        have hsafe := safe_rows w hok
        have hr0 : y.rows [p0] = y.frame p0 := by unfold Cr.rows; simp
        dsimp only
        -- rows
        refine seqP (st_asgN (ev_call (eva_cons (ev_var rfl) (eva_cons (ev_var (d := .ref pp) rfl) eva_nil)) (e_law_lamps w wpp12 hok (by omega))) fun rw_ W13 s13 hrw wrw => ?_)
        have hS13 := hS12.up s13
        have wpp13 := s13 _ _ wpp12
        have hrwn := hS12.ne hrw
        generalize hR : y.rows (p0 :: pr) = R at *
        dsimp only
        refine seqP (st_if (k := false) (evt_b (ev_neNR (l := R) (p := rw_) ?_ (ev_var rfl) wrw)) (fun h => by cases h) fun _ W14 s14 => ?_)
        · refine ev_lcM (enc := tupI) (ys := R) tupI (evi_seqN (ev_call (eva_cons (ev_var rfl) (eva_cons (ev_var (d := .ref pp) rfl) eva_nil)) (hR ▸ e_lamp_rows w wpp13 hok (by omega)))) (fun l hl => ⟨_, fun _ _ h => h, ev_b1 (eva_cons (ev_var rfl) eva_nil) (evb_tuple rfl)⟩) (sz _ (by omega))
        have hS14 := hS13.up s14
        have wrw14 := s14 _ _ wrw
        dsimp only
        refine seqP (st_if (k := false) (evt_b (ev_bin (a := .non) (hsafe ▸ ev_call (eva_cons (ev_var rfl) (eva_cons (ev_var (d := .ref rw_) rfl) eva_nil)) (e_law_fault w wrw14 hrok (by omega))) ev_c evo_notN)) (fun h => by cases h) fun _ W15 s15 => ?_)
        have hS15 := hS14.up s15
        have wrw15 := s15 _ _ wrw14
        dsimp only
        refine seqP (st_if (k := false) (evt_b (ev_bin (a := .non) (hsafe ▸ ev_call (eva_cons (ev_var rfl) (eva_cons (ev_var (d := .ref rw_) rfl) eva_nil)) (e_judge w wrw15 hrok (by omega))) ev_c evo_notN)) (fun h => by cases h) fun _ W16 s16 => ?_)
        have hS16 := hS15.up s16
        have wrw16 := s16 _ _ wrw15
        have wpp16 := s16 _ _ (s15 _ _ (s14 _ _ wpp13))
        dsimp only
        -- first
        refine seqP (st_asgN (xs := (y.frame p0).map tupI) (ev_callN2 (ev_var rfl) (ev_cutR (n := 1) (ev_var (d := .ref pp) rfl) wpp16 ev_c) fun a1 W17 h17 => ?_) fun fi W17 s17 hfi wfi => ?_)
        · rw [← hr0]
          exact e_law_lamps w (ps := [p0]) h17 (fun z hz => by simp at hz; subst hz; exact hok0) (by simp)
        have hS17 := hS16.up s17
        have wpp17 := s17 _ _ wpp16
        have wrw17 := s17 _ _ wrw16
        have hfl := frame_len hok0.fit
        have hlen : ((y.len.toNat : Nat) : Int) = y.len := by omega
        have evp0 : ∀ (W' : DW) (δ' : DL.Env), W' pp = some (.lst ((p0 :: pr).map encP)) → δ'[8]? = some (some (.ref pp)) → Ev (fBin pSub' (fVar 8) (fC (.int 0))) δ' W' (Is (encP p0)) := fun W' δ' hw hd => ev_bin (ev_var hd) ev_c (evo_ix (by
          simp only [ixD]
          rw [hw]
          exact atD_map (en := encP) (ys := p0 :: pr) (by omega) rfl))
        dsimp only
        refine seqP (st_if (k := false) (evt_b (ev_neNR (l := y.frame p0) (p := fi) ?_ (ev_var rfl) wfi)) (fun h => by cases h) fun _ W18 s18 => ?_)
        · rw [← frame_eq w hok0, List.map_map]
          refine ev_lcM (enc := fun k : Nat => D.int (k : Int)) (ys := List.range y.len.toNat) (fun t : Nat => tupI (grIn (y.grs p0) t)) (evi_rng (n := y.len.toNat) (by rw [hlen]; exact ev_bin (ev_var rfl) ev_c (evo_ix rfl)) (by omega)).i (fun t ht => ⟨_, fun _ _ h => h, ev_b1 (eva_cons (ev_call (eva_cons (ev_var rfl) (eva_cons (evp0 _ _ wpp17 rfl) (eva_cons (ev_var rfl) eva_nil))) (e_lamps_at w hok0)) eva_nil) (evb_tuple rfl)⟩) (sz _ (by simp; omega))
        have hS18 := hS17.up s18
        have wpp18 := s18 _ _ wpp17
        have wrw18 := s18 _ _ wrw17
        have wfi18 := s18 _ _ wfi
        dsimp only
        -- sums
        refine seqP (st_if (k := false) (evt_b ?_) (fun h => by cases h) fun _ W19 s19 => ?_)
        · have h1 : Ev (fB1 bSum (fCons (fLc (fSeq (fCall sp_greens (fCons (fVar 4) (fCons (fBin pSub' (fVar 8) (fC (.int 0))) fNil)))) (gTp 3 (gCn (gN 14) (gCn (gN 15) (gCn (gN 16) gNl)))) fYes (fBin pSub (fVar 16) (fVar 15)) [14, 15, 16]) fNil)) [some x, some (.ref s), some (.int lap), some (encTown n cs), some y.enc, some (.ref ev), none, none, some (.ref pp), y9, some (.ref rw_), none, some (.ref fi), y13, y14, none, none, y17, none] W18 (Is (.int ((y.grs p0).map len3).sum)) := by
            refine ev_b1N (ev_lcM (enc := tupI) (ys := y.grs p0) (fun z => D.int (len3 z)) (evi_seq (d := .tup ((y.grs p0).map tupI)) (ev_call (eva_cons (ev_var rfl) (eva_cons (evp0 _ _ wpp18 rfl) eva_nil)) (e_greens w hok0)) rfl).i (fun z hz => ?_) (sz _ (by have := grs_len w hok0; omega))) fun a1 W20 h20 => evb_sum (ns := (y.grs p0).map len3) (by rw [h20, List.map_map]; rfl)
            obtain ⟨i, u, v, rfl⟩ := grs3 hz
            exact ⟨_, fun _ _ h => gtp3 h, ev_bin (ev_var rfl) (ev_var rfl) evo_ii⟩
          have h2 : Ev (fB1 bSum (fCons (fLc (fSeq (fVar 12)) (gN 11) fYes (fB1 bLen (fCons (fVar 11) fNil)) [11]) fNil)) [some x, some (.ref s), some (.int lap), some (encTown n cs), some y.enc, some (.ref ev), none, none, some (.ref pp), y9, some (.ref rw_), none, some (.ref fi), y13, y14, none, none, y17, none] W18 (Is (.int ((y.frame p0).map fun l => (l.length : Int)).sum)) := by
            refine ev_b1N (ev_lcM (enc := tupI) (ys := y.frame p0) (fun l => D.int (l.length : Nat)) (evi_seq (d := .ref fi) (ev_var rfl) (by simp only [seqD]; rw [wfi18])).i (fun l hl => ⟨_, fun _ _ h => h, ev_len (d := tupI l) (ev_var rfl) (by unfold tupI; simp [lenD])⟩) (sz _ (by omega))) fun a1 W20 h20 => evb_sum (ns := (y.frame p0).map fun l => (l.length : Int)) (by rw [h20, List.map_map]; rfl)
          have h3 := ev_neI h1 h2
          rw [sum_grs hok0] at h3
          simpa using h3
        have hS19 := hS18.up s19
        have wrw19 := s19 _ _ wrw18
        dsimp only
        -- spoilt rows
        refine forP (rng_run (n := 3) ev_c (by omega) fun W20 s20 => ?_)
        refine loop_acc (enc := fun k : Nat => D.int (k : Int)) (ys := List.range 3) (fun d4 δ W' => (∃ x9 x13 x14 x17 : Option D, δ = [some x, some (.ref s), some (.int lap), some (encTown n cs), some y.enc, some (.ref ev), none, none, some (.ref pp), x9, some (.ref rw_), none, some (.ref fi), x13, x14, none, none, x17, none]) ∧ Src s c W' ∧ W' rw_ = some (.lst (R.map tupI)))
          (fun _ _ _ _ => trivial) ?_ ?_ _ [] _ W20 rfl ⟨⟨y9, y13, y14, y17, rfl⟩, hS19.up s20, s20 _ _ wrw19⟩
        · rintro d4 turn r4 δ W21 N4 e4 ⟨⟨z9, z13, z14, z17, rfl⟩, hS21, wrw21⟩ hN4
          show sSeq _ _ _ [some x, some (.ref s), some (.int lap), some (encTown n cs), some y.enc, some (.ref ev), none, none, some (.ref pp), some (.int turn), some (.ref rw_), none, some (.ref fi), z13, z14, none, none, z17, none] W21
          refine seqP (parP (consP ?_))
          refine pick_run hS21 (ev_var rfl) (ev_len (d := .ref rw_) (n := R.length) (ev_var rfl) (by simp only [lenD]; rw [wrw21]; simp)) (by omega) fun tv W22 hM22 _ htv => ?_
          have htv := htv (by omega)
          have hS22 := hM22.2 hS21
          have wrw22 := hM22.at hrwn wrw21
          refine consP (pick_run hS22 (ev_var rfl) (ev_ms (c := y) (i := 4) rfl) (by omega) fun iv W23 hM23 hiv0 hiv => ?_)
          have hiv : 0 ≤ iv ∧ iv < y.n := by
            unfold Cr.n
            by_cases h : ((y.ms.length : Nat) : Int) < 2
            · have := hiv0 h; omega
            · exact hiv (by omega)
          have hS23 := hM23.2 hS22
          have wrw23 := hM23.at hrwn wrw22
          obtain ⟨tn, rfl⟩ : ∃ tn : Nat, tv = tn := ⟨tv.toNat, by omega⟩
          have htn : tn < R.length := by omega
          refine ⟨_, _, rfl, ?_⟩
          have hrowl := row_len w hrok tn
          dsimp only
          refine seqP (asgP (binP (binP ?_)))
          refine (ev_cutR (n := tn) (ev_var (d := .ref rw_) rfl) wrw23 (ev_var rfl)).runN fun a1 W24 s24 ha1 wa1 => ?_
          have wrw24 := s24 _ _ wrw23
          refine consP ?_
          have hsp : Ev (fB1 bTuple (fCons (fB1 bSortA (fCons (fB1 bDictP (fCons (fLc (fSeq (fBin pAdd (fBin pSub' (fVar 10) (fVar 13)) (fTup (fCons (fVar 14) fNil)))) (gN 18) fYes (fTup (fCons (fVar 18) (fCons (fC (.int 1)) fNil))) [18]) fNil)) fNil)) fNil)) [some x, some (.ref s), some (.int lap), some (encTown n cs), some y.enc, some (.ref ev), none, none, some (.ref pp), some (.int turn), some (.ref rw_), none, some (.ref fi), some (.int tn), some (.int iv), none, none, z17, none] W24 (NewSp (row R tn ++ [iv])) := by
            refine ev_spoilt (ev_lcM (enc := D.int) (ys := row R tn ++ [iv]) (fun j => D.tup [.int j, .int 1]) (evi_seq (d := tupI (row R tn ++ [iv])) ?_ rfl).i (fun j hj => ⟨_, fun _ _ h => h, tup2 (ev_var rfl) ev_c⟩) (sz _ (by simp; omega))) (by simp; omega)
            rw [show tupI (row R tn ++ [iv]) = .tup ((row R tn).map D.int ++ [D.int iv]) by unfold tupI; simp]
            exact ev_bin (ev_rowI (ev_var rfl) (ev_var rfl) wrw24 htn) (ev_tup (eva_cons (ev_var rfl) eva_nil) (sz 1)) (evo_addT (by simp; exact sz ((row R tn).length + 1)))
          refine hsp.run fun d W25 s25 hd => ?_
          obtain ⟨S, rfl, hS⟩ := hd
          refine ⟨sz 1, fun b1 hb1 => ?_⟩
          have wa125 := s25 _ _ wa1
          have wrw25 := s25 _ _ wrw24
          have hne1 : a1 ≠ b1 := fun e => by rw [e, hb1] at wa125; cases wa125
          have hner : rw_ ≠ b1 := fun e => by rw [e, hb1] at wrw25; cases wrw25
          refine ⟨_, _, by rw [wup_ne hne1]; exact wa125, wup_same, by simp; exact sz _ (by omega), fun c1 hc1 => ?_⟩
          have hS25 := (hS23.up (s24.trans s25)).up (W1 := wup W25 b1 (.lst [tupI S])) ((Sub.refl _).new hb1)
          have hS25 := Src.up (W1 := wup (wup W25 b1 (.lst [tupI S])) c1 (.lst ((R.map tupI).take tn ++ [tupI S]))) hS25 ((Sub.refl _).new hc1)
          have hnc : rw_ ≠ c1 := fun e => by rw [← e, wup_ne hner, wrw25] at hc1; cases hc1
          have wrw26 : wup (wup W25 b1 (.lst [tupI S])) c1 (.lst ((R.map tupI).take tn ++ [tupI S])) rw_ = some (.lst (R.map tupI)) := by rw [wup_ne hnc, wup_ne hner]; exact wrw25
          have wc1 : wup (wup W25 b1 (.lst [tupI S])) c1 (.lst ((R.map tupI).take tn ++ [tupI S])) c1 = some (.lst ((R.map tupI).take tn ++ [tupI S])) := wup_same
          generalize wup (wup W25 b1 (.lst [tupI S])) c1 (.lst ((R.map tupI).take tn ++ [tupI S])) = W26 at *
          refine (ev_cutL (δ := [some x, some (.ref s), some (.int lap), some (encTown n cs), some y.enc, some (.ref ev), none, none, some (.ref pp), some (.int turn), some (.ref rw_), none, some (.ref fi), some (.int tn), some (.int iv), none, none, z17, none]) (n := tn + 1) (ev_var (d := .ref rw_) rfl) wrw26 (ev_bin (ev_var (d := .int tn) rfl) ev_c evo_addI)).runN fun d1 W27 s27 hd1 wd1 => ?_
          have wc127 := s27 _ _ wc1
          have wrw27 := s27 _ _ wrw26
          refine ⟨_, _, wc127, wd1, by simp; exact sz _ (by omega), fun e1 he1 => ?_⟩
          have hS27 := (hS25.up s27).up (W1 := wup W27 e1 (.lst ((R.map tupI).take tn ++ [tupI S] ++ (R.map tupI).drop (tn + 1)))) ((Sub.refl _).new he1)
          have hne : rw_ ≠ e1 := fun e => by rw [e, he1] at wrw27; cases wrw27
          have wrw28 : wup W27 e1 (.lst ((R.map tupI).take tn ++ [tupI S] ++ (R.map tupI).drop (tn + 1))) rw_ = some (.lst (R.map tupI)) := by rw [wup_ne hne]; exact wrw27
          have we1 : wup W27 e1 (.lst ((R.map tupI).take tn ++ [tupI S] ++ (R.map tupI).drop (tn + 1))) e1 = some (.lst ((R.take tn ++ [S] ++ R.drop (tn + 1)).map tupI)) := by
            rw [wup_same]
            simp
          generalize wup W27 e1 (.lst ((R.map tupI).take tn ++ [tupI S] ++ (R.map tupI).drop (tn + 1))) = W28 at *
          have hok2 := spoilt_ok hrok (t := tn) hiv hS
          have hlen2 : (R.take tn ++ [S] ++ R.drop (tn + 1)).length ≤ 64 := by simp; omega
          obtain ⟨fy, hfy, hsh⟩ := fault_py w hok2 hlen2 W28
          dsimp only
          refine st_if (k := false) (evt_b (ev_neS (x := fy.shown) (ev_b1 (eva_cons (ev_call (eva_cons (ev_var rfl) (eva_cons (ev_var (d := .ref e1) rfl) eva_nil)) (e_judge w we1 hok2 hlen2)) eva_nil) (evb_repr hfy hsh)) (ev_b1 (eva_cons (ev_call (eva_cons (ev_var rfl) (eva_cons (ev_var (d := .ref e1) rfl) eva_nil)) (e_law_fault w we1 hok2 hlen2)) eva_nil) (evb_repr hfy hsh)) hsh.s5)) (fun h => by cases h) fun _ W29 s29 => ?_
          exact hN4 _ _ ⟨⟨_, _, _, _, rfl⟩, hS27.up s29, s29 _ _ wrw28⟩
        · rintro δ W21 ⟨⟨z9, z13, z14, z17, rfl⟩, hS21, wrw21⟩
          exact hN2 _ _ ⟨⟨_, _, _, _, _, _, _, _, _, rfl⟩, hS21⟩
    · rintro δ W8 ⟨⟨y4, y5, y8, y9, y10, y12, y13, y14, y17, rfl⟩, hS8⟩
      exact hN _ _ ⟨⟨_, _, _, _, _, _, _, _, _, _, _, rfl⟩, hS8⟩
  · rintro δ W4 ⟨⟨x2, x3, x4, x5, x8, x9, x10, x12, x13, x14, x17, rfl⟩, hS4⟩
    dsimp only
    exact st_retE (B := RT Q) ev_c fun W5 s5 => ⟨W5, Sub.refl _, q W5⟩
end A30
namespace A30
open PySem PySem.Spec PyProof.Rows L2 DL
section
variable {P : Program} {w : World} {K : PySem.W.Frag} {mg : Str → Option Value} {base : Heap}
theorem ok_do_cross (T : Tx K mg) : FnG P w K mg base 2 T.a_do_cross T.d_do_cross ["crossing", "i", "j"] (toSp K sp_do_cross) := by
  refine okD T.F_do_cross sc_do_cross len_do_cross fun cdv A outer s H hr hgd => ⟨f_do_cross, ?_, body_do_cross⟩
  have nd := sc_do_cross.nd
  have hu3 := hu_of hr
  have hu := hr.units
  have hu2 := units65 hr
  exact (sss_one (ss_ret (se_callB (cr_any rfl) c_any T.z_any PyProof.Rows.boot_any (sa_cons (se_lc (own := [("row", 3)]) rfl nd (si_seq (se_sub hu3 (se_var 0) se_int)) (blkOk_by (by kernel_rfl)) (fun _ _ _ _ _ => (sc_name 3 nd)) (fun _ _ _ _ _ => sp_nil) (fun _ _ _ _ _ => (se_cmp ((op_inAny hu2).or (op_inDk hu3)) o_inA (se_slice (se_var 3) so_none (so_some se_int)) (se_tup (sa_cons (se_tup (sa_cons (se_var 1) (sa_cons (se_var 2) sa_nil))) (sa_cons (se_tup (sa_cons (se_var 2) (sa_cons (se_var 1) sa_nil))) sa_nil))) (by rfl)))) sa_nil))))
theorem ok_clearance (T : Tx K mg) : FnG P w K mg base 2 T.a_clearance T.d_clearance ["crossing", "i", "j"] (toSp K sp_clearance) := by
  refine okD T.F_clearance sc_clearance len_clearance fun cdv A outer s H hr hgd => ⟨f_clearance, ?_, body_clearance⟩
  have nd := sc_clearance.nd
  have hu3 := hu_of hr
  have hu := hr.units
  have hu2 := units65 hr
  exact (sss_cons (ss_for PassesOwn.never rfl (si_seq (se_sub hu3 (se_var 0) se_int)) (sg_tup (n := 4) rfl (sgs_cons (sg_name 3 nd) (sgs_cons (sg_name 4 nd) (sgs_cons (sg_name 5 nd) (sgs_cons (sg_name 6 nd) sgs_nil))))) (sss_cons (ss_if (st_cmp (op_eqD hu) o_eq (se_tup (sa_cons (se_var 3) (sa_cons (se_var 4) sa_nil))) (se_tup (sa_cons (se_var 1) (sa_cons (se_var 2) sa_nil))) (nomark _)) (sss_one (ss_ret (se_var 5))) sss_nil)
      (sss_one (ss_if (st_cmp (op_eqD hu) o_eq (se_tup (sa_cons (se_var 4) (sa_cons (se_var 3) sa_nil))) (se_tup (sa_cons (se_var 1) (sa_cons (se_var 2) sa_nil))) (nomark _)) (sss_one (ss_ret (se_var 6))) sss_nil))))
      (sss_one (ss_ret se_int)))
theorem ok_green_in (T : Tx K mg) : FnG P w K mg base 2 T.a_green_in T.d_green_in ["found", "tick"] (toSp K sp_green_in) := by
  refine okD T.F_green_in sc_green_in len_green_in fun cdv A outer s H hr hgd => ⟨f_green_in, ?_, body_green_in⟩
  have nd := sc_green_in.nd
  have hu3 := hu_of hr
  have hu := hr.units
  have hu2 := units65 hr
  exact (sss_one (ss_ret (se_callTy call_tuple_of c_tuple T.z_tuple PyProof.Rows.boot_tuple (sa_cons (se_lc (own := [("i", 2), ("begin", 3), ("end", 4)]) rfl nd (si_seq (se_var 0)) (blkOk_by (by kernel_rfl)) (fun _ _ _ _ _ => (sc_tup (n := 3) rfl (scs_cons (sc_name 2 nd) (scs_cons (sc_name 3 nd) (scs_cons (sc_name 4 nd) scs_nil))))) (fun _ _ _ _ _ => (sp_one (st_chain op_le op_lt o_IB o_IB (se_var 3) (se_var 1) (se_var 4)))) (fun _ _ _ _ _ => (se_var 2))) sa_nil))))
theorem ok__law_open_cells (T : Tx K mg) : FnG P w K mg base 2 T.a__law_open_cells T.d__law_open_cells ["script"] (toSp K sp__law_open_cells) := by
  refine okD T.F__law_open_cells sc__law_open_cells len__law_open_cells fun cdv A outer s H hr hgd => ⟨f__law_open_cells, ?_, body__law_open_cells⟩
  have nd := sc__law_open_cells.nd
  have hu3 := hu_of hr
  have hu := hr.units
  have hu2 := units65 hr
  exact (sss_cons (ss_set 1 nd se_int)
      (sss_cons (ss_for PassesOwn.never rfl (si_seq (se_var 0)) (sg_name 2 nd) (sss_one (ss_set 1 nd (se_op op_mod o_II (se_callTy call_int1 c_int T.z_int PyProof.Rows.boot_int (sa_cons (se_op (((op_add.or op_catA).or op_cat).or op_add_str) o_add (se_op (((op_add.or op_catA).or op_cat).or op_add_str) o_add (se_op ((op_mul.or op_mulW).or op_rep) o_mul (se_var 1) se_int) (se_op ((op_mul.or op_mulW).or op_rep) o_mul (se_var 2) se_int)) se_int) sa_nil)) se_int))))
      (sss_cons (ss_setLc 3 (own := [("cell", 2)]) rfl nd (si_seq (se_var 0)) (blkOk_by (by kernel_rfl)) (fun _ _ _ _ _ => (sc_name 2 nd)) (fun _ _ _ _ _ => sp_nil) (fun _ _ _ _ _ => (se_callB call_abs c_abs T.z_abs PyProof.Rows.boot_abs (sa_cons (se_var 2) sa_nil))))
      (sss_one (ss_ret (se_disp (.cons se_str (se_revL (se_var 3)) (.cons se_str se_int (.cons se_str (se_var 1) (.cons se_str se_int .nil))))))))))
theorem ok__law_pick (T : Tx K mg) : FnG P w K mg base 2 T.a__law_pick T.d__law_pick ["source", "most"] (toSp K sp__law_pick) := by
  refine okD T.F__law_pick sc__law_pick len__law_pick fun cdv A outer s H hr hgd => ⟨f__law_pick, ?_, body__law_pick⟩
  have nd := sc__law_pick.nd
  have hu3 := hu_of hr
  have hu := hr.units
  have hu2 := units65 hr
  exact (sss_cons (ss_if (st_cmp op_lt o_IB (se_var 1) se_int (nomark _)) (sss_one (ss_ret se_int)) sss_nil)
      (sss_cons (ss_set 2 nd (se_sub hu3 (se_var 0) se_str))
      (sss_cons (ss_while PassesOwn.never (PW.pt (sw_and (st_cmp op_lt o_IB (se_sub hu3 (se_var 0) se_str) se_int (nomark _)) (sw_and1 (st_cmp op_gt o_IB (se_callB call_len_seq c_len T.z_len PySem.boot_len (sa_cons (se_var 2) sa_nil)) se_int (nomark _))))) (sss_one (ss_asg (se_m0 PySem.F.plainAttrs_list PySem.F.slot_list_pop PySem.F.type_list_pop mt_pop ty_list m_pop (se_var 2)) (sg_set hu3 (se_var 0) se_str))))
      (sss_cons (ss_set 3 nd (se_sub hu3 (se_var 0) se_str))
      (sss_cons (ss_if (st_cmp op_gt o_IB (se_var 3) se_int (nomark _)) (sss_cons (ss_asg (se_op op_fdivW o_II (se_var 3) (se_var 1)) (sg_set hu3 (se_var 0) se_str))
      (sss_one (ss_ret (se_op op_mod o_II (se_callTy call_int1 c_int T.z_int PyProof.Rows.boot_int (sa_cons (se_var 3) sa_nil)) (se_var 1))))) sss_nil)
      (sss_cons (ss_asg (se_op (((op_add.or op_catA).or op_cat).or op_add_str) o_add (se_sub hu3 (se_var 0) se_str) se_int) (sg_set hu3 (se_var 0) se_str))
      (sss_cons (ss_set 4 nd (se_sub hu3 (se_var 0) se_str))
      (sss_cons (ss_set 5 nd (se_op op_mod o_II (se_callTy call_int1 c_int T.z_int PyProof.Rows.boot_int (sa_cons (se_op (((op_add.or op_catA).or op_cat).or op_add_str) o_add (se_sub hu3 (se_var 0) se_str) (se_op ((op_mul.or op_mulW).or op_rep) o_mul (se_var 4) se_int)) sa_nil)) se_int))
      (sss_cons (ss_set 5 nd (se_op op_mod o_II (se_callTy call_int1 c_int T.z_int PyProof.Rows.boot_int (sa_cons (se_op (((op_add.or op_catA).or op_cat).or op_add_str) o_add (se_op ((op_mul.or op_mulW).or op_rep) o_mul (se_var 5) (se_var 5)) (se_op ((op_mul.or op_mulW).or op_rep) o_mul (se_var 4) se_int)) sa_nil)) se_int))
      (sss_one (ss_ret (se_op op_mod o_II (se_callTy call_int1 c_int T.z_int PyProof.Rows.boot_int (sa_cons (se_op op_fdivW o_II (se_var 5) se_int) sa_nil)) (se_var 1)))))))))))))
theorem ok__law_clearance (T : Tx K mg) : FnG P w K mg base 2 T.a__law_clearance T.d__law_clearance ["crossing", "i", "j"] (toSp K sp__law_clearance) := by
  refine okD T.F__law_clearance sc__law_clearance len__law_clearance fun cdv A outer s H hr hgd => ⟨f__law_clearance, ?_, body__law_clearance⟩
  have nd := sc__law_clearance.nd
  have hu3 := hu_of hr
  have hu := hr.units
  have hu2 := units65 hr
  exact (sss_cons (ss_for PassesOwn.never rfl (si_seq (se_sub hu3 (se_var 0) se_int)) (sg_tup (n := 4) rfl (sgs_cons (sg_name 3 nd) (sgs_cons (sg_name 4 nd) (sgs_cons (sg_name 5 nd) (sgs_cons (sg_name 6 nd) sgs_nil))))) (sss_cons (ss_if (st_cmp (op_eqD hu) o_eq (se_tup (sa_cons (se_var 3) (sa_cons (se_var 4) sa_nil))) (se_tup (sa_cons (se_var 1) (sa_cons (se_var 2) sa_nil))) (nomark _)) (sss_one (ss_ret (se_var 5))) sss_nil)
      (sss_one (ss_if (st_cmp (op_eqD hu) o_eq (se_tup (sa_cons (se_var 3) (sa_cons (se_var 4) sa_nil))) (se_tup (sa_cons (se_var 2) (sa_cons (se_var 1) sa_nil))) (nomark _)) (sss_one (ss_ret (se_var 6))) sss_nil))))
      (sss_one (ss_ret se_non)))
theorem ok_fits_in (T : Tx K mg) : FnG P w K mg base 3 T.a_fits_in T.d_fits_in ["crossing", "stage", "i"] (toSp K sp_fits_in) := by
  refine okD T.F_fits_in sc_fits_in len_fits_in fun cdv A outer s H hr hgd => ⟨f_fits_in, ?_, body_fits_in⟩
  have nd := sc_fits_in.nd
  have hu3 := hu_of hr
  have hu := hr.units
  have hu2 := units65 hr
  exact (sss_one (ss_ret (se_not (se_callB (cr_any rfl) c_any T.z_any PyProof.Rows.boot_any (sa_cons (se_lc (own := [("k", 3)]) rfl nd (si_seq (se_var 1)) (blkOk_by (by kernel_rfl)) (fun _ _ _ _ _ => (sc_name 3 nd)) (fun _ _ _ _ _ => sp_nil) (fun _ _ _ _ _ => (se_call (ok_do_cross T) (hr.mono (by decide)) hgd T.g_do_cross T.F_do_cross.kp T.b_do_cross (sa_cons (se_var 0) (sa_cons (se_var 2) (sa_cons (se_var 3) sa_nil)))))) sa_nil)))))
theorem ok_clearing_of (T : Tx K mg) : FnG P w K mg base 3 T.a_clearing_of T.d_clearing_of ["crossing", "stage"] (toSp K sp_clearing_of) := by
  refine okD T.F_clearing_of sc_clearing_of len_clearing_of fun cdv A outer s H hr hgd => ⟨f_clearing_of, ?_, body_clearing_of⟩
  have nd := sc_clearing_of.nd
  have hu3 := hu_of hr
  have hu := hr.units
  have hu2 := units65 hr
  exact (sss_one (ss_ret (se_callB (cr_max rfl) c_max T.z_max PyProof.Rows.boot_max (sa_cons (se_lc2 (own := [("i", 2), ("j", 3)]) [3] rfl nd (si_seq (se_var 1)) (blkOk_by (by kernel_rfl)) (fun _ _ _ _ _ => (sc_name 2 nd)) (fun _ _ _ _ _ => sp_nil) (fun _ _ _ _ _ => (si_rng1 rfl T.z_range (sa_cons (se_callB call_len_seq c_len T.z_len PySem.boot_len (sa_cons (se_sub hu3 (se_var 0) se_int) sa_nil)) sa_nil))) (fun _ _ _ _ _ => (sc_name 3 nd)) (fun _ _ _ _ _ => sp_nil) (fun _ _ _ _ _ => (se_call (ok_clearance T) (hr.mono (by decide)) hgd T.g_clearance T.F_clearance.kp T.b_clearance (sa_cons (se_var 0) (sa_cons (se_var 2) (sa_cons (se_var 3) sa_nil)))))) sa_nil))))
theorem ok_first_crossed (T : Tx K mg) : FnG P w K mg base 3 T.a_first_crossed T.d_first_crossed ["crossing", "row"] (toSp K sp_first_crossed) := by
  refine okD T.F_first_crossed sc_first_crossed len_first_crossed fun cdv A outer s H hr hgd => ⟨f_first_crossed, ?_, body_first_crossed⟩
  have nd := sc_first_crossed.nd
  have hu3 := hu_of hr
  have hu := hr.units
  have hu2 := units65 hr
  exact (sss_cons (ss_for PassesOwn.never rfl (si_seq (se_var 1)) (sg_name 2 nd) (sss_one (ss_for PassesOwn.never rfl (si_seq (se_var 1)) (sg_name 3 nd) (sss_one (ss_if (PW.pt (sw_and (st_cmp op_lt o_IB (se_var 2) (se_var 3) (nomark _)) (sw_and1 (st_val (se_call (ok_do_cross T) (hr.mono (by decide)) hgd T.g_do_cross T.F_do_cross.kp T.b_do_cross (sa_cons (se_var 0) (sa_cons (se_var 2) (sa_cons (se_var 3) sa_nil)))))))) (sss_one (ss_ret (se_tup (sa_cons (se_var 2) (sa_cons (se_var 3) sa_nil))))) sss_nil)))))
      (sss_one (ss_ret se_non)))
theorem ok_first_early (T : Tx K mg) : FnG P w K mg base 3 T.a_first_early T.d_first_early ["crossing", "last", "tick", "begun"] (toSp K sp_first_early) := by
  refine okD T.F_first_early sc_first_early len_first_early fun cdv A outer s H hr hgd => ⟨f_first_early, ?_, body_first_early⟩
  have nd := sc_first_early.nd
  have hu3 := hu_of hr
  have hu := hr.units
  have hu2 := units65 hr
  exact (sss_cons (ss_for PassesOwn.never rfl (si_seq (se_callB (cr_sortA hu2 rfl) c_sortA T.z_sorted PyProof.Rows.boot_sorted (sa_cons (se_var 1) sa_nil))) (sg_name 4 nd) (sss_one (ss_for PassesOwn.never rfl (si_seq (se_var 3)) (sg_name 5 nd) (sss_one (ss_if (st_cmp op_lt o_IB (se_op op_sub o_II0 (se_op op_sub o_II0 (se_var 2) (se_sub hu3 (se_var 1) (se_var 4))) se_int) (se_call (ok_clearance T) (hr.mono (by decide)) hgd T.g_clearance T.F_clearance.kp T.b_clearance (sa_cons (se_var 0) (sa_cons (se_var 4) (sa_cons (se_var 5) sa_nil)))) (nomark _)) (sss_one (ss_ret (se_tup (sa_cons (se_var 4) (sa_cons (se_var 5) sa_nil))))) sss_nil)))))
      (sss_one (ss_ret se_non)))
theorem ok__law_strict_town (T : Tx K mg) : FnG P w K mg base 3 T.a__law_strict_town T.d__law_strict_town ["source", "most"] (toSp K sp__law_strict_town) := by
  refine okD T.F__law_strict_town sc__law_strict_town len__law_strict_town fun cdv A outer s H hr hgd => ⟨f__law_strict_town, ?_, body__law_strict_town⟩
  have nd := sc__law_strict_town.nd
  have hu3 := hu_of hr
  have hu := hr.units
  have hu2 := units65 hr
  exact (sss_cons (ss_par3 2 3 4 rfl nd (sa_cons (se_op (((op_add.or op_catA).or op_cat).or op_add_str) o_add se_int (se_call (ok__law_pick T) (hr.mono (by decide)) hgd T.g__law_pick T.F__law_pick.kp T.b__law_pick (sa_cons (se_var 0) (sa_cons (se_callB (call_min2 rfl) c_min2 T.z_min PyProof.Rows.boot_min (sa_cons se_int (sa_cons (se_op op_sub o_II0 (se_var 1) se_int) sa_nil))) sa_nil)))) (sa_cons (se_lst (sa_cons (se_lst sa_nil) (sa_cons (se_lst sa_nil) sa_nil))) (sa_cons (se_lst sa_nil) sa_nil))))
      (sss_cons (ss_set 5 nd (se_op (((op_add.or op_catA).or op_cat).or op_add_str) o_add se_int (se_call (ok__law_pick T) (hr.mono (by decide)) hgd T.g__law_pick T.F__law_pick.kp T.b__law_pick (sa_cons (se_var 0) (sa_cons se_int sa_nil)))))
      (sss_cons (ss_for PassesOwn.never rfl (si_rng1 rfl T.z_range (sa_cons (se_var 2) sa_nil)) (sg_name 6 nd) (sss_one (ss_expr (se_m PySem.F.plainAttrs_list PySem.F.slot_list_append PySem.F.type_list_append mt_append ty_list m_append (se_sub hu3 (se_var 3) (se_callTy call_int1 c_int T.z_int PyProof.Rows.boot_int (sa_cons (se_cmp (op_eqD hu) o_eq (se_call (ok__law_pick T) (hr.mono (by decide)) hgd T.g__law_pick T.F__law_pick.kp T.b__law_pick (sa_cons (se_var 0) (sa_cons se_int sa_nil))) se_int (nomark _)) sa_nil))) (sa_cons (se_var 6) sa_nil)))))
      (sss_cons (ss_for PassesOwn.never rfl (si_seq (se_lc (own := [("lot", 7)]) rfl nd (si_seq (se_var 3)) (blkOk_by (by kernel_rfl)) (fun _ _ _ _ _ => (sc_name 7 nd)) (fun _ _ _ _ _ => (sp_one (st_cmp (op_neD hu) o_ne (se_var 7) (se_lst sa_nil) (nomark _)))) (fun _ _ _ _ _ => (se_var 7)))) (sg_name 7 nd) (sss_cons (ss_asg (se_tup (sa_cons (se_lc (own := [("one", 9)]) rfl nd (si_seq (se_var 7)) (blkOk_by (by kernel_rfl)) (fun _ _ _ _ _ => (sc_name 9 nd)) (fun _ _ _ _ _ => sp_nil) (fun _ _ _ _ _ => (se_tup (sa_cons (se_var 9) (sa_cons se_non sa_nil))))) (sa_cons (se_sub hu3 (se_var 7) (se_call (ok__law_pick T) (hr.mono (by decide)) hgd T.g__law_pick T.F__law_pick.kp T.b__law_pick (sa_cons (se_var 0) (sa_cons (se_callB call_len_seq c_len T.z_len PySem.boot_len (sa_cons (se_var 7) sa_nil)) sa_nil)))) sa_nil))) (sg_tup (n := 2) rfl (sgs_cons (sg_name 8 nd) (sgs_cons (sg_name 6 nd) sgs_nil))))
      (sss_cons (ss_setLc 10 (own := [("one", 9)]) rfl nd (si_rng1 rfl T.z_range (sa_cons (se_var 2) sa_nil)) (blkOk_by (by kernel_rfl)) (fun _ _ _ _ _ => (sc_name 9 nd)) (fun _ _ _ _ _ => (sp_one (st_cmp (op_neD hu) o_ne (se_var 9) (se_var 6) (nomark _)))) (fun _ _ _ _ _ => (se_var 9)))
      (sss_cons (ss_if (PW.pt (sw_and (st_cmp (op_eqD hu) o_eq (se_call (ok__law_pick T) (hr.mono (by decide)) hgd T.g__law_pick T.F__law_pick.kp T.b__law_pick (sa_cons (se_var 0) (sa_cons se_int sa_nil))) se_int (nomark _)) (sw_and1 (st_cmp op_lt o_IB (se_callB call_len_seq c_len T.z_len PySem.boot_len (sa_cons (se_var 8) sa_nil)) se_int (nomark _))))) (sss_one (ss_expr (se_m PySem.F.plainAttrs_list PySem.F.slot_list_append PySem.F.type_list_append mt_append ty_list m_append (se_var 8) (sa_cons (se_tup (sa_cons (se_var 6) (sa_cons (se_sub hu3 (se_var 10) (se_call (ok__law_pick T) (hr.mono (by decide)) hgd T.g__law_pick T.F__law_pick.kp T.b__law_pick (sa_cons (se_var 0) (sa_cons (se_callB call_len_seq c_len T.z_len PySem.boot_len (sa_cons (se_var 10) sa_nil)) sa_nil)))) sa_nil))) sa_nil)))) sss_nil)
      (sss_cons (ss_set 11 nd (se_lst sa_nil))
      (sss_cons (ss_for PassesOwn.never rfl (si_rng1 rfl T.z_range (sa_cons (se_callB call_len_seq c_len T.z_len PySem.boot_len (sa_cons (se_var 8) sa_nil)) sa_nil)) (sg_name 12 nd) (sss_one (ss_set 11 nd (se_op (((op_add.or op_catA).or op_cat).or op_add_str) o_add (se_var 11) (se_lc (own := [("j", 13)]) rfl nd (si_rng2 rfl T.z_range (sa_cons (se_op (((op_add.or op_catA).or op_cat).or op_add_str) o_add (se_var 12) se_int) (sa_cons (se_callB call_len_seq c_len T.z_len PySem.boot_len (sa_cons (se_var 8) sa_nil)) sa_nil))) (blkOk_by (by kernel_rfl)) (fun _ _ _ _ _ => (sc_name 13 nd)) (fun _ _ _ _ _ => (sp_one (st_cmp op_gt o_IB (se_call (ok__law_pick T) (hr.mono (by decide)) hgd T.g__law_pick T.F__law_pick.kp T.b__law_pick (sa_cons (se_var 0) (sa_cons se_int sa_nil))) se_int (nomark _)))) (fun _ _ _ _ _ => (se_tup (sa_cons (se_var 12) (sa_cons (se_var 13) (sa_cons se_int (sa_cons se_int sa_nil)))))))))))
      (sss_one (ss_expr (se_m PySem.F.plainAttrs_list PySem.F.slot_list_append PySem.F.type_list_append mt_append ty_list m_append (se_var 4) (sa_cons (se_tup (sa_cons (se_callTy call_tuple_of c_tuple T.z_tuple PyProof.Rows.boot_tuple (sa_cons (se_var 8) sa_nil)) (sa_cons (se_callTy call_tuple_of c_tuple T.z_tuple PyProof.Rows.boot_tuple (sa_cons (se_var 11) sa_nil)) (sa_cons (se_var 5) sa_nil)))) sa_nil))))))))))
      (sss_one (ss_ret (se_tup (sa_cons (se_var 2) (sa_cons (se_callTy call_tuple_of c_tuple T.z_tuple PyProof.Rows.boot_tuple (sa_cons (se_var 4) sa_nil)) sa_nil)))))))))
theorem ok__law_any_order (T : Tx K mg) : FnG P w K mg base 3 T.a__law_any_order T.d__law_any_order ["source", "things"] (toSp K sp__law_any_order) := by
  refine okD T.F__law_any_order sc__law_any_order len__law_any_order fun cdv A outer s H hr hgd => ⟨f__law_any_order, ?_, body__law_any_order⟩
  have nd := sc__law_any_order.nd
  have hu3 := hu_of hr
  have hu := hr.units
  have hu2 := units65 hr
  exact (sss_cons (ss_set 2 nd (se_callTy call_list_of c_list T.z_list PyProof.Rows.boot_list (sa_cons (se_var 1) sa_nil)))
      (sss_one (ss_ret (se_lc (own := [("lap", 3)]) rfl nd (si_rng1 rfl T.z_range (sa_cons (se_callB call_len_seq c_len T.z_len PySem.boot_len (sa_cons (se_var 2) sa_nil)) sa_nil)) (blkOk_by (by kernel_rfl)) (fun _ _ _ _ _ => (sc_name 3 nd)) (fun _ _ _ _ _ => sp_nil) (fun _ _ _ _ _ => (se_m PySem.F.plainAttrs_list PySem.F.slot_list_pop PySem.F.type_list_pop mt_popAt ty_list m_popAt (se_var 2) (sa_cons (se_call (ok__law_pick T) (hr.mono (by decide)) hgd T.g__law_pick T.F__law_pick.kp T.b__law_pick (sa_cons (se_var 0) (sa_cons (se_callB call_len_seq c_len T.z_len PySem.boot_len (sa_cons (se_var 2) sa_nil)) sa_nil))) sa_nil)))))))
theorem ok__law_crosses_one (T : Tx K mg) : FnG P w K mg base 3 T.a__law_crosses_one T.d__law_crosses_one ["crossing", "lot", "i"] (toSp K sp__law_crosses_one) := by
  refine okD T.F__law_crosses_one sc__law_crosses_one len__law_crosses_one fun cdv A outer s H hr hgd => ⟨f__law_crosses_one, ?_, body__law_crosses_one⟩
  have nd := sc__law_crosses_one.nd
  have hu3 := hu_of hr
  have hu := hr.units
  have hu2 := units65 hr
  exact (sss_one (ss_ret (se_callB (cr_any rfl) c_any T.z_any PyProof.Rows.boot_any (sa_cons (se_lc (own := [("j", 3)]) rfl nd (si_seq (se_var 1)) (blkOk_by (by kernel_rfl)) (fun _ _ _ _ _ => (sc_name 3 nd)) (fun _ _ _ _ _ => (sp_one (st_cmp (op_neD hu) o_ne (se_var 3) (se_var 2) (nomark _)))) (fun _ _ _ _ _ => (se_cmp op_notN o_notN (se_call (ok__law_clearance T) (hr.mono (by decide)) hgd T.g__law_clearance T.F__law_clearance.kp T.b__law_clearance (sa_cons (se_var 0) (sa_cons (se_var 2) (sa_cons (se_var 3) sa_nil)))) se_non (nomark _)))) sa_nil))))
theorem ok__law_clearing (T : Tx K mg) : FnG P w K mg base 3 T.a__law_clearing T.d__law_clearing ["crossing", "stage"] (toSp K sp__law_clearing) := by
  refine okD T.F__law_clearing sc__law_clearing len__law_clearing fun cdv A outer s H hr hgd => ⟨f__law_clearing, ?_, body__law_clearing⟩
  have nd := sc__law_clearing.nd
  have hu3 := hu_of hr
  have hu := hr.units
  have hu2 := units65 hr
  exact (sss_cons (ss_set 2 nd se_int)
      (sss_cons (ss_for PassesOwn.never rfl (si_seq (se_var 1)) (sg_name 3 nd) (sss_one (ss_for PassesOwn.never rfl (si_rng1 rfl T.z_range (sa_cons (se_callB call_len_seq c_len T.z_len PySem.boot_len (sa_cons (se_sub hu3 (se_var 0) se_int) sa_nil)) sa_nil)) (sg_name 4 nd) (sss_one (ss_if (PW.pt (sw_and (st_cmp (op_neD hu) o_ne (se_var 3) (se_var 4) (nomark _)) (sw_and1 (st_cmp op_notN o_notN (se_call (ok__law_clearance T) (hr.mono (by decide)) hgd T.g__law_clearance T.F__law_clearance.kp T.b__law_clearance (sa_cons (se_var 0) (sa_cons (se_var 3) (sa_cons (se_var 4) sa_nil)))) se_non (nomark _))))) (sss_one (ss_set 2 nd (se_callB (call_max2 rfl) c_max2 T.z_max PyProof.Rows.boot_max (sa_cons (se_var 2) (sa_cons (se_call (ok__law_clearance T) (hr.mono (by decide)) hgd T.g__law_clearance T.F__law_clearance.kp T.b__law_clearance (sa_cons (se_var 0) (sa_cons (se_var 3) (sa_cons (se_var 4) sa_nil)))) sa_nil))))) sss_nil)))))
      (sss_one (ss_ret (se_var 2)))))
theorem ok__law_lamp_fault (T : Tx K mg) : FnG P w K mg base 3 T.a__law_lamp_fault T.d__law_lamp_fault ["crossing", "rows"] (toSp K sp__law_lamp_fault) := by
  refine okD T.F__law_lamp_fault sc__law_lamp_fault len__law_lamp_fault fun cdv A outer s H hr hgd => ⟨f__law_lamp_fault, ?_, body__law_lamp_fault⟩
  have nd := sc__law_lamp_fault.nd
  have hu3 := hu_of hr
  have hu := hr.units
  have hu2 := units65 hr
  exact (sss_cons (ss_set 2 nd (se_callB call_len_seq c_len T.z_len PySem.boot_len (sa_cons (se_sub hu3 (se_var 0) se_int) sa_nil)))
      (sss_cons (ss_for PassesOwn.never rfl (si_enum T.z_enumerate (sa_cons (se_var 1) sa_nil)) (sg_tup (n := 2) rfl (sgs_cons (sg_name 3 nd) (sgs_cons (sg_name 4 nd) sgs_nil))) (sss_one (ss_for PassesOwn.never rfl (si_seq (se_var 4)) (sg_name 5 nd) (sss_cons (ss_setLc 6 (own := [("j", 7)]) rfl nd (si_seq (se_var 4)) (blkOk_by (by kernel_rfl)) (fun _ _ _ _ _ => (sc_name 7 nd)) (fun _ _ _ _ _ => (sp_one (PW.pt (sw_and (st_cmp op_gt o_IB (se_var 7) (se_var 5) (nomark _)) (sw_and1 (st_cmp op_notN o_notN (se_call (ok__law_clearance T) (hr.mono (by decide)) hgd T.g__law_clearance T.F__law_clearance.kp T.b__law_clearance (sa_cons (se_var 0) (sa_cons (se_var 5) (sa_cons (se_var 7) sa_nil)))) se_non (nomark _))))))) (fun _ _ _ _ _ => (se_var 7)))
      (sss_one (ss_if (st_cmp (op_neD hu) o_ne (se_var 6) (se_lst sa_nil) (nomark _)) (sss_one (ss_ret (se_tup (sa_cons se_str (sa_cons (se_var 3) (sa_cons (se_var 5) (sa_cons (se_sub hu3 (se_var 6) se_int) sa_nil))))))) sss_nil))))))
      (sss_cons (ss_for PassesOwn.never rfl (si_enum T.z_enumerate (sa_cons (se_var 1) sa_nil)) (sg_tup (n := 2) rfl (sgs_cons (sg_name 3 nd) (sgs_cons (sg_name 4 nd) sgs_nil))) (sss_one (ss_for PassesOwn.never rfl (si_rng1 rfl T.z_range (sa_cons (se_var 2) sa_nil)) (sg_name 5 nd) (sss_cons (ss_setLc 8 (own := [("t", 9)]) rfl nd (si_rng1 rfl T.z_range (sa_cons (se_var 3) sa_nil)) (blkOk_by (by kernel_rfl)) (fun _ _ _ _ _ => (sc_name 9 nd)) (fun _ _ _ _ _ => (sp_one (st_cmp ((op_inAny hu2).or (op_inDk hu3)) o_inA (se_var 5) (se_sub hu3 (se_var 1) (se_var 9)) (by rfl)))) (fun _ _ _ _ _ => (se_var 9)))
      (sss_one (ss_for PassesOwn.never rfl (si_seq (se_var 4)) (sg_name 7 nd) (sss_cons (ss_par 10 11 rfl nd (sa_cons (se_or (se_cmp (op_eqD hu) o_eq (se_var 3) se_int (nomark _)) (se_one (se_cmp ((op_notInAny hu2).or (op_notInDk hu3)) o_notInA (se_var 7) (se_sub hu3 (se_var 1) (se_op op_sub o_II0 (se_var 3) se_int)) (by rfl)))) (sa_cons (se_if (st_cmp (op_neD hu) o_ne (se_var 5) (se_var 7) (nomark _)) (se_call (ok__law_clearance T) (hr.mono (by decide)) hgd T.g__law_clearance T.F__law_clearance.kp T.b__law_clearance (sa_cons (se_var 0) (sa_cons (se_var 5) (sa_cons (se_var 7) sa_nil)))) se_non) sa_nil)))
      (sss_one (ss_if (PW.pt (sw_and (st_truth (se_var 10)) (sw_and (st_cmp op_notN o_notN (se_var 11) se_non (nomark _)) (sw_and (st_cmp (op_neD hu) o_ne (se_var 8) (se_lst sa_nil) (nomark _)) (sw_and1 (st_cmp op_lt o_IB (se_op op_sub o_II0 (se_op op_sub o_II0 (se_var 3) (se_sub hu3 (se_var 8) (se_neg se_int))) se_int) (se_var 11) (nomark _))))))) (sss_one (ss_ret (se_tup (sa_cons se_str (sa_cons (se_var 3) (sa_cons (se_var 5) (sa_cons (se_var 7) sa_nil))))))) sss_nil)))))))))
      (sss_one (ss_ret se_non)))))
theorem ok_with_movement (T : Tx K mg) : FnG P w K mg base 4 T.a_with_movement T.d_with_movement ["crossing", "found", "i"] (toSp K sp_with_movement) := by
  refine okD T.F_with_movement sc_with_movement len_with_movement fun cdv A outer s H hr hgd => ⟨f_with_movement, ?_, body_with_movement⟩
  have nd := sc_with_movement.nd
  have hu3 := hu_of hr
  have hu := hr.units
  have hu2 := units65 hr
  exact (sss_cons (ss_set 3 nd (se_lst sa_nil))
      (sss_cons (ss_for PassesOwn.never rfl (si_seq (se_var 1)) (sg_name 4 nd) (sss_cons (ss_set 5 nd (se_op (((op_add.or op_catA).or op_cat).or op_add_str) o_add (se_callTy call_tuple_of c_tuple T.z_tuple PyProof.Rows.boot_tuple (sa_cons (se_lc (own := [("k", 6)]) rfl nd (si_seq (se_var 4)) (blkOk_by (by kernel_rfl)) (fun _ _ _ _ _ => (sc_name 6 nd)) (fun _ _ _ _ _ => (sp_one (st_not (st_val (se_call (ok_do_cross T) (hr.mono (by decide)) hgd T.g_do_cross T.F_do_cross.kp T.b_do_cross (sa_cons (se_var 0) (sa_cons (se_var 6) (sa_cons (se_var 2) sa_nil)))))))) (fun _ _ _ _ _ => (se_var 6))) sa_nil)) (se_tup (sa_cons (se_var 2) sa_nil))))
      (sss_cons (ss_if (st_not (st_val (se_call (ok_fits_in T) (hr.mono (by decide)) hgd T.g_fits_in T.F_fits_in.kp T.b_fits_in (sa_cons (se_var 0) (sa_cons (se_var 4) (sa_cons (se_var 2) sa_nil)))))) (sss_one (ss_expr (se_m PySem.F.plainAttrs_list PySem.F.slot_list_append PySem.F.type_list_append mt_append ty_list m_append (se_var 3) (sa_cons (se_var 4) sa_nil)))) sss_nil)
      (sss_one (ss_if (st_not (st_val (se_callB (cr_any rfl) c_any T.z_any PyProof.Rows.boot_any (sa_cons (se_lc (own := [("k", 6)]) rfl nd (si_rng1 rfl T.z_range (sa_cons (se_var 2) sa_nil)) (blkOk_by (by kernel_rfl)) (fun _ _ _ _ _ => (sc_name 6 nd)) (fun _ _ _ _ _ => sp_nil) (fun _ _ _ _ _ => (se_and (se_cmp ((op_notInAny hu2).or (op_notInDk hu3)) o_notInA (se_var 6) (se_var 5) (by rfl)) (se_one (se_call (ok_fits_in T) (hr.mono (by decide)) hgd T.g_fits_in T.F_fits_in.kp T.b_fits_in (sa_cons (se_var 0) (sa_cons (se_var 5) (sa_cons (se_var 6) sa_nil)))))))) sa_nil)))) (sss_one (ss_expr (se_m PySem.F.plainAttrs_list PySem.F.slot_list_append PySem.F.type_list_append mt_append ty_list m_append (se_var 3) (sa_cons (se_var 5) sa_nil)))) sss_nil)))))
      (sss_one (ss_ret (se_sortSet hu rfl T.z_sorted T.z_set (sa_cons (se_var 3) sa_nil))))))
theorem ok_judge_lamps (T : Tx K mg) : FnG P w K mg base 4 T.a_judge_lamps T.d_judge_lamps ["crossing", "rows"] (toSp K sp_judge_lamps) := by
  refine okD T.F_judge_lamps sc_judge_lamps len_judge_lamps fun cdv A outer s H hr hgd => ⟨f_judge_lamps, ?_, body_judge_lamps⟩
  have nd := sc_judge_lamps.nd
  have hu3 := hu_of hr
  have hu := hr.units
  have hu2 := units65 hr
  exact (sss_cons (ss_for PassesOwn.never rfl (si_enum T.z_enumerate (sa_cons (se_var 1) sa_nil)) (sg_tup (n := 2) rfl (sgs_cons (sg_name 2 nd) (sgs_cons (sg_name 3 nd) sgs_nil))) (sss_cons (ss_set 4 nd (se_call (ok_first_crossed T) (hr.mono (by decide)) hgd T.g_first_crossed T.F_first_crossed.kp T.b_first_crossed (sa_cons (se_var 0) (sa_cons (se_var 3) sa_nil))))
      (sss_one (ss_if (st_cmp op_notN o_notN (se_var 4) se_non (nomark _)) (sss_one (ss_ret (se_tup (sa_cons se_str (sa_cons (se_var 2) (sa_cons (se_sub hu3 (se_var 4) se_int) (sa_cons (se_sub hu3 (se_var 4) se_int) sa_nil))))))) sss_nil))))
      (sss_cons (ss_set 5 nd se_dnew)
      (sss_cons (ss_set 6 nd (se_tup sa_nil))
      (sss_cons (ss_for PassesOwn.never rfl (si_enum T.z_enumerate (sa_cons (se_var 1) sa_nil)) (sg_tup (n := 2) rfl (sgs_cons (sg_name 2 nd) (sgs_cons (sg_name 3 nd) sgs_nil))) (sss_cons (ss_set 4 nd (se_call (ok_first_early T) (hr.mono (by decide)) hgd T.g_first_early T.F_first_early.kp T.b_first_early (sa_cons (se_var 0) (sa_cons (se_var 5) (sa_cons (se_var 2) (sa_cons (se_lc (own := [("j", 7)]) rfl nd (si_seq (se_var 3)) (blkOk_by (by kernel_rfl)) (fun _ _ _ _ _ => (sc_name 7 nd)) (fun _ _ _ _ _ => (sp_one (st_cmp ((op_notInAny hu2).or (op_notInDk hu3)) o_notInA (se_var 7) (se_var 6) (by rfl)))) (fun _ _ _ _ _ => (se_var 7))) sa_nil))))))
      (sss_cons (ss_if (st_cmp op_notN o_notN (se_var 4) se_non (nomark _)) (sss_one (ss_ret (se_tup (sa_cons se_str (sa_cons (se_var 2) (sa_cons (se_sub hu3 (se_var 4) se_int) (sa_cons (se_sub hu3 (se_var 4) se_int) sa_nil))))))) sss_nil)
      (sss_cons (ss_for PassesOwn.never rfl (si_seq (se_var 3)) (sg_name 8 nd) (sss_one (ss_asg (se_var 2) (sg_set hu3 (se_var 5) (se_var 8)))))
      (sss_one (ss_set 6 nd (se_var 3)))))))
      (sss_one (ss_ret se_non))))))
theorem ok__law_stages (T : Tx K mg) : FnG P w K mg base 4 T.a__law_stages T.d__law_stages ["crossing"] (toSp K sp__law_stages) := by
  refine okD T.F__law_stages sc__law_stages len__law_stages fun cdv A outer s H hr hgd => ⟨f__law_stages, ?_, body__law_stages⟩
  have nd := sc__law_stages.nd
  have hu3 := hu_of hr
  have hu := hr.units
  have hu2 := units65 hr
  exact (sss_cons (ss_par 1 2 rfl nd (sa_cons (se_callB call_len_seq c_len T.z_len PySem.boot_len (sa_cons (se_sub hu3 (se_var 0) se_int) sa_nil)) (sa_cons (se_lst (sa_cons (se_lst sa_nil) sa_nil)) sa_nil)))
      (sss_cons (ss_for PassesOwn.never rfl (si_rng1 rfl T.z_range (sa_cons (se_var 1) sa_nil)) (sg_name 3 nd) (sss_one (ss_set 2 nd (se_op (((op_add.or op_catA).or op_cat).or op_add_str) o_add (se_var 2) (se_lc (own := [("lot", 4)]) rfl nd (si_seq (se_var 2)) (blkOk_by (by kernel_rfl)) (fun _ _ _ _ _ => (sc_name 4 nd)) (fun _ _ _ _ _ => (sp_one (st_not (st_val (se_call (ok__law_crosses_one T) (hr.mono (by decide)) hgd T.g__law_crosses_one T.F__law_crosses_one.kp T.b__law_crosses_one (sa_cons (se_var 0) (sa_cons (se_var 4) (sa_cons (se_var 3) sa_nil)))))))) (fun _ _ _ _ _ => (se_op (((op_add.or op_catA).or op_cat).or op_add_str) o_add (se_var 4) (se_lst (sa_cons (se_var 3) sa_nil)))))))))
      (sss_cons (ss_set 5 nd (se_lst sa_nil))
      (sss_cons (ss_for PassesOwn.never rfl (si_seq (se_var 2)) (sg_name 4 nd) (sss_one (ss_if (st_val (se_callB (cr_all rfl) c_all T.z_all PyProof.Rows.boot_all (sa_cons (se_lc (own := [("i", 3)]) rfl nd (si_rng1 rfl T.z_range (sa_cons (se_var 1) sa_nil)) (blkOk_by (by kernel_rfl)) (fun _ _ _ _ _ => (sc_name 3 nd)) (fun _ _ _ _ _ => sp_nil) (fun _ _ _ _ _ => (se_or (se_cmp ((op_inAny hu2).or (op_inDk hu3)) o_inA (se_var 3) (se_var 4) (by rfl)) (se_one (se_call (ok__law_crosses_one T) (hr.mono (by decide)) hgd T.g__law_crosses_one T.F__law_crosses_one.kp T.b__law_crosses_one (sa_cons (se_var 0) (sa_cons (se_var 4) (sa_cons (se_var 3) sa_nil)))))))) sa_nil))) (sss_one (ss_expr (se_m PySem.F.plainAttrs_list PySem.F.slot_list_append PySem.F.type_list_append mt_append ty_list m_append (se_var 5) (sa_cons (se_callTy call_tuple_of c_tuple T.z_tuple PyProof.Rows.boot_tuple (sa_cons (se_var 4) sa_nil)) sa_nil)))) sss_nil)))
      (sss_one (ss_ret (se_callB (cr_sortA hu2 rfl) c_sortA T.z_sorted PyProof.Rows.boot_sorted (sa_cons (se_var 5) sa_nil))))))))
theorem ok__law_draw_crossing (T : Tx K mg) : FnG P w K mg base 4 T.a__law_draw_crossing T.d__law_draw_crossing ["source", "n", "mine", "length"] (toSp K sp__law_draw_crossing) := by
  refine okD T.F__law_draw_crossing sc__law_draw_crossing len__law_draw_crossing fun cdv A outer s H hr hgd => ⟨f__law_draw_crossing, ?_, body__law_draw_crossing⟩
  have nd := sc__law_draw_crossing.nd
  have hu3 := hu_of hr
  have hu := hr.units
  have hu2 := units65 hr
  exact (sss_cons (ss_set 4 nd (se_lst sa_nil))
      (sss_cons (ss_for PassesOwn.never rfl (si_seq (se_var 2)) (sg_name 5 nd) (sss_cons (ss_set 6 nd (se_op (((op_add.or op_catA).or op_cat).or op_add_str) o_add (se_lst (sa_cons se_non sa_nil)) (se_lc (own := [("one", 7)]) rfl nd (si_rng1 rfl T.z_range (sa_cons (se_var 1) sa_nil)) (blkOk_by (by kernel_rfl)) (fun _ _ _ _ _ => (sc_name 7 nd)) (fun _ _ _ _ _ => (sp_one (st_cmp (op_neD hu) o_ne (se_var 7) (se_var 5) (nomark _)))) (fun _ _ _ _ _ => (se_var 7)))))
      (sss_one (ss_for PassesOwn.never rfl (si_rng1 rfl T.z_range (sa_cons (se_op (((op_add.or op_catA).or op_cat).or op_add_str) o_add se_int (se_callTy call_int1 c_int T.z_int PyProof.Rows.boot_int (sa_cons (se_cmp (op_eqD hu) o_eq (se_call (ok__law_pick T) (hr.mono (by decide)) hgd T.g__law_pick T.F__law_pick.kp T.b__law_pick (sa_cons (se_var 0) (sa_cons se_int sa_nil))) se_int (nomark _)) sa_nil))) sa_nil)) (sg_name 8 nd) (sss_cons (ss_set 9 nd (se_tup (sa_cons (se_var 5) (sa_cons (se_sub hu3 (se_var 6) (se_call (ok__law_pick T) (hr.mono (by decide)) hgd T.g__law_pick T.F__law_pick.kp T.b__law_pick (sa_cons (se_var 0) (sa_cons (se_callB call_len_seq c_len T.z_len PySem.boot_len (sa_cons (se_var 6) sa_nil)) sa_nil)))) sa_nil))))
      (sss_one (ss_if (st_cmp ((op_notInAny hu2).or (op_notInDk hu3)) o_notInA (se_var 9) (se_var 4) (by rfl)) (sss_one (ss_expr (se_m PySem.F.plainAttrs_list PySem.F.slot_list_append PySem.F.type_list_append mt_append ty_list m_append (se_var 4) (sa_cons (se_var 9) sa_nil)))) sss_nil)))))))
      (sss_cons (ss_par 4 10 rfl nd (sa_cons (se_slice (se_call (ok__law_any_order T) (hr.mono (by decide)) hgd T.g__law_any_order T.F__law_any_order.kp T.b__law_any_order (sa_cons (se_var 0) (sa_cons (se_var 4) sa_nil))) so_none (so_some se_int)) (sa_cons (se_lst sa_nil) sa_nil)))
      (sss_cons (ss_for PassesOwn.never rfl (si_rng1 rfl T.z_range (sa_cons (se_callB call_len_seq c_len T.z_len PySem.boot_len (sa_cons (se_var 4) sa_nil)) sa_nil)) (sg_name 11 nd) (sss_one (ss_for PassesOwn.never rfl (si_rng2 rfl T.z_range (sa_cons (se_op (((op_add.or op_catA).or op_cat).or op_add_str) o_add (se_var 11) se_int) (sa_cons (se_callB call_len_seq c_len T.z_len PySem.boot_len (sa_cons (se_var 4) sa_nil)) sa_nil))) (sg_name 12 nd) (sss_one (ss_if (st_cmp (op_eqD hu) o_eq (se_call (ok__law_pick T) (hr.mono (by decide)) hgd T.g__law_pick T.F__law_pick.kp T.b__law_pick (sa_cons (se_var 0) (sa_cons se_int sa_nil))) se_int (nomark _)) (sss_one (ss_expr (se_m PySem.F.plainAttrs_list PySem.F.slot_list_append PySem.F.type_list_append mt_append ty_list m_append (se_var 10) (sa_cons (se_tup (sa_cons (se_var 11) (sa_cons (se_var 12) (sa_cons (se_call (ok__law_pick T) (hr.mono (by decide)) hgd T.g__law_pick T.F__law_pick.kp T.b__law_pick (sa_cons (se_var 0) (sa_cons se_int sa_nil))) (sa_cons (se_call (ok__law_pick T) (hr.mono (by decide)) hgd T.g__law_pick T.F__law_pick.kp T.b__law_pick (sa_cons (se_var 0) (sa_cons se_int sa_nil))) sa_nil))))) sa_nil)))) sss_nil)))))
      (sss_one (ss_ret (se_tup (sa_cons (se_callTy call_tuple_of c_tuple T.z_tuple PyProof.Rows.boot_tuple (sa_cons (se_var 4) sa_nil)) (sa_cons (se_callTy call_tuple_of c_tuple T.z_tuple PyProof.Rows.boot_tuple (sa_cons (se_var 10) sa_nil)) (sa_cons (se_var 3) sa_nil))))))))))
theorem ok_stages (T : Tx K mg) : FnG P w K mg base 5 T.a_stages T.d_stages ["crossing"] (toSp K sp_stages) := by
  refine okD T.F_stages sc_stages len_stages fun cdv A outer s H hr hgd => ⟨f_stages, ?_, body_stages⟩
  have nd := sc_stages.nd
  have hu3 := hu_of hr
  have hu := hr.units
  have hu2 := units65 hr
  exact (sss_cons (ss_set 1 nd (se_lst (sa_cons (se_tup sa_nil) sa_nil)))
      (sss_cons (ss_for PassesOwn.never rfl (si_rng1 rfl T.z_range (sa_cons (se_callB call_len_seq c_len T.z_len PySem.boot_len (sa_cons (se_sub hu3 (se_var 0) se_int) sa_nil)) sa_nil)) (sg_name 2 nd) (sss_one (ss_set 1 nd (se_call (ok_with_movement T) (hr.mono (by decide)) hgd T.g_with_movement T.F_with_movement.kp T.b_with_movement (sa_cons (se_var 0) (sa_cons (se_var 1) (sa_cons (se_var 2) sa_nil)))))))
      (sss_one (ss_ret (se_callTy call_tuple_of c_tuple T.z_tuple PyProof.Rows.boot_tuple (sa_cons (se_var 1) sa_nil))))))
theorem ok__law_draw_town (T : Tx K mg) : FnG P w K mg base 5 T.a__law_draw_town T.d__law_draw_town ["source", "most"] (toSp K sp__law_draw_town) := by
  refine okD T.F__law_draw_town sc__law_draw_town len__law_draw_town fun cdv A outer s H hr hgd => ⟨f__law_draw_town, ?_, body__law_draw_town⟩
  have nd := sc__law_draw_town.nd
  have hu3 := hu_of hr
  have hu := hr.units
  have hu2 := units65 hr
  exact (sss_cons (ss_if (PW.pt (sw_and (st_cmp op_gt o_IB (se_var 1) se_int (nomark _)) (sw_and1 (st_cmp (op_eqD hu) o_eq (se_call (ok__law_pick T) (hr.mono (by decide)) hgd T.g__law_pick T.F__law_pick.kp T.b__law_pick (sa_cons (se_var 0) (sa_cons se_int sa_nil))) se_int (nomark _))))) (sss_one (ss_ret (se_call (ok__law_strict_town T) (hr.mono (by decide)) hgd T.g__law_strict_town T.F__law_strict_town.kp T.b__law_strict_town (sa_cons (se_var 0) (sa_cons (se_var 1) sa_nil))))) sss_nil)
      (sss_cons (ss_par3 2 3 4 rfl nd (sa_cons (se_op (((op_add.or op_catA).or op_cat).or op_add_str) o_add se_int (se_call (ok__law_pick T) (hr.mono (by decide)) hgd T.g__law_pick T.F__law_pick.kp T.b__law_pick (sa_cons (se_var 0) (sa_cons (se_var 1) sa_nil)))) (sa_cons (se_op (((op_add.or op_catA).or op_cat).or op_add_str) o_add se_int (se_call (ok__law_pick T) (hr.mono (by decide)) hgd T.g__law_pick T.F__law_pick.kp T.b__law_pick (sa_cons (se_var 0) (sa_cons se_int sa_nil)))) (sa_cons (se_lst sa_nil) sa_nil))))
      (sss_cons (ss_set 5 nd (se_lst (sa_cons (se_lst sa_nil) (sa_cons (se_lst sa_nil) (sa_cons (se_lst sa_nil) sa_nil)))))
      (sss_cons (ss_for PassesOwn.never rfl (si_rng1 rfl T.z_range (sa_cons (se_var 2) sa_nil)) (sg_name 6 nd) (sss_one (ss_expr (se_m PySem.F.plainAttrs_list PySem.F.slot_list_append PySem.F.type_list_append mt_append ty_list m_append (se_sub hu3 (se_var 5) (se_call (ok__law_pick T) (hr.mono (by decide)) hgd T.g__law_pick T.F__law_pick.kp T.b__law_pick (sa_cons (se_var 0) (sa_cons se_int sa_nil)))) (sa_cons (se_var 6) sa_nil)))))
      (sss_cons (ss_for PassesOwn.never rfl (si_seq (se_var 5)) (sg_name 7 nd) (sss_one (ss_if (st_cmp (op_neD hu) o_ne (se_var 7) (se_lst sa_nil) (nomark _)) (sss_one (ss_expr (se_m PySem.F.plainAttrs_list PySem.F.slot_list_append PySem.F.type_list_append mt_append ty_list m_append (se_var 4) (sa_cons (se_call (ok__law_draw_crossing T) (hr.mono (by decide)) hgd T.g__law_draw_crossing T.F__law_draw_crossing.kp T.b__law_draw_crossing (sa_cons (se_var 0) (sa_cons (se_var 2) (sa_cons (se_var 7) (sa_cons (se_var 3) sa_nil))))) sa_nil)))) sss_nil)))
      (sss_one (ss_ret (se_tup (sa_cons (se_var 2) (sa_cons (se_callTy call_tuple_of c_tuple T.z_tuple PyProof.Rows.boot_tuple (sa_cons (se_var 4) sa_nil)) sa_nil))))))))))
theorem ok__law_draw_plan (T : Tx K mg) : FnG P w K mg base 5 T.a__law_draw_plan T.d__law_draw_plan ["source", "crossing"] (toSp K sp__law_draw_plan) := by
  refine okD T.F__law_draw_plan sc__law_draw_plan len__law_draw_plan fun cdv A outer s H hr hgd => ⟨f__law_draw_plan, ?_, body__law_draw_plan⟩
  have nd := sc__law_draw_plan.nd
  have hu3 := hu_of hr
  have hu := hr.units
  have hu2 := units65 hr
  exact (sss_cons (ss_par3 2 3 4 rfl nd (sa_cons (se_tup sa_nil) (sa_cons (se_sub hu3 (se_var 1) se_int) (sa_cons (se_call (ok__law_stages T) (hr.mono (by decide)) hgd T.g__law_stages T.F__law_stages.kp T.b__law_stages (sa_cons (se_var 1) sa_nil)) sa_nil))))
      (sss_cons (ss_for PassesOwn.never rfl (si_seq (se_call (ok__law_any_order T) (hr.mono (by decide)) hgd T.g__law_any_order T.F__law_any_order.kp T.b__law_any_order (sa_cons (se_var 0) (sa_cons (se_lstR1 rfl T.z_list T.z_range (se_callB call_len_seq c_len T.z_len PySem.boot_len (sa_cons (se_var 4) sa_nil))) sa_nil)))) (sg_name 5 nd) (sss_cons (ss_set 6 nd (se_op op_sub o_II0 (se_var 3) (se_call (ok__law_clearing T) (hr.mono (by decide)) hgd T.g__law_clearing T.F__law_clearing.kp T.b__law_clearing (sa_cons (se_var 1) (sa_cons (se_sub hu3 (se_var 4) (se_var 5)) sa_nil)))))
      (sss_one (ss_if (PW.pt (sw_and (st_cmp op_gt o_IB (se_var 6) se_int (nomark _)) (sw_and1 (st_cmp op_gt o_IB (se_call (ok__law_pick T) (hr.mono (by decide)) hgd T.g__law_pick T.F__law_pick.kp T.b__law_pick (sa_cons (se_var 0) (sa_cons se_int sa_nil))) se_int (nomark _))))) (sss_cons (ss_set 7 nd (se_op (((op_add.or op_catA).or op_cat).or op_add_str) o_add se_int (se_call (ok__law_pick T) (hr.mono (by decide)) hgd T.g__law_pick T.F__law_pick.kp T.b__law_pick (sa_cons (se_var 0) (sa_cons (se_var 6) sa_nil)))))
      (sss_one (ss_par 2 3 rfl nd (sa_cons (se_op (((op_add.or op_catA).or op_cat).or op_add_str) o_add (se_var 2) (se_tup (sa_cons (se_tup (sa_cons (se_var 5) (sa_cons (se_var 7) sa_nil))) sa_nil))) (sa_cons (se_op op_sub o_II0 (se_op op_sub o_II0 (se_var 3) (se_var 7)) (se_call (ok__law_clearing T) (hr.mono (by decide)) hgd T.g__law_clearing T.F__law_clearing.kp T.b__law_clearing (sa_cons (se_var 1) (sa_cons (se_sub hu3 (se_var 4) (se_var 5)) sa_nil)))) sa_nil))))) sss_nil))))
      (sss_one (ss_ret (se_var 2)))))
theorem ok__law_lamps (T : Tx K mg) : FnG P w K mg base 5 T.a__law_lamps T.d__law_lamps ["crossing", "plans"] (toSp K sp__law_lamps) := by
  refine okD T.F__law_lamps sc__law_lamps len__law_lamps fun cdv A outer s H hr hgd => ⟨f__law_lamps, ?_, body__law_lamps⟩
  have nd := sc__law_lamps.nd
  have hu3 := hu_of hr
  have hu := hr.units
  have hu2 := units65 hr
  exact (sss_cons (ss_par 2 3 rfl nd (sa_cons (se_lst sa_nil) (sa_cons (se_call (ok__law_stages T) (hr.mono (by decide)) hgd T.g__law_stages T.F__law_stages.kp T.b__law_stages (sa_cons (se_var 0) sa_nil)) sa_nil)))
      (sss_cons (ss_for PassesOwn.never rfl (si_seq (se_var 1)) (sg_name 4 nd) (sss_cons (ss_set 5 nd (se_lst sa_nil))
      (sss_cons (ss_for PassesOwn.never rfl (si_seq (se_var 4)) (sg_tup (n := 2) rfl (sgs_cons (sg_name 6 nd) (sgs_cons (sg_name 7 nd) sgs_nil))) (sss_one (ss_set 5 nd (se_op (((op_add.or op_catA).or op_cat).or op_add_str) o_add (se_op (((op_add.or op_catA).or op_cat).or op_add_str) o_add (se_var 5) (se_op ((op_mul.or op_mulW).or op_rep) o_mul (se_lst (sa_cons (se_sub hu3 (se_var 3) (se_var 6)) sa_nil)) (se_var 7))) (se_op ((op_mul.or op_mulW).or op_rep) o_mul (se_lst (sa_cons (se_tup sa_nil) sa_nil)) (se_call (ok__law_clearing T) (hr.mono (by decide)) hgd T.g__law_clearing T.F__law_clearing.kp T.b__law_clearing (sa_cons (se_var 0) (sa_cons (se_sub hu3 (se_var 3) (se_var 6)) sa_nil))))))))
      (sss_one (ss_set 2 nd (se_op (((op_add.or op_catA).or op_cat).or op_add_str) o_add (se_op (((op_add.or op_catA).or op_cat).or op_add_str) o_add (se_var 2) (se_var 5)) (se_op ((op_mul.or op_mulW).or op_rep) o_mul (se_lst (sa_cons (se_tup sa_nil) sa_nil)) (se_op op_sub o_II0 (se_sub hu3 (se_var 0) se_int) (se_callB call_len_seq c_len T.z_len PySem.boot_len (sa_cons (se_var 5) sa_nil))))))))))
      (sss_one (ss_ret (se_var 2)))))
theorem ok_clearings (T : Tx K mg) : FnG P w K mg base 6 T.a_clearings T.d_clearings ["crossing"] (toSp K sp_clearings) := by
  refine okD T.F_clearings sc_clearings len_clearings fun cdv A outer s H hr hgd => ⟨f_clearings, ?_, body_clearings⟩
  have nd := sc_clearings.nd
  have hu3 := hu_of hr
  have hu := hr.units
  have hu2 := units65 hr
  exact (sss_one (ss_ret (se_callTy call_tuple_of c_tuple T.z_tuple PyProof.Rows.boot_tuple (sa_cons (se_lc (own := [("stage", 1)]) rfl nd (si_seq (se_call (ok_stages T) (hr.mono (by decide)) hgd T.g_stages T.F_stages.kp T.b_stages (sa_cons (se_var 0) sa_nil))) (blkOk_by (by kernel_rfl)) (fun _ _ _ _ _ => (sc_name 1 nd)) (fun _ _ _ _ _ => sp_nil) (fun _ _ _ _ _ => (se_call (ok_clearing_of T) (hr.mono (by decide)) hgd T.g_clearing_of T.F_clearing_of.kp T.b_clearing_of (sa_cons (se_var 0) (sa_cons (se_var 1) sa_nil))))) sa_nil))))
theorem ok_clear_ticks (T : Tx K mg) : FnG P w K mg base 6 T.a_clear_ticks T.d_clear_ticks ["crossing", "s"] (toSp K sp_clear_ticks) := by
  refine okD T.F_clear_ticks sc_clear_ticks len_clear_ticks fun cdv A outer s H hr hgd => ⟨f_clear_ticks, ?_, body_clear_ticks⟩
  have nd := sc_clear_ticks.nd
  have hu3 := hu_of hr
  have hu := hr.units
  have hu2 := units65 hr
  exact (sss_one (ss_ret (se_call (ok_clearing_of T) (hr.mono (by decide)) hgd T.g_clearing_of T.F_clearing_of.kp T.b_clearing_of (sa_cons (se_var 0) (sa_cons (se_sub hu3 (se_call (ok_stages T) (hr.mono (by decide)) hgd T.g_stages T.F_stages.kp T.b_stages (sa_cons (se_var 0) sa_nil)) (se_var 1)) sa_nil)))))
theorem ok_greens (T : Tx K mg) : FnG P w K mg base 7 T.a_greens T.d_greens ["crossing", "plan"] (toSp K sp_greens) := by
  refine okD T.F_greens sc_greens len_greens fun cdv A outer s H hr hgd => ⟨f_greens, ?_, body_greens⟩
  have nd := sc_greens.nd
  have hu3 := hu_of hr
  have hu := hr.units
  have hu2 := units65 hr
  exact (sss_cons (ss_par 2 3 rfl nd (sa_cons (se_call (ok_stages T) (hr.mono (by decide)) hgd T.g_stages T.F_stages.kp T.b_stages (sa_cons (se_var 0) sa_nil)) (sa_cons (se_call (ok_clearings T) (hr.mono (by decide)) hgd T.g_clearings T.F_clearings.kp T.b_clearings (sa_cons (se_var 0) sa_nil)) sa_nil)))
      (sss_cons (ss_set 4 nd (se_lst sa_nil))
      (sss_cons (ss_set 5 nd se_int)
      (sss_cons (ss_for PassesOwn.never rfl (si_seq (se_var 1)) (sg_tup (n := 2) rfl (sgs_cons (sg_name 6 nd) (sgs_cons (sg_name 7 nd) sgs_nil))) (sss_cons (ss_expr (se_m PySem.F.plainAttrs_list PySem.F.slot_list_extend PySem.F.type_list_extend mt_extend ty_list m_extend (se_var 4) (sa_cons (se_lc (own := [("i", 8)]) rfl nd (si_seq (se_sub hu3 (se_var 2) (se_var 6))) (blkOk_by (by kernel_rfl)) (fun _ _ _ _ _ => (sc_name 8 nd)) (fun _ _ _ _ _ => sp_nil) (fun _ _ _ _ _ => (se_tup (sa_cons (se_var 8) (sa_cons (se_var 5) (sa_cons (se_op (((op_add.or op_catA).or op_cat).or op_add_str) o_add (se_var 5) (se_var 7)) sa_nil)))))) sa_nil)))
      (sss_one (ss_aug 5 nd ip_add ip_addD (se_op (((op_add.or op_catA).or op_cat).or op_add_str) o_add (se_var 7) (se_sub hu3 (se_var 3) (se_var 6)))))))
      (sss_one (ss_ret (se_callTy call_tuple_of c_tuple T.z_tuple PyProof.Rows.boot_tuple (sa_cons (se_callB (cr_sortA hu2 rfl) c_sortA T.z_sorted PyProof.Rows.boot_sorted (sa_cons (se_var 4) sa_nil)) sa_nil))))))))
theorem ok_lamps_at (T : Tx K mg) : FnG P w K mg base 8 T.a_lamps_at T.d_lamps_at ["crossing", "plan", "tick"] (toSp K sp_lamps_at) := by
  refine okD T.F_lamps_at sc_lamps_at len_lamps_at fun cdv A outer s H hr hgd => ⟨f_lamps_at, ?_, body_lamps_at⟩
  have nd := sc_lamps_at.nd
  have hu3 := hu_of hr
  have hu := hr.units
  have hu2 := units65 hr
  exact (sss_one (ss_ret (se_call (ok_green_in T) (hr.mono (by decide)) hgd T.g_green_in T.F_green_in.kp T.b_green_in (sa_cons (se_call (ok_greens T) (hr.mono (by decide)) hgd T.g_greens T.F_greens.kp T.b_greens (sa_cons (se_var 0) (sa_cons (se_var 1) sa_nil))) (sa_cons (se_var 2) sa_nil)))))
theorem ok_lamp_rows (T : Tx K mg) : FnG P w K mg base 8 T.a_lamp_rows T.d_lamp_rows ["crossing", "plans"] (toSp K sp_lamp_rows) := by
  refine okD T.F_lamp_rows sc_lamp_rows len_lamp_rows fun cdv A outer s H hr hgd => ⟨f_lamp_rows, ?_, body_lamp_rows⟩
  have nd := sc_lamp_rows.nd
  have hu3 := hu_of hr
  have hu := hr.units
  have hu2 := units65 hr
  exact (sss_cons (ss_set 2 nd (se_lst sa_nil))
      (sss_cons (ss_for PassesOwn.never rfl (si_seq (se_var 1)) (sg_name 3 nd) (sss_cons (ss_set 4 nd (se_call (ok_greens T) (hr.mono (by decide)) hgd T.g_greens T.F_greens.kp T.b_greens (sa_cons (se_var 0) (sa_cons (se_var 3) sa_nil))))
      (sss_one (ss_expr (se_m PySem.F.plainAttrs_list PySem.F.slot_list_extend PySem.F.type_list_extend mt_extend ty_list m_extend (se_var 2) (sa_cons (se_lc (own := [("tick", 5)]) rfl nd (si_rng1 rfl T.z_range (sa_cons (se_sub hu3 (se_var 0) se_int) sa_nil)) (blkOk_by (by kernel_rfl)) (fun _ _ _ _ _ => (sc_name 5 nd)) (fun _ _ _ _ _ => sp_nil) (fun _ _ _ _ _ => (se_call (ok_green_in T) (hr.mono (by decide)) hgd T.g_green_in T.F_green_in.kp T.b_green_in (sa_cons (se_var 4) (sa_cons (se_var 5) sa_nil))))) sa_nil))))))
      (sss_one (ss_ret (se_var 2)))))
theorem ok_law (T : Tx K mg) : FnG P w K mg base 9 T.a_law T.d_law ["script"] (toSp K sp_law) := by
  refine okD T.F_law sc_law len_law fun cdv A outer s H hr hgd => ⟨f_law, ?_, body_law⟩
  have nd := sc_law.nd
  have hu3 := hu_of hr
  have hu := hr.units
  have hu2 := units65 hr
  exact (sss_cons (ss_set 1 nd (se_call (ok__law_open_cells T) (hr.mono (by decide)) hgd T.g__law_open_cells T.F__law_open_cells.kp T.b__law_open_cells (sa_cons (se_var 0) sa_nil)))
      (sss_cons (ss_for PassesOwn.never rfl (si_rng1 rfl T.z_range (sa_cons se_int sa_nil)) (sg_name 2 nd) (sss_cons (ss_set 3 nd (se_call (ok__law_draw_town T) (hr.mono (by decide)) hgd T.g__law_draw_town T.F__law_draw_town.kp T.b__law_draw_town (sa_cons (se_var 1) (sa_cons se_int sa_nil))))
      (sss_one (ss_for PassesOwn.never rfl (si_seq (se_sub hu3 (se_var 3) se_int)) (sg_name 4 nd) (sss_cons (ss_set 5 nd (se_call (ok__law_stages T) (hr.mono (by decide)) hgd T.g__law_stages T.F__law_stages.kp T.b__law_stages (sa_cons (se_var 4) sa_nil)))
      (sss_cons (ss_if (st_cmp (op_neD hu) o_ne (se_lc (own := [("s", 6)]) rfl nd (si_rng1 rfl T.z_range (sa_cons (se_callB call_len_seq c_len T.z_len PySem.boot_len (sa_cons (se_var 5) sa_nil)) sa_nil)) (blkOk_by (by kernel_rfl)) (fun _ _ _ _ _ => (sc_name 6 nd)) (fun _ _ _ _ _ => sp_nil) (fun _ _ _ _ _ => (se_call (ok_clear_ticks T) (hr.mono (by decide)) hgd T.g_clear_ticks T.F_clear_ticks.kp T.b_clear_ticks (sa_cons (se_var 4) (sa_cons (se_var 6) sa_nil))))) (se_lc (own := [("one", 7)]) rfl nd (si_seq (se_var 5)) (blkOk_by (by kernel_rfl)) (fun _ _ _ _ _ => (sc_name 7 nd)) (fun _ _ _ _ _ => sp_nil) (fun _ _ _ _ _ => (se_call (ok__law_clearing T) (hr.mono (by decide)) hgd T.g__law_clearing T.F__law_clearing.kp T.b__law_clearing (sa_cons (se_var 4) (sa_cons (se_var 7) sa_nil))))) (nomark _)) (sss_one (ss_ret se_bl)) sss_nil)
      (sss_cons (ss_set 8 nd (se_lc (own := [("turn", 9)]) rfl nd (si_rng1 rfl T.z_range (sa_cons se_int sa_nil)) (blkOk_by (by kernel_rfl)) (fun _ _ _ _ _ => (sc_name 9 nd)) (fun _ _ _ _ _ => sp_nil) (fun _ _ _ _ _ => (se_call (ok__law_draw_plan T) (hr.mono (by decide)) hgd T.g__law_draw_plan T.F__law_draw_plan.kp T.b__law_draw_plan (sa_cons (se_var 1) (sa_cons (se_var 4) sa_nil))))))
      (sss_cons (ss_set 10 nd (se_call (ok__law_lamps T) (hr.mono (by decide)) hgd T.g__law_lamps T.F__law_lamps.kp T.b__law_lamps (sa_cons (se_var 4) (sa_cons (se_var 8) sa_nil))))
      (sss_cons (ss_if (st_cmp (op_neD hu) o_ne (se_lc (own := [("lot", 11)]) rfl nd (si_seq (se_call (ok_lamp_rows T) (hr.mono (by decide)) hgd T.g_lamp_rows T.F_lamp_rows.kp T.b_lamp_rows (sa_cons (se_var 4) (sa_cons (se_var 8) sa_nil)))) (blkOk_by (by kernel_rfl)) (fun _ _ _ _ _ => (sc_name 11 nd)) (fun _ _ _ _ _ => sp_nil) (fun _ _ _ _ _ => (se_callTy call_tuple_of c_tuple T.z_tuple PyProof.Rows.boot_tuple (sa_cons (se_var 11) sa_nil)))) (se_var 10) (nomark _)) (sss_one (ss_ret se_bl)) sss_nil)
      (sss_cons (ss_if (st_cmp op_notN o_notN (se_call (ok__law_lamp_fault T) (hr.mono (by decide)) hgd T.g__law_lamp_fault T.F__law_lamp_fault.kp T.b__law_lamp_fault (sa_cons (se_var 4) (sa_cons (se_var 10) sa_nil))) se_non (nomark _)) (sss_one (ss_ret se_bl)) sss_nil)
      (sss_cons (ss_if (st_cmp op_notN o_notN (se_call (ok_judge_lamps T) (hr.mono (by decide)) hgd T.g_judge_lamps T.F_judge_lamps.kp T.b_judge_lamps (sa_cons (se_var 4) (sa_cons (se_var 10) sa_nil))) se_non (nomark _)) (sss_one (ss_ret se_bl)) sss_nil)
      (sss_cons (ss_set 12 nd (se_call (ok__law_lamps T) (hr.mono (by decide)) hgd T.g__law_lamps T.F__law_lamps.kp T.b__law_lamps (sa_cons (se_var 4) (sa_cons (se_slice (se_var 8) so_none (so_some se_int)) sa_nil))))
      (sss_cons (ss_if (st_cmp (op_neD hu) o_ne (se_lc (own := [("t", 13)]) rfl nd (si_rng1 rfl T.z_range (sa_cons (se_sub hu3 (se_var 4) se_int) sa_nil)) (blkOk_by (by kernel_rfl)) (fun _ _ _ _ _ => (sc_name 13 nd)) (fun _ _ _ _ _ => sp_nil) (fun _ _ _ _ _ => (se_callTy call_tuple_of c_tuple T.z_tuple PyProof.Rows.boot_tuple (sa_cons (se_call (ok_lamps_at T) (hr.mono (by decide)) hgd T.g_lamps_at T.F_lamps_at.kp T.b_lamps_at (sa_cons (se_var 4) (sa_cons (se_sub hu3 (se_var 8) se_int) (sa_cons (se_var 13) sa_nil)))) sa_nil)))) (se_var 12) (nomark _)) (sss_one (ss_ret se_bl)) sss_nil)
      (sss_cons (ss_if (st_cmp (op_neD hu) o_ne (se_callB (cr_sum rfl) c_sum T.z_sum PyProof.Rows.boot_sum (sa_cons (se_lc (own := [("i", 14), ("begin", 15), ("end", 16)]) rfl nd (si_seq (se_call (ok_greens T) (hr.mono (by decide)) hgd T.g_greens T.F_greens.kp T.b_greens (sa_cons (se_var 4) (sa_cons (se_sub hu3 (se_var 8) se_int) sa_nil)))) (blkOk_by (by kernel_rfl)) (fun _ _ _ _ _ => (sc_tup (n := 3) rfl (scs_cons (sc_name 14 nd) (scs_cons (sc_name 15 nd) (scs_cons (sc_name 16 nd) scs_nil))))) (fun _ _ _ _ _ => sp_nil) (fun _ _ _ _ _ => (se_op op_sub o_II0 (se_var 16) (se_var 15)))) sa_nil)) (se_callB (cr_sum rfl) c_sum T.z_sum PyProof.Rows.boot_sum (sa_cons (se_lc (own := [("lot", 11)]) rfl nd (si_seq (se_var 12)) (blkOk_by (by kernel_rfl)) (fun _ _ _ _ _ => (sc_name 11 nd)) (fun _ _ _ _ _ => sp_nil) (fun _ _ _ _ _ => (se_callB call_len_seq c_len T.z_len PySem.boot_len (sa_cons (se_var 11) sa_nil)))) sa_nil)) (nomark _)) (sss_one (ss_ret se_bl)) sss_nil)
      (sss_one (ss_for PassesOwn.never rfl (si_rng1 rfl T.z_range (sa_cons se_int sa_nil)) (sg_name 9 nd) (sss_cons (ss_par 13 14 rfl nd (sa_cons (se_call (ok__law_pick T) (hr.mono (by decide)) hgd T.g__law_pick T.F__law_pick.kp T.b__law_pick (sa_cons (se_var 1) (sa_cons (se_callB call_len_seq c_len T.z_len PySem.boot_len (sa_cons (se_var 10) sa_nil)) sa_nil))) (sa_cons (se_call (ok__law_pick T) (hr.mono (by decide)) hgd T.g__law_pick T.F__law_pick.kp T.b__law_pick (sa_cons (se_var 1) (sa_cons (se_callB call_len_seq c_len T.z_len PySem.boot_len (sa_cons (se_sub hu3 (se_var 4) se_int) sa_nil)) sa_nil))) sa_nil)))
      (sss_cons (ss_set 17 nd (se_op (((op_add.or op_catA).or op_cat).or op_add_str) o_add (se_op (((op_add.or op_catA).or op_cat).or op_add_str) o_add (se_slice (se_var 10) so_none (so_some (se_var 13))) (se_lst (sa_cons (se_callTy call_tuple_of c_tuple T.z_tuple PyProof.Rows.boot_tuple (sa_cons (se_callB (cr_sortA hu2 rfl) c_sortA T.z_sorted PyProof.Rows.boot_sorted (sa_cons (se_callTy (call_dictP rfl) c_dictP T.z_dict PyProof.Rows.boot_dict (sa_cons (se_lc (own := [("j", 18)]) rfl nd (si_seq (se_op (((op_add.or op_catA).or op_cat).or op_add_str) o_add (se_sub hu3 (se_var 10) (se_var 13)) (se_tup (sa_cons (se_var 14) sa_nil)))) (blkOk_by (by kernel_rfl)) (fun _ _ _ _ _ => (sc_name 18 nd)) (fun _ _ _ _ _ => sp_nil) (fun _ _ _ _ _ => (se_tup (sa_cons (se_var 18) (sa_cons se_int sa_nil))))) sa_nil)) sa_nil)) sa_nil)) sa_nil))) (se_slice (se_var 10) (so_some (se_op (((op_add.or op_catA).or op_cat).or op_add_str) o_add (se_var 13) se_int)) so_none)))
      (sss_one (ss_if (st_cmp (op_neD hu) o_ne (se_callB (call_reprD hgd hu2) c_repr T.z_repr PyProof.Rows.boot_repr (sa_cons (se_call (ok_judge_lamps T) (hr.mono (by decide)) hgd T.g_judge_lamps T.F_judge_lamps.kp T.b_judge_lamps (sa_cons (se_var 4) (sa_cons (se_var 17) sa_nil))) sa_nil)) (se_callB (call_reprD hgd hu2) c_repr T.z_repr PyProof.Rows.boot_repr (sa_cons (se_call (ok__law_lamp_fault T) (hr.mono (by decide)) hgd T.g__law_lamp_fault T.F__law_lamp_fault.kp T.b__law_lamp_fault (sa_cons (se_var 4) (sa_cons (se_var 17) sa_nil))) sa_nil)) (nomark _)) (sss_one (ss_ret se_bl)) sss_nil))))))))))))))))))))
      (sss_one (ss_ret se_bl))))
end
end A30
namespace A30
open PySem PySem.Spec PyProof.Rows L2 DL
theorem all30 {l : PySem.W.OpenLaw} {w : World} {K : PySem.W.Frag} {h : Heap} {mg : Str → Option Value} {fa : Addr} (X : K.In h) (G : h.Ns mainGlobals mg) (hfa : mg "law" = some (.ref fa))
    {f0 : Addr} {od0 an0 : Option Addr} {sl0 : Array (Option Value)} {oc0 kV0 dc0 pm0 cd0 ct0 : Value}
    (a0 : PySem.W.nsIn K mainGlobals "do_cross" = some (some (.ref f0))) (l0 : K.lookup f0 = some ⟨oc0, od0, .func (PySem.W.fnOf "do_cross" "do_cross" (defArgs s_do_cross) (defBody s_do_cross) (defScope s_do_cross) .none kV0 dc0 pm0 an0 cd0 ct0), sl0⟩) (c0 : PySem.W.codeIn K cd0 "do_cross" = true) (k0 : PySem.W.keepIn K (.ref f0) = true)
    {f1 : Addr} {od1 an1 : Option Addr} {sl1 : Array (Option Value)} {oc1 kV1 dc1 pm1 cd1 ct1 : Value}
    (a1 : PySem.W.nsIn K mainGlobals "clearance" = some (some (.ref f1))) (l1 : K.lookup f1 = some ⟨oc1, od1, .func (PySem.W.fnOf "clearance" "clearance" (defArgs s_clearance) (defBody s_clearance) (defScope s_clearance) .none kV1 dc1 pm1 an1 cd1 ct1), sl1⟩) (c1 : PySem.W.codeIn K cd1 "clearance" = true) (k1 : PySem.W.keepIn K (.ref f1) = true)
    {f2 : Addr} {od2 an2 : Option Addr} {sl2 : Array (Option Value)} {oc2 kV2 dc2 pm2 cd2 ct2 : Value}
    (a2 : PySem.W.nsIn K mainGlobals "fits_in" = some (some (.ref f2))) (l2 : K.lookup f2 = some ⟨oc2, od2, .func (PySem.W.fnOf "fits_in" "fits_in" (defArgs s_fits_in) (defBody s_fits_in) (defScope s_fits_in) .none kV2 dc2 pm2 an2 cd2 ct2), sl2⟩) (c2 : PySem.W.codeIn K cd2 "fits_in" = true) (k2 : PySem.W.keepIn K (.ref f2) = true)
    {f3 : Addr} {od3 an3 : Option Addr} {sl3 : Array (Option Value)} {oc3 kV3 dc3 pm3 cd3 ct3 : Value}
    (a3 : PySem.W.nsIn K mainGlobals "with_movement" = some (some (.ref f3))) (l3 : K.lookup f3 = some ⟨oc3, od3, .func (PySem.W.fnOf "with_movement" "with_movement" (defArgs s_with_movement) (defBody s_with_movement) (defScope s_with_movement) .none kV3 dc3 pm3 an3 cd3 ct3), sl3⟩) (c3 : PySem.W.codeIn K cd3 "with_movement" = true) (k3 : PySem.W.keepIn K (.ref f3) = true)
    {f4 : Addr} {od4 an4 : Option Addr} {sl4 : Array (Option Value)} {oc4 kV4 dc4 pm4 cd4 ct4 : Value}
    (a4 : PySem.W.nsIn K mainGlobals "stages" = some (some (.ref f4))) (l4 : K.lookup f4 = some ⟨oc4, od4, .func (PySem.W.fnOf "stages" "stages" (defArgs s_stages) (defBody s_stages) (defScope s_stages) .none kV4 dc4 pm4 an4 cd4 ct4), sl4⟩) (c4 : PySem.W.codeIn K cd4 "stages" = true) (k4 : PySem.W.keepIn K (.ref f4) = true)
    {f5 : Addr} {od5 an5 : Option Addr} {sl5 : Array (Option Value)} {oc5 kV5 dc5 pm5 cd5 ct5 : Value}
    (a5 : PySem.W.nsIn K mainGlobals "clearing_of" = some (some (.ref f5))) (l5 : K.lookup f5 = some ⟨oc5, od5, .func (PySem.W.fnOf "clearing_of" "clearing_of" (defArgs s_clearing_of) (defBody s_clearing_of) (defScope s_clearing_of) .none kV5 dc5 pm5 an5 cd5 ct5), sl5⟩) (c5 : PySem.W.codeIn K cd5 "clearing_of" = true) (k5 : PySem.W.keepIn K (.ref f5) = true)
    {f6 : Addr} {od6 an6 : Option Addr} {sl6 : Array (Option Value)} {oc6 kV6 dc6 pm6 cd6 ct6 : Value}
    (a6 : PySem.W.nsIn K mainGlobals "clearings" = some (some (.ref f6))) (l6 : K.lookup f6 = some ⟨oc6, od6, .func (PySem.W.fnOf "clearings" "clearings" (defArgs s_clearings) (defBody s_clearings) (defScope s_clearings) .none kV6 dc6 pm6 an6 cd6 ct6), sl6⟩) (c6 : PySem.W.codeIn K cd6 "clearings" = true) (k6 : PySem.W.keepIn K (.ref f6) = true)
    {f7 : Addr} {od7 an7 : Option Addr} {sl7 : Array (Option Value)} {oc7 kV7 dc7 pm7 cd7 ct7 : Value}
    (a7 : PySem.W.nsIn K mainGlobals "clear_ticks" = some (some (.ref f7))) (l7 : K.lookup f7 = some ⟨oc7, od7, .func (PySem.W.fnOf "clear_ticks" "clear_ticks" (defArgs s_clear_ticks) (defBody s_clear_ticks) (defScope s_clear_ticks) .none kV7 dc7 pm7 an7 cd7 ct7), sl7⟩) (c7 : PySem.W.codeIn K cd7 "clear_ticks" = true) (k7 : PySem.W.keepIn K (.ref f7) = true)
    {f8 : Addr} {od8 an8 : Option Addr} {sl8 : Array (Option Value)} {oc8 kV8 dc8 pm8 cd8 ct8 : Value}
    (a8 : PySem.W.nsIn K mainGlobals "greens" = some (some (.ref f8))) (l8 : K.lookup f8 = some ⟨oc8, od8, .func (PySem.W.fnOf "greens" "greens" (defArgs s_greens) (defBody s_greens) (defScope s_greens) .none kV8 dc8 pm8 an8 cd8 ct8), sl8⟩) (c8 : PySem.W.codeIn K cd8 "greens" = true) (k8 : PySem.W.keepIn K (.ref f8) = true)
    {f9 : Addr} {od9 an9 : Option Addr} {sl9 : Array (Option Value)} {oc9 kV9 dc9 pm9 cd9 ct9 : Value}
    (a9 : PySem.W.nsIn K mainGlobals "green_in" = some (some (.ref f9))) (l9 : K.lookup f9 = some ⟨oc9, od9, .func (PySem.W.fnOf "green_in" "green_in" (defArgs s_green_in) (defBody s_green_in) (defScope s_green_in) .none kV9 dc9 pm9 an9 cd9 ct9), sl9⟩) (c9 : PySem.W.codeIn K cd9 "green_in" = true) (k9 : PySem.W.keepIn K (.ref f9) = true)
    {f10 : Addr} {od10 an10 : Option Addr} {sl10 : Array (Option Value)} {oc10 kV10 dc10 pm10 cd10 ct10 : Value}
    (a10 : PySem.W.nsIn K mainGlobals "lamps_at" = some (some (.ref f10))) (l10 : K.lookup f10 = some ⟨oc10, od10, .func (PySem.W.fnOf "lamps_at" "lamps_at" (defArgs s_lamps_at) (defBody s_lamps_at) (defScope s_lamps_at) .none kV10 dc10 pm10 an10 cd10 ct10), sl10⟩) (c10 : PySem.W.codeIn K cd10 "lamps_at" = true) (k10 : PySem.W.keepIn K (.ref f10) = true)
    {f11 : Addr} {od11 an11 : Option Addr} {sl11 : Array (Option Value)} {oc11 kV11 dc11 pm11 cd11 ct11 : Value}
    (a11 : PySem.W.nsIn K mainGlobals "lamp_rows" = some (some (.ref f11))) (l11 : K.lookup f11 = some ⟨oc11, od11, .func (PySem.W.fnOf "lamp_rows" "lamp_rows" (defArgs s_lamp_rows) (defBody s_lamp_rows) (defScope s_lamp_rows) .none kV11 dc11 pm11 an11 cd11 ct11), sl11⟩) (c11 : PySem.W.codeIn K cd11 "lamp_rows" = true) (k11 : PySem.W.keepIn K (.ref f11) = true)
    {f12 : Addr} {od12 an12 : Option Addr} {sl12 : Array (Option Value)} {oc12 kV12 dc12 pm12 cd12 ct12 : Value}
    (a12 : PySem.W.nsIn K mainGlobals "first_crossed" = some (some (.ref f12))) (l12 : K.lookup f12 = some ⟨oc12, od12, .func (PySem.W.fnOf "first_crossed" "first_crossed" (defArgs s_first_crossed) (defBody s_first_crossed) (defScope s_first_crossed) .none kV12 dc12 pm12 an12 cd12 ct12), sl12⟩) (c12 : PySem.W.codeIn K cd12 "first_crossed" = true) (k12 : PySem.W.keepIn K (.ref f12) = true)
    {f13 : Addr} {od13 an13 : Option Addr} {sl13 : Array (Option Value)} {oc13 kV13 dc13 pm13 cd13 ct13 : Value}
    (a13 : PySem.W.nsIn K mainGlobals "first_early" = some (some (.ref f13))) (l13 : K.lookup f13 = some ⟨oc13, od13, .func (PySem.W.fnOf "first_early" "first_early" (defArgs s_first_early) (defBody s_first_early) (defScope s_first_early) .none kV13 dc13 pm13 an13 cd13 ct13), sl13⟩) (c13 : PySem.W.codeIn K cd13 "first_early" = true) (k13 : PySem.W.keepIn K (.ref f13) = true)
    {f14 : Addr} {od14 an14 : Option Addr} {sl14 : Array (Option Value)} {oc14 kV14 dc14 pm14 cd14 ct14 : Value}
    (a14 : PySem.W.nsIn K mainGlobals "judge_lamps" = some (some (.ref f14))) (l14 : K.lookup f14 = some ⟨oc14, od14, .func (PySem.W.fnOf "judge_lamps" "judge_lamps" (defArgs s_judge_lamps) (defBody s_judge_lamps) (defScope s_judge_lamps) .none kV14 dc14 pm14 an14 cd14 ct14), sl14⟩) (c14 : PySem.W.codeIn K cd14 "judge_lamps" = true) (k14 : PySem.W.keepIn K (.ref f14) = true)
    {f15 : Addr} {od15 an15 : Option Addr} {sl15 : Array (Option Value)} {oc15 kV15 dc15 pm15 cd15 ct15 : Value}
    (a15 : PySem.W.nsIn K mainGlobals "_law_strict_town" = some (some (.ref f15))) (l15 : K.lookup f15 = some ⟨oc15, od15, .func (PySem.W.fnOf "_law_strict_town" "_law_strict_town" (defArgs s__law_strict_town) (defBody s__law_strict_town) (defScope s__law_strict_town) .none kV15 dc15 pm15 an15 cd15 ct15), sl15⟩) (c15 : PySem.W.codeIn K cd15 "_law_strict_town" = true) (k15 : PySem.W.keepIn K (.ref f15) = true)
    {f16 : Addr} {od16 an16 : Option Addr} {sl16 : Array (Option Value)} {oc16 kV16 dc16 pm16 cd16 ct16 : Value}
    (a16 : PySem.W.nsIn K mainGlobals "_law_open_cells" = some (some (.ref f16))) (l16 : K.lookup f16 = some ⟨oc16, od16, .func (PySem.W.fnOf "_law_open_cells" "_law_open_cells" (defArgs s__law_open_cells) (defBody s__law_open_cells) (defScope s__law_open_cells) .none kV16 dc16 pm16 an16 cd16 ct16), sl16⟩) (c16 : PySem.W.codeIn K cd16 "_law_open_cells" = true) (k16 : PySem.W.keepIn K (.ref f16) = true)
    {f17 : Addr} {od17 an17 : Option Addr} {sl17 : Array (Option Value)} {oc17 kV17 dc17 pm17 cd17 ct17 : Value}
    (a17 : PySem.W.nsIn K mainGlobals "_law_pick" = some (some (.ref f17))) (l17 : K.lookup f17 = some ⟨oc17, od17, .func (PySem.W.fnOf "_law_pick" "_law_pick" (defArgs s__law_pick) (defBody s__law_pick) (defScope s__law_pick) .none kV17 dc17 pm17 an17 cd17 ct17), sl17⟩) (c17 : PySem.W.codeIn K cd17 "_law_pick" = true) (k17 : PySem.W.keepIn K (.ref f17) = true)
    {f18 : Addr} {od18 an18 : Option Addr} {sl18 : Array (Option Value)} {oc18 kV18 dc18 pm18 cd18 ct18 : Value}
    (a18 : PySem.W.nsIn K mainGlobals "_law_any_order" = some (some (.ref f18))) (l18 : K.lookup f18 = some ⟨oc18, od18, .func (PySem.W.fnOf "_law_any_order" "_law_any_order" (defArgs s__law_any_order) (defBody s__law_any_order) (defScope s__law_any_order) .none kV18 dc18 pm18 an18 cd18 ct18), sl18⟩) (c18 : PySem.W.codeIn K cd18 "_law_any_order" = true) (k18 : PySem.W.keepIn K (.ref f18) = true)
    {f19 : Addr} {od19 an19 : Option Addr} {sl19 : Array (Option Value)} {oc19 kV19 dc19 pm19 cd19 ct19 : Value}
    (a19 : PySem.W.nsIn K mainGlobals "_law_clearance" = some (some (.ref f19))) (l19 : K.lookup f19 = some ⟨oc19, od19, .func (PySem.W.fnOf "_law_clearance" "_law_clearance" (defArgs s__law_clearance) (defBody s__law_clearance) (defScope s__law_clearance) .none kV19 dc19 pm19 an19 cd19 ct19), sl19⟩) (c19 : PySem.W.codeIn K cd19 "_law_clearance" = true) (k19 : PySem.W.keepIn K (.ref f19) = true)
    {f20 : Addr} {od20 an20 : Option Addr} {sl20 : Array (Option Value)} {oc20 kV20 dc20 pm20 cd20 ct20 : Value}
    (a20 : PySem.W.nsIn K mainGlobals "_law_stages" = some (some (.ref f20))) (l20 : K.lookup f20 = some ⟨oc20, od20, .func (PySem.W.fnOf "_law_stages" "_law_stages" (defArgs s__law_stages) (defBody s__law_stages) (defScope s__law_stages) .none kV20 dc20 pm20 an20 cd20 ct20), sl20⟩) (c20 : PySem.W.codeIn K cd20 "_law_stages" = true) (k20 : PySem.W.keepIn K (.ref f20) = true)
    {f21 : Addr} {od21 an21 : Option Addr} {sl21 : Array (Option Value)} {oc21 kV21 dc21 pm21 cd21 ct21 : Value}
    (a21 : PySem.W.nsIn K mainGlobals "_law_crosses_one" = some (some (.ref f21))) (l21 : K.lookup f21 = some ⟨oc21, od21, .func (PySem.W.fnOf "_law_crosses_one" "_law_crosses_one" (defArgs s__law_crosses_one) (defBody s__law_crosses_one) (defScope s__law_crosses_one) .none kV21 dc21 pm21 an21 cd21 ct21), sl21⟩) (c21 : PySem.W.codeIn K cd21 "_law_crosses_one" = true) (k21 : PySem.W.keepIn K (.ref f21) = true)
    {f22 : Addr} {od22 an22 : Option Addr} {sl22 : Array (Option Value)} {oc22 kV22 dc22 pm22 cd22 ct22 : Value}
    (a22 : PySem.W.nsIn K mainGlobals "_law_clearing" = some (some (.ref f22))) (l22 : K.lookup f22 = some ⟨oc22, od22, .func (PySem.W.fnOf "_law_clearing" "_law_clearing" (defArgs s__law_clearing) (defBody s__law_clearing) (defScope s__law_clearing) .none kV22 dc22 pm22 an22 cd22 ct22), sl22⟩) (c22 : PySem.W.codeIn K cd22 "_law_clearing" = true) (k22 : PySem.W.keepIn K (.ref f22) = true)
    {f23 : Addr} {od23 an23 : Option Addr} {sl23 : Array (Option Value)} {oc23 kV23 dc23 pm23 cd23 ct23 : Value}
    (a23 : PySem.W.nsIn K mainGlobals "_law_draw_crossing" = some (some (.ref f23))) (l23 : K.lookup f23 = some ⟨oc23, od23, .func (PySem.W.fnOf "_law_draw_crossing" "_law_draw_crossing" (defArgs s__law_draw_crossing) (defBody s__law_draw_crossing) (defScope s__law_draw_crossing) .none kV23 dc23 pm23 an23 cd23 ct23), sl23⟩) (c23 : PySem.W.codeIn K cd23 "_law_draw_crossing" = true) (k23 : PySem.W.keepIn K (.ref f23) = true)
    {f24 : Addr} {od24 an24 : Option Addr} {sl24 : Array (Option Value)} {oc24 kV24 dc24 pm24 cd24 ct24 : Value}
    (a24 : PySem.W.nsIn K mainGlobals "_law_draw_town" = some (some (.ref f24))) (l24 : K.lookup f24 = some ⟨oc24, od24, .func (PySem.W.fnOf "_law_draw_town" "_law_draw_town" (defArgs s__law_draw_town) (defBody s__law_draw_town) (defScope s__law_draw_town) .none kV24 dc24 pm24 an24 cd24 ct24), sl24⟩) (c24 : PySem.W.codeIn K cd24 "_law_draw_town" = true) (k24 : PySem.W.keepIn K (.ref f24) = true)
    {f25 : Addr} {od25 an25 : Option Addr} {sl25 : Array (Option Value)} {oc25 kV25 dc25 pm25 cd25 ct25 : Value}
    (a25 : PySem.W.nsIn K mainGlobals "_law_draw_plan" = some (some (.ref f25))) (l25 : K.lookup f25 = some ⟨oc25, od25, .func (PySem.W.fnOf "_law_draw_plan" "_law_draw_plan" (defArgs s__law_draw_plan) (defBody s__law_draw_plan) (defScope s__law_draw_plan) .none kV25 dc25 pm25 an25 cd25 ct25), sl25⟩) (c25 : PySem.W.codeIn K cd25 "_law_draw_plan" = true) (k25 : PySem.W.keepIn K (.ref f25) = true)
    {f26 : Addr} {od26 an26 : Option Addr} {sl26 : Array (Option Value)} {oc26 kV26 dc26 pm26 cd26 ct26 : Value}
    (a26 : PySem.W.nsIn K mainGlobals "_law_lamps" = some (some (.ref f26))) (l26 : K.lookup f26 = some ⟨oc26, od26, .func (PySem.W.fnOf "_law_lamps" "_law_lamps" (defArgs s__law_lamps) (defBody s__law_lamps) (defScope s__law_lamps) .none kV26 dc26 pm26 an26 cd26 ct26), sl26⟩) (c26 : PySem.W.codeIn K cd26 "_law_lamps" = true) (k26 : PySem.W.keepIn K (.ref f26) = true)
    {f27 : Addr} {od27 an27 : Option Addr} {sl27 : Array (Option Value)} {oc27 kV27 dc27 pm27 cd27 ct27 : Value}
    (a27 : PySem.W.nsIn K mainGlobals "_law_lamp_fault" = some (some (.ref f27))) (l27 : K.lookup f27 = some ⟨oc27, od27, .func (PySem.W.fnOf "_law_lamp_fault" "_law_lamp_fault" (defArgs s__law_lamp_fault) (defBody s__law_lamp_fault) (defScope s__law_lamp_fault) .none kV27 dc27 pm27 an27 cd27 ct27), sl27⟩) (c27 : PySem.W.codeIn K cd27 "_law_lamp_fault" = true) (k27 : PySem.W.keepIn K (.ref f27) = true)
    {f28 : Addr} {od28 an28 : Option Addr} {sl28 : Array (Option Value)} {oc28 kV28 dc28 pm28 cd28 ct28 : Value}
    (a28 : PySem.W.nsIn K mainGlobals "law" = some (some (.ref f28))) (l28 : K.lookup f28 = some ⟨oc28, od28, .func (PySem.W.fnOf "law" "law" (defArgs s_law) (defBody s_law) (defScope s_law) .none kV28 dc28 pm28 an28 cd28 ct28), sl28⟩) (c28 : PySem.W.codeIn K cd28 "law" = true) (k28 : PySem.W.keepIn K (.ref f28) = true)
    (z_abs : PySem.W.nsIn K mainGlobals "abs" = some none)
    (z_all : PySem.W.nsIn K mainGlobals "all" = some none)
    (z_any : PySem.W.nsIn K mainGlobals "any" = some none)
    (z_dict : PySem.W.nsIn K mainGlobals "dict" = some none)
    (z_enumerate : PySem.W.nsIn K mainGlobals "enumerate" = some none)
    (z_int : PySem.W.nsIn K mainGlobals "int" = some none)
    (z_len : PySem.W.nsIn K mainGlobals "len" = some none)
    (z_list : PySem.W.nsIn K mainGlobals "list" = some none)
    (z_max : PySem.W.nsIn K mainGlobals "max" = some none)
    (z_min : PySem.W.nsIn K mainGlobals "min" = some none)
    (z_range : PySem.W.nsIn K mainGlobals "range" = some none)
    (z_repr : PySem.W.nsIn K mainGlobals "repr" = some none)
    (z_set : PySem.W.nsIn K mainGlobals "set" = some none)
    (z_sorted : PySem.W.nsIn K mainGlobals "sorted" = some none)
    (z_sum : PySem.W.nsIn K mainGlobals "sum" = some none)
    (z_tuple : PySem.W.nsIn K mainGlobals "tuple" = some none)
    : ∃ fd : FuncData, (∀ (s : Shared) (v : Value), BindsTo s fd ⟨[v], []⟩ [("script", v)]) ∧ ∀ base : Heap, K.In base → base.Ns mainGlobals mg → FnG l.prog w K mg base 9 fa fd ["script"] (toSp K sp_law) := by
  have e := hfa.symm.trans (PySem.W.mg_of X G a28)
  cases e
  have F0 := fun_mk (st := s_do_cross) l0 c0 k0
  have b0 := F0.binds (ps := ["crossing", "i", "j"]) fun _ _ _ _ _ _ us hl => match us, hl with | [_, _, _], _ => rfl
  have F1 := fun_mk (st := s_clearance) l1 c1 k1
  have b1 := F1.binds (ps := ["crossing", "i", "j"]) fun _ _ _ _ _ _ us hl => match us, hl with | [_, _, _], _ => rfl
  have F2 := fun_mk (st := s_fits_in) l2 c2 k2
  have b2 := F2.binds (ps := ["crossing", "stage", "i"]) fun _ _ _ _ _ _ us hl => match us, hl with | [_, _, _], _ => rfl
  have F3 := fun_mk (st := s_with_movement) l3 c3 k3
  have b3 := F3.binds (ps := ["crossing", "found", "i"]) fun _ _ _ _ _ _ us hl => match us, hl with | [_, _, _], _ => rfl
  have F4 := fun_mk (st := s_stages) l4 c4 k4
  have b4 := F4.binds (ps := ["crossing"]) fun _ _ _ _ _ _ us hl => match us, hl with | [_], _ => rfl
  have F5 := fun_mk (st := s_clearing_of) l5 c5 k5
  have b5 := F5.binds (ps := ["crossing", "stage"]) fun _ _ _ _ _ _ us hl => match us, hl with | [_, _], _ => rfl
  have F6 := fun_mk (st := s_clearings) l6 c6 k6
  have b6 := F6.binds (ps := ["crossing"]) fun _ _ _ _ _ _ us hl => match us, hl with | [_], _ => rfl
  have F7 := fun_mk (st := s_clear_ticks) l7 c7 k7
  have b7 := F7.binds (ps := ["crossing", "s"]) fun _ _ _ _ _ _ us hl => match us, hl with | [_, _], _ => rfl
  have F8 := fun_mk (st := s_greens) l8 c8 k8
  have b8 := F8.binds (ps := ["crossing", "plan"]) fun _ _ _ _ _ _ us hl => match us, hl with | [_, _], _ => rfl
  have F9 := fun_mk (st := s_green_in) l9 c9 k9
  have b9 := F9.binds (ps := ["found", "tick"]) fun _ _ _ _ _ _ us hl => match us, hl with | [_, _], _ => rfl
  have F10 := fun_mk (st := s_lamps_at) l10 c10 k10
  have b10 := F10.binds (ps := ["crossing", "plan", "tick"]) fun _ _ _ _ _ _ us hl => match us, hl with | [_, _, _], _ => rfl
  have F11 := fun_mk (st := s_lamp_rows) l11 c11 k11
  have b11 := F11.binds (ps := ["crossing", "plans"]) fun _ _ _ _ _ _ us hl => match us, hl with | [_, _], _ => rfl
  have F12 := fun_mk (st := s_first_crossed) l12 c12 k12
  have b12 := F12.binds (ps := ["crossing", "row"]) fun _ _ _ _ _ _ us hl => match us, hl with | [_, _], _ => rfl
  have F13 := fun_mk (st := s_first_early) l13 c13 k13
  have b13 := F13.binds (ps := ["crossing", "last", "tick", "begun"]) fun _ _ _ _ _ _ us hl => match us, hl with | [_, _, _, _], _ => rfl
  have F14 := fun_mk (st := s_judge_lamps) l14 c14 k14
  have b14 := F14.binds (ps := ["crossing", "rows"]) fun _ _ _ _ _ _ us hl => match us, hl with | [_, _], _ => rfl
  have F15 := fun_mk (st := s__law_strict_town) l15 c15 k15
  have b15 := F15.binds (ps := ["source", "most"]) fun _ _ _ _ _ _ us hl => match us, hl with | [_, _], _ => rfl
  have F16 := fun_mk (st := s__law_open_cells) l16 c16 k16
  have b16 := F16.binds (ps := ["script"]) fun _ _ _ _ _ _ us hl => match us, hl with | [_], _ => rfl
  have F17 := fun_mk (st := s__law_pick) l17 c17 k17
  have b17 := F17.binds (ps := ["source", "most"]) fun _ _ _ _ _ _ us hl => match us, hl with | [_, _], _ => rfl
  have F18 := fun_mk (st := s__law_any_order) l18 c18 k18
  have b18 := F18.binds (ps := ["source", "things"]) fun _ _ _ _ _ _ us hl => match us, hl with | [_, _], _ => rfl
  have F19 := fun_mk (st := s__law_clearance) l19 c19 k19
  have b19 := F19.binds (ps := ["crossing", "i", "j"]) fun _ _ _ _ _ _ us hl => match us, hl with | [_, _, _], _ => rfl
  have F20 := fun_mk (st := s__law_stages) l20 c20 k20
  have b20 := F20.binds (ps := ["crossing"]) fun _ _ _ _ _ _ us hl => match us, hl with | [_], _ => rfl
  have F21 := fun_mk (st := s__law_crosses_one) l21 c21 k21
  have b21 := F21.binds (ps := ["crossing", "lot", "i"]) fun _ _ _ _ _ _ us hl => match us, hl with | [_, _, _], _ => rfl
  have F22 := fun_mk (st := s__law_clearing) l22 c22 k22
  have b22 := F22.binds (ps := ["crossing", "stage"]) fun _ _ _ _ _ _ us hl => match us, hl with | [_, _], _ => rfl
  have F23 := fun_mk (st := s__law_draw_crossing) l23 c23 k23
  have b23 := F23.binds (ps := ["source", "n", "mine", "length"]) fun _ _ _ _ _ _ us hl => match us, hl with | [_, _, _, _], _ => rfl
  have F24 := fun_mk (st := s__law_draw_town) l24 c24 k24
  have b24 := F24.binds (ps := ["source", "most"]) fun _ _ _ _ _ _ us hl => match us, hl with | [_, _], _ => rfl
  have F25 := fun_mk (st := s__law_draw_plan) l25 c25 k25
  have b25 := F25.binds (ps := ["source", "crossing"]) fun _ _ _ _ _ _ us hl => match us, hl with | [_, _], _ => rfl
  have F26 := fun_mk (st := s__law_lamps) l26 c26 k26
  have b26 := F26.binds (ps := ["crossing", "plans"]) fun _ _ _ _ _ _ us hl => match us, hl with | [_, _], _ => rfl
  have F27 := fun_mk (st := s__law_lamp_fault) l27 c27 k27
  have b27 := F27.binds (ps := ["crossing", "rows"]) fun _ _ _ _ _ _ us hl => match us, hl with | [_, _], _ => rfl
  have F28 := fun_mk (st := s_law) l28 c28 k28
  have b28 := F28.binds (ps := ["script"]) fun _ _ _ _ _ _ us hl => match us, hl with | [_], _ => rfl
  let T : Tx K mg := ⟨f0, _, F0, PySem.W.mg_of X G a0, b0, f1, _, F1, PySem.W.mg_of X G a1, b1, f2, _, F2, PySem.W.mg_of X G a2, b2, f3, _, F3, PySem.W.mg_of X G a3, b3, f4, _, F4, PySem.W.mg_of X G a4, b4, f5, _, F5, PySem.W.mg_of X G a5, b5, f6, _, F6, PySem.W.mg_of X G a6, b6, f7, _, F7, PySem.W.mg_of X G a7, b7, f8, _, F8, PySem.W.mg_of X G a8, b8, f9, _, F9, PySem.W.mg_of X G a9, b9, f10, _, F10, PySem.W.mg_of X G a10, b10, f11, _, F11, PySem.W.mg_of X G a11, b11, f12, _, F12, PySem.W.mg_of X G a12, b12, f13, _, F13, PySem.W.mg_of X G a13, b13, f14, _, F14, PySem.W.mg_of X G a14, b14, f15, _, F15, PySem.W.mg_of X G a15, b15, f16, _, F16, PySem.W.mg_of X G a16, b16, f17, _, F17, PySem.W.mg_of X G a17, b17, f18, _, F18, PySem.W.mg_of X G a18, b18, f19, _, F19, PySem.W.mg_of X G a19, b19, f20, _, F20, PySem.W.mg_of X G a20, b20, f21, _, F21, PySem.W.mg_of X G a21, b21, f22, _, F22, PySem.W.mg_of X G a22, b22, f23, _, F23, PySem.W.mg_of X G a23, b23, f24, _, F24, PySem.W.mg_of X G a24, b24, f25, _, F25, PySem.W.mg_of X G a25, b25, f26, _, F26, PySem.W.mg_of X G a26, b26, f27, _, F27, PySem.W.mg_of X G a27, b27, fa, _, F28, PySem.W.mg_of X G a28, b28, PySem.W.mg_none_of X G z_abs, PySem.W.mg_none_of X G z_all, PySem.W.mg_none_of X G z_any, PySem.W.mg_none_of X G z_dict, PySem.W.mg_none_of X G z_enumerate, PySem.W.mg_none_of X G z_int, PySem.W.mg_none_of X G z_len, PySem.W.mg_none_of X G z_list, PySem.W.mg_none_of X G z_max, PySem.W.mg_none_of X G z_min, PySem.W.mg_none_of X G z_range, PySem.W.mg_none_of X G z_repr, PySem.W.mg_none_of X G z_set, PySem.W.mg_none_of X G z_sorted, PySem.W.mg_none_of X G z_sum, PySem.W.mg_none_of X G z_tuple⟩
  exact ⟨_, fun s v => .of_eq rfl, fun base _ _ => ok_law (P := l.prog) (w := w) (base := base) T⟩
end A30
open PySem PySem.W PyProof.Rows
set_option maxHeartbeats 0 in
theorem PySem.Challenge.cw_greenheld_k30_whole_lamps_never_cross_holds : PySem.Challenge.rw_greenheld_k30_whole_lamps_never_cross.Holds := by
  w_on; o_law; k_head; (case hw => w_witness2)
  k_fill
  refine DL.walk_g (l := PySem.Challenge.rw_greenheld_k30_whole_lamps_never_cross) (n := 63) (k := 9) (x := "script") (sp := A30.sp_law) rfl (by decide) rfl ⟨rfl, by decide, by decide⟩ (fun w h Y => PySem.W.kIn_of Y) ?F (fun zs hz Q q => ⟨_, zs, rfl, rfl, (by intro ys e; cases e), by omega, q⟩)
  case F =>
    intro w mg fa h KX G hmg
    refine' A30.all30 KX G hmg ?a0 ?l0 ?c0 ?k0 ?a1 ?l1 ?c1 ?k1 ?a2 ?l2 ?c2 ?k2 ?a3 ?l3 ?c3 ?k3 ?a4 ?l4 ?c4 ?k4 ?a5 ?l5 ?c5 ?k5 ?a6 ?l6 ?c6 ?k6 ?a7 ?l7 ?c7 ?k7 ?a8 ?l8 ?c8 ?k8 ?a9 ?l9 ?c9 ?k9 ?a10 ?l10 ?c10 ?k10 ?a11 ?l11 ?c11 ?k11 ?a12 ?l12 ?c12 ?k12 ?a13 ?l13 ?c13 ?k13 ?a14 ?l14 ?c14 ?k14 ?a15 ?l15 ?c15 ?k15 ?a16 ?l16 ?c16 ?k16 ?a17 ?l17 ?c17 ?k17 ?a18 ?l18 ?c18 ?k18 ?a19 ?l19 ?c19 ?k19 ?a20 ?l20 ?c20 ?k20 ?a21 ?l21 ?c21 ?k21 ?a22 ?l22 ?c22 ?k22 ?a23 ?l23 ?c23 ?k23 ?a24 ?l24 ?c24 ?k24 ?a25 ?l25 ?c25 ?k25 ?a26 ?l26 ?c26 ?k26 ?a27 ?l27 ?c27 ?k27 ?a28 ?l28 ?c28 ?k28 ?z_abs ?z_all ?z_any ?z_dict ?z_enumerate ?z_int ?z_len ?z_list ?z_max ?z_min ?z_range ?z_repr ?z_set ?z_sorted ?z_sum ?z_tuple
    (case a0 => k_is); (case l0 => k_is); (case c0 => k_is); (case k0 => k_is)
    (case a1 => k_is); (case l1 => k_is); (case c1 => k_is); (case k1 => k_is)
    (case a2 => k_is); (case l2 => k_is); (case c2 => k_is); (case k2 => k_is)
    (case a3 => k_is); (case l3 => k_is); (case c3 => k_is); (case k3 => k_is)
    (case a4 => k_is); (case l4 => k_is); (case c4 => k_is); (case k4 => k_is)
    (case a5 => k_is); (case l5 => k_is); (case c5 => k_is); (case k5 => k_is)
    (case a6 => k_is); (case l6 => k_is); (case c6 => k_is); (case k6 => k_is)
    (case a7 => k_is); (case l7 => k_is); (case c7 => k_is); (case k7 => k_is)
    (case a8 => k_is); (case l8 => k_is); (case c8 => k_is); (case k8 => k_is)
    (case a9 => k_is); (case l9 => k_is); (case c9 => k_is); (case k9 => k_is)
    (case a10 => k_is); (case l10 => k_is); (case c10 => k_is); (case k10 => k_is)
    (case a11 => k_is); (case l11 => k_is); (case c11 => k_is); (case k11 => k_is)
    (case a12 => k_is); (case l12 => k_is); (case c12 => k_is); (case k12 => k_is)
    (case a13 => k_is); (case l13 => k_is); (case c13 => k_is); (case k13 => k_is)
    (case a14 => k_is); (case l14 => k_is); (case c14 => k_is); (case k14 => k_is)
    (case a15 => k_is); (case l15 => k_is); (case c15 => k_is); (case k15 => k_is)
    (case a16 => k_is); (case l16 => k_is); (case c16 => k_is); (case k16 => k_is)
    (case a17 => k_is); (case l17 => k_is); (case c17 => k_is); (case k17 => k_is)
    (case a18 => k_is); (case l18 => k_is); (case c18 => k_is); (case k18 => k_is)
    (case a19 => k_is); (case l19 => k_is); (case c19 => k_is); (case k19 => k_is)
    (case a20 => k_is); (case l20 => k_is); (case c20 => k_is); (case k20 => k_is)
    (case a21 => k_is); (case l21 => k_is); (case c21 => k_is); (case k21 => k_is)
    (case a22 => k_is); (case l22 => k_is); (case c22 => k_is); (case k22 => k_is)
    (case a23 => k_is); (case l23 => k_is); (case c23 => k_is); (case k23 => k_is)
    (case a24 => k_is); (case l24 => k_is); (case c24 => k_is); (case k24 => k_is)
    (case a25 => k_is); (case l25 => k_is); (case c25 => k_is); (case k25 => k_is)
    (case a26 => k_is); (case l26 => k_is); (case c26 => k_is); (case k26 => k_is)
    (case a27 => k_is); (case l27 => k_is); (case c27 => k_is); (case k27 => k_is)
    (case a28 => k_is); (case l28 => k_is); (case c28 => k_is); (case k28 => k_is)
    (case z_abs => k_is); (case z_all => k_is); (case z_any => k_is); (case z_dict => k_is); (case z_enumerate => k_is); (case z_int => k_is); (case z_len => k_is); (case z_list => k_is); (case z_max => k_is); (case z_min => k_is); (case z_range => k_is); (case z_repr => k_is); (case z_set => k_is); (case z_sorted => k_is); (case z_sum => k_is); (case z_tuple => k_is)
