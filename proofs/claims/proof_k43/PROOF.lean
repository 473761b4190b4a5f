import PyProof.Rows.All
import HandS.ForMost
import HandS.TupAny
import HandS.TupMul
import HandS.Deep
import HandS.Wide
import HandS.Small
import HandS.DictTup
import HandS.Zip
import HandS.Style
import HandS.TupSets
import KE.SortData
import PyProof.ReprRoads
import HandS.RaiseMore
import HandS.Conv
import HandS.Ends
import HandS.Iter
import HandS.IsInst
import KE.GoesEnum
import KE.DataMinMax
import PyProof.ReprLen
import KE.KTupSum
import PyProof.DictUpdate
import PySem.Challenge.RW_greenheld_k43_whole_green_waves
set_option Elab.async false
set_option linter.all false
set_option maxRecDepth 100000
set_option maxHeartbeats 4000000
/-! Dl1: values as data (tuples whole, objects by address), a view of the heap, readings over them. -/
namespace DL
open PySem PySem.Spec PyProof.Rows L2

/-- data: tuples are values, what changes is told by its address -/
inductive D where
  | non | bl (b : Bool) | int (i : Int) | str (x : Str) | ty (n : String) | tup (xs : List D) | rl (xs : List D) | ref (a : Addr)

/-- what is seen at an address -/
inductive DO where
  | lst (xs : List D)
  | dic (kvs : List (Key × D))
  | dit (kvs : List (List Key × D))
  | lic (od : Obj) (ws : List (Key × V)) (kvs : List (Key × D))
  | lit (od : Obj) (ws : List (List Key × V)) (kvs : List (List Key × D))

abbrev DW := Addr → Option DO
abbrev Env := List (Option D)
abbrev DK := D → DW → Prop
abbrev FE := Env → DW → DK → Prop
abbrev FT := Env → DW → (Bool → DW → Prop) → Prop
abbrev FA := Env → DW → (List D → DW → Prop) → Prop
structure DE where
  nx : Env → DW → Prop
  rt : DK
  bk : Env → DW → Prop := fun _ _ => False
  ct : Env → DW → Prop := fun _ _ => False
abbrev FS := DE → Env → DW → Prop

def wup (W : DW) (a : Addr) (o : DO) : DW := fun b => if b = a then some o else W b
theorem wup_same {W : DW} {a : Addr} {o : DO} : wup W a o a = some o := by unfold wup; rw [if_pos rfl]
theorem wup_ne {W : DW} {a b : Addr} {o : DO} (h : b ≠ a) : wup W a o b = W b := by unfold wup; rw [if_neg h]

/-- a list of the written part; a list that is only read -/
def KL (K : PySem.W.Frag) (a : Addr) (xs : List V) : Prop := ∃ (o : Obj) (its : Array Value) (n : Nat), K.lookup a = some o ∧ o.cls = .type "list" ∧ o.dict = none ∧ o.data = .seq its n ∧ its.size ≤ sizeLine ∧ Vals xs its.toList
def RdL (K : PySem.W.Frag) (H : Hp) (a : Addr) (vs : List V) : Prop := (∃ ob, H a = some (.frz ob (.lst vs))) ∨ KL K a vs
theorem RdL.sq {K : PySem.W.Frag} {H : Hp} {a : Addr} {vs : List V} (h : RdL K H a vs) : SqL K H a vs := by
  rcases h with ⟨ob, h⟩ | h
  · exact .inl (.inr ⟨ob, h⟩)
  · exact .inr h
mutual
def DV (K : PySem.W.Frag) (H : Hp) : D → V → Prop
  | .non, v => v = .non
  | .bl b, v => v = .bl b
  | .int i, v => v = .int i
  | .str x, v => v = .str x
  | .ty n, v => v = .ty n
  | .ref a, v => v = .ref a
  | .tup ds, v => ∃ a vs, v = .ref a ∧ H a = some (.tup vs) ∧ DVs K H ds vs
  | .rl ds, v => ∃ a vs, v = .ref a ∧ RdL K H a vs ∧ DVs K H ds vs
def DVs (K : PySem.W.Frag) (H : Hp) : List D → List V → Prop
  | [], vs => vs = []
  | d :: ds, vs => ∃ v r, vs = v :: r ∧ DV K H d v ∧ DVs K H ds r
end

structure Ext (K : PySem.W.Frag) (H H' : Hp) : Prop where
  t : ∀ a xs, H a = some (.tup xs) → H' a = some (.tup xs)
  l : ∀ a ob xs, H a = some (.frz ob (.lst xs)) → H' a = some (.frz ob (.lst xs))
theorem Ext.refl {K : PySem.W.Frag} (H : Hp) : Ext K H H := ⟨fun _ _ h => h, fun _ _ _ h => h⟩
theorem Ext.trans {K : PySem.W.Frag} {H H1 H2 : Hp} (a : Ext K H H1) (b : Ext K H1 H2) : Ext K H H2 := ⟨fun c xs h => b.t c xs (a.t c xs h), fun c o xs h => b.l c o xs (a.l c o xs h)⟩
theorem RdL.ext {K : PySem.W.Frag} {H H' : Hp} {a : Addr} {vs : List V} (e : Ext K H H') (h : RdL K H a vs) : RdL K H' a vs := by
  rcases h with ⟨ob, h⟩ | h
  · exact .inl ⟨ob, e.l _ _ _ h⟩
  · exact .inr h

section
variable {K : PySem.W.Frag} {H H' H1 : Hp}
mutual
theorem DV.ext (e : Ext K H H') : ∀ {d : D} {v : V}, DV K H d v → DV K H' d v
  | .non, _, h => h
  | .bl _, _, h => h
  | .int _, _, h => h
  | .str _, _, h => h
  | .ty _, _, h => h
  | .ref _, _, h => h
  | .tup ds, v, h => by
    obtain ⟨a, vs, e1, h1, h2⟩ := h
    exact ⟨a, vs, e1, e.t a vs h1, DVs.ext e h2⟩
  | .rl ds, v, h => by
    obtain ⟨a, vs, e1, h1, h2⟩ := h
    exact ⟨a, vs, e1, h1.ext e, DVs.ext e h2⟩
theorem DVs.ext (e : Ext K H H') : ∀ {ds : List D} {vs : List V}, DVs K H ds vs → DVs K H' ds vs
  | [], _, h => h
  | d :: ds, vs, h => by
    obtain ⟨v, r, e1, h1, h2⟩ := h
    exact ⟨v, r, e1, DV.ext e h1, DVs.ext e h2⟩
end
theorem DVs.length : ∀ {ds : List D} {vs : List V}, DVs K H ds vs → vs.length = ds.length
  | [], _, h => by cases h; rfl
  | d :: ds, vs, h => by
    obtain ⟨v, r, rfl, _, h2⟩ := h
    show r.length + 1 = ds.length + 1
    rw [DVs.length h2]
theorem DVs.get : ∀ {ds : List D} {vs : List V} {i : Nat} {d : D}, DVs K H ds vs → ds[i]? = some d → ∃ v, vs[i]? = some v ∧ DV K H d v
  | [], _, _, _, _, e => by simp at e
  | d :: ds, vs, 0, x, h, e => by
    obtain ⟨v, r, rfl, h1, h2⟩ := h
    simp at e
    subst e
    exact ⟨v, rfl, h1⟩
  | d :: ds, vs, i + 1, x, h, e => by
    obtain ⟨v, r, rfl, h1, h2⟩ := h
    obtain ⟨u, a, b⟩ := DVs.get (i := i) h2 (by simpa using e)
    exact ⟨u, by simpa using a, b⟩
theorem DVs.append : ∀ {xs ys : List D} {us vs : List V}, DVs K H xs us → DVs K H ys vs → DVs K H (xs ++ ys) (us ++ vs)
  | [], _, _, _, h, h' => by cases h; exact h'
  | d :: ds, _, _, _, h, h' => by
    obtain ⟨v, r, rfl, h1, h2⟩ := h
    exact ⟨v, _, rfl, h1, DVs.append h2 h'⟩
theorem DVs.take : ∀ (n : Nat) {xs : List D} {us : List V}, DVs K H xs us → DVs K H (xs.take n) (us.take n)
  | 0, _, _, _ => by simp [DVs]
  | n + 1, [], _, h => by cases h; simp [DVs]
  | n + 1, d :: ds, _, h => by
    obtain ⟨v, r, rfl, h1, h2⟩ := h
    exact ⟨v, _, rfl, h1, DVs.take n h2⟩
theorem DVs.drop : ∀ (n : Nat) {xs : List D} {us : List V}, DVs K H xs us → DVs K H (xs.drop n) (us.drop n)
  | 0, _, _, h => h
  | n + 1, [], _, h => by cases h; simp [DVs]
  | n + 1, d :: ds, _, h => by
    obtain ⟨v, r, rfl, h1, h2⟩ := h
    exact DVs.drop n h2
theorem DVs.set : ∀ (n : Nat) {xs : List D} {us : List V} {d : D} {v : V}, DV K H d v → DVs K H xs us → DVs K H (xs.set n d) (us.set n v)
  | _, [], _, _, _, _, h => by cases h; simp [DVs]
  | 0, x :: ds, _, _, _, hd, h => by
    obtain ⟨v, r, rfl, h1, h2⟩ := h
    exact ⟨_, _, rfl, hd, h2⟩
  | n + 1, x :: ds, _, _, _, hd, h => by
    obtain ⟨v, r, rfl, h1, h2⟩ := h
    exact ⟨_, _, rfl, h1, DVs.set n hd h2⟩
theorem DVs.reverse : ∀ {xs : List D} {us : List V}, DVs K H xs us → DVs K H xs.reverse us.reverse
  | [], _, h => by cases h; simp [DVs]
  | d :: ds, _, h => by
    obtain ⟨v, r, rfl, h1, h2⟩ := h
    rw [List.reverse_cons, List.reverse_cons]
    exact DVs.append (DVs.reverse h2) ⟨v, [], rfl, h1, rfl⟩
theorem DVs.one {d : D} {v : V} (h : DV K H d v) : DVs K H [d] [v] := ⟨v, [], rfl, h, rfl⟩
theorem DVs.rep {xs : List D} {us : List V} (h : DVs K H xs us) : ∀ n : Nat, DVs K H (List.replicate n xs).flatten (List.replicate n us).flatten
  | 0 => by simp [DVs]
  | n + 1 => by
    rw [List.replicate_succ, List.replicate_succ, List.flatten_cons, List.flatten_cons]
    exact DVs.append h (DVs.rep h n)
end

/-! ### the view -/
def DKV (K : PySem.W.Frag) (H : Hp) {κ : Type} (a : List (κ × D)) (b : List (κ × V)) : Prop := Paired (fun (p : κ × D) (q : κ × V) => p.1 = q.1 ∧ DV K H p.2 q.2) a b
theorem DKV.ext {K : PySem.W.Frag} {H H' : Hp} {κ : Type} {a : List (κ × D)} {b : List (κ × V)} (e : Ext K H H') (h : DKV K H a b) : DKV K H' a b := L2.Paired.mapP h fun _ _ ⟨x, y⟩ => ⟨x, DV.ext e y⟩
def HasO (K : PySem.W.Frag) (H : Hp) (a : Addr) : DO → Prop
  | .lst ds => ∃ vs, H a = some (.lst vs) ∧ DVs K H ds vs
  | .dic kvs => ∃ ws, H a = some (.dK ws) ∧ DKV K H kvs ws
  | .dit kvs => ∃ ws, H a = some (.dT ws) ∧ DKV K H kvs ws
  | .lic od ws kvs => H a = some (.frz od (.dK ws)) ∧ DKV K H kvs ws
  | .lit od ws kvs => H a = some (.frz od (.dT ws)) ∧ DKV K H kvs ws
def Rel (K : PySem.W.Frag) (H : Hp) (W : DW) : Prop := ∀ a o, W a = some o → HasO K H a o
def Sub (W W' : DW) : Prop := ∀ a o, W a = some o → W' a = some o
theorem Sub.refl (W : DW) : Sub W W := fun _ _ h => h
theorem Sub.trans {A B C : DW} (h : Sub A B) (g : Sub B C) : Sub A C := fun a o e => g a o (h a o e)
theorem Rel.sub {K : PySem.W.Frag} {H : Hp} {W W' : DW} (r : Rel K H W) (s : Sub W' W) : Rel K H W' := fun a o e => r a o (s a o e)
theorem Sub.new {W W' : DW} {p : Addr} {o : DO} (s : Sub W W') (h : W p = none) : Sub W (wup W' p o) := fun a u e => by
  have : a ≠ p := fun z => by subst z; rw [h] at e; cases e
  rw [wup_ne this]; exact s a u e
theorem Sub.wup {W W' : DW} {p : Addr} {o : DO} (s : Sub W W') : Sub (DL.wup W p o) (DL.wup W' p o) := fun a u e => by
  unfold DL.wup at *
  split
  · rename_i h; rw [if_pos h] at e; exact e
  · rename_i h; rw [if_neg h] at e; exact s a u e

section
variable {K : PySem.W.Frag} {H : Hp} {W : DW}
/-- a new object does not disturb -/
theorem Ext.new {p : Addr} {o : HO} (h : H p = none) : Ext K H (upd H p o) := ⟨fun a xs r => by rw [upd_ne (ne_of_none r h)]; exact r, fun a ob xs r => by rw [upd_ne (ne_of_none r h)]; exact r⟩
/-- a tracked object that changes -/
def MutHO : HO → Prop
  | .lst _ => True | .dK _ => True | .dT _ => True | _ => False
theorem Ext.put {p : Addr} {o u : HO} (h : H p = some u) (hm : MutHO u) : Ext K H (upd H p o) := by
  have ne : ∀ {a : Addr} {w : HO}, H a = some w → ¬ MutHO w → a ≠ p := fun {a w} r n z => by
    subst z; rw [h] at r; cases r; exact n hm
  exact ⟨fun a xs r => by rw [upd_ne (ne r id)]; exact r, fun a ob xs r => by rw [upd_ne (ne r id)]; exact r⟩
theorem HasO.ext {H' : Hp} {a : Addr} {o : DO} (e : Ext K H H') (k : H' a = H a) (h : HasO K H a o) : HasO K H' a o := by
  cases o with
  | lst ds => obtain ⟨vs, h1, h2⟩ := h; exact ⟨vs, by rw [k]; exact h1, DVs.ext e h2⟩
  | dic kvs => obtain ⟨ws, h1, h2⟩ := h; exact ⟨ws, by rw [k]; exact h1, DKV.ext e h2⟩
  | dit kvs => obtain ⟨ws, h1, h2⟩ := h; exact ⟨ws, by rw [k]; exact h1, DKV.ext e h2⟩
  | lic od ws kvs => exact ⟨by rw [k]; exact h.1, DKV.ext e h.2⟩
  | lit od ws kvs => exact ⟨by rw [k]; exact h.1, DKV.ext e h.2⟩
theorem HasO.there {a : Addr} {o : DO} (h : HasO K H a o) : H a ≠ none := by
  cases o with
  | lst ds => obtain ⟨vs, h1, h2⟩ := h; rw [h1]; simp
  | dic kvs => obtain ⟨ws, h1, h2⟩ := h; rw [h1]; simp
  | dit kvs => obtain ⟨ws, h1, h2⟩ := h; rw [h1]; simp
  | lic od ws kvs => rw [h.1]; simp
  | lit od ws kvs => rw [h.1]; simp
theorem Rel.fresh {p : Addr} (r : Rel K H W) (h : H p = none) : W p = none := by
  cases e : W p with
  | none => rfl
  | some o => exact absurd h (r p o e).there
theorem Rel.ext_new {p : Addr} {o : HO} (r : Rel K H W) (h : H p = none) : Rel K (upd H p o) W := fun a u e => by
  have q := r a u e
  by_cases z : a = p
  · subst z; exact absurd h q.there
  · exact q.ext (Ext.new h) (upd_ne z)
theorem Rel.wnew {p : Addr} {o : HO} {d : DO} (r : Rel K H W) (h : H p = none) (hd : HasO K (upd H p o) p d) : Rel K (upd H p o) (wup W p d) := fun a u e => by
  by_cases z : a = p
  · subst z
    rw [wup_same] at e
    cases e
    exact hd
  · rw [wup_ne z] at e
    exact (r.ext_new h) a u e
theorem Rel.wput {p : Addr} {o u : HO} {d : DO} (r : Rel K H W) (h : H p = some u) (hm : MutHO u) (hd : HasO K (upd H p o) p d) : Rel K (upd H p o) (wup W p d) := fun a v e => by
  by_cases z : a = p
  · subst z
    rw [wup_same] at e
    cases e
    exact hd
  · rw [wup_ne z] at e
    exact (r a v e).ext (Ext.put h hm) (upd_ne z)
end

/-! ### frames -/
def EnvR (K : PySem.W.Frag) (H : Hp) (δ : Env) (σ : L2.St) : Prop := δ.length = σ.length ∧ ∀ (i : Nat) (d : D), δ[i]? = some (some d) → ∃ v, σ[i]? = some (some v) ∧ DV K H d v
theorem EnvR.ext {K : PySem.W.Frag} {H H' : Hp} {δ : Env} {σ : L2.St} (e : Ext K H H') (h : EnvR K H δ σ) : EnvR K H' δ σ := ⟨h.1, fun i d q => let ⟨v, a, b⟩ := h.2 i d q; ⟨v, a, DV.ext e b⟩⟩
theorem EnvR.set {K : PySem.W.Frag} {H : Hp} {δ : Env} {σ : L2.St} {i : Nat} {d : D} {v : V} (h : EnvR K H δ σ) (hd : DV K H d v) : EnvR K H (δ.set i (some d)) (σ.set i (some v)) := by
  refine ⟨by rw [List.length_set, List.length_set]; exact h.1, fun j x e => ?_⟩
  by_cases z : i = j
  · subst z
    rw [List.getElem?_set] at e ⊢
    simp only [↓reduceIte] at e ⊢
    split at e
    · rename_i q
      rw [if_pos (by rw [← h.1]; exact q)]
      cases e
      exact ⟨v, rfl, hd⟩
    · cases e
  · rw [List.getElem?_set_ne z] at e ⊢
    exact h.2 j x e

/-! ### readings -/
def Lk (K : PySem.W.Frag) (H : Hp) (Q' : DK) (Q : VK) : Prop := ∀ v d H' W', Ext K H H' → Rel K H' W' → DV K H' d v → Q' d W' → Q v H'
def LkB (K : PySem.W.Frag) (H : Hp) (Q' : Bool → DW → Prop) (Q : Bool → Hp → Prop) : Prop := ∀ b H' W', Ext K H H' → Rel K H' W' → Q' b W' → Q b H'
def LkA (K : PySem.W.Frag) (H : Hp) (Q' : List D → DW → Prop) (Q : List V → Hp → Prop) : Prop := ∀ vs ds H' W', Ext K H H' → Rel K H' W' → DVs K H' ds vs → Q' ds W' → Q vs H'
def LkN (K : PySem.W.Frag) (H : Hp) (Q' : Env → DW → Prop) (Q : L2.St → Hp → Prop) : Prop := ∀ σ δ H' W', Ext K H H' → EnvR K H' δ σ → Rel K H' W' → Q' δ W' → Q σ H'
structure LkS (K : PySem.W.Frag) (H : Hp) (D' : DE) (D : Ends) : Prop where
  nx : LkN K H D'.nx D.nx
  rt : Lk K H D'.rt D.rt
  bk : LkN K H D'.bk D.bk
  ct : LkN K H D'.ct D.ct
def tE (K : PySem.W.Frag) (f : FE) : TE := fun σ H Q => ∃ δ W Q', EnvR K H δ σ ∧ Rel K H W ∧ f δ W Q' ∧ Lk K H Q' Q
def tT (K : PySem.W.Frag) (f : FT) : TT := fun σ H Q => ∃ δ W Q', EnvR K H δ σ ∧ Rel K H W ∧ f δ W Q' ∧ LkB K H Q' Q
def tA (K : PySem.W.Frag) (f : FA) : TA := fun σ H Q => ∃ δ W Q', EnvR K H δ σ ∧ Rel K H W ∧ f δ W Q' ∧ LkA K H Q' Q
def tS (K : PySem.W.Frag) (f : FS) : TS := fun D σ H => ∃ δ W D', EnvR K H δ σ ∧ Rel K H W ∧ f D' δ W ∧ LkS K H D' D
abbrev SE (X : Cx) (e : Expr) (f : FE) : Prop := PE X e (tE X.K f)
abbrev ST (X : Cx) (e : Expr) (f : FT) : Prop := PT X e (tT X.K f)
abbrev SW (X : Cx) (e : Expr) (f : FT) : Prop := PW X e (tT X.K f)
abbrev SA (X : Cx) (es : List Expr) (f : FA) : Prop := PA X es (tA X.K f)
abbrev SS (X : Cx) (st : Stmt) (f : FS) : Prop := PS X st (tS X.K f)
abbrev SSs (X : Cx) (st : List Stmt) (f : FS) : Prop := PSs X st (tS X.K f)
theorem PEimp {X : Cx} {e : Expr} {t t' : TE} (h : PE X e t) (i : ∀ σ H Q, t' σ H Q → t σ H Q) : PE X e t' := ⟨fun pins s σ H Q I q => h.run pins s σ H Q I (i σ H Q q)⟩
theorem PTimp {X : Cx} {e : Expr} {t t' : TT} (h : PT X e t) (i : ∀ σ H Q, t' σ H Q → t σ H Q) : PT X e t' := ⟨fun pins s σ H Q I q => h.run pins s σ H Q I (i σ H Q q)⟩
theorem PWimp {X : Cx} {e : Expr} {t t' : TT} (h : PW X e t) (i : ∀ σ H Q, t' σ H Q → t σ H Q) : PW X e t' := ⟨fun w pins s σ H Q I q => h.run w pins s σ H Q I (i σ H Q q)⟩
theorem PAimp {X : Cx} {e : List Expr} {t t' : TA} (h : PA X e t) (i : ∀ σ H Q, t' σ H Q → t σ H Q) : PA X e t' := ⟨fun pos pins s σ H Q I q => h.run pos pins s σ H Q I (i σ H Q q)⟩
theorem PSimp {X : Cx} {e : Stmt} {t t' : TS} (h : PS X e t) (i : ∀ D σ H, t' D σ H → t D σ H) : PS X e t' := ⟨fun pins s σ H D I q => h.run pins s σ H D I (i D σ H q)⟩
theorem PSsimp {X : Cx} {e : List Stmt} {t t' : TS} (h : PSs X e t) (i : ∀ D σ H, t' D σ H → t D σ H) : PSs X e t' := ⟨fun pins s σ H D I q => h.run pins s σ H D I (i D σ H q)⟩
section
variable {K : PySem.W.Frag} {H : Hp}
theorem Lk.ext {H1 : Hp} {Q' : DK} {Q : VK} (e : Ext K H H1) (h : Lk K H Q' Q) : Lk K H1 Q' Q := fun v d H' W' x r y q => h v d H' W' (e.trans x) r y q
theorem LkB.ext {H1 : Hp} {Q' : Bool → DW → Prop} {Q : Bool → Hp → Prop} (e : Ext K H H1) (h : LkB K H Q' Q) : LkB K H1 Q' Q := fun v H' W' x r q => h v H' W' (e.trans x) r q
theorem LkN.ext {H1 : Hp} {Q' : Env → DW → Prop} {Q : L2.St → Hp → Prop} (e : Ext K H H1) (h : LkN K H Q' Q) : LkN K H1 Q' Q := fun σ δ H' W' x er r q => h σ δ H' W' (e.trans x) er r q
theorem LkS.ext {H1 : Hp} {Q' : DE} {Q : Ends} (e : Ext K H H1) (h : LkS K H Q' Q) : LkS K H1 Q' Q := ⟨h.nx.ext e, h.rt.ext e, h.bk.ext e, h.ct.ext e⟩
end

/-! ### names, constants -/
section
variable {X : Cx} {a b c e : Expr} {es rest : List Expr} {pos : Pos} {f g h : FE} {p q : FT}
def fVar (i : Nat) : FE := fun δ W Q => ∃ d, δ[i]? = some (some d) ∧ Q d W
def fC (d : D) : FE := fun _ W Q => Q d W
theorem se_var (i : Nat) {x : Str} (hN : X.N[i]? = some x := by rfl) (hv : Vis X.env.scope x := by first | exact Or.inl rfl | exact Or.inr (Or.inl rfl) | exact Or.inr (Or.inr rfl)) (hd : (x == ("__debug__" : Str)) = false := by decide)
    (hcd : (x == ("__classdict__" : Str)) = false := by decide) : SE X (.Name x pos) (fVar i) :=
  PEimp (pe_var hN hv hd hcd) fun σ H Q ⟨δ, W, Q', er, rl, ⟨d, e, q⟩, k⟩ => let ⟨v, e', dv⟩ := er.2 i d e; ⟨v, e', k v d H W (Ext.refl H) rl dv q⟩
theorem se_con {v : V} {d : D} (h : PE X e (tC v)) (hd : ∀ H, DV X.K H d v) : SE X e (fC d) :=
  PEimp h fun σ H Q ⟨δ, W, Q', er, rl, q, k⟩ => k v d H W (Ext.refl H) rl (hd H) q
theorem se_int {i j} : SE X (.Constant (.int i) j pos) (fC (.int i)) := se_con pe_int fun _ => rfl
theorem se_bl {i j} : SE X (.Constant (.bool i) j pos) (fC (.bl i)) := se_con pe_bl fun _ => rfl
theorem se_non {j} : SE X (.Constant .none j pos) (fC .non) := se_con pe_non fun _ => rfl
theorem se_str {x j} : SE X (.Constant (.str x) j pos) (fC (.str x)) := se_con pe_str fun _ => rfl
/-! ### two places -/
/-- the reading of an operation on values, by data -/
abbrev R2D := D → D → DW → DK → Prop
def fBin (F : R2D) (f g : FE) : FE := fun δ W Q => f δ W fun x W1 => g δ W1 fun y W2 => F x y W2 Q
def Op2 (K : PySem.W.Frag) (r : R2) (F : R2D) : Prop := ∀ H W x y dx dy Q Q', Rel K H W → DV K H dx x → DV K H dy y → F dx dy W Q' → Lk K H Q' Q → r x y H Q
theorem tE_bin {r : R2} {F : R2D} (hr : Op2 X.K r F) : ∀ σ H Q, tE X.K (fBin F f g) σ H Q → tOp r (tE X.K f) (tE X.K g) σ H Q := fun σ H Q ⟨δ, W, Q', er, rl, h, k⟩ =>
  ⟨δ, W, _, er, rl, h, fun x dx H1 W1 e1 r1 v1 h1 => ⟨δ, W1, _, er.ext e1, r1, h1, fun y dy H2 W2 e2 r2 v2 h2 => hr H2 W2 x y dx dy Q Q' r2 (DV.ext e2 v1) v2 h2 (k.ext (e1.trans e2))⟩⟩
theorem se_op {op : Operator} {r : R2} {F : R2D} (ho : OpR X (binaryOp op) r) (hr : Op2 X.K r F) (ha : SE X a f) (hb : SE X b g) : SE X (.BinOp a op b pos) (fBin F f g) := PEimp (pe_op ho ha hb) (tE_bin hr)
theorem se_cmp {op : CmpOp} {r : R2} {F : R2D} (ho : OpR X (compareOp op) r) (hr : Op2 X.K r F) (ha : SE X a f) (hb : SE X b g) (hm : behindInMarks op b = false) : SE X (.Compare a [op] [b] pos) (fBin F f g) := PEimp (pe_cmpR ho ha hb hm) (tE_bin hr)
end
end DL
/-! Dl2: expressions over data. -/
namespace DL
open PySem PySem.Spec PyProof.Rows L2
section
variable {K : PySem.W.Frag} {H : Hp} {W : DW}
/-! ### what is made anew, what changes -/
theorem Lk.at {d : D} {v : V} {Q' : DK} {Q : VK} (k : Lk K H Q' Q) (rl : Rel K H W) (q : Q' d W) (dv : DV K H d v) : Q v H := k v d H W (Ext.refl H) rl dv q
theorem hasL {p : Addr} {ds : List D} {vs : List V} (h : H p = some (.lst vs)) (d : DVs K H ds vs) : HasO K H p (.lst ds) := ⟨vs, h, d⟩
theorem dvT {p : Addr} {ds : List D} {vs : List V} (h : H p = some (.tup vs)) (d : DVs K H ds vs) : DV K H (.tup ds) (.ref p) := ⟨p, vs, rfl, h, d⟩
theorem newL {p : Addr} {ds : List D} {vs : List V} {Q' : DK} {Q : VK} (rl : Rel K H W) (hp : H p = none) (dv : DVs K H ds vs) (q : ∀ p, W p = none → Q' (.ref p) (wup W p (.lst ds))) (k : Lk K H Q' Q) : Q (.ref p) (upd H p (.lst vs)) :=
  k _ (.ref p) _ _ (Ext.new hp) (rl.wnew hp (hasL (ds := ds) upd_same (DVs.ext (Ext.new hp) dv))) rfl (q p (rl.fresh hp))
theorem newT {p : Addr} {ds : List D} {vs : List V} {Q' : DK} {Q : VK} (rl : Rel K H W) (hp : H p = none) (dv : DVs K H ds vs) (q : Q' (.tup ds) W) (k : Lk K H Q' Q) : Q (.ref p) (upd H p (.tup vs)) :=
  k _ (.tup ds) _ W (Ext.new hp) (rl.ext_new hp) (dvT upd_same (DVs.ext (Ext.new hp) dv)) q
theorem putL {p : Addr} {us : List V} {d : D} {v : V} {ds : List D} {vs : List V} {Q' : DK} {Q : VK} (rl : Rel K H W) (hp : H p = some (.lst us)) (dv : DVs K H ds vs) (hv : DV K H d v) (q : Q' d (wup W p (.lst ds))) (k : Lk K H Q' Q) : Q v (upd H p (.lst vs)) :=
  k _ d _ _ (Ext.put hp trivial) (rl.wput hp trivial (hasL (ds := ds) upd_same (DVs.ext (Ext.put hp trivial) dv))) (DV.ext (Ext.put hp trivial) hv) q
theorem DVs.nil_iff : ∀ {ds : List D} {vs : List V}, DVs K H ds vs → (vs = [] ↔ ds = [])
  | [], _, h => by cases h; simp
  | d :: ds, _, h => by obtain ⟨v, r, rfl, _, _⟩ := h; simp

/-! ### arithmetic -/
def pAdd : R2D := fun x y W Q => match x, y with
  | .int i, .int j => Q (.int (i + j)) W
  | .tup xs, .tup ys => xs.length + ys.length ≤ sizeLine ∧ Q (.tup (xs ++ ys)) W
  | .ref a, .ref b => ∃ xs ys, W a = some (.lst xs) ∧ W b = some (.lst ys) ∧ xs.length + ys.length ≤ sizeLine ∧ ∀ p, W p = none → Q (.ref p) (wup W p (.lst (xs ++ ys)))
  | .str s, .str t => s.length + t.length ≤ sizeLine ∧ Q (.str (s ++ t)) W
  | _, _ => False
abbrev rAddA (K : PySem.W.Frag) : R2 := fun x y H Q => ((rI0 (fun i j => .int (i + j)) x y H Q ∨ rCatA K x y H Q) ∨ rCat x y H Q) ∨ (∃ i j, x = .str i ∧ y = .str j ∧ i.length + j.length ≤ sizeLine ∧ Q (.str (i ++ j)) H)
theorem o_add : Op2 K (rAddA K) pAdd := fun H W x y dx dy Q Q' rl vx vy h k => by
  unfold pAdd at h
  split at h
  · cases vx; cases vy; exact .inl (.inl (.inl ⟨_, _, rfl, rfl, k.at rl h rfl⟩))
  · obtain ⟨a, us, rfl, s1, d1⟩ := vx
    obtain ⟨b, ws, rfl, s2, d2⟩ := vy
    refine .inl (.inl (.inr ⟨a, b, us, ws, rfl, rfl, SqT.of s1, SqT.of s2, by rw [d1.length, d2.length]; exact h.1, fun e => ?_, fun e e2 => ?_, fun e e2 p hp => ?_⟩))
    · have := d1.nil_iff.mp e; subst this
      exact k.at rl h.2 (dvT s2 d2)
    · have := d2.nil_iff.mp e2; subst this
      exact k.at rl h.2 (dvT s1 (by rw [List.append_nil]; exact d1))
    · exact newT rl hp (DVs.append d1 d2) h.2 k
  · cases vx; cases vy
    obtain ⟨xs, ys, w1, w2, hl, q⟩ := h
    obtain ⟨us, s1, d1⟩ := rl _ _ w1
    obtain ⟨ws, s2, d2⟩ := rl _ _ w2
    exact .inl (.inr ⟨_, _, us, ws, rfl, rfl, s1, s2, by rw [d1.length, d2.length]; exact hl, fun p hp => newL rl hp (DVs.append d1 d2) q k⟩)
  · cases vx; cases vy; exact .inr ⟨_, _, rfl, rfl, h.1, k.at rl h.2 rfl⟩
  · exact h.elim
/-- an operation on two ints -/
def pII (C : Int → Int → Prop) (g : Int → Int → D) : R2D := fun x y W Q => match x, y with
  | .int i, .int j => C i j ∧ Q (g i j) W
  | _, _ => False
theorem o_II {C : Int → Int → Prop} {g : Int → Int → Int} : Op2 K (rI C fun i j => .int (g i j)) (pII C fun i j => .int (g i j)) := fun H W x y dx dy Q Q' rl vx vy h k => by
  unfold pII at h
  split at h
  · cases vx; cases vy; exact ⟨_, _, rfl, rfl, h.1, k.at rl h.2 rfl⟩
  · exact h.elim
def pII0 (g : Int → Int → D) : R2D := fun x y W Q => match x, y with
  | .int i, .int j => Q (g i j) W
  | _, _ => False
theorem o_II0 {g : Int → Int → Int} : Op2 K (rI0 fun i j => .int (g i j)) (pII0 fun i j => .int (g i j)) := fun H W x y dx dy Q Q' rl vx vy h k => by
  unfold pII0 at h
  split at h
  · cases vx; cases vy; exact ⟨_, _, rfl, rfl, k.at rl h rfl⟩
  · exact h.elim
theorem o_IB {g : Int → Int → Bool} : Op2 K (rI0 fun i j => .bl (g i j)) (pII0 fun i j => .bl (g i j)) := fun H W x y dx dy Q Q' rl vx vy h k => by
  unfold pII0 at h
  split at h
  · cases vx; cases vy; exact ⟨_, _, rfl, rfl, k.at rl h rfl⟩
  · exact h.elim
abbrev pSub : R2D := pII0 fun i j => .int (i - j)
abbrev pMod : R2D := pII (fun _ j => 0 < j) fun i j => .int (i % j)
abbrev pFdiv : R2D := pII CDivW fun i j => .int (i / j)
abbrev pPow : R2D := pII CPow fun i j => .int (i ^ j.toNat)
/-- products: of ints, of a list, a tuple by an int -/
def pMul : R2D := fun x y W Q => match x, y with
  | .int i, .int j => (CMul i j ∨ CMulW i j) ∧ Q (.int (i * j)) W
  | .ref a, .int j => ∃ xs, W a = some (.lst xs) ∧ -(2 ^ 63) ≤ j ∧ j < 2 ^ 63 ∧ xs.length * j.toNat ≤ sizeLine ∧ ∀ p, W p = none → Q (.ref p) (wup W p (.lst (List.replicate j.toNat xs).flatten))
  | _, _ => False
abbrev rMulA : R2 := fun x y H Q => (rI CMul (fun i j => .int (i * j)) x y H Q ∨ rI CMulW (fun i j => .int (i * j)) x y H Q) ∨ rRep x y H Q
theorem o_mul : Op2 K rMulA pMul := fun H W x y dx dy Q Q' rl vx vy h k => by
  unfold pMul at h
  split at h
  · cases vx; cases vy
    rcases h.1 with z | z
    · exact .inl (.inl ⟨_, _, rfl, rfl, z, k.at rl h.2 rfl⟩)
    · exact .inl (.inr ⟨_, _, rfl, rfl, z, k.at rl h.2 rfl⟩)
  · cases vx; cases vy
    obtain ⟨xs, w1, h1, h2, h3, q⟩ := h
    obtain ⟨us, s1, d1⟩ := rl _ _ w1
    exact .inr ⟨_, _, us, rfl, rfl, s1, h1, h2, by rw [d1.length]; exact h3, fun p hp => newL rl hp (DVs.rep d1 _) q k⟩
  · exact h.elim

/-! ### data as they are compared -/
mutual
inductive Py (W : DW) : D → PyData → Prop
  | non : Py W .non .none
  | bl (b : Bool) : Py W (.bl b) (.bool b)
  | int (i : Int) : Py W (.int i) (.int i)
  | str (x : Str) : Py W (.str x) (.str x)
  | tup {ds : List D} {ps : List PyData} : Pys W ds ps → Py W (.tup ds) (.tuple ps)
  | rl {ds : List D} {ps : List PyData} : Pys W ds ps → Py W (.rl ds) (.list ps)
  | lst {a : Addr} {ds : List D} {ps : List PyData} : W a = some (.lst ds) → Pys W ds ps → Py W (.ref a) (.list ps)
inductive Pys (W : DW) : List D → List PyData → Prop
  | nil : Pys W [] []
  | cons {d : D} {ds : List D} {p : PyData} {ps : List PyData} : Py W d p → Pys W ds ps → Pys W (d :: ds) (p :: ps)
end
mutual
theorem Py.dp (rl : Rel K H W) : ∀ {d : D} {x : PyData} {v : V}, Py W d x → DV K H d v → Dp K H v x
  | _, _, v, .non, h => by cases h; exact .non
  | _, _, v, .bl b, h => by cases h; exact .bl b
  | _, _, v, .int b, h => by cases h; exact .int b
  | _, _, v, .str b, h => by cases h; exact .str b
  | _, _, v, .tup p, h => by
    obtain ⟨a, vs, rfl, s, d⟩ := h
    exact .tup (SqT.of s) (Pys.dp rl p d)
  | _, _, v, .rl p, h => by
    obtain ⟨a, vs, rfl, s, d⟩ := h
    exact .lst s.sq (Pys.dp rl p d)
  | _, _, v, .lst w p, h => by
    cases h
    obtain ⟨us, s1, d1⟩ := rl _ _ w
    exact .lst (SqL.of s1) (Pys.dp rl p d1)
theorem Pys.dp (rl : Rel K H W) : ∀ {ds : List D} {xs : List PyData} {vs : List V}, Pys W ds xs → DVs K H ds vs → DpAll K H vs xs
  | _, _, v, .nil, h => by cases h; exact .nil
  | _, _, v, .cons p q, h => by
    obtain ⟨x, r, rfl, h1, h2⟩ := h
    exact .cons (Py.dp rl p h1) (Pys.dp rl q h2)
end
def pEq : R2D := fun x y W Q => ∃ a b, Py W x a ∧ Py W y b ∧ SeqAt.shaped a = true ∧ SeqAt.shaped b = true ∧ Q (.bl (PyData.eqv a b)) W
def pNe : R2D := fun x y W Q => ∃ a b, Py W x a ∧ Py W y b ∧ SeqAt.shaped a = true ∧ SeqAt.shaped b = true ∧ Q (.bl (!PyData.eqv a b)) W
theorem o_eq : Op2 K (rEqD K) pEq := fun H W x y dx dy Q Q' rl vx vy ⟨a, b, pa, pb, s1, s2, q⟩ k =>
  ⟨a, b, pa.dp rl vx, pb.dp rl vy, s1, s2, k.at rl q rfl⟩
theorem o_ne : Op2 K (rNeD K) pNe := fun H W x y dx dy Q Q' rl vx vy ⟨a, b, pa, pb, s1, s2, q⟩ k =>
  ⟨a, b, pa.dp rl vx, pb.dp rl vy, s1, s2, k.at rl q rfl⟩
/-- x is None -/
def D.isN : D → Bool
  | .non => true | _ => false
def pIsN : R2D := fun x y W Q => match y with
  | .non => Q (.bl x.isN) W
  | _ => False
def pNotN : R2D := fun x y W Q => match y with
  | .non => Q (.bl (!x.isN)) W
  | _ => False
theorem DV.non_iff {d : D} {v : V} (h : DV K H d v) : decide (v = .non) = d.isN := by
  cases d with
  | non => cases h; rfl
  | tup => obtain ⟨a, vs, rfl, _⟩ := h; rfl
  | rl => obtain ⟨a, vs, rfl, _⟩ := h; rfl
  | _ => cases h; rfl
theorem o_isN : Op2 K (fun x y H Q => y = .non ∧ Q (.bl (decide (x = .non))) H) pIsN := fun H W x y dx dy Q Q' rl vx vy h k => by
  unfold pIsN at h
  cases dy <;> try exact h.elim
  cases vy
  exact ⟨rfl, k.at rl h (by rw [vx.non_iff]; rfl)⟩
theorem o_notN : Op2 K (fun x y H Q => y = .non ∧ Q (.bl (!decide (x = .non))) H) pNotN := fun H W x y dx dy Q Q' rl vx vy h k => by
  unfold pNotN at h
  cases dy <;> try exact h.elim
  cases vy
  exact ⟨rfl, k.at rl h (by rw [vx.non_iff]; rfl)⟩
/-- x in y, of lists and tuples of data -/
def rInTD (K : PySem.W.Frag) : R2 := fun x y H Q => ∃ d ds, Dp K H x d ∧ Dp K H y (.tuple ds) ∧ SeqAt.shaped d = true ∧ SeqAt.shaped (.tuple ds) = true ∧ Q (.bl (ds.any fun z => PyData.eqv z d)) H
def rNotInTD (K : PySem.W.Frag) : R2 := fun x y H Q => ∃ d ds, Dp K H x d ∧ Dp K H y (.tuple ds) ∧ SeqAt.shaped d = true ∧ SeqAt.shaped (.tuple ds) = true ∧ Q (.bl (!ds.any fun z => PyData.eqv z d)) H
theorem op_inTD {X : Cx} (hu : X.A.units + 65 < cLine) : OpR X (compareOp .In) (rInTD X.K) := fun pins s σ H x y v u Q I rx ry ⟨d, ds, hd, he, sd, se, q⟩ => by
  obtain ⟨as, e1⟩ := Dp.reads I d x v hd rx
  obtain ⟨bs, e2⟩ := Dp.reads I (.tuple ds) y u he ry
  exact SeqAt.in_tuple_reads e2 e1 (SeqAt.canLay_of_shaped se) (SeqAt.canLay_of_shaped sd) (room_in_shaped sd hu) ⟨.bl _, H, I, rfl, q⟩
theorem op_notInTD {X : Cx} (hu : X.A.units + 65 < cLine) : OpR X (compareOp .NotIn) (rNotInTD X.K) := fun pins s σ H x y v u Q I rx ry ⟨d, ds, hd, he, sd, se, q⟩ => by
  obtain ⟨as, e1⟩ := Dp.reads I d x v hd rx
  obtain ⟨bs, e2⟩ := Dp.reads I (.tuple ds) y u he ry
  exact SeqAt.notIn_tuple_reads e2 e1 (SeqAt.canLay_of_shaped se) (SeqAt.canLay_of_shaped sd) (room_in_shaped sd hu) ⟨.bl _, H, I, rfl, q⟩
/-- what is within a list or a tuple, as data -/
def Ins (W : DW) (y : D) (ps : List PyData) : Prop := (Py W y (.list ps) ∧ SeqAt.shaped (.list ps) = true) ∨ (Py W y (.tuple ps) ∧ SeqAt.shaped (.tuple ps) = true)
def pIn (neg : Bool) : R2D := fun x y W Q => ∃ a ps, Py W x a ∧ Ins W y ps ∧ SeqAt.shaped a = true ∧ Q (.bl (if neg then !(ps.any fun z => PyData.eqv z a) else ps.any fun z => PyData.eqv z a)) W
abbrev rInAny (K : PySem.W.Frag) : R2 := fun x y H Q => rInD K x y H Q ∨ rInTD K x y H Q
abbrev rNotInAny (K : PySem.W.Frag) : R2 := fun x y H Q => rNotInD K x y H Q ∨ rNotInTD K x y H Q
theorem op_inAny {X : Cx} (hu : X.A.units + 65 < cLine) : OpR X (compareOp .In) (rInAny X.K) := (op_inD hu).or (op_inTD hu)
theorem op_notInAny {X : Cx} (hu : X.A.units + 65 < cLine) : OpR X (compareOp .NotIn) (rNotInAny X.K) := (op_notInD hu).or (op_notInTD hu)
theorem o_in : Op2 K (rInAny K) (pIn false) := fun H W x y dx dy Q Q' rl vx vy ⟨a, ps, pa, pb, s1, q⟩ k => by
  rcases pb with ⟨pb, s2⟩ | ⟨pb, s2⟩
  · exact .inl ⟨a, ps, pa.dp rl vx, pb.dp rl vy, s1, s2, k.at rl q rfl⟩
  · exact .inr ⟨a, ps, pa.dp rl vx, pb.dp rl vy, s1, s2, k.at rl q rfl⟩
theorem o_notIn : Op2 K (rNotInAny K) (pIn true) := fun H W x y dx dy Q Q' rl vx vy ⟨a, ps, pa, pb, s1, q⟩ k => by
  rcases pb with ⟨pb, s2⟩ | ⟨pb, s2⟩
  · exact .inl ⟨a, ps, pa.dp rl vx, pb.dp rl vy, s1, s2, k.at rl q rfl⟩
  · exact .inr ⟨a, ps, pa.dp rl vx, pb.dp rl vy, s1, s2, k.at rl q rfl⟩
end
end DL
/-! Dl3: tests, displays, subscripts, targets, statements. -/
namespace DL
open PySem PySem.Spec PyProof.Rows L2
section
variable {X : Cx} {a b c e o i : Expr} {es rest : List Expr} {pos : Pos} {f g h : FE} {p q : FT}
/-! ### tests -/
def fB (f : FE) : FT := fun δ W Q => f δ W fun x W1 => match x with | .bl k => Q k W1 | _ => False
theorem tE_B : ∀ σ H Q, tT X.K (fB f) σ H Q → tB (tE X.K f) σ H Q := fun σ H Q ⟨δ, W, Q', er, rl, h, k⟩ =>
  ⟨δ, W, _, er, rl, h, fun x dx H1 W1 e1 r1 v1 h1 => by
    cases dx <;> try exact h1.elim
    cases v1
    exact ⟨_, rfl, k _ H1 W1 e1 r1 h1⟩⟩
theorem st_val (h : SE X e f) (he : ∀ whole, isTrue e X.env whole = (do let v ← whole; standAt e.pos; holding [v] (truthy v)) := by intro _; rfl) : ST X e (fB f) := PTimp (pt_val h he) tE_B
theorem st_cmp {op : CmpOp} {r : R2} {F : R2D} (ho : OpR X (compareOp op) r) (hr : Op2 X.K r F) (ha : SE X a f) (hb : SE X b g) (hm : behindInMarks op b = false) : ST X (.Compare a [op] [b] pos) (fB (fBin F f g)) :=
  PTimp (pt_cmpR ho ha hb hm) fun σ H Q h => by
    obtain ⟨δ, W, Q', er, rl, h, k⟩ := tE_B σ H Q h
    exact tE_bin hr σ H _ ⟨δ, W, Q', er, rl, h, k⟩
/-- truth of a value -/
def tru (W : DW) : D → Option Bool
  | .non => some false
  | .bl b => some b
  | .int i => some (i != 0)
  | .tup xs => some (!xs.isEmpty)
  | .ref a => match W a with
    | some (.lst xs) => some (!xs.isEmpty)
    | some (.dic kvs) => some (!kvs.isEmpty)
    | _ => none
  | _ => none
def fTru (f : FE) : FT := fun δ W Q => f δ W fun x W1 => ∃ k, tru W1 x = some k ∧ Q k W1
theorem DVs.isEmpty {K : PySem.W.Frag} {H : Hp} {ds : List D} {vs : List V} (h : DVs K H ds vs) : ds.isEmpty = vs.isEmpty := by
  cases ds with
  | nil => cases h; rfl
  | cons d ds => obtain ⟨v, r, rfl, _, _⟩ := h; rfl
theorem st_truth (h : SE X e f) (he : ∀ whole, isTrue e X.env whole = (do let v ← whole; standAt e.pos; holding [v] (truthy v)) := by intro _; rfl) : ST X e (fTru f) :=
  PTimp (pt_truth h he) fun σ H Q ⟨δ, W, Q', er, rl, h, k⟩ => ⟨δ, W, _, er, rl, h, fun x dx H1 W1 e1 r1 v1 ⟨t, ht, q⟩ => by
    refine ⟨t, ?_, k _ H1 W1 e1 r1 q⟩
    cases dx with
    | non => cases v1; cases ht; rfl
    | bl b => cases v1; cases ht; rfl
    | int i => cases v1; cases ht; rfl
    | str i => cases ht
    | ty i => cases ht
    | rl i => cases ht
    | tup xs =>
      obtain ⟨a, us, rfl, s, d⟩ := v1
      cases ht
      exact .inr (.inl ⟨us, (SqT.of s), by rw [d.isEmpty]⟩)
    | ref a =>
      cases v1
      unfold tru at ht
      cases w : W1 a with
      | none => simp [w] at ht
      | some o =>
        cases o with
        | lst xs =>
          simp [w] at ht
          obtain ⟨us, s1, d1⟩ := r1 _ _ w
          exact .inl ⟨us, SqL.of s1, by rw [← d1.isEmpty, ht, Bool.not_not]⟩
        | dic xs =>
          simp [w] at ht
          obtain ⟨us, s1, d1⟩ := r1 _ _ w
          refine .inr (.inr ⟨us, s1, ?_⟩)
          have : us.isEmpty = xs.isEmpty := by cases d1 <;> rfl
          rw [this, ht, Bool.not_not]
        | dit xs => simp [w] at ht
        | lic _ _ xs => simp [w] at ht
        | lit _ _ xs => simp [w] at ht⟩
def fAndT (p q : FT) : FT := fun δ W Q => p δ W fun k W1 => if k = true then q δ W1 Q else Q false W1
def fOrT (p q : FT) : FT := fun δ W Q => p δ W fun k W1 => if k = true then Q true W1 else q δ W1 Q
def fNotT (p : FT) : FT := fun δ W Q => p δ W fun k W1 => Q (!k) W1
theorem sw_and1 (h : ST X a p) : SW X (.BoolOp .And [a] pos) p := pw_and1 h
theorem sw_or1 (h : ST X a p) : SW X (.BoolOp .Or [a] pos) p := pw_or1 h
theorem sw_and (ha : ST X a p) (hb : SW X (.BoolOp .And (b :: rest) pos) q) : SW X (.BoolOp .And (a :: b :: rest) pos) (fAndT p q) :=
  PWimp (pw_and ha hb) fun σ H Q ⟨δ, W, Q', er, rl, h, k⟩ => ⟨δ, W, _, er, rl, h, fun t H1 W1 e1 r1 h1 => by
    cases t with
    | true => exact ⟨δ, W1, Q', er.ext e1, r1, h1, k.ext e1⟩
    | false => exact k _ H1 W1 e1 r1 h1⟩
theorem sw_or (ha : ST X a p) (hb : SW X (.BoolOp .Or (b :: rest) pos) q) : SW X (.BoolOp .Or (a :: b :: rest) pos) (fOrT p q) :=
  PWimp (pw_or ha hb) fun σ H Q ⟨δ, W, Q', er, rl, h, k⟩ => ⟨δ, W, _, er, rl, h, fun t H1 W1 e1 r1 h1 => by
    cases t with
    | false => exact ⟨δ, W1, Q', er.ext e1, r1, h1, k.ext e1⟩
    | true => exact k _ H1 W1 e1 r1 h1⟩
theorem st_not (ha : ST X a p) : ST X (.UnaryOp .Not a pos) (fNotT p) :=
  PTimp (pt_not ha) fun σ H Q ⟨δ, W, Q', er, rl, h, k⟩ => ⟨δ, W, _, er, rl, h, fun t H1 W1 e1 r1 h1 => k _ H1 W1 e1 r1 h1⟩
/-- and, or, not of truth values, as values -/
def fAndV (f g : FE) : FE := fun δ W Q => f δ W fun x W1 => match x with | .bl k => if k = true then g δ W1 Q else Q (.bl false) W1 | _ => False
def fOrV (f g : FE) : FE := fun δ W Q => f δ W fun x W1 => match x with | .bl k => if k = true then Q (.bl true) W1 else g δ W1 Q | _ => False
def fNotV (f : FE) : FE := fun δ W Q => f δ W fun x W1 => match x with | .bl k => Q (.bl (!k)) W1 | _ => False
theorem se_one {op} (h : SE X a f) : SE X (.BoolOp op [a] pos) f := pe_one h
theorem se_and (ha : SE X a f) (hb : SE X (.BoolOp .And (b :: rest) pos) g) : SE X (.BoolOp .And (a :: b :: rest) pos) (fAndV f g) :=
  PEimp (pe_and ha hb) fun σ H Q ⟨δ, W, Q', er, rl, h, k⟩ => ⟨δ, W, _, er, rl, h, fun x dx H1 W1 e1 r1 v1 h1 => by
    cases dx <;> try exact h1.elim
    rename_i t
    cases v1
    refine ⟨t, rfl, ?_⟩
    cases t with
    | true => exact ⟨δ, W1, Q', er.ext e1, r1, h1, k.ext e1⟩
    | false => exact k _ (.bl false) H1 W1 e1 r1 rfl h1⟩
theorem se_or (ha : SE X a f) (hb : SE X (.BoolOp .Or (b :: rest) pos) g) : SE X (.BoolOp .Or (a :: b :: rest) pos) (fOrV f g) :=
  PEimp (pe_or ha hb) fun σ H Q ⟨δ, W, Q', er, rl, h, k⟩ => ⟨δ, W, _, er, rl, h, fun x dx H1 W1 e1 r1 v1 h1 => by
    cases dx <;> try exact h1.elim
    rename_i t
    cases v1
    refine ⟨t, rfl, ?_⟩
    cases t with
    | false => exact ⟨δ, W1, Q', er.ext e1, r1, h1, k.ext e1⟩
    | true => exact k _ (.bl true) H1 W1 e1 r1 rfl h1⟩
theorem se_not (ha : SE X a f) : SE X (.UnaryOp .Not a pos) (fNotV f) :=
  PEimp (pe_not ha) fun σ H Q ⟨δ, W, Q', er, rl, h, k⟩ => ⟨δ, W, _, er, rl, h, fun x dx H1 W1 e1 r1 v1 h1 => by
    cases dx <;> try exact h1.elim
    rename_i t
    cases v1
    exact ⟨t, rfl, k _ (.bl (!t)) H1 W1 e1 r1 rfl h1⟩⟩
def fIf (p : FT) (f g : FE) : FE := fun δ W Q => p δ W fun k W1 => if k = true then f δ W1 Q else g δ W1 Q
theorem se_if (hc : ST X c p) (ha : SE X a f) (hb : SE X b g) : SE X (.IfExp c a b pos) (fIf p f g) :=
  PEimp (pe_ifExp hc ha hb) fun σ H Q ⟨δ, W, Q', er, rl, h, k⟩ => ⟨δ, W, _, er, rl, h, fun t H1 W1 e1 r1 h1 => by
    cases t with
    | true => exact ⟨δ, W1, Q', er.ext e1, r1, h1, k.ext e1⟩
    | false => exact ⟨δ, W1, Q', er.ext e1, r1, h1, k.ext e1⟩⟩
/-- a < b < c -/
def fChain (F F' : R2D) (f g h : FE) : FE := fun δ W Q => f δ W fun x W1 => g δ W1 fun y W2 => F x y W2 fun z W3 => match z with | .bl k => if k = true then h δ W3 fun w W4 => F' y w W4 Q else Q (.bl false) W3 | _ => False
theorem tE_chain {r r' : R2} {F F' : R2D} (hr : Op2 X.K r F) (hr' : Op2 X.K r' F') : ∀ σ H Q, tE X.K (fChain F F' f g h) σ H Q → tChain r r' (tE X.K f) (tE X.K g) (tE X.K h) σ H Q := fun σ H Q ⟨δ, W, Q', er, rl, hh, k⟩ =>
  ⟨δ, W, _, er, rl, hh, fun x dx H1 W1 e1 r1 v1 h1 => ⟨δ, W1, _, er.ext e1, r1, h1, fun y dy H2 W2 e2 r2 v2 h2 => hr H2 W2 x y dx dy _ _ r2 (DV.ext e2 v1) v2 h2 fun z dz H3 W3 e3 r3 v3 h3 => by
    cases dz <;> try exact h3.elim
    rename_i t
    cases v3
    refine ⟨t, rfl, ?_⟩
    cases t with
    | true => exact ⟨δ, W3, _, er.ext ((e1.trans e2).trans e3), r3, h3, fun w dw H4 W4 e4 r4 v4 h4 => hr' H4 W4 y w dy dw Q Q' r4 (DV.ext (e3.trans e4) v2) v4 h4 (k.ext (((e1.trans e2).trans e3).trans e4))⟩
    | false => exact k _ (.bl false) H3 W3 ((e1.trans e2).trans e3) r3 rfl h3⟩⟩
theorem se_chain {op op' : CmpOp} {r r' : R2} {F F' : R2D} (ho : OpR X (compareOp op) r) (ho' : OpR X (compareOp op') r') (hr : Op2 X.K r F) (hr' : Op2 X.K r' F') (ha : SE X a f) (hb : SE X b g) (hc : SE X c h)
    (hl : lastMarks [op, op'] [b, c] = false := by first | rfl | decide) : SE X (.Compare a [op, op'] [b, c] pos) (fChain F F' f g h) := PEimp (pe_chain ho ho' ha hb hc hl) (tE_chain hr hr')

/-! ### arguments, displays -/
def fNil : FA := fun _ W Q => Q [] W
def fCons (f : FE) (r : FA) : FA := fun δ W Q => f δ W fun x W1 => r δ W1 fun xs W2 => Q (x :: xs) W2
theorem sa_nil : SA X [] fNil := PAimp pa_nil fun σ H Q ⟨δ, W, Q', er, rl, h, k⟩ => k [] [] H W (Ext.refl H) rl rfl h
theorem sa_cons {r : FA} (ha : SE X e f) (hr : SA X es r) (hs : starEach (e :: es) X.env = (false, eval e X.env) :: starEach es X.env := by rfl) : SA X (e :: es) (fCons f r) :=
  PAimp (pa_cons ha hr hs) fun σ H Q ⟨δ, W, Q', er, rl, h, k⟩ => ⟨δ, W, _, er, rl, h, fun x dx H1 W1 e1 r1 v1 h1 => ⟨δ, W1, _, er.ext e1, r1, h1, fun xs ds H2 W2 e2 r2 v2 h2 =>
    k (x :: xs) (dx :: ds) H2 W2 (e1.trans e2) r2 ⟨x, xs, rfl, DV.ext e2 v1, v2⟩ h2⟩⟩
def fTup (r : FA) : FE := fun δ W Q => r δ W fun xs W1 => xs.length ≤ sizeLine ∧ Q (.tup xs) W1
def fLst (r : FA) : FE := fun δ W Q => r δ W fun xs W1 => xs.length ≤ sizeLine ∧ ∀ p, W1 p = none → Q (.ref p) (wup W1 p (.lst xs))
theorem se_tup {x1} {r : FA} (h : SA X es r) : SE X (.Tuple es x1 pos) (fTup r) :=
  PEimp (pe_tup h) fun σ H Q ⟨δ, W, Q', er, rl, h, k⟩ => ⟨δ, W, _, er, rl, h, fun vs ds H1 W1 e1 r1 v1 h1 => ⟨by rw [v1.length]; exact h1.1, fun p hp => newT r1 hp v1 h1.2 (k.ext e1)⟩⟩
theorem se_lst {r : FA} (h : SA X es r) : SE X (.List es pos) (fLst r) :=
  PEimp (pe_lst h) fun σ H Q ⟨δ, W, Q', er, rl, h, k⟩ => ⟨δ, W, _, er, rl, h, fun vs ds H1 W1 e1 r1 v1 h1 => ⟨by rw [v1.length]; exact h1.1, fun p hp => newL r1 hp v1 h1.2 (k.ext e1)⟩⟩

/-! ### subscripts of lists and tuples -/
def atD (xs : List D) (i : Int) : Option D := (ixN xs.length i).bind fun j => xs[j]?
theorem DVs.at {K : PySem.W.Frag} {H : Hp} {ds : List D} {vs : List V} {i : Int} {d : D} (h : DVs K H ds vs) (e : atD ds i = some d) : ∃ v, atI vs i = some v ∧ DV K H d v := by
  unfold atD at e
  unfold atI
  rw [h.length]
  cases q : ixN ds.length i with
  | none => rw [q] at e; cases e
  | some j =>
    rw [q] at e
    exact DVs.get (i := j) h e
def pIx : R2D := fun x y W Q => match x, y with
  | .tup xs, .int i => ∃ d, atD xs i = some d ∧ Q d W
  | .rl xs, .int i => ∃ d, atD xs i = some d ∧ Q d W
  | .ref a, .int i => ∃ xs d, W a = some (.lst xs) ∧ atD xs i = some d ∧ Q d W
  | _, _ => False
theorem o_ix : Op2 X.K (fun x y H Q => rIxL X.K x y H Q ∨ rIxT X.K x y H Q) pIx := fun H W x y dx dy Q Q' rl vx vy h k => by
  unfold pIx at h
  split at h
  · cases vy
    obtain ⟨a, us, rfl, s, d⟩ := vx
    obtain ⟨d', e, q⟩ := h
    obtain ⟨v, e', dv⟩ := d.at e
    exact .inr ⟨a, us, _, v, rfl, rfl, (SqT.of s), e', k.at rl q dv⟩
  · cases vy
    obtain ⟨a, us, rfl, s, d⟩ := vx
    obtain ⟨d', e, q⟩ := h
    obtain ⟨v, e', dv⟩ := d.at e
    exact .inl ⟨a, us, _, v, rfl, rfl, s.sq, e', k.at rl q dv⟩
  · cases vx; cases vy
    obtain ⟨xs, d', w, e, q⟩ := h
    obtain ⟨us, s1, d1⟩ := rl _ _ w
    obtain ⟨v, e', dv⟩ := d1.at e
    exact .inl ⟨_, us, _, v, rfl, rfl, SqL.of s1, e', k.at rl q dv⟩
  · exact h.elim
theorem se_ix (ha : SE X a f) (hb : SE X b g) (hs : PlainIx b := by intro _ _; rfl) : SE X (.Subscript a b pos) (fBin pIx f g) := PEimp (pe_ix (ix_list.or ix_tup) ha hb hs) (tE_bin o_ix)
/-! ### slices -/
abbrev FO := Env → DW → (Option Int → DW → Prop) → Prop
def tO (K : PySem.W.Frag) (f : FO) : TO := fun σ H Q => ∃ δ W Q', EnvR K H δ σ ∧ Rel K H W ∧ f δ W Q' ∧ ∀ o H' W', Ext K H H' → Rel K H' W' → Q' o W' → Q o H'
abbrev SO (X : Cx) (e : Option Expr) (f : FO) : Prop := PO X e (tO X.K f)
def fNoPart : FO := fun _ W Q => Q none W
def fPart (f : FE) : FO := fun δ W Q => f δ W fun x W1 => match x with | .int i => Q (some i) W1 | _ => False
theorem POimp {e : Option Expr} {t t' : TO} (h : PO X e t) (i : ∀ σ H Q, t' σ H Q → t σ H Q) : PO X e t' := ⟨fun pins s σ H Q I q => h.run pins s σ H Q I (i σ H Q q)⟩
theorem so_none : SO X none fNoPart := POimp po_none fun σ H Q ⟨δ, W, Q', er, rl, h, k⟩ => k none H W (Ext.refl H) rl h
theorem so_some (h : SE X e f) : SO X (some e) (fPart f) := POimp (po_some h) fun σ H Q ⟨δ, W, Q', er, rl, h, k⟩ => ⟨δ, W, _, er, rl, h, fun x dx H1 W1 e1 r1 v1 h1 => by
  cases dx <;> try exact h1.elim
  cases v1
  exact ⟨_, rfl, k _ H1 W1 e1 r1 h1⟩⟩
def cutD (xs : List D) (lo hi : Option Int) : List D := (xs.drop (HT.sIx xs.length 0 lo)).take (HT.sIx xs.length xs.length hi - HT.sIx xs.length 0 lo)
def fSl (f : FE) (lo hi : FO) : FE := fun δ W Q => f δ W fun x W1 => lo δ W1 fun l W2 => hi δ W2 fun u W3 => match x with
  | .tup xs => Q (.tup (cutD xs l u)) W3
  | .rl xs => ∀ p, W3 p = none → Q (.ref p) (wup W3 p (.lst (cutD xs l u)))
  | .ref a => ∃ xs, W3 a = some (.lst xs) ∧ ∀ p, W3 p = none → Q (.ref p) (wup W3 p (.lst (cutD xs l u)))
  | _ => False
theorem DVs.cut {K : PySem.W.Frag} {H : Hp} {ds : List D} {vs : List V} (h : DVs K H ds vs) (l u : Option Int) : DVs K H (cutD ds l u) (cutV vs l u) := by
  unfold cutD cutV
  rw [h.length]
  exact DVs.take _ (DVs.drop _ h)
theorem se_slice {lo hi : Option Expr} {p2 : Pos} {fl fu : FO} (he : SE X e f) (hl : SO X lo fl) (hu : SO X hi fu) : SE X (.Subscript e (.Slice lo hi none p2) pos) (fSl f fl fu) :=
  PEimp (pe_slice (sl_list.or sl_tupA) he hl hu) fun σ H Q ⟨δ, W, Q', er, rl, h, k⟩ => ⟨δ, W, _, er, rl, h, fun x dx H1 W1 e1 r1 v1 h1 => ⟨δ, W1, _, er.ext e1, r1, h1, fun l H2 W2 e2 r2 h2 => ⟨δ, W2, _, er.ext (e1.trans e2), r2, h2, fun u H3 W3 e3 r3 h3 => by
    have k' := k.ext ((e1.trans e2).trans e3)
    have v' := DV.ext (e2.trans e3) v1
    cases dx <;> try exact h3.elim
    · obtain ⟨a, us, rfl, s, d⟩ := v'
      refine .inr ⟨a, us, rfl, (SqT.of s), fun z => ?_, fun z p hp => newT r3 hp (d.cut l u) h3 k'⟩
      refine k'.at r3 h3 (dvT s ?_)
      have : cutV us l u = us := by
        unfold cutV
        rw [z.1, z.2]
        simp
      rw [← this]
      exact d.cut l u
    · obtain ⟨a, us, rfl, s, d⟩ := v'
      exact .inl ⟨a, us, rfl, s.sq, fun p hp => newL r3 hp (d.cut l u) h3 k'⟩
    · cases v'
      obtain ⟨xs, w, q⟩ := h3
      obtain ⟨us, s1, d1⟩ := r3 _ _ w
      exact .inl ⟨_, us, rfl, SqL.of s1, fun p hp => newL r3 hp (d1.cut l u) q k'⟩⟩⟩⟩
end
end DL
/-! Dl4: targets, statements, loops, comprehensions. -/
namespace DL
open PySem PySem.Spec PyProof.Rows L2
section
variable {X : Cx} {a b c e o i : Expr} {es rest : List Expr} {pos : Pos} {f g h : FE} {p q : FT}
/-! ### targets -/
abbrev FG := D → Env → DW → (Env → DW → Prop) → Prop
abbrev FGs := List D → Env → DW → (Env → DW → Prop) → Prop
def tG (K : PySem.W.Frag) (g : FG) : TG := fun v σ H Q => ∃ d δ W Q', DV K H d v ∧ EnvR K H δ σ ∧ Rel K H W ∧ g d δ W Q' ∧ LkN K H Q' Q
def tGs (K : PySem.W.Frag) (g : FGs) : TGs := fun vs σ H Q => ∃ ds δ W Q', DVs K H ds vs ∧ EnvR K H δ σ ∧ Rel K H W ∧ g ds δ W Q' ∧ LkN K H Q' Q
abbrev SG (X : Cx) (tg : Expr) (g : FG) : Prop := PG X tg (tG X.K g)
abbrev SGs (X : Cx) (tgs : List Expr) (g : FGs) : Prop := PGs X tgs (tGs X.K g)
theorem PGimp {tg : Expr} {t t' : TG} (h : PG X tg t) (i : ∀ v σ H Q, t' v σ H Q → t v σ H Q) : PG X tg t' := ⟨fun pins s σ H v u Q I r q => h.run pins s σ H v u Q I r (i v σ H Q q)⟩
theorem PGsimp {tgs : List Expr} {t t' : TGs} (h : PGs X tgs t) (i : ∀ v σ H Q, t' v σ H Q → t v σ H Q) : PGs X tgs t' := ⟨fun pins s σ H v u Q I r q => h.run pins s σ H v u Q I r (i v σ H Q q)⟩
def gN (i : Nat) : FG := fun d δ W Q => Q (δ.set i (some d)) W
theorem sg_name (i : Nat) {x : Str} (hN : X.N.Nodup) (hi : X.N[i]? = some x := by rfl) (hx : Loc X.env.scope x := by first | exact Or.inl rfl | exact Or.inr rfl) (hf : X.fn x = true ∨ X.env.scope.names.lookup x = some .local := by first | exact .inl rfl | exact .inr rfl) : SG X (.Name x pos) (gN i) :=
  PGimp (pg_name hN hi hx hf) fun v σ H Q ⟨d, δ, W, Q', dv, er, rl, h, k⟩ => k _ _ H W (Ext.refl H) (er.set dv) rl h
def gNl : FGs := fun ds δ W Q => ds = [] ∧ Q δ W
def gCn (g : FG) (r : FGs) : FGs := fun ds δ W Q => match ds with | d :: ds => g d δ W fun δ' W' => r ds δ' W' Q | [] => False
theorem sgs_nil : SGs X [] gNl := PGsimp pgs_nil fun v σ H Q ⟨ds, δ, W, Q', dv, er, rl, h, k⟩ => by
  obtain ⟨rfl, h⟩ := h
  exact ⟨dv, k _ _ H W (Ext.refl H) er rl h⟩
theorem sgs_cons {t : FG} {u : FGs} (h1 : SG X e t) (h2 : SGs X es u) (hs : List.map (fun x => x.snd) (assignEach (e :: es) X.env) = assign e X.env :: List.map (fun x => x.snd) (assignEach es X.env) := by rfl) : SGs X (e :: es) (gCn t u) :=
  PGsimp (pgs_cons h1 h2 hs) fun v σ H Q ⟨ds, δ, W, Q', dv, er, rl, h, k⟩ => by
    cases ds with
    | nil => exact h.elim
    | cons d ds =>
      obtain ⟨x, r, rfl, d1, d2⟩ := dv
      exact ⟨x, r, rfl, d, δ, W, _, d1, er, rl, h, fun σ' δ' H' W' e1 er1 r1 h1 => ⟨ds, δ', W', Q', DVs.ext e1 d2, er1, r1, h1, k.ext e1⟩⟩
def gTp (n : Nat) (g : FGs) : FG := fun d δ W Q => match d with | .tup ds => ds.length = n ∧ g ds δ W Q | _ => False
theorem sg_tup {k : Nat} {t : FGs} {n : Nat} (hc : X.calm = true) (h : SGs X es t) (hl : (assignEach es X.env).length = n := by rfl) (hs : (assignEach es X.env).findIdx? (·.1) = none := by rfl) : SG X (.Tuple es k pos) (gTp n t) :=
  PGimp (pg_tup hc h hl hs) fun v σ H Q ⟨d, δ, W, Q', dv, er, rl, h, k⟩ => by
    cases d <;> try exact h.elim
    obtain ⟨a, us, rfl, s, d⟩ := dv
    exact ⟨a, us, rfl, (SqT.of s), by rw [d.length]; exact h.1, _, δ, W, Q', d, er, rl, h.2, k⟩
/-- a[i] = v, a a list -/
abbrev FSet := D → D → D → DW → (DW → Prop) → Prop
def pSetL : FSet := fun o i v W Q => match o, i with
  | .ref a, .int k => ∃ xs j, W a = some (.lst xs) ∧ ixN xs.length k = some j ∧ Q (wup W a (.lst (xs.set j v)))
  | _, _ => False
def OpS (K : PySem.W.Frag) (r : TSet) (F : FSet) : Prop := ∀ H W x y z dx dy dz (Q : Hp → Prop) (Q' : DW → Prop), Rel K H W → DV K H dx x → DV K H dy y → DV K H dz z → F dx dy dz W Q' → (∀ H' W', Ext K H H' → Rel K H' W' → Q' W' → Q H') → r x y z H Q
theorem os_list : OpS X.K rSetL pSetL := fun H W x y z dx dy dz Q Q' rl vx vy vz h k => by
  unfold pSetL at h
  split at h
  · cases vx; cases vy
    obtain ⟨xs, j, w, hj, q⟩ := h
    obtain ⟨us, s1, d1⟩ := rl _ _ w
    refine ⟨_, us, _, j, rfl, rfl, s1, by rw [d1.length]; exact hj, k _ _ (Ext.put s1 trivial) (rl.wput s1 trivial (hasL upd_same (DVs.ext (Ext.put s1 trivial) (DVs.set j vz d1)))) q⟩
  · exact h.elim
def gSb (to ti : FE) (F : FSet) : FG := fun v δ W Q => to δ W fun o W1 => ti δ W1 fun i W2 => F o i v W2 fun W3 => Q δ W3
theorem sg_sub {t : TSet} {F : FSet} (hs : PSet X t) (hF : OpS X.K t F) (ho : SE X o f) (hi : SE X i g)
    (hp : ∀ v, assign (.Subscript o i pos) X.env v = (do let ov ← holding [v] (eval o X.env); let iv ← holding [v, ov] (eval i X.env); standAt pos; holding [v, ov, iv] (setItem ov iv v); release [v, ov, iv] []) := by intro _; rfl) : SG X (.Subscript o i pos) (gSb f g F) :=
  PGimp (pg_sub ho hi hs hp) fun v σ H Q ⟨d, δ, W, Q', dv, er, rl, h, k⟩ =>
    ⟨δ, W, _, er, rl, h, fun x dx H1 W1 e1 r1 v1 h1 => ⟨δ, W1, _, er.ext e1, r1, h1, fun y dy H2 W2 e2 r2 v2 h2 =>
      hF H2 W2 x y v dx dy d _ _ r2 (DV.ext e2 v1) v2 (DV.ext (e1.trans e2) dv) h2 fun H3 W3 e3 r3 h3 => k σ δ H3 W3 ((e1.trans e2).trans e3) (er.ext ((e1.trans e2).trans e3)) r3 h3⟩⟩

/-! ### statements -/
def sSeq (s t : FS) : FS := fun D δ W => s { D with nx := t D } δ W
theorem sss_nil : SSs X [] (fun D δ W => D.nx δ W) := PSsimp pss_nil fun D σ H ⟨δ, W, D', er, rl, h, k⟩ => k.nx σ δ H W (Ext.refl H) er rl h
theorem sss_cons {st : Stmt} {r : List Stmt} {s t : FS} (h1 : SS X st s) (h2 : SSs X r t) : SSs X (st :: r) (sSeq s t) :=
  PSsimp (pss_cons h1 h2) fun D σ H ⟨δ, W, D', er, rl, h, k⟩ => ⟨δ, W, _, er, rl, h, ⟨fun σ' δ' H' W' e' er' r' q' => ⟨δ', W', D', er', r', q', k.ext e'⟩, k.rt, k.bk, k.ct⟩⟩
theorem sss_one {st : Stmt} {s : FS} (h : SS X st s) : SSs X [st] s := pss_one h
theorem ss_pass : SS X (.Pass pos) (fun D δ W => D.nx δ W) := PSimp ps_pass fun D σ H ⟨δ, W, D', er, rl, h, k⟩ => k.nx σ δ H W (Ext.refl H) er rl h
theorem ss_break : SS X (.Break pos) (fun D δ W => D.bk δ W) := PSimp ps_break fun D σ H ⟨δ, W, D', er, rl, h, k⟩ => k.bk σ δ H W (Ext.refl H) er rl h
theorem ss_continue : SS X (.Continue pos) (fun D δ W => D.ct δ W) := PSimp ps_continue fun D σ H ⟨δ, W, D', er, rl, h, k⟩ => k.ct σ δ H W (Ext.refl H) er rl h
def sDrop (f : FE) : FS := fun D δ W => f δ W fun _ W1 => D.nx δ W1
theorem ss_expr (he : SE X e f) (hs : swapsWith e none pos.line X.env = pure false := by rfl) : SS X (.Expr e pos) (sDrop f) :=
  PSimp (ps_expr he hs) fun D σ H ⟨δ, W, D', er, rl, h, k⟩ => ⟨δ, W, _, er, rl, h, fun v d H' W' e' r' v' q => k.nx σ δ H' W' e' (er.ext e') r' q⟩
def sRet (f : FE) : FS := fun D δ W => f δ W D.rt
theorem ss_ret (he : SE X e f) : SS X (.Return (some e) pos) (sRet f) :=
  PSimp (ps_ret he) fun D σ H ⟨δ, W, D', er, rl, h, k⟩ => ⟨δ, W, _, er, rl, h, k.rt⟩
theorem ss_retN : SS X (.Return none pos) (fun D _ W => D.rt .non W) := PSimp ps_retN fun D σ H ⟨δ, W, D', er, rl, h, k⟩ => k.rt .non .non H W (Ext.refl H) rl rfl h
def sIf (p : FT) (s t : FS) : FS := fun D δ W => p δ W fun k W1 => if k = true then s D δ W1 else t D δ W1
theorem ss_if {a b : List Stmt} {s t : FS} (hc : ST X c p) (ha : SSs X a s) (hb : SSs X b t) : SS X (.If c a b pos) (sIf p s t) :=
  PSimp (ps_if hc ha hb) fun D σ H ⟨δ, W, D', er, rl, h, k⟩ => ⟨δ, W, _, er, rl, h, fun t H1 W1 e1 r1 h1 => by
    cases t with
    | true => exact ⟨δ, W1, D', er.ext e1, r1, h1, k.ext e1⟩
    | false => exact ⟨δ, W1, D', er.ext e1, r1, h1, k.ext e1⟩⟩
def sAsg (f : FE) (g : FG) : FS := fun D δ W => f δ W fun x W1 => g x δ W1 D.nx
theorem tS_asg {t : FG} : ∀ D σ H, tS X.K (sAsg f t) D σ H → tAsg (tE X.K f) (tG X.K t) D σ H := fun D σ H ⟨δ, W, D', er, rl, h, k⟩ =>
  ⟨δ, W, _, er, rl, h, fun v d H' W' e' r' v' q => ⟨d, δ, W', _, v', er.ext e', r', q, k.nx.ext e'⟩⟩
theorem ss_asg {tg : Expr} {t : FG} (he : SE X e f) (hg : SG X tg t) (hs : swapsWithSole [tg] e pos.line X.env = pure false := by rfl) (hw : swappedStores [tg] e X.env = pure none := by rfl)
    (hm : (assignEach [tg] X.env).map (·.2) = [assign tg X.env] := by rfl) : SS X (.Assign [tg] e pos) (sAsg f t) := PSimp (ps_asg he hg hs hw hm) tS_asg
theorem ss_set (i : Nat) {x : Str} {pos' : Pos} (hN : X.N.Nodup) (he : SE X e f) (hi : X.N[i]? = some x := by rfl) (hx : Loc X.env.scope x := by first | exact Or.inl rfl | exact Or.inr rfl)
    (hs : swapsWith e (some (.Name x pos')) pos.line X.env = pure false := by rfl) (hf : X.fn x = true ∨ X.env.scope.names.lookup x = some .local := by first | exact .inl rfl | exact .inr rfl) : SS X (.Assign [.Name x pos'] e pos) (sAsg f (gN i)) :=
  PSimp (ps_set hN hi hx he hs hf) fun D σ H h => by
    obtain ⟨δ, W, D', er, rl, h, k⟩ := h
    exact ⟨δ, W, _, er, rl, h, fun v d H' W' e' r' v' q => k.nx _ _ H' W' e' ((er.ext e').set v') r' q⟩
def sAug (i : Nat) (f : FE) (F : R2D) : FS := fun D δ W => ∃ x, δ[i]? = some (some x) ∧ f δ W fun y W1 => F x y W1 fun z W2 => D.nx (δ.set i (some z)) W2
theorem ss_aug (i : Nat) {x : Str} {op : Operator} {r : TIp} {F : R2D} {pos' : Pos} (hN : X.N.Nodup) (ho : PIp X op r) (hr : Op2 X.K r F) (he : SE X e f) (hi : X.N[i]? = some x := by rfl) (hx : Loc X.env.scope x := by first | exact Or.inl rfl | exact Or.inr rfl)
    (hf : X.fn x = true ∨ X.env.scope.names.lookup x = some .local := by first | exact .inl rfl | exact .inr rfl) : SS X (.AugAssign (.Name x pos') op e pos) (sAug i f F) :=
  PSimp (ps_aug hN hi hx he ho hf) fun D σ H ⟨δ, W, D', er, rl, h, k⟩ => by
    obtain ⟨x, ex, h⟩ := h
    obtain ⟨v, ev, dv⟩ := er.2 i x ex
    exact ⟨v, ev, δ, W, _, er, rl, h, fun y dy H1 W1 e1 r1 v1 h1 => hr H1 W1 v y x dy _ _ r1 (DV.ext e1 dv) v1 h1 fun z dz H2 W2 e2 r2 v2 h2 => k.nx _ _ H2 W2 (e1.trans e2) ((er.ext (e1.trans e2)).set v2) r2 h2⟩
theorem ip_addD : Op2 X.K (ipI fun i j => i + j) (pII0 fun i j => .int (i + j)) := fun H W x y dx dy Q Q' rl vx vy h k => by
  unfold pII0 at h
  split at h
  · cases vx; cases vy; exact ⟨_, _, rfl, rfl, k.at rl h rfl⟩
  · exact h.elim

/-! ### what is walked -/
abbrev FI := Env → DW → (List D → (DW → Prop) → DW → Prop) → Prop
structure ItOk (K : PySem.W.Frag) (J : It) (xs : List D) (keep : DW → Prop) (H0 : Hp) : Prop where
  go : ∀ H W i, Ext K H0 H → Rel K H W → keep W → i < xs.length → J.go i H
  yld : ∀ H W i x H', Ext K H0 H → Rel K H W → keep W → i < xs.length → J.yld i H x H' → ∃ d, xs[i]? = some d ∧ Ext K H H' ∧ Rel K H' W ∧ DV K H' d x
  stop : ∀ H W i, Ext K H0 H → Rel K H W → keep W → xs.length ≤ i → J.stop i H
def tI (K : PySem.W.Frag) (f : FI) : TI := fun σ H R => ∃ δ W Q', EnvR K H δ σ ∧ Rel K H W ∧ f δ W Q' ∧ ∀ J xs keep H' W', Ext K H H' → Rel K H' W' → Q' xs keep W' → ItOk K J xs keep H' → R J H'
abbrev SI (X : Cx) (tg iter : Expr) (f : FI) : Prop := PI X tg iter (tI X.K f)
theorem PIimp {tg iter : Expr} {t t' : TI} (h : PI X tg iter t) (i : ∀ σ H R, t' σ H R → t σ H R) : PI X tg iter t' := ⟨fun pins s σ H R I q => h.run pins s σ H R I (i σ H R q)⟩
theorem it_list {K : PySem.W.Frag} {a : Addr} {xs : List D} {H0 : Hp} : ItOk K (Itl K a) xs (fun W => W a = some (.lst xs)) H0 where
  go H W i _ rl kp hi := by
    obtain ⟨us, s, d⟩ := rl _ _ kp
    have hl : i < us.length := by rw [d.length]; exact hi
    exact ⟨us, us[i], SqL.of s, List.getElem?_eq_getElem hl⟩
  yld H W i x H' _ rl kp hi hy := by
    obtain ⟨rfl, hf⟩ := hy
    obtain ⟨us, s, d⟩ := rl _ _ kp
    have ex := hf us (SqL.of s)
    have hl : i < xs.length := by
      rw [← d.length]
      exact (List.getElem?_eq_some_iff.mp ex).1
    obtain ⟨v, e1, e2⟩ := d.get (List.getElem?_eq_getElem hl)
    rw [ex] at e1
    cases e1
    exact ⟨xs[i], List.getElem?_eq_getElem hl, Ext.refl _, rl, e2⟩
  stop H W i _ rl kp hi := by
    obtain ⟨us, s, d⟩ := rl _ _ kp
    exact ⟨us, SqL.of s, by rw [d.length]; exact hi⟩
theorem it_rl {K : PySem.W.Frag} {a : Addr} {us : List V} {xs : List D} {H0 : Hp} (s : RdL K H0 a us) (d : DVs K H0 xs us) : ItOk K (Itl K a) xs (fun _ => True) H0 where
  go H W i e rl kp hi := by
    have hl : i < us.length := by rw [d.length]; exact hi
    exact ⟨us, us[i], (s.ext e).sq, List.getElem?_eq_getElem hl⟩
  yld H W i x H' e rl kp hi hy := by
    obtain ⟨rfl, hf⟩ := hy
    have ex := hf us (s.ext e).sq
    have hl : i < xs.length := by
      rw [← d.length]
      exact (List.getElem?_eq_some_iff.mp ex).1
    obtain ⟨v, e1, e2⟩ := d.get (List.getElem?_eq_getElem hl)
    rw [ex] at e1
    cases e1
    exact ⟨xs[i], List.getElem?_eq_getElem hl, Ext.refl _, rl, DV.ext e e2⟩
  stop H W i e rl kp hi := ⟨us, (s.ext e).sq, by rw [d.length]; exact hi⟩
theorem it_tup {K : PySem.W.Frag} {a : Addr} {us : List V} {xs : List D} {H0 : Hp} (s : H0 a = some (.tup us)) (d : DVs K H0 xs us) : ItOk K (Itt K a) xs (fun _ => True) H0 where
  go H W i e rl kp hi := by
    have hl : i < us.length := by rw [d.length]; exact hi
    exact ⟨us, us[i], (SqT.of (e.t _ _ s)), List.getElem?_eq_getElem hl⟩
  yld H W i x H' e rl kp hi hy := by
    obtain ⟨rfl, hf⟩ := hy
    have ex := hf us ((SqT.of (e.t _ _ s)))
    have hl : i < xs.length := by
      rw [← d.length]
      exact (List.getElem?_eq_some_iff.mp ex).1
    obtain ⟨v, e1, e2⟩ := d.get (List.getElem?_eq_getElem hl)
    rw [ex] at e1
    cases e1
    exact ⟨xs[i], List.getElem?_eq_getElem hl, Ext.refl _, rl, DV.ext e e2⟩
  stop H W i e rl kp hi := ⟨us, (SqT.of (e.t _ _ s)), by rw [d.length]; exact hi⟩
def rngD (lo : Int) (n : Nat) : List D := (List.range n).map fun k => .int (lo + (k : Nat))
theorem rngD_length {lo : Int} {n : Nat} : (rngD lo n).length = n := by simp [rngD]
theorem rngD_get {lo : Int} {n i : Nat} (h : i < n) : (rngD lo n)[i]? = some (.int (lo + (i : Nat))) := by simp [rngD, h]
theorem it_rng {K : PySem.W.Frag} {lo : Int} {n : Nat} {H0 : Hp} : ItOk K (Itr lo n) (rngD lo n) (fun _ => True) H0 where
  go H W i e rl kp hi := by rw [rngD_length] at hi; exact hi
  yld H W i x H' e rl kp hi hy := by
    obtain ⟨rfl, rfl⟩ := hy
    rw [rngD_length] at hi
    exact ⟨_, rngD_get hi, Ext.refl _, rl, rfl⟩
  stop H W i e rl kp hi := by rw [rngD_length] at hi; exact hi
/-- a list, a tuple, the script -/
def fIt (f : FE) : FI := fun δ W R => f δ W fun x W1 => match x with
  | .ref a => ∃ xs, W1 a = some (.lst xs) ∧ R xs (fun W => W a = some (.lst xs)) W1
  | .rl xs => R xs (fun _ => True) W1
  | _ => False
def fItT (f : FE) : FI := fun δ W R => f δ W fun x W1 => match x with
  | .tup xs => R xs (fun _ => True) W1
  | _ => False
theorem si_list {tg : Expr} (h : SE X e f) : SI X tg e (fIt f) := PIimp (pi_list h) fun σ H R ⟨δ, W, Q', er, rl, h, k⟩ => ⟨δ, W, _, er, rl, h, fun v d H' W' e' r' v' q => by
  cases d <;> try exact q.elim
  · obtain ⟨a, us, rfl, s, d⟩ := v'
    exact ⟨a, rfl, ⟨us, s.sq⟩, k _ _ _ H' W' e' r' q (it_rl s d)⟩
  · cases v'
    obtain ⟨xs, w, q⟩ := q
    obtain ⟨us, s, d⟩ := r' _ _ w
    exact ⟨_, rfl, ⟨us, SqL.of s⟩, k _ _ _ H' W' e' r' q it_list⟩⟩
theorem si_tup {tg : Expr} (h : SE X e f) : SI X tg e (fItT f) := PIimp (pi_tup h) fun σ H R ⟨δ, W, Q', er, rl, h, k⟩ => ⟨δ, W, _, er, rl, h, fun v d H' W' e' r' v' q => by
  cases d <;> try exact q.elim
  obtain ⟨a, us, rfl, s, d⟩ := v'
  exact ⟨a, rfl, ⟨us, (SqT.of s)⟩, k _ _ _ H' W' e' r' q (it_tup s d)⟩⟩
def fRng1 (f : FA) : FI := fun δ W R => f δ W fun vs W1 => ∃ j, vs = [.int j] ∧ -(2 ^ 62) ≤ j ∧ j < 2 ^ 62 ∧ R (rngD 0 j.toNat) (fun _ => True) W1
def fRng2 (f : FA) : FI := fun δ W R => f δ W fun vs W1 => ∃ i j, vs = [.int i, .int j] ∧ (-(2 ^ 62) ≤ i ∧ i < 2 ^ 62 ∧ -(2 ^ 62) ≤ j ∧ j < 2 ^ 62) ∧ R (rngD i (j - i).toNat) (fun _ => True) W1
theorem DVs.i1 {K : PySem.W.Frag} {H : Hp} {vs : List V} {i : Int} (h : DVs K H [.int i] vs) : vs = [.int i] := by
  obtain ⟨v, r, rfl, hv, hr⟩ := h
  cases hr; cases hv; rfl
theorem DVs.i2 {K : PySem.W.Frag} {H : Hp} {vs : List V} {i j : Int} (h : DVs K H [.int i, .int j] vs) : vs = [.int i, .int j] := by
  obtain ⟨v, r, rfl, hv, hr⟩ := h
  cases hv
  rw [DVs.i1 hr]
theorem si_rng1 {tg : Expr} {r : FA} {p pos : Pos} (hg : Gl X "range") (hm : X.mg "range" = none) (ha : SA X [a] r) (hs : starEach [a] X.env = [(false, eval a X.env)] := by rfl) : SI X tg (.Call (.Name "range" p) [a] [] pos) (fRng1 r) :=
  PIimp (pi_range1 hg hm ha hs) fun σ H R ⟨δ, W, Q', er, rl, h, k⟩ => ⟨δ, W, _, er, rl, h, fun vs ds H' W' e' r' v' ⟨j, ed, q1, q2, q3⟩ => by
    subst ed
    exact ⟨j, v'.i1, q1, q2, k _ _ _ H' W' e' r' q3 it_rng⟩⟩
theorem si_rng2 {tg : Expr} {r : FA} {p pos : Pos} (hg : Gl X "range") (hm : X.mg "range" = none) (ha : SA X [a, b] r) (hs : starEach [a, b] X.env = [(false, eval a X.env), (false, eval b X.env)] := by rfl)
    (hs2 : starEach [b] X.env = [(false, eval b X.env)] := by rfl) : SI X tg (.Call (.Name "range" p) [a, b] [] pos) (fRng2 r) :=
  PIimp (pi_range2 hg hm ha hs hs2) fun σ H R ⟨δ, W, Q', er, rl, h, k⟩ => ⟨δ, W, _, er, rl, h, fun vs ds H' W' e' r' v' ⟨i, j, ed, q1, q2⟩ => by
    subst ed
    exact ⟨i, j, v'.i2, q1, k _ _ _ H' W' e' r' q2 it_rng⟩⟩

/-! ### for -/
def loopD (keep : DW → Prop) (g : FG) (body : FS) (E : DE) : List D → Env → DW → Prop
  | [], δ, W => keep W ∧ E.nx δ W
  | x :: xs, δ, W => keep W ∧ g x δ W fun δ2 W2 => body { nx := loopD keep g body E xs, rt := E.rt, bk := E.nx, ct := loopD keep g body E xs } δ2 W2
theorem loopD.keep {keep : DW → Prop} {g : FG} {body : FS} {E : DE} {xs : List D} {δ : Env} {W : DW} (h : loopD keep g body E xs δ W) : keep W := by
  cases xs with
  | nil => exact h.1
  | cons x xs => exact h.1
def sFor (fi : FI) (g : FG) (body : FS) : FS := fun D δ W => fi δ W fun xs keep W1 => loopD keep g body D xs δ W1
theorem ss_for {tg iter : Expr} {body : List Stmt} {fi : FI} {gg : FG} {fb : FS} (hp : PassesOwn (model X.prog X.w) X.A X.env X.xe) (hc : X.calm = true) (hi : SI X tg iter fi) (hg : SG X tg gg) (hb : SSs X body fb)
    (hs : ∀ x, foldedSetIterable iter X.env x = pure x := by intro _; rfl) : SS X (.For tg iter body [] pos) (sFor fi gg fb) :=
  PSimp (ps_for hp hc hi hg hb hs) fun Dn σ H ⟨δ, W, D', er, rl, h, k⟩ => ⟨δ, W, _, er, rl, h, fun J xs keep H1 W1 e1 r1 q1 ok => by
    refine ⟨fun i m σ2 H2 => ∃ δ2 W2, EnvR X.K H2 δ2 σ2 ∧ Rel X.K H2 W2 ∧ Ext X.K H1 H2 ∧ loopD keep gg fb D' (xs.drop i) δ2 W2 ∧ i + m = xs.length, ⟨xs.length, δ, W1, er.ext e1, r1, Ext.refl _, q1, by omega⟩, ?_⟩
    rintro i m σ2 H2 ⟨δ2, W2, er2, r2, e2, q2, hm⟩
    have kp := loopD.keep q2
    by_cases hlt : i < xs.length
    · refine .inr ⟨ok.go H2 W2 i e2 r2 kp hlt, fun σ' H' => ∃ δ3 W3, EnvR X.K H' δ3 σ' ∧ Rel X.K H' W3 ∧ Ext X.K H1 H' ∧ loopD keep gg fb D' (xs.drop (i + 1)) δ3 W3, fun σ' H' ⟨δ3, W3, a1, a2, a3, a4⟩ => ⟨m - 1, by omega, δ3, W3, a1, a2, a3, a4, by omega⟩, fun x H3 hy => ?_⟩
      obtain ⟨d, ed, e3, r3, dv⟩ := ok.yld H2 W2 i x H3 e2 r2 kp hlt hy
      rw [List.drop_eq_getElem_cons hlt] at q2
      have hd : xs[i] = d := Option.some.inj ((List.getElem?_eq_getElem hlt).symm.trans ed)
      rw [hd] at q2
      refine ⟨d, δ2, W2, _, dv, er2.ext e3, r3, q2.2, fun σ4 δ4 H4 W4 e4 er4 r4 q4 => ⟨δ4, W4, _, er4, r4, q4, ?_⟩⟩
      have e14 : Ext X.K H1 H4 := (e2.trans e3).trans e4
      refine ⟨fun σ5 δ5 H5 W5 e5 er5 r5 q5 => ⟨δ5, W5, er5, r5, e14.trans e5, q5⟩, (k.rt.ext (e1.trans e14)), (k.nx.ext (e1.trans e14)), fun σ5 δ5 H5 W5 e5 er5 r5 q5 => ⟨δ5, W5, er5, r5, e14.trans e5, q5⟩⟩
    · refine .inl ⟨ok.stop H2 W2 i e2 r2 kp (by omega), ?_⟩
      rw [List.drop_eq_nil_of_le (by omega)] at q2
      exact k.nx σ2 δ2 H2 W2 (e1.trans e2) er2 r2 q2.2⟩
/-! ### while -/
def whileD (c : FT) (body : FS) (E : DE) : Nat → Env → DW → Prop
  | 0, _, _ => False
  | n + 1, δ, W => c δ W fun b W1 => if b = true then body { nx := whileD c body E n, rt := E.rt, bk := E.nx, ct := whileD c body E n } δ W1 else E.nx δ W1
def sWhile (c : FT) (body : FS) : FS := fun D δ W => ∃ n, whileD c body D n δ W
theorem ss_while {body : List Stmt} {fb : FS} (hp : PassesOwn (model X.prog X.w) X.A X.env X.xe) (hc : ST X c p) (hb : SSs X body fb) : SS X (.While c body [] pos) (sWhile p fb) :=
  PSimp (ps_while hp hc hb) fun Dn σ H ⟨δ, W, D', er, rl, ⟨n, h⟩, k⟩ => by
    refine ⟨fun m σ2 H2 => ∃ δ2 W2, EnvR X.K H2 δ2 σ2 ∧ Rel X.K H2 W2 ∧ Ext X.K H H2 ∧ whileD p fb D' m δ2 W2, ⟨n, δ, W, er, rl, Ext.refl _, h⟩, ?_⟩
    rintro m σ2 H2 ⟨δ2, W2, er2, r2, e2, q2⟩
    cases m with
    | zero => exact q2.elim
    | succ m =>
      refine ⟨δ2, W2, _, er2, r2, q2, fun t H3 W3 e3 r3 q3 => ?_⟩
      cases t with
      | false => exact k.nx σ2 δ2 H3 W3 (e2.trans e3) (er2.ext e3) r3 q3
      | true =>
        refine ⟨fun σ' H' => ∃ δ3 W3, EnvR X.K H' δ3 σ' ∧ Rel X.K H' W3 ∧ Ext X.K H H' ∧ whileD p fb D' m δ3 W3, fun σ' H' ⟨δ3, W3, a1, a2, a3, a4⟩ => ⟨m, by omega, δ3, W3, a1, a2, a3, a4⟩, ?_⟩
        refine ⟨δ2, W3, _, er2.ext e3, r3, q3, ?_⟩
        have e13 : Ext X.K H H3 := e2.trans e3
        exact ⟨fun σ5 δ5 H5 W5 e5 er5 r5 q5 => ⟨δ5, W5, er5, r5, e13.trans e5, q5⟩, k.rt.ext e13, k.nx.ext e13, fun σ5 δ5 H5 W5 e5 er5 r5 q5 => ⟨δ5, W5, er5, r5, e13.trans e5, q5⟩⟩

/-! ### comprehensions -/
def wipeD (δ : Env) : List Nat → Env
  | [] => δ
  | v :: vs => (wipeD δ vs).set v none
theorem EnvR.wipe {K : PySem.W.Frag} {H : Hp} {δ : Env} {σ : L2.St} (h : EnvR K H δ σ) : ∀ vs, EnvR K H (wipeD δ vs) (L2.wipe σ vs)
  | [] => h
  | v :: vs => by
    have ih := EnvR.wipe h vs
    refine ⟨by unfold wipeD L2.wipe; rw [List.length_set, List.length_set]; exact ih.1, fun j x e => ?_⟩
    unfold wipeD at e
    by_cases z : v = j
    · subst z
      rw [List.getElem?_set] at e
      simp only [↓reduceIte] at e
      split at e <;> cases e
    · rw [List.getElem?_set_ne z] at e
      obtain ⟨u, a, b⟩ := ih.2 j x e
      exact ⟨u, by unfold L2.wipe; rw [List.getElem?_set_ne z]; exact a, b⟩
/-- the same frame but for these slots -/
def But (is : List Nat) (σ σ' : L2.St) : Prop := σ'.length = σ.length ∧ ∀ j, j ∉ is → σ'[j]? = σ[j]?
def LkC (K : PySem.W.Frag) (H : Hp) (is : List Nat) (σ : L2.St) (Q' : Env → DW → Prop) (Q : L2.St → Hp → Prop) : Prop := ∀ σ' δ H' W', Ext K H H' → EnvR K H' δ σ' → Rel K H' W' → But is σ σ' → Q' δ W' → Q σ' H'
def tGc (K : PySem.W.Frag) (is : List Nat) (g : FG) : TG := fun v σ H Q => ∃ d δ W Q', DV K H d v ∧ EnvR K H δ σ ∧ Rel K H W ∧ g d δ W Q' ∧ LkC K H is σ Q' Q
def tGsc (K : PySem.W.Frag) (is : List Nat) (g : FGs) : TGs := fun vs σ H Q => ∃ ds δ W Q', DVs K H ds vs ∧ EnvR K H δ σ ∧ Rel K H W ∧ g ds δ W Q' ∧ LkC K H is σ Q' Q
abbrev SC (X : Cx) (tg : Expr) (is : List Nat) (g : FG) : Prop := PG X tg (tGc X.K is g)
abbrev SCs (X : Cx) (tgs : List Expr) (is : List Nat) (g : FGs) : Prop := PGs X tgs (tGsc X.K is g)
theorem But.trans {is js : List Nat} {σ σ' σ'' : L2.St} (h : But is σ σ') (h' : But js σ' σ'') : But (is ++ js) σ σ'' := ⟨h'.1.trans h.1, fun j n => by
  rw [List.mem_append, not_or] at n
  exact (h'.2 j n.2).trans (h.2 j n.1)⟩
theorem SC.sg {tg : Expr} {is : List Nat} {g : FG} (h : SC X tg is g) : SG X tg g := PGimp h fun v σ H Q ⟨d, δ, W, Q', dv, er, rl, hh, k⟩ => ⟨d, δ, W, Q', dv, er, rl, hh, fun σ' δ' H' W' e er' r _ q => k σ' δ' H' W' e er' r q⟩
theorem sc_name (i : Nat) {x : Str} (hN : X.N.Nodup) (hi : X.N[i]? = some x := by rfl) (hx : Loc X.env.scope x := by first | exact Or.inl rfl | exact Or.inr rfl) (hf : X.fn x = true ∨ X.env.scope.names.lookup x = some .local := by first | exact .inl rfl | exact .inr rfl) : SC X (.Name x pos) [i] (gN i) :=
  PGimp (pg_name hN hi hx hf) fun v σ H Q ⟨d, δ, W, Q', dv, er, rl, h, k⟩ => k _ _ H W (Ext.refl H) (er.set dv) rl ⟨List.length_set .., fun j n => List.getElem?_set_ne (fun z => n (by simp [z]))⟩ h
theorem scs_nil : SCs X [] [] gNl := PGsimp pgs_nil fun v σ H Q ⟨ds, δ, W, Q', dv, er, rl, h, k⟩ => by
  obtain ⟨rfl, h⟩ := h
  exact ⟨dv, k _ _ H W (Ext.refl H) er rl ⟨rfl, fun _ _ => rfl⟩ h⟩
theorem scs_cons {t : FG} {u : FGs} {is js : List Nat} (h1 : SC X e is t) (h2 : SCs X es js u) (hs : List.map (fun x => x.snd) (assignEach (e :: es) X.env) = assign e X.env :: List.map (fun x => x.snd) (assignEach es X.env) := by rfl) : SCs X (e :: es) (is ++ js) (gCn t u) :=
  PGsimp (pgs_cons h1 h2 hs) fun v σ H Q ⟨ds, δ, W, Q', dv, er, rl, h, k⟩ => by
    cases ds with
    | nil => exact h.elim
    | cons d ds =>
      obtain ⟨x, r, rfl, d1, d2⟩ := dv
      exact ⟨x, r, rfl, d, δ, W, _, d1, er, rl, h, fun σ' δ' H' W' e1 er1 r1 b1 h1 => ⟨ds, δ', W', Q', DVs.ext e1 d2, er1, r1, h1, fun σ2 δ2 H2 W2 e2 er2 r2 b2 q2 => k σ2 δ2 H2 W2 (e1.trans e2) er2 r2 (b1.trans b2) q2⟩⟩
theorem sc_tup {k : Nat} {t : FGs} {n : Nat} {is : List Nat} (hc : X.calm = true) (h : SCs X es is t) (hl : (assignEach es X.env).length = n := by rfl) (hs : (assignEach es X.env).findIdx? (·.1) = none := by rfl) : SC X (.Tuple es k pos) is (gTp n t) :=
  PGimp (pg_tup hc h hl hs) fun v σ H Q ⟨d, δ, W, Q', dv, er, rl, h, k⟩ => by
    cases d <;> try exact h.elim
    obtain ⟨a, us, rfl, s, d⟩ := dv
    exact ⟨a, us, rfl, (SqT.of s), by rw [d.length]; exact h.1, _, δ, W, Q', d, er, rl, h.2, k⟩
theorem wipe_but : ∀ (vs : List Nat) {σ σ' : L2.St}, But vs σ σ' → L2.wipe σ' vs = L2.wipe σ vs := fun vs σ σ' h => by
  apply List.ext_getElem?
  intro j
  by_cases m : j ∈ vs
  · have aux : ∀ (τ : L2.St) (us : List Nat), j ∈ us → j < τ.length → (L2.wipe τ us)[j]? = some none := fun τ us => by
      induction us with
      | nil => intro h; cases h
      | cons u us ih =>
        intro hm hl
        unfold L2.wipe
        by_cases z : u = j
        · subst z
          rw [List.getElem?_set]
          simp [L2.wipe_length, hl]
        · rw [List.getElem?_set_ne z]
          rcases List.mem_cons.mp hm with q | q
          · exact absurd q.symm z
          · exact ih q hl
    by_cases hl : j < σ.length
    · rw [aux σ vs m hl, aux σ' vs m (by rw [h.1]; exact hl)]
    · have e := h.1
      have h1 : (L2.wipe σ vs)[j]? = none := List.getElem?_eq_none_iff.mpr (by rw [L2.wipe_length]; omega)
      have h2 : (L2.wipe σ' vs)[j]? = none := List.getElem?_eq_none_iff.mpr (by rw [L2.wipe_length]; omega)
      rw [h1, h2]
  · rw [L2.wipe_out m, L2.wipe_out m]
    exact h.2 j m
theorem wipe_wipe (σ : L2.St) (vs : List Nat) : L2.wipe (L2.wipe σ vs) vs = L2.wipe σ vs := wipe_but vs ⟨L2.wipe_length σ vs, fun j n => L2.wipe_out n⟩
abbrev SPs (X : Cx) (ifs : List Expr) (p : FT) : Prop := PTs X ifs (tT X.K p)
theorem PTsimp {ifs : List Expr} {t t' : TT} (h : PTs X ifs t) (i : ∀ σ H Q, t' σ H Q → t σ H Q) : PTs X ifs t' := ⟨fun pins s σ H Q I q => h.run pins s σ H Q I (i σ H Q q)⟩
def fYes : FT := fun _ W Q => Q true W
theorem sp_nil : SPs X [] fYes := PTsimp pts_nil fun σ H Q ⟨δ, W, Q', er, rl, h, k⟩ => k true H W (Ext.refl H) rl h
theorem sp_one (h : ST X c p) : SPs X [c] p := pts_one h
def lcD (keep : DW → Prop) (g : FG) (tt : FT) (te : FE) (p : Addr) (vs : List Nat) (Q : DW → Prop) : List D → Env → DW → Prop
  | [], δ, W => keep W ∧ Q W
  | x :: xs, δ, W => keep W ∧ g x (wipeD δ vs) W fun δ2 W2 => tt δ2 W2 fun b W3 => if b = true then te δ2 W3 fun y W4 => ∃ acc, W4 p = some (.lst acc) ∧ acc.length < sizeLine ∧ lcD keep g tt te p vs Q xs δ (wup W4 p (.lst (acc ++ [y]))) else lcD keep g tt te p vs Q xs δ W3
theorem lcD.keep {keep : DW → Prop} {g : FG} {tt : FT} {te : FE} {p : Addr} {vs : List Nat} {Q : DW → Prop} {xs : List D} {δ : Env} {W : DW} (h : lcD keep g tt te p vs Q xs δ W) : keep W := by
  cases xs with
  | nil => exact h.1
  | cons x xs => exact h.1
def fLc (fi : FI) (g : FG) (tt : FT) (te : FE) (vs : List Nat) : FE := fun δ W Q => fi δ W fun xs keep W1 => ∀ p, W1 p = none → lcD keep g tt te p vs (fun W2 => Q (.ref p) W2) xs δ (wup W1 p (.lst []))
theorem tE_lc {fi : FI} {gg : FG} {tt : FT} {vs is : List Nat} (hsub : ∀ i ∈ is, i ∈ vs) : ∀ σ H Q, tE X.K (fLc fi gg tt f vs) σ H Q → tLc (tI X.K fi) (tGc X.K is gg) (tT X.K tt) (tE X.K f) vs σ H Q :=
  fun σ H Q ⟨δ, W, Q', er, rl, h, k⟩ => ⟨δ, W, _, er, rl, h, fun J xs keep H1 W1 e1 r1 q1 ok Dp hD => by
    have q1 := q1 Dp (r1.fresh hD)
    refine ⟨fun i m H2 => ∃ W2, Rel X.K H2 W2 ∧ Ext X.K H1 H2 ∧ lcD keep gg tt f Dp vs (fun W2 => Q' (.ref Dp) W2) (xs.drop i) δ W2 ∧ i + m = xs.length, ⟨xs.length, wup W1 Dp (.lst []), r1.wnew hD (hasL (ds := []) upd_same rfl), Ext.new hD, q1, by omega⟩, ?_⟩
    rintro i m H2 ⟨W2, r2, e2, q2, hm⟩
    have kp := lcD.keep q2
    by_cases hlt : i < xs.length
    · refine .inr ⟨ok.go H2 W2 i e2 r2 kp hlt, fun H' => ∃ W3, Rel X.K H' W3 ∧ Ext X.K H1 H' ∧ lcD keep gg tt f Dp vs (fun W2 => Q' (.ref Dp) W2) (xs.drop (i + 1)) δ W3, fun H' ⟨W3, a2, a3, a4⟩ => ⟨m - 1, by omega, W3, a2, a3, a4, by omega⟩, fun x H3 hy => ?_⟩
      obtain ⟨d, ed, e3, r3, dv⟩ := ok.yld H2 W2 i x H3 e2 r2 kp hlt hy
      rw [List.drop_eq_getElem_cons hlt] at q2
      have hd : xs[i] = d := Option.some.inj ((List.getElem?_eq_getElem hlt).symm.trans ed)
      rw [hd] at q2
      have er3 : EnvR X.K H3 δ σ := er.ext ((e1.trans e2).trans e3)
      refine ⟨d, wipeD δ vs, W2, _, dv, er3.wipe vs, r3, q2.2, fun σ4 δ4 H4 W4 e4 er4 r4 b4 q4 => ⟨?_, δ4, W4, _, er4, r4, q4, fun t H5 W5 e5 r5 q5 => ?_⟩⟩
      · exact (wipe_but vs ⟨b4.1, fun j n => b4.2 j (fun z => n (hsub j z))⟩).trans (wipe_wipe σ vs)
      · cases t with
        | false => exact ⟨W5, r5, ((e2.trans e3).trans e4).trans e5, q5⟩
        | true => exact ⟨δ4, W5, _, er4.ext e5, r5, q5, fun y dy H6 W6 e6 r6 v6 ⟨acc, w6, hl, q6⟩ => by
            obtain ⟨us, s6, d6⟩ := r6 _ _ w6
            refine ⟨us, s6, by rw [d6.length]; exact hl, wup W6 Dp (.lst (acc ++ [dy])), r6.wput s6 trivial (hasL upd_same (DVs.ext (Ext.put s6 trivial) (DVs.append d6 (DVs.one v6)))), ?_, q6⟩
            exact ((((e2.trans e3).trans e4).trans e5).trans e6).trans (Ext.put s6 trivial)⟩
    · refine .inl ⟨ok.stop H2 W2 i e2 r2 kp (by omega), ?_⟩
      rw [List.drop_eq_nil_of_le (by omega)] at q2
      exact k _ (.ref Dp) H2 W2 (e1.trans e2) r2 rfl q2.2⟩
theorem se_lc {elt tg iter : Expr} {ifs : List Expr} {scope : Scope} {own : List (Str × Nat)} {fi : FI} {gg : FG} {tt : FT} {is : List Nat} (hc : X.calm = true) (hN : X.N.Nodup) (hi : SI X tg iter fi) (ok : BlkOk X.N X.env.scope scope own)
    (hg : ∀ (s : Shared) (H : Hp) (C : Addr) (cl : List (Str × Addr)) (fp : List Addr), SC (X.blk s H scope (compEnvC scope cl C X.env) fp) tg is gg) (ht : ∀ (s : Shared) (H : Hp) (C : Addr) (cl : List (Str × Addr)) (fp : List Addr), SPs (X.blk s H scope (compEnvC scope cl C X.env) fp) ifs tt)
    (he : ∀ (s : Shared) (H : Hp) (C : Addr) (cl : List (Str × Addr)) (fp : List Addr), SE (X.blk s H scope (compEnvC scope cl C X.env) fp) elt f) (hsub : ∀ i ∈ is, i ∈ own.map (·.2) := by decide) (hs : ∀ x, foldedSetIterable iter X.env x = pure x := by intro _; rfl) :
    SE X (.ListComp elt [⟨tg, iter, ifs, 0⟩] scope pos) (fLc fi gg tt f (own.map (·.2))) := PEimp (pe_lc hc hN hi ok hg ht he hs) (tE_lc hsub)
/-- name = [..] on one line, the name a local -/
theorem ss_setLc (i : Nat) {y : Str} {py : Pos} {elt tg iter : Expr} {ifs : List Expr} {scope : Scope} {own : List (Str × Nat)} {spos : Pos} {fi : FI} {gg : FG} {tt : FT} {is : List Nat} (hc : X.calm = true) (hN : X.N.Nodup) (hi : SI X tg iter fi) (ok : BlkOk X.N X.env.scope scope own)
    (hg : ∀ (s : Shared) (H : Hp) (C : Addr) (cl : List (Str × Addr)) (fp : List Addr), SC (X.blk s H scope (compEnvC scope cl C X.env) fp) tg is gg) (ht : ∀ (s : Shared) (H : Hp) (C : Addr) (cl : List (Str × Addr)) (fp : List Addr), SPs (X.blk s H scope (compEnvC scope cl C X.env) fp) ifs tt)
    (he : ∀ (s : Shared) (H : Hp) (C : Addr) (cl : List (Str × Addr)) (fp : List Addr), SE (X.blk s H scope (compEnvC scope cl C X.env) fp) elt f) (hy : X.N[i]? = some y := by rfl) (hyl : X.env.scope.names.lookup y = some .local := by rfl)
    (hsw : swapsWith (.ListComp elt [⟨tg, iter, ifs, 0⟩] scope pos) (some (.Name y py)) spos.line X.env = pure true := by exact sw_true rfl rfl rfl (by decide +kernel)) (hsub : ∀ i ∈ is, i ∈ own.map (·.2) := by decide) (hs : ∀ x, foldedSetIterable iter X.env x = pure x := by intro _; rfl) :
    SS X (.Assign [.Name y py] (.ListComp elt [⟨tg, iter, ifs, 0⟩] scope pos) spos) (sAsg (fLc fi gg tt f (own.map (·.2))) (gN i)) :=
  PSimp (ps_setLc hc hN hy hyl hsw hi ok hg ht he hs) fun Dn σ H h => by
    obtain ⟨δ, W, D', er, rl, h, k⟩ := h
    exact tE_lc hsub σ H _ ⟨δ, W, _, er, rl, h, fun v d H' W' e' r' v' q => k.nx _ _ H' W' e' ((er.ext e').set v') r' q⟩
end
end DL
/-! Dl5: calls of defs and built-ins, methods, dicts of int and text keys, the rule of a def. -/
namespace DL
open PySem PySem.Spec PyProof.Rows L2
section
variable {X : Cx} {a b c e o i : Expr} {es rest : List Expr} {pos : Pos} {f g h : FE} {p q : FT}
/-! ### promises -/
abbrev SpD := List D → DW → DK → Prop
def toSp (K : PySem.W.Frag) (sp : SpD) : Sp := fun vs H Q _ => ∃ ds W Q', DVs K H ds vs ∧ Rel K H W ∧ sp ds W Q' ∧ Lk K H Q' Q
def fCall (sp : SpD) (r : FA) : FE := fun δ W Q => r δ W fun xs W1 => sp xs W1 Q
/-- a promise of a def, where no repr is under way -/
structure FnG (P : Program) (w : World) (K : PySem.W.Frag) (mg : Str → Option Value) (base : Heap) (k : Nat) (fa : Addr) (fd : FuncData) (ps : List Str) (sp : Sp) : Prop where
  len : ∀ vs H Q E, sp vs H Q E → vs.length = ps.length
  run : ∀ (A : Around) (outer : List PySem.Env) (s : Shared) (H : Hp) (args : Args) (us : List Value) (vs : List V) (Q : VK), Room k A → A.guards = some [] → Env0 P w K mg base A outer s H → BindsTo s fd args (ps.zip us) → Vals vs us → sp vs H Q E0 →
    codeAny (model P w) A (.call (.ref fa) args) (CR CX0 outer P w H s Q E0) s
theorem run_g {k : Nat} {fa : Addr} {fd : FuncData} {ps : List Str} {sp : Sp} {pins : List (Addr × Obj)} {σ : L2.St} {H : Hp} {s : Shared} {Q : VK} {us : List Value} {vs : List V} (F : FnG X.prog X.w X.K X.mg X.base k fa fd ps sp) (hr : Room k X.A) (hgd : X.A.guards = some []) (hb : Binds X.K fd ps [])
    (I : L2.Inv X pins σ H s) (r : Vals vs us) (hs : sp vs H Q E0) : wpAny (model X.prog X.w) X.A (PySem.call (.ref fa) us) (EP X pins σ Q) X.xe s := by
  have hn : us.length = ps.length := r.length.symm.trans (F.len _ _ _ _ hs)
  have bt := hb s us I.kIn (by rw [List.append_nil]; exact hn)
  rw [List.append_nil] at bt
  refine wpAny_call (codeAny_mono (F.run X.A X.stack s H ⟨us, []⟩ us vs Q hr hgd I.env0 bt r hs) fun res s' fin => ?_)
  match res, fin with
  | .ok (.ret u), fin => exact I.after fin
  | .ok .next, fin => exact fin.elim
  | .ok .brk, fin => exact fin.elim
  | .ok .cont, fin => exact fin.elim
  | .error _, fin => exact False.elim fin
theorem se_call {k : Nat} {fa : Addr} {fd : FuncData} {ps : List Str} {sp : SpD} {x : Str} {pn pos : Pos} {r : FA} (F : FnG X.prog X.w X.K X.mg X.base k fa fd ps (toSp X.K sp)) (hr : Room k X.A) (hgd : X.A.guards = some []) (hm : X.mg x = some (.ref fa)) (hk : PySem.W.keepIn X.K (.ref fa) = true) (hb : Binds X.K fd ps [])
    (ha : SA X (e :: es) r) (hg : Gl X x := by rfl) (hd : (x == ("__debug__" : Str)) = false := by decide) (he : starEach (e :: es) X.env = (false, eval e X.env) :: starEach es X.env := by rfl) (hpl : (backTo pos (starEach es X.env)).any (·.1) = false := by rfl) :
    SE X (.Call (.Name x pn) (e :: es) [] pos) (fCall sp r) := by
  refine ⟨fun pins s σ H Q I h => wpAny_Call_Name_kw (ld_glob I hg hm ?_ hd)⟩
  obtain ⟨δ, W, Q', er, rl, h, k⟩ := h
  have go : tA X.K r σ H fun vs H1 => toSp X.K sp vs H1 Q E0 := ⟨δ, W, _, er, rl, h, fun vs ds H1 W1 e1 r1 v1 h1 => ⟨ds, W1, Q', v1, r1, h1, k.ext e1⟩⟩
  exact PySem.W.callWith_K (h₀ := X.base) I.ok.mod.kin hk (thn (ha.run pos pins s σ H _ I go) fun us s1 ⟨vs, H1, I1, rv, q⟩ => ⟨I1.kIn, run_g F hr hgd hb I1 rv q⟩) he hpl
theorem se_call0 {k : Nat} {fa : Addr} {fd : FuncData} {ps : List Str} {sp : SpD} {x : Str} {pn pos : Pos} (F : FnG X.prog X.w X.K X.mg X.base k fa fd ps (toSp X.K sp)) (hr : Room k X.A) (hgd : X.A.guards = some []) (hm : X.mg x = some (.ref fa)) (hk : PySem.W.keepIn X.K (.ref fa) = true) (hb : Binds X.K fd ps [])
    (hg : Gl X x := by rfl) (hd : (x == ("__debug__" : Str)) = false := by decide) : SE X (.Call (.Name x pn) [] [] pos) (fun δ W Q => sp [] W Q) := by
  refine ⟨fun pins s σ H Q I h => wpAny_Call_Name_kw (ld_glob I hg hm ?_ hd)⟩
  obtain ⟨δ, W, Q', er, rl, h, k⟩ := h
  exact PySem.W.callWith_K0 I.kIn hk (run_g (us := []) (vs := []) F hr hgd hb I .nil ⟨[], W, Q', rfl, rl, h, k⟩)
def startD (N : List Str) (ds : List D) : Env := ds.map some ++ List.replicate (N.length - ds.length) none
theorem EnvR.start {K : PySem.W.Frag} {H : Hp} {N : List Str} {ds : List D} {vs : List V} (h : DVs K H ds vs) : EnvR K H (startD N ds) (L2.start N vs) := by
  have hl := h.length
  unfold startD L2.start
  refine ⟨by simp [hl], fun i d e => ?_⟩
  by_cases hi : i < ds.length
  · rw [List.getElem?_append_left (by simpa using hi), List.getElem?_map] at e
    have hd : ds[i]? = some d := by
      rw [List.getElem?_eq_getElem hi] at e ⊢
      simpa using e
    obtain ⟨v, e1, e2⟩ := h.get hd
    exact ⟨v, by rw [List.getElem?_append_left (by simpa [hl] using hi), List.getElem?_map, e1]; rfl, e2⟩
  · rw [List.getElem?_append_right (by simpa using hi)] at e
    rw [List.getElem?_replicate] at e
    split at e <;> cases e
/-- THE RULE for a def -/
theorem okD {P : Program} {w : World} {K : PySem.W.Frag} {mg : Str → Option Value} {base : Heap} {x qual : Str} {st : Stmt} {fa : Addr} {fd : FuncData} {N ps : List Str} {k : Nat} {sp : SpD} (F : Fun K x qual st fa fd) (S : FnScope N ps (defScope st))
    (len : ∀ ds W Q, sp ds W Q → ds.length = ps.length)
    (hbody : ∀ (cdv : Value) (A : Around) (outer : List PySem.Env) (s : Shared) (H : Hp), Room k (A.deeper (envOfC qual (defScope st) s.heap.objs.size fa cdv)) → (A.deeper (envOfC qual (defScope st) s.heap.objs.size fa cdv)).guards = some [] →
      ∃ f, SSs (cxOf CX0 P w K mg base N qual (defScope st) fa cdv A outer s H E0).nox (defBody st) f ∧
        ∀ ds W Q, sp ds W Q → f { nx := fun _ W' => ∃ W2, Sub W2 W' ∧ Q .non W2, rt := fun d W' => ∃ W2, Sub W2 W' ∧ Q d W2 } (startD N ds) W) :
    FnG P w K mg base (k + 1) fa fd ps (toSp K sp) := by
  have hlen : ∀ vs H Q E, toSp K sp vs H Q E → vs.length = ps.length := fun vs H Q E ⟨ds, W, Q', dv, _, hs, _⟩ => by rw [dv.length]; exact len ds W Q' hs
  refine ⟨hlen, fun A outer s H args us vs Q hr hgd e0 hb rv hs => ?_⟩
  obtain ⟨oc, od, kV, doc, pm, an, cdv, ct, osl, rfl, lk, hcd⟩ := F.ex
  have kin : K.In s.heap := e0.mod.kin.keeps fun b o h => (e0.bs b o h).1
  have nol : s.heap.NoLimit := e0.mod.nolimit.keeps fun b o h => (e0.bs b o h).1
  have kinds : ∀ y ∈ ps.zip us, (defScope st).names.lookup y.1 = some .local ∨ ((defScope st).names.lookup y.1 = some .cell ∧ ((cellsFrom (s.heap.objs.size + 1) (defScope st).names []).lookup y.1).isSome = true) := by
    rintro ⟨n, v⟩ hy
    exact (S.par n (List.of_mem_zip hy).1).imp id fun q => ⟨q, PySem.W.cellsFrom_some _ _ _ (.inl q)⟩
  refine codeAny_call_function hr.depth (kin _ _ lk) rfl S.co S.gen rfl (PySem.W.codeRec_of kin hcd) (hb _ _ _ _ ?_)
  refine wpAny_newFunctionEnv_cells S.kind kinds fun env he s1 x1 => ?_
  subst he
  refine ⟨nol.keeps x1.toInCall.keep, codeAny_func ?_⟩
  obtain ⟨f, hf, hq⟩ := hbody cdv A outer s H (hr.deeper _) hgd
  have I : L2.Inv (cxOf CX0 P w K mg base N qual (defScope st) fa cdv A outer s H E0) [] (L2.start N vs) H s1 := inv_start S hr.hd e0 (hlen _ _ _ _ hs) rv x1
  obtain ⟨ds, W, Q', dv, rl, hs, kk⟩ := hs
  have go : tS K f { nx := fun _ H' => Q .non H', rt := Q } (L2.start N vs) H :=
    ⟨startD N ds, W, _, EnvR.start dv, rl, hq ds W Q' hs, ⟨fun σ δ H' W' e er r ⟨W2, sb, q⟩ => kk .non .non H' W2 e (r.sub sb) rfl q, fun v d H' W' e r dv ⟨W2, sb, q⟩ => kk v d H' W2 e (r.sub sb) dv q, fun σ δ H' W' e er r q => q.elim, fun σ δ H' W' e er r q => q.elim⟩⟩
  refine wpAny_mono (hf.nox.run [] s1 (L2.start N vs) H _ I go) (fun fl s' hs => ?_) fun _ _ h => h
  match fl, hs with
  | .ret u, ⟨v, σ', H', J, r', q⟩ => exact ⟨v, H', J.os, J.bare, J.base, J.hok, r', q⟩
  | .next, ⟨σ', H', J, q⟩ => exact ⟨.non, H', J.os, J.bare, J.base, J.hok, rfl, q⟩
  | .brk, ⟨_, _, _, q⟩ => exact q.elim
  | .cont, ⟨_, _, _, q⟩ => exact q.elim

/-! ### built-ins -/
abbrev RD := List D → DW → DK → Prop
def CallD (K : PySem.W.Frag) (r : List V → Hp → VK → Prop) (F : RD) : Prop := ∀ H W vs ds Q Q', Rel K H W → DVs K H ds vs → F ds W Q' → Lk K H Q' Q → r vs H Q
def fB1 (F : RD) (r : FA) : FE := fun δ W Q => r δ W fun xs W1 => F xs W1 Q
theorem tE_cb {r : List V → Hp → VK → Prop} {F : RD} {ra : FA} (hF : CallD X.K r F) : ∀ σ H Q, tE X.K (fB1 F ra) σ H Q → tCB r (tA X.K ra) σ H Q := fun σ H Q ⟨δ, W, Q', er, rl, h, k⟩ =>
  ⟨δ, W, _, er, rl, h, fun vs ds H1 W1 e1 r1 v1 h1 => hF H1 W1 vs ds Q Q' r1 v1 h1 (k.ext e1)⟩
theorem se_callB {id : String} {r : List V → Hp → VK → Prop} {F : RD} {x : Str} {pn : Pos} {ra : FA} (hc : CallR X (.builtin id) r) (hF : CallD X.K r F) (hm : X.mg x = none) (hv : bootBuiltins x = some (.builtin id)) (ha : SA X (e :: es) ra) (hg : Gl X x := by rfl)
    (hn : x ≠ "__name__" := by decide) (hdb : (x == ("__debug__" : Str)) = false := by decide) (he : starEach (e :: es) X.env = (false, eval e X.env) :: starEach es X.env := by rfl) (hpl : (backTo pos (starEach es X.env)).any (·.1) = false := by rfl) :
    SE X (.Call (.Name x pn) (e :: es) [] pos) (fB1 F ra) := PEimp (pe_callB hc hg hm hv ha hn hdb he hpl) (tE_cb hF)
theorem se_callTy {T : String} {r : List V → Hp → VK → Prop} {F : RD} {x : Str} {pn : Pos} {ra : FA} (hc : CallR X (.type T) r) (hF : CallD X.K r F) (hm : X.mg x = none) (hv : bootBuiltins x = some (.type T)) (ha : SA X (e :: es) ra) (hg : Gl X x := by rfl)
    (hn : x ≠ "__name__" := by decide) (hdb : (x == ("__debug__" : Str)) = false := by decide) (he : starEach (e :: es) X.env = (false, eval e X.env) :: starEach es X.env := by rfl) (hpl : (backTo pos (starEach es X.env)).any (·.1) = false := by rfl) :
    SE X (.Call (.Name x pn) (e :: es) [] pos) (fB1 F ra) := PEimp (pe_callTy hc hg hm hv ha hn hdb he hpl) (tE_cb hF)
section
variable {K : PySem.W.Frag} {H : Hp}
theorem DVs.c1 {d : D} {vs : List V} (h : DVs K H [d] vs) : ∃ v, vs = [v] ∧ DV K H d v := by
  obtain ⟨v, r, rfl, hv, hr⟩ := h
  cases hr; exact ⟨v, rfl, hv⟩
theorem DVs.c2 {d d' : D} {vs : List V} (h : DVs K H [d, d'] vs) : ∃ v v', vs = [v, v'] ∧ DV K H d v ∧ DV K H d' v' := by
  obtain ⟨v, r, rfl, hv, hr⟩ := h
  obtain ⟨v', rfl, hv'⟩ := DVs.c1 hr
  exact ⟨v, v', rfl, hv, hv'⟩
theorem DVs.ints : ∀ {ns : List Int} {vs : List V}, DVs K H (ns.map D.int) vs → vs = ns.map V.int
  | [], _, h => by cases h; rfl
  | n :: ns, _, h => by
    obtain ⟨v, r, rfl, hv, hr⟩ := h
    cases hv
    rw [DVs.ints hr]; rfl
theorem DVs.of_ints : ∀ (ns : List Int), DVs K H (ns.map D.int) (ns.map V.int)
  | [] => rfl
  | n :: ns => ⟨_, _, rfl, rfl, DVs.of_ints ns⟩
theorem DVs.bls : ∀ {ns : List Bool} {vs : List V}, DVs K H (ns.map D.bl) vs → vs = ns.map V.bl
  | [], _, h => by cases h; rfl
  | n :: ns, _, h => by
    obtain ⟨v, r, rfl, hv, hr⟩ := h
    cases hv
    rw [DVs.bls hr]; rfl
end
/-- len -/
def lenD (W : DW) : D → Option Nat
  | .tup xs => some xs.length
  | .rl xs => some xs.length
  | .ref a => match W a with
    | some (.lst xs) => some xs.length
    | _ => none
  | _ => none
def bLen : RD := fun ds W Q => ∃ x n, ds = [x] ∧ lenD W x = some n ∧ Q (.int (n : Nat)) W
theorem c_len {K : PySem.W.Frag} : CallD K (fun xs H Q => ∃ p ys, xs = [.ref p] ∧ (SqL K H p ys ∨ SqT K H p ys) ∧ Q (.int ys.length) H) bLen := fun H W vs ds Q Q' rl dv ⟨x, n, e, hn, q⟩ k => by
  subst e
  obtain ⟨v, rfl, hv⟩ := dv.c1
  cases x with
  | tup xs =>
    obtain ⟨a, us, rfl, s, d⟩ := hv
    cases hn
    exact ⟨a, us, rfl, .inr (SqT.of s), k.at rl q (by rw [d.length]; rfl)⟩
  | rl xs =>
    obtain ⟨a, us, rfl, s, d⟩ := hv
    cases hn
    exact ⟨a, us, rfl, .inl s.sq, k.at rl q (by rw [d.length]; rfl)⟩
  | ref a =>
    cases hv
    unfold lenD at hn
    cases w : W a with
    | none => simp [w] at hn
    | some o =>
      cases o with
      | lst xs =>
        simp [w] at hn
        subst hn
        obtain ⟨us, s, d⟩ := rl _ _ w
        exact ⟨a, us, rfl, .inl (SqL.of s), k.at rl q (by rw [d.length]; rfl)⟩
      | dic xs => simp [w] at hn
      | dit xs => simp [w] at hn
      | lic _ _ xs => simp [w] at hn
      | lit _ _ xs => simp [w] at hn
  | _ => cases hn
def bAbs : RD := fun ds W Q => ∃ i, ds = [.int i] ∧ Q (.int (if i < 0 then -i else i)) W
theorem c_abs {K : PySem.W.Frag} : CallD K (fun xs H Q => ∃ i, xs = [.int i] ∧ Q (.int (if i < 0 then -i else i)) H) bAbs := fun H W vs ds Q Q' rl dv ⟨i, e, q⟩ k => by
  subst e
  exact ⟨i, dv.i1, k.at rl q rfl⟩
def bInt : RD := fun ds W Q => match ds with | [.int i] => Q (.int i) W | [.bl b] => Q (.int (if b then 1 else 0)) W | _ => False
theorem c_int {K : PySem.W.Frag} : CallD K (fun xs H Q => (∃ i, xs = [.int i] ∧ Q (.int i) H) ∨ ∃ k, xs = [.bl k] ∧ Q (.int (if k then 1 else 0)) H) bInt := fun H W vs ds Q Q' rl dv h k => by
  unfold bInt at h
  split at h
  · exact .inl ⟨_, dv.i1, k.at rl h rfl⟩
  · obtain ⟨v, rfl, hv⟩ := dv.c1
    cases hv
    exact .inr ⟨_, rfl, k.at rl h rfl⟩
  · exact h.elim
/-- the members of a list or tuple, of the script -/
def seqD (W : DW) : D → Option (List D)
  | .tup xs => some xs
  | .rl xs => some xs
  | .ref a => match W a with
    | some (.lst xs) => some xs
    | _ => none
  | _ => none
theorem seqD.ok {K : PySem.W.Frag} {H : Hp} {W : DW} {d : D} {xs : List D} {v : V} (rl : Rel K H W) (h : seqD W d = some xs) (dv : DV K H d v) : ∃ p us, v = .ref p ∧ DVs K H xs us ∧ ((SqL K H p us ∧ ∀ ys, d ≠ .tup ys) ∨ (H p = some (.tup us) ∧ d = .tup xs)) := by
  cases d with
  | tup ys =>
    obtain ⟨a, us, rfl, s, d⟩ := dv
    cases h
    exact ⟨a, us, rfl, d, .inr ⟨s, rfl⟩⟩
  | rl ys =>
    obtain ⟨a, us, rfl, s, d⟩ := dv
    cases h
    exact ⟨a, us, rfl, d, .inl ⟨s.sq, fun _ z => by cases z⟩⟩
  | ref a =>
    cases dv
    unfold seqD at h
    cases w : W a with
    | none => simp [w] at h
    | some o =>
      cases o with
      | lst ys =>
        simp [w] at h
        subst h
        obtain ⟨us, s, d⟩ := rl _ _ w
        exact ⟨a, us, rfl, d, .inl ⟨SqL.of s, fun _ z => by cases z⟩⟩
      | dic xs => simp [w] at h
      | dit xs => simp [w] at h
      | lic _ _ xs => simp [w] at h
      | lit _ _ xs => simp [w] at h
  | _ => cases h
def bTuple : RD := fun ds W Q => ∃ x xs, ds = [x] ∧ seqD W x = some xs ∧ Q (.tup xs) W
theorem c_tuple {K : PySem.W.Frag} : CallD K (fun xs H Q => ∃ p ys, xs = [.ref p] ∧ ((SqL K H p ys ∧ ∀ l, H l = none → Q (.ref l) (upd H l (.tup ys))) ∨ (SqT K H p ys ∧ Q (.ref p) H))) bTuple := fun H W vs ds Q Q' rl dv ⟨x, xs, e, hx, q⟩ k => by
  subst e
  obtain ⟨v, rfl, hv⟩ := dv.c1
  obtain ⟨p, us, rfl, d, ⟨s, _⟩ | ⟨s, rfl⟩⟩ := seqD.ok rl hx hv
  · exact ⟨p, us, rfl, .inl ⟨s, fun l hl => newT rl hl d q k⟩⟩
  · exact ⟨p, us, rfl, .inr ⟨(SqT.of s), k.at rl q (dvT s d)⟩⟩
def bList : RD := fun ds W Q => ∃ x xs, ds = [x] ∧ seqD W x = some xs ∧ ∀ p, W p = none → Q (.ref p) (wup W p (.lst xs))
theorem c_list {K : PySem.W.Frag} : CallD K (fun xs H Q => ∃ p ys, xs = [.ref p] ∧ (SqL K H p ys ∨ SqT K H p ys) ∧ ∀ l, H l = none → Q (.ref l) (upd H l (.lst ys))) bList := fun H W vs ds Q Q' rl dv ⟨x, xs, e, hx, q⟩ k => by
  subst e
  obtain ⟨v, rfl, hv⟩ := dv.c1
  obtain ⟨p, us, rfl, d, ⟨s, _⟩ | ⟨s, rfl⟩⟩ := seqD.ok rl hx hv
  · exact ⟨p, us, rfl, .inl s, fun l hl => newL rl hl d q k⟩
  · exact ⟨p, us, rfl, .inr (SqT.of s), fun l hl => newL rl hl d q k⟩
/-- of a list of ints -/
def bInts (R : List Int → DW → DK → Prop) : RD := fun ds W Q => ∃ a ns, ds = [.ref a] ∧ W a = some (.lst (ns.map D.int)) ∧ R ns W Q
theorem bInts.ok {K : PySem.W.Frag} {H : Hp} {W : DW} {vs : List V} {a : Addr} {ns : List Int} (rl : Rel K H W) (dv : DVs K H [.ref a] vs) (w : W a = some (.lst (ns.map D.int))) : vs = [.ref a] ∧ SqL K H a (ns.map V.int) := by
  obtain ⟨v, rfl, hv⟩ := dv.c1
  cases hv
  obtain ⟨us, s, d⟩ := rl _ _ w
  rw [d.ints] at s
  exact ⟨rfl, SqL.of s⟩
abbrev bSum : RD := bInts fun ns W Q => Q (.int ns.sum) W
theorem c_sum {K : PySem.W.Frag} : CallD K (rSum K) bSum := fun H W vs ds Q Q' rl dv ⟨a, ns, e, w, q⟩ k => by
  subst e
  obtain ⟨rfl, s⟩ := bInts.ok rl dv w
  exact ⟨a, ns, rfl, s, k.at rl q rfl⟩
abbrev bMax : RD := bInts fun ns W Q => 0 < ns.length ∧ ∀ m, m ∈ ns → (∀ y, y ∈ ns → y ≤ m) → Q (.int m) W
theorem c_max {K : PySem.W.Frag} : CallD K (rMax K) bMax := fun H W vs ds Q Q' rl dv ⟨a, ns, e, w, hl, q⟩ k => by
  subst e
  obtain ⟨rfl, s⟩ := bInts.ok rl dv w
  exact ⟨a, ns, rfl, s, hl, fun m h1 h2 => k.at rl (q m h1 h2) rfl⟩
abbrev bMin : RD := bInts fun ns W Q => 0 < ns.length ∧ ∀ m, m ∈ ns → (∀ y, y ∈ ns → m ≤ y) → Q (.int m) W
theorem c_min {K : PySem.W.Frag} : CallD K (rMin K) bMin := fun H W vs ds Q Q' rl dv ⟨a, ns, e, w, hl, q⟩ k => by
  subst e
  obtain ⟨rfl, s⟩ := bInts.ok rl dv w
  exact ⟨a, ns, rfl, s, hl, fun m h1 h2 => k.at rl (q m h1 h2) rfl⟩
def bMax2 : RD := fun ds W Q => ∃ i j, ds = [.int i, .int j] ∧ Q (.int (if j > i then j else i)) W
theorem c_max2 {K : PySem.W.Frag} : CallD K (fun xs H Q => ∃ i j, xs = [.int i, .int j] ∧ Q (.int (if j > i then j else i)) H) bMax2 := fun H W vs ds Q Q' rl dv ⟨i, j, e, q⟩ k => by
  subst e
  exact ⟨i, j, dv.i2, k.at rl q rfl⟩
def bMin2 : RD := fun ds W Q => ∃ i j, ds = [.int i, .int j] ∧ Q (.int (if j < i then j else i)) W
theorem c_min2 {K : PySem.W.Frag} : CallD K (fun xs H Q => ∃ i j, xs = [.int i, .int j] ∧ Q (.int (if j < i then j else i)) H) bMin2 := fun H W vs ds Q Q' rl dv ⟨i, j, e, q⟩ k => by
  subst e
  exact ⟨i, j, dv.i2, k.at rl q rfl⟩
/-- of a list of truth values -/
def bBls (R : List Bool → DW → DK → Prop) : RD := fun ds W Q => ∃ a ns, ds = [.ref a] ∧ W a = some (.lst (ns.map D.bl)) ∧ R ns W Q
theorem bBls.ok {K : PySem.W.Frag} {H : Hp} {W : DW} {vs : List V} {a : Addr} {ns : List Bool} (rl : Rel K H W) (dv : DVs K H [.ref a] vs) (w : W a = some (.lst (ns.map D.bl))) : vs = [.ref a] ∧ SqL K H a (ns.map V.bl) := by
  obtain ⟨v, rfl, hv⟩ := dv.c1
  cases hv
  obtain ⟨us, s, d⟩ := rl _ _ w
  rw [d.bls] at s
  exact ⟨rfl, SqL.of s⟩
abbrev bAny : RD := bBls fun ns W Q => Q (.bl (ns.any id)) W
abbrev bAll : RD := bBls fun ns W Q => Q (.bl (ns.all id)) W
theorem c_any {K : PySem.W.Frag} : CallD K (rAny K) bAny := fun H W vs ds Q Q' rl dv ⟨a, ns, e, w, q⟩ k => by
  subst e
  obtain ⟨rfl, s⟩ := bBls.ok rl dv w
  exact ⟨a, ns, rfl, s, k.at rl q rfl⟩
theorem c_all {K : PySem.W.Frag} : CallD K (rAll K) bAll := fun H W vs ds Q Q' rl dv ⟨a, ns, e, w, q⟩ k => by
  subst e
  obtain ⟨rfl, s⟩ := bBls.ok rl dv w
  exact ⟨a, ns, rfl, s, k.at rl q rfl⟩
/-- sorted of a list of ints -/
abbrev bSortI : RD := bInts fun ns W Q => ns.length < 64 ∧ ∀ (ns' : List Int) p, ns'.Perm ns → ns'.Pairwise (· ≤ ·) → W p = none → Q (.ref p) (wup W p (.lst (ns'.map D.int)))
theorem c_sortI {K : PySem.W.Frag} : CallD K (rSorted K) bSortI := fun H W vs ds Q Q' rl dv ⟨a, ns, e, w, hl, q⟩ k => by
  subst e
  obtain ⟨rfl, s⟩ := bInts.ok rl dv w
  exact ⟨a, ns, rfl, s, hl, fun ns' p h1 h2 hp => newL rl hp (DVs.of_ints ns') (fun p hp => q ns' p h1 h2 hp) k⟩

/-! ### methods of lists -/
abbrev MD := D → List D → DW → DK → Prop
def fM (Ty : D → DW → Prop) (F : MD) (f : FE) (r : FA) : FE := fun δ W Q => f δ W fun x W1 => Ty x W1 ∧ r δ W1 fun xs W2 => F x xs W2 Q
def TyD (K : PySem.W.Frag) (T : String) (Ty : D → DW → Prop) : Prop := ∀ H W x d, Rel K H W → DV K H d x → Ty d W → tyV K T x H
def MthD (K : PySem.W.Frag) (r : V → List V → Hp → VK → Prop) (F : MD) : Prop := ∀ H W x d vs ds Q Q', Rel K H W → DV K H d x → DVs K H ds vs → F d ds W Q' → Lk K H Q' Q → r x vs H Q
def isL : D → DW → Prop := fun d W => ∃ a xs, d = .ref a ∧ W a = some (.lst xs)
theorem ty_list {K : PySem.W.Frag} : TyD K "list" isL := fun H W x d rl dv ⟨a, xs, e, w⟩ => by
  subst e
  cases dv
  obtain ⟨us, s, _⟩ := rl _ _ w
  exact .inl ⟨rfl, us, SqL.of s⟩
theorem tE_m {T : String} {r : V → List V → Hp → VK → Prop} {Ty : D → DW → Prop} {F : MD} {ra : FA} (ht : TyD X.K T Ty) (hF : MthD X.K r F) : ∀ σ H Q, tE X.K (fM Ty F f ra) σ H Q → tBM X.K T r (tE X.K f) (tA X.K ra) σ H Q := fun σ H Q ⟨δ, W, Q', er, rl, h, k⟩ =>
  ⟨δ, W, _, er, rl, h, fun x d H1 W1 e1 r1 v1 ⟨h0, h1⟩ => ⟨ht H1 W1 x d r1 v1 h0, δ, W1, _, er.ext e1, r1, h1, fun vs ds H2 W2 e2 r2 v2 h2 => hF H2 W2 x d vs ds Q Q' r2 (DV.ext e2 v1) v2 h2 (k.ext (e1.trans e2))⟩⟩
theorem se_m {T id : String} {nm : Str} {apos cpos : Pos} {r : V → List V → Hp → VK → Prop} {Ty : D → DW → Prop} {F : MD} {ra : FA} (pa : PlainAttrs T) (slot : Slot T nm id) (hty : typeOf (.builtin id) = pure (.type "method_descriptor")) (hm : MtR X id r) (ht : TyD X.K T Ty) (hF : MthD X.K r F)
    (ho : SE X o f) (ha : SA X (e :: es) ra) (hbase : attributeBase o nm X.env (eval o X.env) = eval o X.env := by rfl)
    (hfew : ((backTo cpos (starEach (e :: es) X.env)).all (fun x => !x.1) && (backToKw cpos (keywordEach [] X.env)).all (fun x => x.1.isSome)
      && decide ((e :: es).length + ([] : List Keyword).length + (if ([] : List Keyword).isEmpty then 0 else 1) < 30)) = true := by rfl)
    (hline : (apos.endLine == cpos.line) = true := by rfl) (hs : starEach (e :: es) X.env = (false, eval e X.env) :: starEach es X.env := by rfl) (hplain : (backTo cpos (starEach es X.env)).any (·.1) = false := by rfl) :
    SE X (.Call (.Attribute o nm apos) (e :: es) [] cpos) (fM Ty F f ra) := PEimp (pe_bm pa slot hty hm ho ha hbase hfew hline hs hplain) (tE_m ht hF)
def fM0 (Ty : D → DW → Prop) (F : MD) (f : FE) : FE := fun δ W Q => f δ W fun x W1 => Ty x W1 ∧ F x [] W1 Q
theorem se_m0 {T id : String} {nm : Str} {apos cpos : Pos} {r : V → List V → Hp → VK → Prop} {Ty : D → DW → Prop} {F : MD} (pa : PlainAttrs T) (slot : Slot T nm id) (hty : typeOf (.builtin id) = pure (.type "method_descriptor")) (hm : MtR X id r) (ht : TyD X.K T Ty) (hF : MthD X.K r F)
    (ho : SE X o f) (hbase : attributeBase o nm X.env (eval o X.env) = eval o X.env := by rfl) (hline : (apos.endLine == cpos.line) = true := by rfl) : SE X (.Call (.Attribute o nm apos) [] [] cpos) (fM0 Ty F f) :=
  PEimp (pe_bm0 pa slot hty hm ho hbase hline) fun σ H Q ⟨δ, W, Q', er, rl, h, k⟩ => ⟨δ, W, _, er, rl, h, fun x d H1 W1 e1 r1 v1 ⟨h0, h1⟩ => ⟨ht H1 W1 x d r1 v1 h0, hF H1 W1 x d [] [] Q Q' r1 v1 rfl h1 (k.ext e1)⟩⟩
def mAppend : MD := fun d ds W Q => ∃ a xs y, d = .ref a ∧ ds = [y] ∧ W a = some (.lst xs) ∧ xs.length < sizeLine ∧ Q .non (wup W a (.lst (xs ++ [y])))
theorem m_append {K : PySem.W.Frag} : MthD K rAppend mAppend := fun H W x d vs ds Q Q' rl dv dvs ⟨a, xs, y, e1, e2, w, hl, q⟩ k => by
  subst e1; subst e2
  cases dv
  obtain ⟨v, rfl, hv⟩ := dvs.c1
  obtain ⟨us, s, d⟩ := rl _ _ w
  exact ⟨a, us, v, rfl, rfl, s, by rw [d.length]; exact hl, putL rl s (DVs.append d (DVs.one hv)) (d := .non) rfl q k⟩
def mExtend : MD := fun d ds W Q => ∃ a b xs zs, d = .ref a ∧ ds = [.ref b] ∧ W a = some (.lst xs) ∧ W b = some (.lst zs) ∧ xs.length + zs.length ≤ sizeLine ∧ Q .non (wup W a (.lst (xs ++ zs)))
theorem m_extend {K : PySem.W.Frag} : MthD K rExtend mExtend := fun H W x d vs ds Q Q' rl dv dvs ⟨a, b, xs, zs, e1, e2, w, w2, hl, q⟩ k => by
  subst e1; subst e2
  cases dv
  obtain ⟨v, rfl, hv⟩ := dvs.c1
  cases hv
  obtain ⟨us, s, d⟩ := rl _ _ w
  obtain ⟨us2, s2, d2⟩ := rl _ _ w2
  exact ⟨a, b, us, us2, rfl, rfl, s, s2, by rw [d.length, d2.length]; exact hl, putL rl s (DVs.append d d2) (d := .non) rfl q k⟩
theorem DVs.dropLast {K : PySem.W.Frag} {H : Hp} {ds : List D} {vs : List V} (h : DVs K H ds vs) : DVs K H ds.dropLast vs.dropLast := by
  rw [List.dropLast_eq_take, List.dropLast_eq_take, h.length]
  exact h.take _
theorem DVs.erase {K : PySem.W.Frag} {H : Hp} {ds : List D} {vs : List V} (k : Nat) (h : DVs K H ds vs) : DVs K H (ds.eraseIdx k) (vs.eraseIdx k) := by
  rw [List.eraseIdx_eq_take_drop_succ, List.eraseIdx_eq_take_drop_succ]
  exact (h.take _).append (h.drop _)
def mPop : MD := fun d ds W Q => match ds with
  | [] => ∃ a xs y, d = .ref a ∧ W a = some (.lst xs) ∧ xs[xs.length - 1]? = some y ∧ Q y (wup W a (.lst xs.dropLast))
  | _ => False
theorem m_pop {K : PySem.W.Frag} : MthD K rPop mPop := fun H W x d vs ds Q Q' rl dv dvs h k => by
  unfold mPop at h
  split at h
  · obtain ⟨a, xs, y, e1, w, hy, q⟩ := h
    subst e1
    cases dv
    cases dvs
    obtain ⟨us, s, d⟩ := rl _ _ w
    obtain ⟨v, ev, hv⟩ := d.get hy
    exact ⟨a, us, v, rfl, rfl, s, by rw [d.length]; exact ev, putL rl s d.dropLast hv q k⟩
  · exact h.elim
def mPopAt : MD := fun d ds W Q => ∃ a xs i j y, d = .ref a ∧ ds = [.int i] ∧ W a = some (.lst xs) ∧ -(2 ^ 63) ≤ i ∧ i < 2 ^ 63 ∧ seqIndex? i xs.length = some j ∧ xs[j]? = some y ∧ Q y (wup W a (.lst (xs.eraseIdx j)))
theorem m_popAt {K : PySem.W.Frag} : MthD K rPopAt mPopAt := fun H W x d vs ds Q Q' rl dv dvs ⟨a, xs, i, j, y, e1, e2, w, h1, h2, hj, hy, q⟩ k => by
  subst e1; subst e2
  cases dv
  have e := dvs.i1
  subst e
  obtain ⟨us, s, d⟩ := rl _ _ w
  obtain ⟨v, ev, hv⟩ := d.get hy
  exact ⟨a, us, i, j, v, rfl, rfl, s, h1, h2, by rw [d.length]; exact hj, ev, putL rl s (d.erase j) hv q k⟩
end
end DL
/-! Dl6: dicts; subscripts and membership by values. -/
namespace DL
open PySem PySem.Spec PyProof.Rows L2
section
variable {X : Cx} {a b c e o i : Expr} {es rest : List Expr} {pos : Pos} {f g h : FE} {p q : FT}
def keyD : D → Option Key
  | .int i => some (.inl i)
  | .str s => some (.inr s)
  | _ => none
/-- a tuple of ints and texts -/
def keysD : List D → Option (List Key)
  | [] => some []
  | d :: ds => match keyD d, keysD ds with
    | some k, some ks => some (k :: ks)
    | _, _ => none
def tkeyD : D → Option (List Key)
  | .tup ds => keysD ds
  | _ => none
section
variable {K : PySem.W.Frag} {H : Hp} {W : DW}
theorem keyD.ok {d : D} {k : Key} {v : V} (h : keyD d = some k) (dv : DV K H d v) : v = kV k := by
  cases d <;> simp only [keyD] at h <;> cases h <;> cases dv <;> rfl
theorem keysD.ok : ∀ {ds : List D} {ks : List Key} {vs : List V}, keysD ds = some ks → DVs K H ds vs → vs = ks.map kV
  | [], _, _, h, dv => by cases h; cases dv; rfl
  | d :: ds, ks, vs, h, dv => by
    obtain ⟨v, r, rfl, h1, h2⟩ := dv
    unfold keysD at h
    cases e1 : keyD d with
    | none => rw [e1] at h; simp at h
    | some k =>
      cases e2 : keysD ds with
      | none => rw [e1, e2] at h; simp at h
      | some ks' =>
        rw [e1, e2] at h
        simp at h
        subst h
        rw [keyD.ok e1 h1, keysD.ok e2 h2]; rfl
theorem tkeyD.ok {d : D} {k : List Key} {v : V} (h : tkeyD d = some k) (dv : DV K H d v) : ∃ b, v = .ref b ∧ H b = some (.tup (k.map kV)) := by
  cases d with
  | tup ds =>
    obtain ⟨a, us, rfl, s, dd⟩ := dv
    have := keysD.ok h dd
    subst this
    exact ⟨a, rfl, s⟩
  | _ => cases h
def valD {κ : Type} [DecidableEq κ] (kvs : List (κ × D)) (k : κ) : Option D := (kvs.find? fun kv => decide (kv.1 = k)).map (·.2)
def putD {κ : Type} [DecidableEq κ] (kvs : List (κ × D)) (k : κ) (v : D) : List (κ × D) :=
  if (kvs.any fun kv => decide (kv.1 = k)) = true then kvs.map (fun kv => if kv.1 = k then (kv.1, v) else kv) else kvs ++ [(k, v)]
theorem DKV.val {κ : Type} [DecidableEq κ] {kvs : List (κ × D)} {ws : List (κ × V)} {k : κ} (h : DKV K H kvs ws) : (∀ d, valD kvs k = some d → ∃ v, valV ws k = some v ∧ DV K H d v) ∧ (valD kvs k).isSome = (valV ws k).isSome := by
  unfold DKV at h
  induction h with
  | nil => exact ⟨fun d e => by simp [valD] at e, rfl⟩
  | @cons p q ps qs hp t ih =>
    by_cases z : p.1 = k
    · have z2 : q.1 = k := hp.1.symm.trans z
      refine ⟨fun d e => ?_, ?_⟩
      · simp [valD, List.find?_cons, z] at e
        subst e
        exact ⟨q.2, valV_pos z2, hp.2⟩
      · rw [valV_pos z2]
        simp [valD, List.find?_cons, z]
    · have z2 : ¬ q.1 = k := fun y => z (hp.1.trans y)
      have e0 : valD (p :: ps) k = valD ps k := by simp [valD, List.find?_cons, z]
      rw [valV_neg z2, e0]
      exact ih
theorem DKV.length {κ : Type} {kvs : List (κ × D)} {ws : List (κ × V)} (h : DKV K H kvs ws) : ws.length = kvs.length := by
  unfold DKV at h
  induction h with
  | nil => rfl
  | cons _ _ ih => simp [ih]
theorem DKV.any {κ : Type} [DecidableEq κ] {kvs : List (κ × D)} {ws : List (κ × V)} {k : κ} (h : DKV K H kvs ws) : (kvs.any fun kv => decide (kv.1 = k)) = (ws.any fun kv => decide (kv.1 = k)) := by
  unfold DKV at h
  induction h with
  | nil => rfl
  | cons hp _ ih => simp only [List.any_cons, ih, hp.1]
theorem DKV.app {κ : Type} {kvs : List (κ × D)} {ws : List (κ × V)} {k : κ} {d : D} {v : V} (h : DKV K H kvs ws) (hv : DV K H d v) : DKV K H (kvs ++ [(k, d)]) (ws ++ [(k, v)]) := by
  unfold DKV at h ⊢
  induction h with
  | nil => exact .cons ⟨rfl, hv⟩ .nil
  | cons hp _ ih => exact .cons hp ih
theorem DKV.put {κ : Type} [DecidableEq κ] {kvs : List (κ × D)} {ws : List (κ × V)} {k : κ} {d : D} {v : V} (h : DKV K H kvs ws) (hv : DV K H d v) : DKV K H (putD kvs k d) (putK ws k v) := by
  have ha := h.any (k := k)
  unfold putD putK
  rw [ha]
  split
  · unfold DKV at h ⊢
    clear ha
    induction h with
    | nil => exact .nil
    | @cons p q ps qs hp t ih =>
      rename_i hs
      rw [List.map_cons, List.map_cons]
      refine .cons ?_ ?_
      · by_cases z : p.1 = k
        · rw [if_pos z, if_pos (hp.1.symm.trans z)]
          exact ⟨hp.1, hv⟩
        · rw [if_neg z, if_neg (fun y => z (hp.1.trans y))]
          exact hp
      · have aux : ∀ {ps : List (κ × D)} {qs : List (κ × V)}, Paired (fun (p : κ × D) (q : κ × V) => p.1 = q.1 ∧ DV K H p.2 q.2) ps qs → Paired (fun (p : κ × D) (q : κ × V) => p.1 = q.1 ∧ DV K H p.2 q.2) (ps.map fun kv => if kv.1 = k then (kv.1, d) else kv) (qs.map fun kv => if kv.1 = k then (kv.1, v) else kv) := fun h => by
          induction h with
          | nil => exact .nil
          | @cons p q ps qs hp t ih =>
            rw [List.map_cons, List.map_cons]
            refine .cons ?_ ih
            by_cases z : p.1 = k
            · rw [if_pos z, if_pos (hp.1.symm.trans z)]
              exact ⟨hp.1, hv⟩
            · rw [if_neg z, if_neg (fun y => z (hp.1.trans y))]
              exact hp
        exact aux t
  · exact h.app hv
end
/-! ### subscripts -/
def ixD (W : DW) : D → D → Option D
  | .tup xs, .int i => atD xs i
  | .rl xs, .int i => atD xs i
  | .ref a, y => match W a with
    | some (.lst xs) => (match y with | .int i => atD xs i | _ => none)
    | some (.dic kvs) => (keyD y).bind fun k => valD kvs k
    | some (.dit kvs) => (tkeyD y).bind fun k => valD kvs k
    | some (.lic _ _ kvs) => (keyD y).bind fun k => valD kvs k
    | some (.lit _ _ kvs) => (tkeyD y).bind fun k => valD kvs k
    | none => none
  | _, _ => none
def pSub' : R2D := fun x y W Q => ∃ d, ixD W x y = some d ∧ Q d W
abbrev rIxDk : R2 := fun x y H Q => ∃ a v, x = .ref a ∧ DGet H a y (some v) ∧ Q v H
theorem ix_dk (hu : X.A.units + 1 < cLine) : IxR X rIxDk := by
  intro value slice pins s σ H x y v u Q I rx ry h hs
  obtain ⟨a, w, rfl, g, q⟩ := h
  obtain rfl : v = Value.ref a := rx
  exact tail_any (dict_typeIs I g) PySem.F.slot_dict_getitem.lookup (d_getItem hu I g ry fun w' s3 I3 rw' => ⟨w, H, I3, rw', q⟩) hs
abbrev rIxAll (K : PySem.W.Frag) : R2 := fun x y H Q => (rIxL K x y H Q ∨ rIxT K x y H Q) ∨ rIxDk x y H Q
theorem o_sub {K : PySem.W.Frag} : Op2 K (rIxAll K) pSub' := fun H W x y dx dy Q Q' rl vx vy ⟨d, h, q⟩ k => by
  unfold ixD at h
  split at h
  · cases vy
    obtain ⟨a, us, rfl, s, dd⟩ := vx
    obtain ⟨v, e', dv⟩ := dd.at h
    exact .inl (.inr ⟨a, us, _, v, rfl, rfl, (SqT.of s), e', k.at rl q dv⟩)
  · cases vy
    obtain ⟨a, us, rfl, s, dd⟩ := vx
    obtain ⟨v, e', dv⟩ := dd.at h
    exact .inl (.inl ⟨a, us, _, v, rfl, rfl, s.sq, e', k.at rl q dv⟩)
  · cases vx
    split at h
    · rename_i w
      split at h
      · cases vy
        obtain ⟨us, s1, d1⟩ := rl _ _ w
        obtain ⟨v, e', dv⟩ := d1.at h
        exact .inl (.inl ⟨_, us, _, v, rfl, rfl, SqL.of s1, e', k.at rl q dv⟩)
      · cases h
    · rename_i kvs w
      cases hk : keyD dy with
      | none => rw [hk] at h; cases h
      | some kk =>
        rw [hk] at h
        obtain ⟨ws, s1, d1⟩ := rl _ _ w
        obtain ⟨v, e', dv⟩ := d1.val.1 d h
        have ey := keyD.ok hk vy
        subst ey
        exact .inr ⟨_, v, rfl, .inl ⟨ws, kk, .inl s1, rfl, e'.symm⟩, k.at rl q dv⟩
    · rename_i kvs w
      cases hk : tkeyD dy with
      | none => rw [hk] at h; cases h
      | some kk =>
        rw [hk] at h
        obtain ⟨ws, s1, d1⟩ := rl _ _ w
        obtain ⟨v, e', dv⟩ := d1.val.1 d h
        obtain ⟨b, rfl, hb⟩ := tkeyD.ok hk vy
        exact .inr ⟨_, v, rfl, .inr ⟨ws, kk, b, .inl s1, rfl, hb, e'.symm⟩, k.at rl q dv⟩
    · rename_i od ws kvs w
      cases hk : keyD dy with
      | none => rw [hk] at h; cases h
      | some kk =>
        rw [hk] at h
        obtain ⟨s1, d1⟩ := rl _ _ w
        obtain ⟨v, e', dv⟩ := d1.val.1 d h
        have ey := keyD.ok hk vy
        subst ey
        exact .inr ⟨_, v, rfl, .inl ⟨ws, kk, .inr ⟨od, s1⟩, rfl, e'.symm⟩, k.at rl q dv⟩
    · rename_i od ws kvs w
      cases hk : tkeyD dy with
      | none => rw [hk] at h; cases h
      | some kk =>
        rw [hk] at h
        obtain ⟨s1, d1⟩ := rl _ _ w
        obtain ⟨v, e', dv⟩ := d1.val.1 d h
        obtain ⟨b, rfl, hb⟩ := tkeyD.ok hk vy
        exact .inr ⟨_, v, rfl, .inr ⟨ws, kk, b, .inr ⟨od, s1⟩, rfl, hb, e'.symm⟩, k.at rl q dv⟩
    · cases h
  · cases h
theorem se_sub (hu : X.A.units + 1 < cLine) (ha : SE X a f) (hb : SE X b g) (hs : PlainIx b := by intro _ _; rfl) : SE X (.Subscript a b pos) (fBin pSub' f g) := PEimp (pe_ix ((ix_list.or ix_tup).or (ix_dk hu)) ha hb hs) (tE_bin o_sub)
/-! ### membership -/
def pInA (neg : Bool) : R2D := fun x y W Q => pIn neg x y W Q ∨ (∃ a kvs k, y = .ref a ∧ W a = some (.dic kvs) ∧ keyD x = some k ∧ Q (.bl (if neg then !(valD kvs k).isSome else (valD kvs k).isSome)) W) ∨
  ∃ a kvs k, y = .ref a ∧ W a = some (.dit kvs) ∧ tkeyD x = some k ∧ Q (.bl (if neg then !(valD kvs k).isSome else (valD kvs k).isSome)) W
abbrev rInDk (neg : Bool) : R2 := fun x y H Q => ∃ a ov, y = .ref a ∧ DGet H a x ov ∧ Q (.bl (if neg then !ov.isSome else ov.isSome)) H
theorem op_inDk (hu : X.A.units + 1 < cLine) : OpR X (compareOp .In) (rInDk false) := fun pins s σ H x y v u Q I rx ry ⟨a, ov, e, g, q⟩ => by
  subst e
  obtain rfl : u = Value.ref a := ry
  exact d_in hu I g rx fun s3 I3 => ⟨.bl ov.isSome, H, I3, rfl, q⟩
theorem op_notInDk (hu : X.A.units + 1 < cLine) : OpR X (compareOp .NotIn) (rInDk true) := fun pins s σ H x y v u Q I rx ry ⟨a, ov, e, g, q⟩ => by
  subst e
  obtain rfl : u = Value.ref a := ry
  exact d_notIn hu I g rx fun s3 I3 => ⟨.bl (!ov.isSome), H, I3, rfl, q⟩
theorem o_inA {K : PySem.W.Frag} : Op2 K (fun x y H Q => rInAny K x y H Q ∨ rInDk false x y H Q) (pInA false) := fun H W x y dx dy Q Q' rl vx vy h k => by
  rcases h with h | ⟨a, kvs, kk, e, w, hk, q⟩ | ⟨a, kvs, kk, e, w, hk, q⟩
  · exact .inl (o_in H W x y dx dy Q Q' rl vx vy h k)
  · subst e
    cases vy
    obtain ⟨ws, s1, d1⟩ := rl _ _ w
    have ex := keyD.ok hk vx
    subst ex
    exact .inr ⟨a, valV ws kk, rfl, .inl ⟨ws, kk, .inl s1, rfl, rfl⟩, k.at rl q (by rw [d1.val.2]; rfl)⟩
  · subst e
    cases vy
    obtain ⟨ws, s1, d1⟩ := rl _ _ w
    obtain ⟨b, rfl, hb⟩ := tkeyD.ok hk vx
    exact .inr ⟨a, valV ws kk, rfl, .inr ⟨ws, kk, b, .inl s1, rfl, hb, rfl⟩, k.at rl q (by rw [d1.val.2]; rfl)⟩
theorem o_notInA {K : PySem.W.Frag} : Op2 K (fun x y H Q => rNotInAny K x y H Q ∨ rInDk true x y H Q) (pInA true) := fun H W x y dx dy Q Q' rl vx vy h k => by
  rcases h with h | ⟨a, kvs, kk, e, w, hk, q⟩ | ⟨a, kvs, kk, e, w, hk, q⟩
  · exact .inl (o_notIn H W x y dx dy Q Q' rl vx vy h k)
  · subst e
    cases vy
    obtain ⟨ws, s1, d1⟩ := rl _ _ w
    have ex := keyD.ok hk vx
    subst ex
    exact .inr ⟨a, valV ws kk, rfl, .inl ⟨ws, kk, .inl s1, rfl, rfl⟩, k.at rl q (by rw [d1.val.2]; rfl)⟩
  · subst e
    cases vy
    obtain ⟨ws, s1, d1⟩ := rl _ _ w
    obtain ⟨b, rfl, hb⟩ := tkeyD.ok hk vx
    exact .inr ⟨a, valV ws kk, rfl, .inr ⟨ws, kk, b, .inl s1, rfl, hb, rfl⟩, k.at rl q (by rw [d1.val.2]; rfl)⟩
/-! ### stores -/
def pSet : FSet := fun o i v W Q => match o with
  | .ref a => ((∃ xs k j, i = .int k ∧ W a = some (.lst xs) ∧ ixN xs.length k = some j ∧ Q (wup W a (.lst (xs.set j v)))) ∨ ∃ kvs k, W a = some (.dit kvs) ∧ tkeyD i = some k ∧ kvs.length < sizeLine ∧ Q (wup W a (.dit (putD kvs k v)))) ∨ ∃ kvs k, W a = some (.dic kvs) ∧ keyD i = some k ∧ kvs.length < sizeLine ∧ Q (wup W a (.dic (putD kvs k v)))
  | _ => False
abbrev rSetA : TSet := fun o i v H Q => rSetL o i v H Q ∨ rSetD o i v H Q
theorem set_any (hu : X.A.units + 1 < cLine) : PSet X rSetA := fun pins s σ H o i v ov iv u Q I ro ri rv h => by
  rcases h with h | h
  · exact set_list pins s σ H o i v ov iv u Q I ro ri rv h
  · exact set_dict hu pins s σ H o i v ov iv u Q I ro ri rv h
theorem os_any {K : PySem.W.Frag} : OpS K rSetA pSet := fun H W x y z dx dy dz Q Q' rl vx vy vz h k => by
  unfold pSet at h
  split at h
  · cases vx
    rcases h with (⟨xs, kk, j, e, w, hj, q⟩ | ⟨kvs, kk, w, hk, hl, q⟩) | ⟨kvs, kk, w, hk, hl, q⟩
    · subst e
      cases vy
      obtain ⟨us, s1, d1⟩ := rl _ _ w
      exact .inl ⟨_, us, _, j, rfl, rfl, s1, by rw [d1.length]; exact hj, k _ _ (Ext.put s1 trivial) (rl.wput s1 trivial (hasL upd_same (DVs.ext (Ext.put s1 trivial) (DVs.set j vz d1)))) q⟩
    · obtain ⟨ws, s1, d1⟩ := rl _ _ w
      obtain ⟨b, rfl, hb⟩ := tkeyD.ok hk vy
      have hd : HasO K (upd H _ (.dT (putK ws kk z))) _ (.dit (putD kvs kk dz)) := ⟨_, upd_same, DKV.ext (Ext.put s1 trivial) (DKV.put d1 vz)⟩
      exact .inr ⟨_, _, rfl, .inr ⟨ws, kk, b, s1, rfl, hb, by rw [d1.length]; exact hl, rfl⟩, k _ _ (Ext.put s1 trivial) (rl.wput s1 trivial hd) q⟩
    · obtain ⟨ws, s1, d1⟩ := rl _ _ w
      have ey := keyD.ok hk vy
      subst ey
      have hd : HasO K (upd H _ (.dK (putK ws kk z))) _ (.dic (putD kvs kk dz)) := ⟨_, upd_same, DKV.ext (Ext.put s1 trivial) (DKV.put d1 vz)⟩
      exact .inr ⟨_, _, rfl, .inl ⟨ws, kk, s1, rfl, by rw [d1.length]; exact hl, rfl⟩, k _ _ (Ext.put s1 trivial) (rl.wput s1 trivial hd) q⟩
  · exact h.elim
theorem sg_set (hu : X.A.units + 1 < cLine) (ho : SE X o f) (hi : SE X i g)
    (hp : ∀ v, assign (.Subscript o i pos) X.env v = (do let ov ← holding [v] (eval o X.env); let iv ← holding [v, ov] (eval i X.env); standAt pos; holding [v, ov, iv] (setItem ov iv v); release [v, ov, iv] []) := by intro _; rfl) : SG X (.Subscript o i pos) (gSb f g pSet) :=
  sg_sub (set_any hu) os_any ho hi hp
/-! ### displays -/
def fPairs : List (FE × FE) → Env → DW → (List (D × D) → DW → Prop) → Prop
  | [], _, W, Q => Q [] W
  | (fk, fv) :: r, δ, W, Q => fk δ W fun x W1 => fv δ W1 fun y W2 => fPairs r δ W2 fun ps W3 => Q ((x, y) :: ps) W3
def keysOf : List (D × D) → Option (List (Key × D))
  | [] => some []
  | (x, y) :: r => match keyD x, keysOf r with
    | some k, some ks => some ((k, y) :: ks)
    | _, _ => none
def mergeD (kvs more : List (Key × D)) : List (Key × D) := more.foldl (fun acc kv => putD acc kv.1 kv.2) kvs
def fDisp (ps : List (FE × FE)) : FE := fun δ W Q => ∀ p, W p = none → fPairs ps δ (wup W p (.dic [])) fun xs W1 => W1 p = some (.dic []) ∧ ∃ kvs, keysOf xs = some kvs ∧ kvs.length ≤ 15 ∧ Q (.ref p) (wup W1 p (.dic (mergeD [] kvs)))
def tPs (K : PySem.W.Frag) : List (FE × FE) → List (TE × TE)
  | [] => []
  | (a, b) :: r => (tE K a, tE K b) :: tPs K r
inductive SPairs (X : Cx) (pos : Pos) : List (Option Expr) → List Expr → List (FE × FE) → Prop
  | nil : SPairs X pos [] [] []
  | cons {k v : Expr} {ks : List (Option Expr)} {vs : List Expr} {fk fv : FE} {r : List (FE × FE)} : SE X k fk → SE X v fv → SPairs X pos ks vs r → SPairs X pos (some k :: ks) (v :: vs) ((fk, fv) :: r)
theorem SPairs.pp {keys : List (Option Expr)} {values : List Expr} {ps : List (FE × FE)} (h : SPairs X pos keys values ps) : PPs X pos keys values (tPs X.K ps) := by
  induction h with
  | nil => exact pps_nil
  | cons h1 h2 _ ih => exact pps_cons h1 h2 ih
def VVD (K : PySem.W.Frag) (H : Hp) : List (D × D) → List (V × V) → Prop
  | [], vs => vs = []
  | (x, y) :: r, vs => ∃ u w t, vs = (u, w) :: t ∧ DV K H x u ∧ DV K H y w ∧ VVD K H r t
theorem tPairs_ok {K : PySem.W.Frag} : ∀ {ps : List (FE × FE)} {δ : Env} {σ : L2.St} {H : Hp} {W : DW} {Q' : List (D × D) → DW → Prop} {Q : List (V × V) → Hp → Prop}, EnvR K H δ σ → Rel K H W → fPairs ps δ W Q' →
    (∀ vs xs H' W', Ext K H H' → Rel K H' W' → VVD K H' xs vs → Q' xs W' → Q vs H') → tPairs (tPs K ps) σ H Q
  | [], δ, σ, H, W, Q', Q, er, rl, h, k => k [] [] H W (Ext.refl H) rl rfl h
  | (fk, fv) :: r, δ, σ, H, W, Q', Q, er, rl, h, k => ⟨δ, W, _, er, rl, h, fun x dx H1 W1 e1 r1 v1 h1 => ⟨δ, W1, _, er.ext e1, r1, h1, fun y dy H2 W2 e2 r2 v2 h2 =>
      tPairs_ok (er.ext (e1.trans e2)) r2 h2 fun vs xs H3 W3 e3 r3 v3 q3 => k ((x, y) :: vs) ((dx, dy) :: xs) H3 W3 ((e1.trans e2).trans e3) r3 ⟨x, y, vs, rfl, DV.ext (e2.trans e3) v1, DV.ext e3 v2, v3⟩ q3⟩⟩
theorem keysOf.ok {K : PySem.W.Frag} {H : Hp} : ∀ {xs : List (D × D)} {kvs : List (Key × D)} {vs : List (V × V)}, keysOf xs = some kvs → VVD K H xs vs → ∃ ws, vs = ws.map (fun kv => (kV kv.1, kv.2)) ∧ DKV K H kvs ws
  | [], _, _, h, hv => by cases h; cases hv; exact ⟨[], rfl, .nil⟩
  | (x, y) :: r, kvs, vs, h, hv => by
    obtain ⟨u, w, t, rfl, h1, h2, h3⟩ := hv
    unfold keysOf at h
    cases e1 : keyD x with
    | none => rw [e1] at h; simp at h
    | some k =>
      cases e2 : keysOf r with
      | none => rw [e1, e2] at h; simp at h
      | some ks =>
        rw [e1, e2] at h
        simp at h
        subst h
        obtain ⟨ws, rfl, d⟩ := keysOf.ok e2 h3
        refine ⟨(k, w) :: ws, ?_, .cons ⟨rfl, h2⟩ d⟩
        rw [keyD.ok e1 h1]; rfl
theorem DKV.merge {K : PySem.W.Frag} {H : Hp} : ∀ {more : List (Key × D)} {ms : List (Key × V)} {kvs : List (Key × D)} {ws : List (Key × V)}, DKV K H more ms → DKV K H kvs ws → DKV K H (mergeD kvs more) (mergeK ws ms)
  | [], ms, kvs, ws, h, h' => by cases h; exact h'
  | p :: more, ms, kvs, ws, h, h' => by
    cases h with
    | @cons _ q _ qs hp t =>
      have e : DKV K H (putD kvs p.1 p.2) (putK ws q.1 q.2) := by
        rw [← hp.1]
        exact DKV.put h' hp.2
      show DKV K H (mergeD (putD kvs p.1 p.2) more) (mergeK (putK ws q.1 q.2) qs)
      exact DKV.merge t e
theorem DKV.len {K : PySem.W.Frag} {H : Hp} {κ : Type} {a : List (κ × D)} {b : List (κ × V)} (h : DKV K H a b) : b.length = a.length := h.length
theorem se_disp {keys : List (Option Expr)} {values : List Expr} {ps : List (FE × FE)} (h : SPairs X pos keys values ps) (hall : keys.all (·.isSome) = true := by rfl) (hl : keys.length = values.length := by rfl) (h0 : keys ≠ [] := by simp) (h15 : keys.length ≤ 15 := by decide) : SE X (.Dict keys values pos) (fDisp ps) :=
  PEimp (pe_disp h.pp hall hl h0 h15) fun σ H Q ⟨δ, W, Q', er, rl, hh, k⟩ p hp => by
    have hd : HasO X.K (upd H p (.dK [])) p (.dic []) := ⟨[], upd_same, .nil⟩
    refine tPairs_ok (er.ext (Ext.new hp)) (rl.wnew hp hd) (hh p (rl.fresh hp)) fun vs xs H1 W1 e1 r1 v1 ⟨w1, kvs, hk, hl, q⟩ => ?_
    obtain ⟨ws0, s0, d0⟩ := r1 _ _ w1
    cases d0
    obtain ⟨ws, rfl, d⟩ := keysOf.ok hk v1
    refine ⟨s0, ws, rfl, by rw [d.len]; exact hl, ?_⟩
    have e2 : Ext X.K H1 (upd H1 p (.dK (mergeK [] ws))) := Ext.put s0 trivial
    have hd2 : HasO X.K (upd H1 p (.dK (mergeK [] ws))) p (.dic (mergeD [] kvs)) := ⟨_, upd_same, DKV.merge (DKV.ext e2 d) .nil⟩
    exact k _ (.ref p) _ _ (((Ext.new hp).trans e1).trans e2) (r1.wput s0 trivial hd2) rfl q
def fRevL (f : FE) : FE := fun δ W Q => f δ W fun x W1 => ∃ xs, seqD W1 x = some xs ∧ (∀ ys, x ≠ .tup ys) ∧ ∀ p, W1 p = none → Q (.ref p) (wup W1 p (.lst xs.reverse))
theorem se_revL {k : Nat} {p1 p2 p3 pos : Pos} (he : SE X e f) : SE X (.Subscript e (.Slice none none (some (.UnaryOp .USub (.Constant (.int 1) k p1) p2)) p3) pos) (fRevL f) :=
  PEimp (pe_revL he) fun σ H Q ⟨δ, W, Q', er, rl, hh, k⟩ => ⟨δ, W, _, er, rl, hh, fun v d H1 W1 e1 r1 v1 ⟨xs, hs, hn, q⟩ => by
    obtain ⟨p, us, rfl, dd, ⟨s, _⟩ | ⟨s, rfl⟩⟩ := seqD.ok r1 hs v1
    · exact ⟨p, us, rfl, s, fun p hp => newL r1 hp dd.reverse q (k.ext e1)⟩
    · exact absurd rfl (hn xs)⟩
def fDnew : FE := fun δ W Q => ∀ p, W p = none → Q (.ref p) (wup W p (.dic []))
theorem se_dnew : SE X (.Dict [] [] pos) fDnew := PEimp pe_dnewK fun σ H Q ⟨δ, W, Q', er, rl, h, k⟩ p hp =>
  have hd : HasO X.K (upd H p (.dK [])) p (.dic []) := ⟨[], upd_same, .nil⟩
  k _ (.ref p) _ _ (Ext.new hp) (rl.wnew hp hd) rfl (h p (rl.fresh hp))
end
end DL
/-! Dl7: walks over lists and tuples alike, enumerate, zip, stores of two and three names. -/
namespace DL
open PySem PySem.Spec PyProof.Rows L2
section
variable {X : Cx} {a b c e o i : Expr} {es rest : List Expr} {pos : Pos} {f g h : FE} {p q : FT}
def iSeq (K : PySem.W.Frag) (tl : TE) : TI := fun σ H R => tl σ H fun x H1 => (∃ a, x = .ref a ∧ (∃ xs, SqL K H1 a xs) ∧ R (Itl K a) H1) ∨ (∃ a, x = .ref a ∧ (∃ xs, SqT K H1 a xs) ∧ R (Itt K a) H1)
theorem pi_seq {tg l : Expr} {tl : TE} (hl : PE X l tl) : PI X tg l (iSeq X.K tl) := by
  refine ⟨fun pins s σ H R I h => ?_⟩
  refine thn (hl.run pins s σ H _ I h) fun v s1 ⟨x, H1, I1, r1, q1⟩ => ?_
  rcases q1 with ⟨a, e, ⟨xs, hq⟩, q⟩ | ⟨a, e, ⟨xs, hq⟩, q⟩
  · subst e
    cases r1
    obtain ⟨its, rv, p, hz⟩ := I1.list hq
    refine wpAny_pyIter_list p.isList ?_
    refine ⟨s1.heap.objs.size, [s1.heap.objs.size], _, _, H1, rfl, I1.kept (t' := s1.toks) fun b o e => Heap.get?_push_of_some _ e, turn_list a _, ⟨_, Heap.get?_push_size _ rfl, rfl, rfl⟩, fun b hb => ?_, q⟩
    have e : b = s1.heap.objs.size := by simpa using hb
    subst e
    exact I1.fpOk (Nat.le_refl _) (I1.hok.fresh (Nat.le_refl _))
  · subst e
    cases r1
    obtain ⟨its, rv, p, hz⟩ := I1.tuple hq
    refine wpAny_pyIter_tuple (show s1.heap.IsTuple a its.toArray from p) ?_
    refine ⟨s1.heap.objs.size, [s1.heap.objs.size], _, _, H1, rfl, I1.kept (t' := s1.toks) fun b o e => Heap.get?_push_of_some _ e, turn_tuple a _, ⟨_, Heap.get?_push_size _ rfl, rfl, rfl⟩, fun b hb => ?_, q⟩
    have e : b = s1.heap.objs.size := by simpa using hb
    subst e
    exact I1.fpOk (Nat.le_refl _) (I1.hok.fresh (Nat.le_refl _))
/-- what must stay while d is walked -/
def keepD : D → List D → DW → Prop
  | .ref a, xs, W => W a = some (.lst xs)
  | _, _, _ => True
def fSeq (f : FE) : FI := fun δ W R => f δ W fun x W1 => ∃ xs, seqD W1 x = some xs ∧ R xs (keepD x xs) W1
theorem si_seq {tg : Expr} (h : SE X e f) : SI X tg e (fSeq f) := PIimp (pi_seq h) fun σ H R ⟨δ, W, Q', er, rl, h, k⟩ => ⟨δ, W, _, er, rl, h, fun v d H' W' e' r' v' ⟨xs, hs, q⟩ => by
  cases d with
  | tup ys =>
    cases hs
    obtain ⟨a, us, rfl, s, d⟩ := v'
    exact .inr ⟨a, rfl, ⟨us, (SqT.of s)⟩, k _ _ _ H' W' e' r' q (it_tup s d)⟩
  | rl ys =>
    cases hs
    obtain ⟨a, us, rfl, s, d⟩ := v'
    exact .inl ⟨a, rfl, ⟨us, s.sq⟩, k _ _ _ H' W' e' r' q (it_rl s d)⟩
  | ref a =>
    cases v'
    unfold seqD at hs
    cases w : W' a with
    | none => simp [w] at hs
    | some o =>
      cases o with
      | lst ys =>
        simp [w] at hs
        subst hs
        obtain ⟨us, s, d⟩ := r' _ _ w
        exact .inl ⟨a, rfl, ⟨us, SqL.of s⟩, k _ _ _ H' W' e' r' q it_list⟩
      | dic xs => simp [w] at hs
      | dit xs => simp [w] at hs
      | lic _ _ xs => simp [w] at hs
      | lit _ _ xs => simp [w] at hs
  | _ => cases hs⟩
/-! ### enumerate, zip of lists -/
def enD (xs : List D) : List D := (List.range xs.length).map fun k => .tup [.int (k : Nat), xs.getD k .non]
theorem enD_length {xs : List D} : (enD xs).length = xs.length := by simp [enD]
theorem enD_get {xs : List D} {i : Nat} {d : D} (h : xs[i]? = some d) : (enD xs)[i]? = some (.tup [.int (i : Nat), d]) := by
  have hi := (List.getElem?_eq_some_iff.mp h).1
  have e : xs.getD i .non = d := by simp [List.getD, h]
  simp only [enD, List.getElem?_map, List.getElem?_range hi, Option.map_some, e]
theorem it_enum {K : PySem.W.Frag} {a : Addr} {xs : List D} {H0 : Hp} : ItOk K (Ite K a) (enD xs) (fun W => W a = some (.lst xs)) H0 where
  go H W i _ rl kp hi := by
    obtain ⟨us, s, d⟩ := rl _ _ kp
    rw [enD_length] at hi
    have hl : i < us.length := by rw [d.length]; exact hi
    exact ⟨us, us[i], SqL.of s, List.getElem?_eq_getElem hl⟩
  yld H W i x H' _ rl kp hi hy := by
    obtain ⟨T, y, rfl, hT, rfl, hf⟩ := hy
    obtain ⟨us, s, d⟩ := rl _ _ kp
    have ex := hf us (SqL.of s)
    rw [enD_length] at hi
    obtain ⟨v, e1, e2⟩ := d.get (List.getElem?_eq_getElem hi)
    rw [ex] at e1
    cases e1
    exact ⟨_, enD_get (List.getElem?_eq_getElem hi), Ext.new hT, rl.ext_new hT, dvT upd_same ⟨_, _, rfl, rfl, _, _, rfl, DV.ext (Ext.new hT) e2, rfl⟩⟩
  stop H W i _ rl kp hi := by
    obtain ⟨us, s, d⟩ := rl _ _ kp
    rw [enD_length] at hi
    exact ⟨us, SqL.of s, by rw [d.length]; exact hi⟩
def fEnum (r : FA) : FI := fun δ W R => r δ W fun vs W1 => ∃ a xs, vs = [.ref a] ∧ W1 a = some (.lst xs) ∧ R (enD xs) (fun W => W a = some (.lst xs)) W1
theorem si_enum {elts : List Expr} {kk : Nat} {p pos tpos : Pos} {r : FA} (hm : X.mg "enumerate" = none) (ha : SA X [e] r) (hg : Gl X "enumerate" := by rfl) (hs : starEach [e] X.env = [(false, eval e X.env)] := by rfl) : SI X (.Tuple elts kk tpos) (.Call (.Name "enumerate" p) [e] [] pos) (fEnum r) :=
  PIimp (pi_enum hg hm ha hs) fun σ H R ⟨δ, W, Q', er, rl, h, k⟩ => ⟨δ, W, _, er, rl, h, fun vs ds H' W' e' r' v' ⟨a, xs, ed, w, q⟩ => by
    subst ed
    obtain ⟨v, rfl, hv⟩ := v'.c1
    cases hv
    obtain ⟨us, s, d⟩ := r' _ _ w
    exact ⟨a, us, rfl, SqL.of s, k _ _ _ H' W' e' r' q it_enum⟩⟩
/-! ### two, three names at once -/
def sPar (i j : Nat) (r : FA) : FS := fun E δ W => r δ W fun vs W1 => ∃ v w, vs = [v, w] ∧ E.nx ((δ.set i (some v)).set j (some w)) W1
theorem ss_par {x y : Str} {r : FA} {px py pt : Pos} {kt k2 pt2} (i j : Nat) (hc : X.calm = true) (hN : X.N.Nodup) (ha : SA X [a, b] r) (hi : X.N[i]? = some x := by rfl) (hj : X.N[j]? = some y := by rfl) (hij : i ≠ j := by decide)
    (hx : X.env.scope.names.lookup x = some .local := by rfl) (hy : X.env.scope.names.lookup y = some .local := by rfl)
    (hw : swappedStores [.Tuple [.Name x px, .Name y py] kt pt] (.Tuple [a, b] k2 pt2) X.env = pure (some [x, y]) := by rfl)
    (hs : swapsWithSole [.Tuple [.Name x px, .Name y py] kt pt] (.Tuple [a, b] k2 pt2) pos.line X.env = pure false := by rfl) : SS X (.Assign [.Tuple [.Name x px, .Name y py] kt pt] (.Tuple [a, b] k2 pt2) pos) (sPar i j r) :=
  PSimp (ps_par hc hN hi hj hij hx hy ha hw hs) fun Dn σ H ⟨δ, W, D', er, rl, h, k⟩ => ⟨δ, W, _, er, rl, h, fun vs ds H' W' e' r' v' ⟨v, w, ed, q⟩ => by
    subst ed
    obtain ⟨u, u', rfl, d1, d2⟩ := v'.c2
    exact ⟨u, u', rfl, k.nx _ _ H' W' e' (((er.ext e').set d1).set d2) r' q⟩⟩
def sPar3 (i j l : Nat) (r : FA) : FS := fun E δ W => r δ W fun vs W1 => ∃ u v w, vs = [u, v, w] ∧ E.nx (((δ.set i (some u)).set j (some v)).set l (some w)) W1
theorem ss_par3 {x y z : Str} {r : FA} {px py pz pt : Pos} {kt k2 pt2} (i j l : Nat) (hc : X.calm = true) (hN : X.N.Nodup) (ha : SA X [a, b, c] r) (hi : X.N[i]? = some x := by rfl) (hj : X.N[j]? = some y := by rfl) (hl : X.N[l]? = some z := by rfl) (hij : i ≠ j := by decide) (hil : i ≠ l := by decide) (hjl : j ≠ l := by decide)
    (hx : X.env.scope.names.lookup x = some .local := by rfl) (hy : X.env.scope.names.lookup y = some .local := by rfl) (hz : X.env.scope.names.lookup z = some .local := by rfl)
    (hw : swappedStores [.Tuple [.Name x px, .Name y py, .Name z pz] kt pt] (.Tuple [a, b, c] k2 pt2) X.env = pure (some [x, y, z]) := by rfl)
    (hs : swapsWithSole [.Tuple [.Name x px, .Name y py, .Name z pz] kt pt] (.Tuple [a, b, c] k2 pt2) pos.line X.env = pure false := by rfl) : SS X (.Assign [.Tuple [.Name x px, .Name y py, .Name z pz] kt pt] (.Tuple [a, b, c] k2 pt2) pos) (sPar3 i j l r) :=
  PSimp (ps_par3 hc hN hi hj hl hij hil hjl hx hy hz ha hw hs) fun Dn σ H ⟨δ, W, D', er, rl, h, k⟩ => ⟨δ, W, _, er, rl, h, fun vs ds H' W' e' r' v' ⟨u, v, w, ed, q⟩ => by
    subst ed
    obtain ⟨x1, r1, rfl, d1, hr⟩ := v'
    obtain ⟨x2, x3, rfl, d2, d3⟩ := hr.c2
    exact ⟨x1, x2, x3, rfl, k.nx _ _ H' W' e' ((((er.ext e').set d1).set d2).set d3) r' q⟩⟩
end
end DL
/-! Dl8: sorted of lists of tuples of ints, of any length; sorted(set(..)) of such. -/
namespace DL
open PySem PySem.Spec PyProof.Rows PySem.W L2
section
variable {X : Cx}
/-! ### sorted of a list whose items read as data -/
def rSortB (K : PySem.W.Frag) : List V → Hp → VK → Prop := fun vs H Q => ∃ (β : Type) (enc : β → PyData) (Φ : V → β → Prop) (a : Addr) (us : List V) (bs : List β), vs = [.ref a] ∧ SqL K H a us ∧ EachIs (fun v b => Φ v b ∧ Dp K H v (enc b)) us bs ∧ AllAlike (bs.map enc) ∧ Sortable (bs.map enc) ∧
  (∀ b ∈ bs, (enc b).depth ≤ 60) ∧ ∀ out p, H p = none → EachIs Φ out (bs.mergeSort (dataLe false enc)) → Q (.ref p) (upd H p (.lst out))
theorem each_vals {β : Type} {Φ : V → β → Prop} : ∀ {us : List Value} {bs : List β}, EachIs (fun u b => ∃ v, L2.RelV v u ∧ Φ v b) us bs → ∃ vs, Vals vs us ∧ EachIs Φ vs bs
  | _, _, .nil => ⟨[], .nil, .nil⟩
  | _, _, .cons ⟨v, r, h⟩ t => by
    obtain ⟨vs, a, b⟩ := each_vals t
    exact ⟨v :: vs, .cons r a, .cons h b⟩
theorem each_of_vals {β : Type} {Φ : V → β → Prop} : ∀ {vs : List V} {us : List Value} {bs : List β}, Vals vs us → EachIs Φ vs bs → EachIs (fun u b => ∃ v, L2.RelV v u ∧ Φ v b) us bs
  | _, _, _, .nil, .nil => .nil
  | _, _, _, .cons r t, .cons h t' => .cons ⟨_, r, h⟩ (each_of_vals t t')
theorem each_len {α β : Type} {Φ : α → β → Prop} : ∀ {vs : List α} {bs : List β}, EachIs Φ vs bs → vs.length = bs.length
  | _, _, .nil => rfl
  | _, _, .cons _ t => by simp [each_len t]
theorem cr_sortB (hu : X.A.units + 65 < cLine) : CallR X (.builtin "sorted") (rSortB X.K) := by
  intro pins s σ H vs us Q I r h
  obtain ⟨β, enc, Φ, a, ws, bs, rfl, hs, hE, hal, hk, hd, q⟩ := h
  obtain ⟨its, rv, hl, hz⟩ := I.list hs
  rw [Vals.ref1 r]
  have e0 := each_of_vals rv hE
  have lenW := each_len hE
  refine sorted_data (vs := its) (bs := bs) (enc := enc) (R := fun u b => ∃ v, L2.RelV v u ∧ Φ v b) hl.isList (e0.mono fun u b ⟨v, r, h, _⟩ => ⟨v, r, h⟩) (e0.mono fun u b ⟨v, r, _, h⟩ => Dp.reads I _ v u h r) hal hk (by rw [← lenW]; exact hz) (fun b hb => by have := hd b hb; omega) fun out ho hout => ?_
  obtain ⟨ep, he'⟩ := PyProof.Rows.sortedAll_at s.heap its (List.toArray out)
  obtain ⟨vs', v1, v2⟩ := each_vals hout
  have hlen : vs'.length ≤ sizeLine := by
    rw [each_len v2, List.length_mergeSort, ← lenW]
    exact hz
  refine ⟨.ref _, upd H (s.heap.objs.size + 1) (.lst vs'), I.laid (t' := s.toks) (fun _ _ => PyProof.Rows.sortedAll_old) (Nat.le_succ _) ⟨hlen, out, ep, v1, he'⟩, rfl, q _ _ (I.hok.fresh (Nat.le_succ _)) v2⟩

/-! ### sorted of a set of tuples of ints -/
def encT (x : List Int) : PyData := .tuple (x.map .int)
theorem alike_encT (x y : List Int) : alike (encT x) (encT y) = true := by
  show alikeAll _ _ = true
  exact alike_ints x y
theorem depth_encT (x : List Int) : (encT x).depth ≤ 1 := by
  show (PyData.tuple _).depth ≤ 1
  rw [PyData.depth, depth_ints]
  exact Nat.le_refl _
theorem le_encT (β : Type) (k : β → List Int) : dataLe false (fun b => encT (k b)) = fun p q => decide (k p ≤ k q) := by
  funext p q
  show (!dataLt (.tuple ((k q).map .int)) (.tuple ((k p).map .int))) = _
  rw [dataLt_tuple]
  show (!rowLt ((k q).map .int) ((k p).map .int)) = _
  rw [dataLt_ints]
  by_cases h : k q < k p
  · have h' : ¬ k p ≤ k q := fun r => List.not_lt.mpr r h
    simp [h, h']
  · have h' : k p ≤ k q := List.not_lt.mp h
    simp [h, h']
end
section
variable {P : Program} {w : World} {A : Around} {E : Value → Shared → Prop} {s : Shared}
theorem items_read {h : Heap} {k : List Int} {vs : List Value} (hi : ItemsAre (PySem.intKind P w) k vs) : ReadsAll h vs (k.map .int) [] := by
  induction hi with
  | nil => exact .nil
  | @cons k0 v' ks vs h1 _ ih =>
    obtain ⟨t, e2⟩ := PySem.Value.isInt_shape h1
    subst e2
    exact .cons (.int k0 t) ih
theorem tup_reads {h : Heap} {b : Addr} {k : List Int} (x : IsT P w h k b) : Reads h (.ref b) (encT k) [] := by
  obtain ⟨o, items, n, ho, hc, hd, hi⟩ := x
  exact .tuple ho hc hd (items_read hi)
theorem each_refs {Φ : Value → Addr × List Int → Prop} : ∀ {L : List (Addr × List Int)}, (∀ q ∈ L, Φ (.ref q.1) q) → EachIs Φ (L.map fun q => Value.ref q.1) L
  | [], _ => .nil
  | q :: L, h => .cons (h q List.mem_cons_self) (each_refs fun r hr => h r (List.mem_cons_of_mem _ hr))
theorem each_eq : ∀ {us : List Value} {L : List (Addr × List Int)}, EachIs (fun v (q : Addr × List Int) => v = Value.ref q.1) us L → us = L.map fun q => Value.ref q.1
  | _, _, .nil => rfl
  | _, _, .cons h t => by rw [h, each_eq t]; rfl
theorem sorted_setV {a : Addr} {L : List (Addr × List Int)} {es : Array (Int × Value)} {ep : Nat} {t : SetTable} {Q : Value → Shared → Prop} (R : SetTR P w s.heap a L es ep t) (hh : A.handled = none) (hu : A.units + 10 < cLine)
    (hB : ∀ p ∈ L, p.2 ≠ [])
    (hQ : ∀ s' p (out : Array Value) (c : Nat) (L' : List (Addr × List Int)), (∀ b o, s.heap.get? b = some o → s'.heap.get? b = some o) → s'.gens = s.gens → s'.os = s.os → s.heap.objs.size ≤ p →
      s'.heap.get? p = some (seqObj "list" out c) → out.toList = L'.map (fun q => Value.ref q.1) → L'.Perm L → L'.Pairwise (fun q r => q.2 ≤ r.2) → Q (.ref p) s') :
    wpAny (model P w) A (call (.builtin "sorted") [.ref a]) Q E s := by
  obtain ⟨o, ho, hex, hd⟩ := R.ob
  have hsz := R.size
  have hfew := R.few
  refine Calls.call_function_entry kind_sorted plain_sorted entry_sorted (args_sorted1 _) ?_
  unfold Builtin.«sorted»
  refine wpAny_bind (m := checkCount "sorted" 1 1 _) (wpAny_pure ?_)
  refine wpAny_bind (collect_set (A := A.in1) hh ⟨o, ho, hex.1, hd⟩ R.fits (by unfold scanBound; omega) R.tab.ris R.led fun s1 vs k1 hz g1 o1 pm => ?_)
  have hes : es.toList.map (·.2) = L.map fun q => Value.ref q.1 := by
    rw [R.rows]
    unfold L2.rowsOf
    rw [List.map_map] <;> rfl
  rw [hes] at pm
  have ord : ∀ vs : List Value, (∀ v ∈ vs, ∃ q ∈ L, v = Value.ref q.1) → ∃ L1 : List (Addr × List Int), vs = L1.map (fun q => Value.ref q.1) ∧ ∀ q ∈ L1, q ∈ L := by
    intro vs
    induction vs with
    | nil => intro _; exact ⟨[], rfl, fun q hq => (by cases hq)⟩
    | cons v vs ih =>
      intro hv
      obtain ⟨q, hq, e⟩ := hv v List.mem_cons_self
      obtain ⟨L1, e1, hs⟩ := ih fun u hu => hv u (List.mem_cons_of_mem _ hu)
      refine ⟨q :: L1, by rw [List.map_cons, e, e1], fun r hr => ?_⟩
      rcases List.mem_cons.mp hr with z | z
      · rw [z]; exact hq
      · exact hs r z
  have one : ∀ q ∈ L, ∀ r ∈ L, q.1 = r.1 → q = r := fun q hq r hr e => by
    have a1 := R.tup q hq
    have a2 := R.tup r hr
    rw [e] at a1
    have e2 : q.2 = r.2 := a1.inj a2
    exact Prod.ext e e2
  have perm_of : ∀ L1 : List (Addr × List Int), (∀ q ∈ L1, q ∈ L) → (L1.map (fun q => Value.ref q.1)).Perm (L.map fun q => Value.ref q.1) → L1.Perm L := by
    intro L1 hs pm1
    have nL : L.Nodup := nodup_of_map R.nd
    have nref : (L.map fun q => Value.ref q.1).Nodup := by
      refine List.pairwise_map.mpr (List.Pairwise.imp_of_mem (fun {q r} hq hr hne e => ?_) nL)
      injection e with e
      exact hne (one q hq r hr e)
    have n1 : L1.Nodup := nodup_of_map (pm1.nodup_iff.mpr nref)
    refine (List.perm_ext_iff_of_nodup n1 nL).mpr fun q => ⟨hs q, fun hq => ?_⟩
    have hm : Value.ref q.1 ∈ L1.map (fun q => Value.ref q.1) := pm1.mem_iff.mpr (List.mem_map.mpr ⟨q, hq, rfl⟩)
    obtain ⟨r, hr, e⟩ := List.mem_map.mp hm
    injection e with e
    rw [← one r (hs r hr) q hq e]
    exact hr
  have hvl : vs.length < 64 := by rw [pm.length_eq, List.length_map]; exact hfew
  obtain ⟨L0, e0, hs0⟩ := ord vs fun v hv => by
    obtain ⟨q, hq, e⟩ := List.mem_map.mp (pm.mem_iff.mp hv)
    exact ⟨q, hq, e.symm⟩
  have p0 : L0.Perm L := perm_of L0 hs0 (by rw [e0] at pm; exact pm)
  subst e0
  refine wpAny_bind (wpAny_newList ?_ (by rw [sizeLine_eq]; omega))
  have hoL : (s1.heap.push (seqObj "list" (L0.map fun q => Value.ref q.1).toArray 0)).get? s1.heap.objs.size = some (seqObj "list" (L0.map fun q => Value.ref q.1).toArray 0) := Heap.get?_push_size _ rfl
  have tk : ∀ q ∈ L, Reads (s1.heap.push (seqObj "list" (L0.map fun q => Value.ref q.1).toArray 0)) (.ref q.1) (encT q.2) [] := fun q hq => tup_reads (P := P) (w := w) (isT_keep (R.tup q hq) fun b u e => Heap.get?_push_of_some _ (k1 b u e))
  refine wpAny_bind (wpAny_holding (list_sort_data (s := { s1 with heap := s1.heap.push (seqObj "list" (L0.map fun q => Value.ref q.1).toArray 0) }) (vs := (L0.map fun q => Value.ref q.1)) (bs := L0) (enc := fun q => encT q.2) (R := fun v q => v = Value.ref q.1) hoL (each_refs fun q _ => rfl) (each_refs fun q hq => ⟨[], tk q (hs0 q hq), by simp⟩)
    (AllAlike.of fun _ _ => alike_encT _ _) (.inl fun d hd => ?_) (by rw [p0.length_eq, sizeLine_eq]; omega) (fun b hb => ?_) fun out ho2 hout => ?_))
  · obtain ⟨q, hq, rfl⟩ := List.mem_map.mp hd
    cases e : q.2 with
    | nil => exact absurd e (hB q (hs0 q hq))
    | cons x r => exact ⟨.int x, r.map .int, rfl⟩
  · have := depth_encT b.2
    show A.in1.units + 1 + (encT b.2).depth < cLine
    have e : A.in1.units = A.units + 1 := rfl
    omega
  have eo := each_eq hout
  obtain ⟨c, hc⟩ := sortedHeap_at (vs := (L0.map fun q => Value.ref q.1)) (out := List.toArray out) hoL
  have pL : (L0.mergeSort (dataLe false fun q => encT q.2)).Perm L := (List.mergeSort_perm _ _).trans p0
  have pw : (L0.mergeSort (dataLe false fun q : Addr × List Int => encT q.2)).Pairwise (fun q r => q.2 ≤ r.2) := by
    rw [le_encT]
    have h := List.pairwise_mergeSort (le := fun p q : Addr × List Int => decide (p.2 ≤ q.2)) (fun a b c h1 h2 => by
      simp only [decide_eq_true_eq] at *
      exact List.le_trans h1 h2) (fun a b => by
      simp only [Bool.or_eq_true, decide_eq_true_eq]
      exact List.le_total a.2 b.2) L0
    exact h.imp fun {a b} h => by simpa using h
  refine wpAny_pure ⟨_, rfl, hQ _ s1.heap.objs.size (List.toArray out) c _ (fun b u e => ?_) g1 o1 hz hc eo pL pw⟩
  have q := k1 b u e
  have hlt := Heap.lt_size q
  show (sortedHeap (s1.heap.push (seqObj "list" (L0.map fun q => Value.ref q.1).toArray 0)) s1.heap.objs.size (L0.map fun q => Value.ref q.1) (List.toArray out)).get? b = some u
  rw [sortedHeap_old (Nat.ne_of_lt hlt) (by rw [size_push']; exact Nat.lt_succ_of_lt hlt)]
  exact Heap.get?_push_of_some _ q
end
section
variable {X : Cx}
def rSortedV (K : PySem.W.Frag) (P : Program) (w : World) : List V → Hp → VK → Prop := fun vs H Q => ∃ (a : Addr) (L : List (Addr × List Int)), vs = [V.ref a] ∧ H a = some (SetTO P w a L) ∧ (∀ p ∈ L, SqT K H p.1 (p.2.map V.int)) ∧ (∀ p ∈ L, p.2 ≠ []) ∧
  ∀ (L' : List (Addr × List Int)) (p : Addr), L'.Perm L → (L'.map (·.2)).Nodup → L'.Pairwise (fun q r => q.2 ≤ r.2) → H p = none → Q (.ref p) (upd H p (.lst (L'.map fun q => V.ref q.1)))
theorem cr_sortedV (hc : X.calm = true) (hu : X.A.units + 64 < cLine) : CallR X (.builtin "sorted") (rSortedV X.K X.prog X.w) := by
  intro pins s σ H vs us Q I r h
  obtain ⟨a, L, rfl, ha, hk, hB, q⟩ := h
  have R0 : SetT0 X.prog X.w s.heap a L := (I.hok a _ ha).1
  obtain ⟨es, ep, t, R⟩ := R0.full fun p hp => I.isT (hk p hp)
  rw [Vals.ref1 r]
  refine sorted_setV R (I.ok.hd hc) (by omega) hB fun s' p out c L' k g o hp hg hout pm pw => ?_
  have hfew : L'.length < 64 := by rw [pm.length_eq]; exact R.few
  have hlen : (L'.map fun q => V.ref q.1).length ≤ sizeLine := by rw [List.length_map, sizeLine_eq]; omega
  have hn : H p = none := I.hok.fresh hp
  have hv : Vals (L'.map fun q => V.ref q.1) out.toList := by rw [hout]; exact vals_of_refs L'
  have J : L2.Inv X pins σ (upd H p (.lst (L'.map fun q => V.ref q.1))) { s with heap := s'.heap, gens := s'.gens, drawn := s'.drawn, toks := s'.toks } :=
    I.call (ch := []) (Un.laid k hp hn) (I.hok.laid k hp ⟨hlen, out.toList, c, hv, hg⟩) (by rw [g]; exact I.bare) (fun _ z => nomatch z)
  have e : s' = { s with heap := s'.heap, gens := s'.gens, drawn := s'.drawn, toks := s'.toks } := by
    cases s'
    cases s
    cases o
    rfl
  rw [e]
  exact ⟨.ref p, _, J, rfl, q L' p pm ((pm.map (·.2)).nodup_iff.mpr R.nd) pw hn⟩
end
end DL
/-! Dl9: sorted, set, dict of pairs, repr, by data. -/
namespace DL
open PySem PySem.Spec PyProof.Rows PySem.W L2
section
variable {X : Cx} {a b c e o i : Expr} {es rest : List Expr} {pos : Pos} {f g h : FE} {p q : FT}
def tupI (x : List Int) : D := .tup (x.map .int)
def leL (p q : List Int) : Bool := decide (p ≤ q)
def bSortA : RD := fun ds W Q => ∃ a, ds = [.ref a] ∧ ((∃ xs : List (List Int), W a = some (.lst (xs.map tupI)) ∧ (∀ x ∈ xs, x ≠ []) ∧ ∀ p, W p = none → Q (.ref p) (wup W p (.lst ((xs.mergeSort leL).map tupI)))) ∨
  (∃ (kvs : List (Key × D)) (ks : List Int), W a = some (.dic kvs) ∧ kvs.map (·.1) = ks.map Sum.inl ∧ ks.length < 64 ∧ ∀ (ys : List Int) p, ys.Perm ks → ys.Pairwise (· ≤ ·) → W p = none → Q (.ref p) (wup W p (.lst (ys.map D.int)))))
abbrev rSortA (K : PySem.W.Frag) : List V → Hp → VK → Prop := fun xs H Q => rSortB K xs H Q ∨ (∃ (a : Addr) (kvs : List (Key × V)) (ks : List Int), xs = [.ref a] ∧ Rd H a (.dK kvs) ∧ kvs.map (·.1) = ks.map Sum.inl ∧ ks.length < 64 ∧ ∀ (ys : List Int) (p : Addr), ys.Perm ks → ys.Pairwise (· ≤ ·) → H p = none → Q (.ref p) (upd H p (.lst (ys.map V.int))))
theorem cr_sortA (hu : X.A.units + 65 < cLine) (hc : X.calm = true) : CallR X (.builtin "sorted") (rSortA X.K) := (cr_sortB hu).or (call_sortedDI hc)
section
variable {K : PySem.W.Frag} {H : Hp} {W : DW}
theorem DV.dp_tupI {x : List Int} {v : V} (h : DV K H (tupI x) v) : Dp K H v (encT x) := by
  obtain ⟨a, us, rfl, s, d⟩ := h
  have e := d.ints
  subst e
  refine .tup (SqT.of s) ?_
  clear s d
  induction x with
  | nil => exact .nil
  | cons y x ih => exact .cons (.int y) ih
theorem DVs.each_tupI : ∀ {xs : List (List Int)} {us : List V}, DVs K H (xs.map tupI) us → EachIs (fun v b => DV K H (tupI b) v ∧ Dp K H v (encT b)) us xs
  | [], _, h => by cases h; exact .nil
  | x :: xs, _, h => by
    obtain ⟨v, r, rfl, h1, h2⟩ := h
    exact .cons ⟨h1, h1.dp_tupI⟩ (DVs.each_tupI h2)
theorem DVs.of_each : ∀ {xs : List (List Int)} {us : List V}, EachIs (fun v b => DV K H (tupI b) v) us xs → DVs K H (xs.map tupI) us
  | _, _, .nil => rfl
  | _, _, .cons h t => ⟨_, _, rfl, h, DVs.of_each t⟩
theorem DKV.keys {κ : Type} {kvs : List (κ × D)} {ws : List (κ × V)} (h : DKV K H kvs ws) : ws.map (·.1) = kvs.map (·.1) := by
  unfold DKV at h
  induction h with
  | nil => rfl
  | cons hp _ ih => rw [List.map_cons, List.map_cons, ih, hp.1]
end
theorem c_sortA {K : PySem.W.Frag} : CallD K (rSortA K) bSortA := fun H W vs ds Q Q' rl dv ⟨a, e, h⟩ k => by
  subst e
  obtain ⟨v, rfl, hv⟩ := dv.c1
  cases hv
  rcases h with ⟨xs, w, hne, q⟩ | ⟨kvs, ks, w, hk, hl, q⟩
  · obtain ⟨us, s, d⟩ := rl _ _ w
    refine .inl ⟨List Int, encT, fun v b => DV K H (tupI b) v, a, us, xs, rfl, SqL.of s, d.each_tupI, AllAlike.of alike_encT, .inl fun d hd => ?_, fun b _ => Nat.le_trans (depth_encT b) (by decide), fun out p hp ho => newL rl hp ?_ q k⟩
    · obtain ⟨x, hx, rfl⟩ := List.mem_map.mp hd
      cases x with
      | nil => exact absurd rfl (hne _ hx)
      | cons y r => exact ⟨.int y, r.map .int, rfl⟩
    · rw [show (dataLe false encT) = leL from le_encT (List Int) id] at ho
      exact DVs.of_each ho
  · obtain ⟨ws, s, d⟩ := rl _ _ w
    exact .inr ⟨a, ws, ks, rfl, .inl s, by rw [d.keys]; exact hk, hl, fun ys p h1 h2 hp => newL rl hp (DVs.of_ints ys) (fun p hp => q ys p h1 h2 hp) k⟩
/-! ### sorted(set(xs)), xs a list of tuples of ints -/
def fSortSet (r : FA) : FE := fun δ W Q => r δ W fun vs W1 => ∃ a, ∃ xs : List (List Int), vs = [.ref a] ∧ W1 a = some (.lst (xs.map tupI)) ∧ (∀ x ∈ xs, x ≠ []) ∧ xs.length < 64 ∧
  ∀ (ys : List (List Int)) p, ys.Nodup → ys.Pairwise (· ≤ ·) → (∀ y, y ∈ ys ↔ y ∈ xs) → W1 p = none → Q (.ref p) (wup W1 p (.lst (ys.map tupI)))
theorem pairs_of {K : PySem.W.Frag} {H : Hp} : ∀ {xs : List (List Int)} {us : List V}, DVs K H (xs.map tupI) us → ∃ ks : List (Addr × List Int), us = ks.map (fun p => V.ref p.1) ∧ ks.map (·.2) = xs ∧ ∀ p ∈ ks, H p.1 = some (.tup (p.2.map V.int))
  | [], _, h => by cases h; exact ⟨[], rfl, rfl, by simp⟩
  | x :: xs, _, h => by
    obtain ⟨v, r, rfl, ⟨a, us, rfl, s, d⟩, h2⟩ := h
    obtain ⟨ks, e1, e2, h3⟩ := pairs_of h2
    have e := d.ints
    subst e
    refine ⟨(a, x) :: ks, by rw [List.map_cons, e1], by rw [List.map_cons, e2], fun p hp => ?_⟩
    rcases List.mem_cons.mp hp with z | z
    · subst z; exact s
    · exact h3 p z
theorem dvs_pairs {K : PySem.W.Frag} {H : Hp} : ∀ {L : List (Addr × List Int)}, (∀ p ∈ L, H p.1 = some (.tup (p.2.map V.int))) → DVs K H ((L.map (·.2)).map tupI) (L.map fun p => V.ref p.1)
  | [], _ => rfl
  | p :: L, h => ⟨_, _, rfl, dvT (h p List.mem_cons_self) (DVs.of_ints p.2), dvs_pairs fun q hq => h q (List.mem_cons_of_mem _ hq)⟩
theorem se_sortSet {pn pn' pos' : Pos} {ra : FA} (hu : X.A.units + 64 < cLine) (hc : X.calm = true) (hm : X.mg "sorted" = none) (hm2 : X.mg "set" = none) (ha : SA X [e] ra) (hg : Gl X "sorted" := by rfl) (hg2 : Gl X "set" := by rfl)
    (he2 : starEach [e] X.env = (false, eval e X.env) :: starEach [] X.env := by rfl) (hpl2 : (backTo pos' (starEach [] X.env)).any (·.1) = false := by rfl)
    (he : starEach [.Call (.Name "set" pn') [e] [] pos'] X.env = (false, eval (.Call (.Name "set" pn') [e] [] pos') X.env) :: starEach [] X.env := by rfl) (hpl : (backTo pos (starEach [] X.env)).any (·.1) = false := by rfl) :
    SE X (.Call (.Name "sorted" pn) [.Call (.Name "set" pn') [e] [] pos'] [] pos) (fSortSet ra) := by
  have h1 : PE X (.Call (.Name "set" pn') [e] [] pos') (tCB (rSetOfT X.K X.prog X.w) (tA X.K ra)) := pe_callTy (cr_setOfT hc hu) hg2 hm2 PyProof.Rows.boot_set ha (he := he2) (hpl := hpl2)
  have h2 : PE X (.Call (.Name "sorted" pn) [.Call (.Name "set" pn') [e] [] pos'] [] pos) (tCB (rSortedV X.K X.prog X.w) (tCons (tCB (rSetOfT X.K X.prog X.w) (tA X.K ra)) tNil)) := pe_callB (cr_sortedV hc hu) hg hm PyProof.Rows.boot_sorted (pa_cons h1 pa_nil he) (he := he) (hpl := hpl)
  refine PEimp h2 fun σ H Q ⟨δ, W, Q', er, rl, h, k⟩ => ?_
  refine ⟨δ, W, _, er, rl, h, fun vs ds H1 W1 e1 r1 v1 ⟨a, xs, ed, w, hne, hl, q⟩ => ?_⟩
  subst ed
  obtain ⟨v, rfl, hv⟩ := v1.c1
  cases hv
  obtain ⟨us, s, d⟩ := r1 _ _ w
  obtain ⟨ks, rfl, ek, hk⟩ := pairs_of d
  have kl : ks.length = xs.length := by rw [← ek, List.length_map]
  refine ⟨a, ks, rfl, SqL.of s, fun p hp => SqT.of (hk p hp), by rw [kl]; exact hl, fun b L hb hL1 hL2 => ?_⟩
  have eb : Ext X.K H1 (upd H1 b (SetTO X.prog X.w b L)) := Ext.new hb
  have rb := r1.ext_new (o := SetTO X.prog X.w b L) hb
  refine ⟨b, L, rfl, upd_same, fun p hp => SqT.of (eb.t _ _ (hk p (hL1 p hp))), fun p hp => hne _ (by rw [← ek]; exact List.mem_map.mpr ⟨p, hL1 p hp, rfl⟩), fun L' p pm nd pw hp => ?_⟩
  have d' : DVs X.K (upd H1 b (SetTO X.prog X.w b L)) ((L'.map (·.2)).map tupI) (L'.map fun p => V.ref p.1) := dvs_pairs fun r hr => eb.t _ _ (hk r (hL1 r (pm.mem_iff.mp hr)))
  refine newL rb hp d' (fun p hp => q _ p nd (List.pairwise_map.mpr pw) (fun y => ?_) hp) ((k.ext e1).ext eb)
  rw [(pm.map (·.2)).mem_iff, ← ek]
  exact ⟨fun hy => by
    obtain ⟨r, hr, rfl⟩ := List.mem_map.mp hy
    exact List.mem_map.mpr ⟨r, hL1 r hr, rfl⟩, fun hy => by
    obtain ⟨r, hr, rfl⟩ := List.mem_map.mp hy
    exact hL2 r hr⟩
/-! ### dict of pairs -/
def keyToD : Key → D
  | .inl i => .int i
  | .inr x => .str x
def bDictP : RD := fun ds W Q => ∃ (a : Addr) (kvs : List (Key × D)), ds = [.ref a] ∧ W a = some (.lst (kvs.map fun kv => .tup [keyToD kv.1, kv.2])) ∧ ∀ p, W p = none → Q (.ref p) (wup W p (.dic (mergeD [] kvs)))
theorem dict_pairs {K : PySem.W.Frag} {H : Hp} : ∀ {kvs : List (Key × D)} {us : List V}, DVs K H (kvs.map fun kv => .tup [keyToD kv.1, kv.2]) us → ∃ (ps : List Addr) (ws : List (Key × V)), us = ps.map V.ref ∧ Paired (fun p kv => SqT K H p [kV kv.1, kv.2]) ps ws ∧ DKV K H kvs ws
  | [], _, h => by cases h; exact ⟨[], [], rfl, .nil, .nil⟩
  | kv :: kvs, _, h => by
    obtain ⟨v, r, rfl, ⟨a, us, rfl, s, d⟩, h2⟩ := h
    obtain ⟨ps, ws, e1, p1, d1⟩ := dict_pairs h2
    obtain ⟨x, y, rfl, dx, dy⟩ := d.c2
    have ex : x = kV kv.1 := by
      cases hk : kv.1 with
      | inl i => rw [hk] at dx; exact dx
      | inr i => rw [hk] at dx; exact dx
    subst ex
    exact ⟨a :: ps, (kv.1, y) :: ws, by rw [List.map_cons, e1], .cons (SqT.of s) p1, .cons ⟨rfl, dy⟩ d1⟩
theorem c_dictP {K : PySem.W.Frag} : CallD K (fun xs H Q => ∃ (a : Addr) (ps : List Addr) (kvs : List (Key × V)), xs = [.ref a] ∧ SqL K H a (ps.map V.ref) ∧ Paired (fun p kv => SqT K H p [kV kv.1, kv.2]) ps kvs ∧ ∀ p, H p = none → Q (.ref p) (upd H p (.dK (mergeK [] kvs)))) bDictP := fun H W vs ds Q Q' rl dv ⟨a, kvs, e, w, q⟩ k => by
  subst e
  obtain ⟨v, rfl, hv⟩ := dv.c1
  cases hv
  obtain ⟨us, s, d⟩ := rl _ _ w
  obtain ⟨ps, ws, rfl, p1, d1⟩ := dict_pairs d
  refine ⟨a, ps, ws, rfl, SqL.of s, p1, fun p hp => ?_⟩
  have hd : HasO K (upd H p (.dK (mergeK [] ws))) p (.dic (mergeD [] kvs)) := ⟨_, upd_same, DKV.merge (DKV.ext (Ext.new hp) d1) .nil⟩
  exact k _ (.ref p) _ _ (Ext.new hp) (rl.wnew hp hd) rfl (q p (rl.fresh hp))
/-! ### repr of data -/
def bRepr : RD := fun ds W Q => ∃ x y, ds = [x] ∧ Py W x y ∧ y.showable = true ∧ y.hasDict = false ∧ y.depth ≤ 60 ∧ y.shown.length ≤ sizeLine ∧ Q (.str y.shown) W
def rReprD (K : PySem.W.Frag) : List V → Hp → VK → Prop := fun vs H Q => ∃ x y, vs = [x] ∧ Dp K H x y ∧ y.showable = true ∧ y.hasDict = false ∧ y.depth ≤ 60 ∧ y.shown.length ≤ sizeLine ∧ Q (.str y.shown) H
theorem c_repr {K : PySem.W.Frag} : CallD K (rReprD K) bRepr := fun H W vs ds Q Q' rl dv ⟨x, y, e, py, h1, h2, h3, h4, q⟩ k => by
  subst e
  obtain ⟨v, rfl, hv⟩ := dv.c1
  exact ⟨v, y, rfl, py.dp rl hv, h1, h2, h3, h4, k.at rl q rfl⟩
theorem call_reprD (hgd : X.A.guards = some []) (hu : X.A.units + 65 < cLine) : CallR X (.builtin "repr") (rReprD X.K) := by
  intro pins s σ H xs us Q I r h
  obtain ⟨x, y, rfl, dp, h1, h2, h3, h4, q⟩ := h
  obtain ⟨u, rfl, ru⟩ := vals1 r
  cases dp with
  | non => cases ru; exact PySem.P.repr_of_none ⟨.str _, H, I.tok _, ⟨_, rfl⟩, by simpa only [PyData.shown] using q⟩
  | bl b => cases ru; exact PySem.P.repr_of_bool ⟨.str _, H, I.tok _, ⟨_, rfl⟩, by simpa only [PyData.shown] using q⟩
  | int i =>
    obtain ⟨t, rfl⟩ := ru
    exact PySem.P.repr_of_int (by simpa [PyData.showable] using h1) ⟨.str _, H, I.tok _, ⟨_, rfl⟩, by simpa only [PyData.shown] using q⟩
  | str z =>
    obtain ⟨t, rfl⟩ := ru
    exact PySem.P.repr_of_str ⟨.str _, H, I.tok _, ⟨_, rfl⟩, by simpa only [PyData.shown] using q⟩ (by simpa only [PyData.shown] using h4)
  | lst hs hd =>
    cases ru
    obtain ⟨as, rd⟩ := Dp.reads I _ _ _ (.lst hs hd) rfl
    exact repr_of_reads' (h₀ := s.heap) rd h1 (fun z => by rw [h2] at z; cases z) hgd (by omega) (fun _ _ e => e) (fun h' u' tk hk => ⟨.str _, H, I.kept (t' := tk) hk, ⟨u', rfl⟩, q⟩) h4
  | tup hs hd =>
    cases ru
    obtain ⟨as, rd⟩ := Dp.reads I _ _ _ (.tup hs hd) rfl
    exact repr_of_reads' (h₀ := s.heap) rd h1 (fun z => by rw [h2] at z; cases z) hgd (by omega) (fun _ _ e => e) (fun h' u' tk hk => ⟨.str _, H, I.kept (t' := tk) hk, ⟨u', rfl⟩, q⟩) h4
end
end DL
/-! Dl10: list(range(n)), comprehensions of two clauses, -x. -/
namespace DL
open PySem PySem.Spec PyProof.Rows L2
section
variable {X : Cx} {a b c e o i : Expr} {es rest : List Expr} {pos : Pos} {f g h : FE} {p q : FT}
def fLstR1 (f : FE) : FE := fun δ W Q => f δ W fun x W1 => ∃ n, x = .int n ∧ RgOk 0 n ∧ ∀ p, W1 p = none → Q (.ref p) (wup W1 p (.lst (rngD 0 n.toNat)))
theorem DVs.rng {K : PySem.W.Frag} {H : Hp} (lo : Int) : ∀ (l : List Nat), DVs K H (l.map fun k => .int (lo + (k : Nat))) (l.map fun k => .int (lo + (k : Nat)))
  | [] => rfl
  | n :: l => ⟨_, _, rfl, rfl, DVs.rng lo l⟩
theorem se_lstR1 {p1 p2 pos' : Pos} (hc : X.calm = true) (hm : X.mg "list" = none) (hm2 : X.mg "range" = none) (ha : SE X a f) (hg : Gl X "list" := by rfl) (hg2 : Gl X "range" := by rfl) (na : starEach [a] X.env = (false, eval a X.env) :: starEach [] X.env := by rfl)
    (na2 : starEach [.Call (.Name "range" p2) [a] [] pos'] X.env = (false, eval (.Call (.Name "range" p2) [a] [] pos') X.env) :: starEach [] X.env := by rfl) : SE X (.Call (.Name "list" p1) [.Call (.Name "range" p2) [a] [] pos'] [] pos) (fLstR1 f) :=
  PEimp (pe_listRg hc hg hm (prg_1 hg2 hm2 ha na) na2) fun σ H Q ⟨δ, W, Q', er, rl, h, k⟩ => ⟨δ, W, _, er, rl, h, fun v d H1 W1 e1 r1 v1 ⟨n, ed, ok, q⟩ => by
    subst ed
    cases v1
    refine ⟨n, rfl, ok, fun p hp => newL r1 hp ?_ q (k.ext e1)⟩
    have := DVs.rng (K := X.K) (H := H1) 0 (List.range n.toNat)
    unfold rngD rgV
    rw [Int.sub_zero]
    exact this⟩
def fNeg (f : FE) : FE := fun δ W Q => f δ W fun x W1 => ∃ n, x = .int n ∧ Q (.int (-n)) W1
theorem se_neg (ha : SE X a f) : SE X (.UnaryOp .USub a pos) (fNeg f) := PEimp (pe_un un_neg ha) fun σ H Q ⟨δ, W, Q', er, rl, h, k⟩ => ⟨δ, W, _, er, rl, h, fun v d H1 W1 e1 r1 v1 ⟨n, ed, q⟩ => by
  subst ed
  cases v1
  exact ⟨n, rfl, (k.ext e1).at r1 q rfl⟩⟩
theorem st_chain {op op' : CmpOp} {r r' : R2} {F F' : R2D} (ho : OpR X (compareOp op) r) (ho' : OpR X (compareOp op') r') (hr : Op2 X.K r F) (hr' : Op2 X.K r' F') (ha : SE X a f) (hb : SE X b g) (hc : SE X c h)
    (hl : lastMarks [op, op'] [b, c] = false := by first | rfl | decide) : ST X (.Compare a [op, op'] [b, c] pos) (fB (fChain F F' f g h)) :=
  PTimp (pt_chain ho ho' ha hb hc hl) fun σ H Q q => by
    obtain ⟨δ, W, Q', er, rl, hh, k⟩ := tE_B σ H Q q
    exact tE_chain hr hr' σ H _ ⟨δ, W, Q', er, rl, hh, k⟩
/-! ### comprehensions of two clauses -/
def lcI (keep : DW → Prop) (g : FG) (tt : FT) (te : FE) (p : Addr) (vs : List Nat) (N : DW → Prop) : List D → Env → DW → Prop
  | [], δ, W => keep W ∧ N W
  | x :: xs, δ, W => keep W ∧ g x (wipeD δ vs) W fun δ2 W2 => tt δ2 W2 fun b W3 => if b = true then te δ2 W3 fun y W4 => ∃ acc, W4 p = some (.lst acc) ∧ acc.length < sizeLine ∧ lcI keep g tt te p vs N xs δ (wup W4 p (.lst (acc ++ [y]))) else lcI keep g tt te p vs N xs δ W3
theorem lcI.keep {keep : DW → Prop} {g : FG} {tt : FT} {te : FE} {p : Addr} {vs : List Nat} {N : DW → Prop} {xs : List D} {δ : Env} {W : DW} (h : lcI keep g tt te p vs N xs δ W) : keep W := by
  cases xs with
  | nil => exact h.1
  | cons x xs => exact h.1
def lcO (keep : DW → Prop) (g : FG) (tt : FT) (fi1 : FI) (g1 : FG) (tt1 : FT) (te : FE) (p : Addr) (vs vs1 : List Nat) (Q : DW → Prop) : List D → Env → DW → Prop
  | [], δ, W => keep W ∧ Q W
  | x :: xs, δ, W => keep W ∧ g x (wipeD δ vs) W fun δ2 W2 => tt δ2 W2 fun b W3 => if b = true then fi1 δ2 W3 fun ys keep1 W4 => lcI keep1 g1 tt1 te p vs1 (lcO keep g tt fi1 g1 tt1 te p vs vs1 Q xs δ) ys δ2 W4 else lcO keep g tt fi1 g1 tt1 te p vs vs1 Q xs δ W3
theorem lcO.keep {keep : DW → Prop} {g : FG} {tt : FT} {fi1 : FI} {g1 : FG} {tt1 : FT} {te : FE} {p : Addr} {vs vs1 : List Nat} {Q : DW → Prop} {xs : List D} {δ : Env} {W : DW} (h : lcO keep g tt fi1 g1 tt1 te p vs vs1 Q xs δ W) : keep W := by
  cases xs with
  | nil => exact h.1
  | cons x xs => exact h.1
def fLc2 (fi : FI) (g : FG) (tt : FT) (fi1 : FI) (g1 : FG) (tt1 : FT) (te : FE) (vs vs1 : List Nat) : FE := fun δ W Q => fi δ W fun xs keep W1 => ∀ p, W1 p = none → lcO keep g tt fi1 g1 tt1 te p vs vs1 (fun W2 => Q (.ref p) W2) xs δ (wup W1 p (.lst []))
theorem tE_lc2 {fi fi1 : FI} {gg gg1 : FG} {tt tt1 : FT} {vs is vs1 is1 : List Nat} (hsub : ∀ i ∈ is, i ∈ vs) (hsub1 : ∀ i ∈ is1, i ∈ vs1) : ∀ σ H Q, tE X.K (fLc2 fi gg tt fi1 gg1 tt1 f vs vs1) σ H Q →
    tLc2 (tI X.K fi) (tGc X.K is gg) (tT X.K tt) (tI X.K fi1) (tGc X.K is1 gg1) (tT X.K tt1) (tE X.K f) vs vs1 σ H Q :=
  fun σ H Q ⟨δ, W, Q', er, rl, h, k⟩ => ⟨δ, W, _, er, rl, h, fun J xs keep H1 W1 e1 r1 q1 ok Dp hD => by
    have q1 := q1 Dp (r1.fresh hD)
    refine ⟨fun i m H2 => ∃ W2, Rel X.K H2 W2 ∧ Ext X.K H1 H2 ∧ lcO keep gg tt fi1 gg1 tt1 f Dp vs vs1 (fun W2 => Q' (.ref Dp) W2) (xs.drop i) δ W2 ∧ i + m = xs.length, ⟨xs.length, wup W1 Dp (.lst []), r1.wnew hD (hasL (ds := []) upd_same rfl), Ext.new hD, q1, by omega⟩, ?_⟩
    rintro i m H2 ⟨W2, r2, e2, q2, hm⟩
    have kp := lcO.keep q2
    by_cases hlt : i < xs.length
    · refine .inr ⟨ok.go H2 W2 i e2 r2 kp hlt, fun H' => ∃ W3, Rel X.K H' W3 ∧ Ext X.K H1 H' ∧ lcO keep gg tt fi1 gg1 tt1 f Dp vs vs1 (fun W2 => Q' (.ref Dp) W2) (xs.drop (i + 1)) δ W3, fun H' ⟨W3, a2, a3, a4⟩ => ⟨m - 1, by omega, W3, a2, a3, a4, by omega⟩, fun x H3 hy => ?_⟩
      obtain ⟨d, ed, e3, r3, dv⟩ := ok.yld H2 W2 i x H3 e2 r2 kp hlt hy
      rw [List.drop_eq_getElem_cons hlt] at q2
      have hd : xs[i] = d := Option.some.inj ((List.getElem?_eq_getElem hlt).symm.trans ed)
      rw [hd] at q2
      have er3 : EnvR X.K H3 δ σ := er.ext ((e1.trans e2).trans e3)
      refine ⟨d, wipeD δ vs, W2, _, dv, er3.wipe vs, r3, q2.2, fun σ4 δ4 H4 W4 e4 er4 r4 b4 q4 => ⟨(wipe_but vs ⟨b4.1, fun j n => b4.2 j (fun z => n (hsub j z))⟩).trans (wipe_wipe σ vs), δ4, W4, _, er4, r4, q4, fun t H5 W5 e5 r5 q5 => ?_⟩⟩
      have e15 : Ext X.K H1 H5 := ((e2.trans e3).trans e4).trans e5
      cases t with
      | false => exact ⟨W5, r5, e15, q5⟩
      | true =>
        refine ⟨δ4, W5, _, er4.ext e5, r5, q5, fun J1 ys keep1 H6 W6 e6 r6 q6 ok1 => ?_⟩
        refine ⟨fun j m2 H7 => ∃ W7, Rel X.K H7 W7 ∧ Ext X.K H6 H7 ∧ lcI keep1 gg1 tt1 f Dp vs1 (lcO keep gg tt fi1 gg1 tt1 f Dp vs vs1 (fun W2 => Q' (.ref Dp) W2) (xs.drop (i + 1)) δ) (ys.drop j) δ4 W7 ∧ j + m2 = ys.length, ⟨ys.length, W6, r6, Ext.refl _, q6, by omega⟩, ?_⟩
        rintro j m2 H7 ⟨W7, r7, e7, q7, hm7⟩
        have kp7 := lcI.keep q7
        have e17 : Ext X.K H1 H7 := (e15.trans e6).trans e7
        by_cases hlt2 : j < ys.length
        · refine .inr ⟨ok1.go H7 W7 j e7 r7 kp7 hlt2, fun H' => ∃ W8, Rel X.K H' W8 ∧ Ext X.K H6 H' ∧ lcI keep1 gg1 tt1 f Dp vs1 (lcO keep gg tt fi1 gg1 tt1 f Dp vs vs1 (fun W2 => Q' (.ref Dp) W2) (xs.drop (i + 1)) δ) (ys.drop (j + 1)) δ4 W8, fun H' ⟨W8, a2, a3, a4⟩ => ⟨m2 - 1, by omega, W8, a2, a3, a4, by omega⟩, fun x H8 hy => ?_⟩
          obtain ⟨d8, ed8, e8, r8, dv8⟩ := ok1.yld H7 W7 j x H8 e7 r7 kp7 hlt2 hy
          rw [List.drop_eq_getElem_cons hlt2] at q7
          have hd8 : ys[j] = d8 := Option.some.inj ((List.getElem?_eq_getElem hlt2).symm.trans ed8)
          rw [hd8] at q7
          have er8 : EnvR X.K H8 δ4 σ4 := er4.ext (((e5.trans e6).trans e7).trans e8)
          refine ⟨d8, wipeD δ4 vs1, W7, _, dv8, er8.wipe vs1, r8, q7.2, fun σ9 δ9 H9 W9 e9 er9 r9 b9 q9 => ⟨(wipe_but vs1 ⟨b9.1, fun j n => b9.2 j (fun z => n (hsub1 j z))⟩).trans (wipe_wipe σ4 vs1), δ9, W9, _, er9, r9, q9, fun t H10 W10 e10 r10 q10 => ?_⟩⟩
          have e610 : Ext X.K H6 H10 := ((e7.trans e8).trans e9).trans e10
          cases t with
          | false => exact ⟨W10, r10, e610, q10⟩
          | true => exact ⟨δ9, W10, _, er9.ext e10, r10, q10, fun y dy H11 W11 e11 r11 v11 ⟨acc, w11, hl, q11⟩ => by
              obtain ⟨us, s11, d11⟩ := r11 _ _ w11
              exact ⟨us, s11, by rw [d11.length]; exact hl, wup W11 Dp (.lst (acc ++ [dy])), r11.wput s11 trivial (hasL upd_same (DVs.ext (Ext.put s11 trivial) (DVs.append d11 (DVs.one v11)))), (e610.trans e11).trans (Ext.put s11 trivial), q11⟩⟩
        · refine .inl ⟨ok1.stop H7 W7 j e7 r7 kp7 (by omega), W7, r7, e17, ?_⟩
          have hnil : ys.drop j = [] := List.drop_eq_nil_of_le (by omega)
          rw [hnil] at q7
          exact q7.2
    · refine .inl ⟨ok.stop H2 W2 i e2 r2 kp (by omega), ?_⟩
      rw [List.drop_eq_nil_of_le (by omega)] at q2
      exact k _ (.ref Dp) H2 W2 (e1.trans e2) r2 rfl q2.2⟩
theorem se_lc2 {elt tg iter tg1 iter1 : Expr} {ifs ifs1 : List Expr} {scope : Scope} {own : List (Str × Nat)} {fi fi1 : FI} {gg gg1 : FG} {tt tt1 : FT} {is is1 : List Nat} (vs1 : List Nat) (hc : X.calm = true) (hN : X.N.Nodup) (hi : SI X tg iter fi) (ok : BlkOk X.N X.env.scope scope own)
    (hg : ∀ (s : Shared) (H : Hp) (C : Addr) (cl : List (Str × Addr)) (fp : List Addr), SC (X.blk s H scope (compEnvC scope cl C X.env) fp) tg is gg) (ht : ∀ (s : Shared) (H : Hp) (C : Addr) (cl : List (Str × Addr)) (fp : List Addr), SPs (X.blk s H scope (compEnvC scope cl C X.env) fp) ifs tt)
    (hi1 : ∀ (s : Shared) (H : Hp) (C : Addr) (cl : List (Str × Addr)) (fp : List Addr), SI (X.blk s H scope (compEnvC scope cl C X.env) fp) tg1 iter1 fi1)
    (hg1 : ∀ (s : Shared) (H : Hp) (C : Addr) (cl : List (Str × Addr)) (fp : List Addr), SC (X.blk s H scope (compEnvC scope cl C X.env) fp) tg1 is1 gg1) (ht1 : ∀ (s : Shared) (H : Hp) (C : Addr) (cl : List (Str × Addr)) (fp : List Addr), SPs (X.blk s H scope (compEnvC scope cl C X.env) fp) ifs1 tt1)
    (he : ∀ (s : Shared) (H : Hp) (C : Addr) (cl : List (Str × Addr)) (fp : List Addr), SE (X.blk s H scope (compEnvC scope cl C X.env) fp) elt f) (hsub : ∀ i ∈ is, i ∈ own.map (·.2) := by decide) (hsub1 : ∀ i ∈ is1, i ∈ vs1 := by decide) (hv : ∀ i ∈ vs1, i ∈ own.map (·.2) := by decide)
    (hs : ∀ x, foldedSetIterable iter X.env x = pure x := by intro _; rfl) (hs1 : ∀ env x, foldedSetIterable iter1 env x = pure x := by intro _ _; rfl) :
    SE X (.ListComp elt [⟨tg, iter, ifs, 0⟩, ⟨tg1, iter1, ifs1, 0⟩] scope pos) (fLc2 fi gg tt fi1 gg1 tt1 f (own.map (·.2)) vs1) := PEimp (pe_lc2 hc hN hi ok hv hg ht hi1 hg1 ht1 he hs hs1) (tE_lc2 hsub hsub1)
end
end DL
/-! Dl11: readings that leave all as it is: what they come to. -/
namespace DL
open PySem PySem.Spec PyProof.Rows L2
abbrev RW3 := DW → D → DW → Prop
def RM (R : RW3) : Prop := ∀ A B d C, Sub A B → R B d C → R A d C
def Is (d : D) : RW3 := fun _ x _ => x = d
def New (xs : List D) : RW3 := fun A x B => ∃ p, x = .ref p ∧ A p = none ∧ B p = some (.lst xs)
theorem Sub.none {A B : DW} {p : Addr} (s : Sub A B) (h : B p = Option.none) : A p = Option.none := by
  cases e : A p with
  | none => rfl
  | some o => have := s p o e; rw [h] at this; cases this
theorem rm_is {d : D} : RM (Is d) := fun _ _ _ _ _ h => h
theorem rm_new {xs : List D} : RM (New xs) := fun A B d C s ⟨p, e, h, w⟩ => ⟨p, e, s.none h, w⟩
def Ev (f : FE) (δ : Env) (W : DW) (R : RW3) : Prop := ∀ W1 (Q : DK), Sub W W1 → (∀ d W2, Sub W1 W2 → R W1 d W2 → Q d W2) → f δ W1 Q
def EvA (f : FA) (δ : Env) (W : DW) (ds : List D) : Prop := ∀ W1 (Q : List D → DW → Prop), Sub W W1 → (∀ W2, Sub W1 W2 → Q ds W2) → f δ W1 Q
def EvT (p : FT) (δ : Env) (W : DW) (b : Bool) : Prop := ∀ W1 (Q : Bool → DW → Prop), Sub W W1 → (∀ W2, Sub W1 W2 → Q b W2) → p δ W1 Q
def EvO (F : R2D) (x y : D) (W : DW) (R : RW3) : Prop := ∀ W1 (Q : DK), Sub W W1 → (∀ d W2, Sub W1 W2 → R W1 d W2 → Q d W2) → F x y W1 Q
def EvB (F : RD) (ds : List D) (W : DW) (R : RW3) : Prop := ∀ W1 (Q : DK), Sub W W1 → (∀ d W2, Sub W1 W2 → R W1 d W2 → Q d W2) → F ds W1 Q
def EvI (fi : FI) (δ : Env) (W : DW) (xs : List D) : Prop := ∀ W1 (R : List D → (DW → Prop) → DW → Prop), Sub W W1 → (∀ keep W2, Sub W1 W2 → (∀ W3, Sub W2 W3 → keep W3) → R xs keep W2) → fi δ W1 R
def EvJ (fi : FI) (δ : Env) (W : DW) (xs : List D) : Prop := ∀ W1 (R : List D → (DW → Prop) → DW → Prop), Sub W W1 → (∀ keep W2, Sub W1 W2 → (∀ W3, Sub W W3 → keep W3) → R xs keep W2) → fi δ W1 R
section
variable {f g h : FE} {r : FA} {p q : FT} {δ : Env} {W W0 : DW} {R : RW3} {a b d x y : D} {ds xs : List D} {F : R2D} {B : RD} {fi : FI}
theorem Ev.up (e : Ev f δ W R) (s : Sub W W0) : Ev f δ W0 R := fun W1 Q s1 k => e W1 Q (s.trans s1) k
theorem EvT.up {k : Bool} (e : EvT p δ W k) (s : Sub W W0) : EvT p δ W0 k := fun W1 Q s1 k => e W1 Q (s.trans s1) k
theorem EvI.up (e : EvI fi δ W xs) (s : Sub W W0) : EvI fi δ W0 xs := fun W1 Q s1 k => e W1 Q (s.trans s1) k
theorem Ev.run (e : Ev f δ W R) {Q : DK} (k : ∀ d W2, Sub W W2 → R W d W2 → Q d W2) : f δ W Q := e W Q (Sub.refl W) k
theorem Ev.runI (e : Ev f δ W (Is d)) {Q : DK} (k : ∀ W2, Sub W W2 → Q d W2) : f δ W Q := e W Q (Sub.refl W) fun x W2 s i => by rw [show x = d from i]; exact k W2 s
theorem Ev.runN (e : Ev f δ W (New xs)) {Q : DK} (k : ∀ p W2, Sub W W2 → W p = none → W2 p = some (.lst xs) → Q (.ref p) W2) : f δ W Q := e W Q (Sub.refl W) fun x W2 s i => by obtain ⟨p, rfl, h1, h2⟩ := i; exact k p W2 s h1 h2
theorem EvT.run {k : Bool} (e : EvT p δ W k) {Q : Bool → DW → Prop} (n : ∀ W2, Sub W W2 → Q k W2) : p δ W Q := e W Q (Sub.refl W) n
theorem EvA.run (e : EvA r δ W ds) {Q : List D → DW → Prop} (n : ∀ W2, Sub W W2 → Q ds W2) : r δ W Q := e W Q (Sub.refl W) n
theorem ev_var {i : Nat} (hd : δ[i]? = some (some d)) : Ev (fVar i) δ W (Is d) := fun W1 Q s k => ⟨d, hd, k d W1 (Sub.refl _) rfl⟩
theorem ev_c : Ev (fC d) δ W (Is d) := fun W1 Q s k => k d W1 (Sub.refl _) rfl
theorem ev_bin (ha : Ev f δ W (Is a)) (hb : Ev g δ W (Is b)) (ho : EvO F a b W R) (hR : RM R := by first | exact rm_is | exact rm_new) : Ev (fBin F f g) δ W R := fun W1 Q s k =>
  ha W1 _ s fun x W2 s2 i => by
    rw [show x = a from i]
    exact hb W2 _ (s.trans s2) fun y W3 s3 j => by
      rw [show y = b from j]
      exact ho W3 Q (s.trans (s2.trans s3)) fun z W4 s4 l => k z W4 (s2.trans (s3.trans s4)) (hR _ _ _ _ (s2.trans s3) l)
theorem eva_nil : EvA fNil δ W [] := fun W1 Q s k => k W1 (Sub.refl _)
theorem eva_cons (h : Ev f δ W (Is d)) (t : EvA r δ W ds) : EvA (fCons f r) δ W (d :: ds) := fun W1 Q s k =>
  h W1 _ s fun x W2 s2 i => by
    rw [show x = d from i]
    exact t W2 _ (s.trans s2) fun W3 s3 => k W3 (s2.trans s3)
theorem ev_tup (h : EvA r δ W ds) (hl : ds.length ≤ sizeLine) : Ev (fTup r) δ W (Is (.tup ds)) := fun W1 Q s k => h W1 _ s fun W2 s2 => ⟨hl, k _ W2 s2 rfl⟩
theorem ev_lst (h : EvA r δ W ds) (hl : ds.length ≤ sizeLine) : Ev (fLst r) δ W (New ds) := fun W1 Q s k => h W1 _ s fun W2 s2 => ⟨hl, fun p hp => k _ _ (s2.new (s2.none hp)) ⟨p, rfl, s2.none hp, wup_same⟩⟩
theorem ev_call {sp : SpD} (h : EvA r δ W ds) (hs : EvB sp ds W R) (hR : RM R := by first | exact rm_is | exact rm_new) : Ev (fCall sp r) δ W R := fun W1 Q s k => h W1 _ s fun W2 s2 => hs W2 Q (s.trans s2) fun z W3 s3 l => k z W3 (s2.trans s3) (hR _ _ _ _ s2 l)
theorem ev_b1 (h : EvA r δ W ds) (hs : EvB B ds W R) (hR : RM R := by first | exact rm_is | exact rm_new) : Ev (fB1 B r) δ W R := fun W1 Q s k => h W1 _ s fun W2 s2 => hs W2 Q (s.trans s2) fun z W3 s3 l => k z W3 (s2.trans s3) (hR _ _ _ _ s2 l)
theorem ev_b1N (h : Ev f δ W (New xs)) (hs : ∀ p W1, W1 p = some (.lst xs) → EvB B [.ref p] W1 R) (hR : RM R := by first | exact rm_is | exact rm_new) : Ev (fB1 B (fCons f fNil)) δ W R := fun W1 Q s k =>
  h W1 _ s fun x W2 s2 i => by
    obtain ⟨p, rfl, h1, h2⟩ := i
    exact hs p W2 h2 W2 Q (Sub.refl _) fun z W3 s3 l => k z W3 (s2.trans s3) (hR _ _ _ _ s2 l)
theorem ev_callN {sp : SpD} {fs : FE} (h : Ev f δ W (New xs)) (hs : ∀ p W1, W1 p = some (.lst xs) → EvB sp [.ref p] W1 R) (hR : RM R := by first | exact rm_is | exact rm_new) : Ev (fCall sp (fCons f fNil)) δ W R := ev_b1N (B := sp) h hs hR
/-! tests -/
theorem evt_b {k : Bool} (h : Ev f δ W (Is (.bl k))) : EvT (fB f) δ W k := fun W1 Q s n => h W1 _ s fun x W2 s2 i => by rw [show x = D.bl k from i]; exact n W2 s2
theorem evt_tru {k : Bool} (h : Ev f δ W (Is d)) (ht : ∀ W1, Sub W W1 → tru W1 d = some k) : EvT (fTru f) δ W k := fun W1 Q s n => h W1 _ s fun x W2 s2 i => by rw [show x = d from i]; exact ⟨k, ht W2 (s.trans s2), n W2 s2⟩
theorem evt_not {k : Bool} (h : EvT p δ W k) : EvT (fNotT p) δ W (!k) := fun W1 Q s n => h W1 _ s fun W2 s2 => n W2 s2
theorem evt_and {k l : Bool} (h : EvT p δ W k) (h2 : k = true → EvT q δ W l) : EvT (fAndT p q) δ W (k && l) := fun W1 Q s n => h W1 _ s fun W2 s2 => by
  cases k with
  | true => exact h2 rfl W2 _ (s.trans s2) fun W3 s3 => n W3 (s2.trans s3)
  | false => exact n W2 s2
theorem evt_or {k l : Bool} (h : EvT p δ W k) (h2 : k = false → EvT q δ W l) : EvT (fOrT p q) δ W (k || l) := fun W1 Q s n => h W1 _ s fun W2 s2 => by
  cases k with
  | false => exact h2 rfl W2 _ (s.trans s2) fun W3 s3 => n W3 (s2.trans s3)
  | true => exact n W2 s2
theorem evt_yes : EvT fYes δ W true := fun W1 Q s n => n W1 (Sub.refl _)
theorem ev_notV {k : Bool} (h : Ev f δ W (Is (.bl k))) : Ev (fNotV f) δ W (Is (.bl !k)) := fun W1 Q s n => h W1 _ s fun x W2 s2 i => by rw [show x = D.bl k from i]; exact n _ W2 s2 rfl
theorem ev_andV {k l : Bool} (h : Ev f δ W (Is (.bl k))) (h2 : k = true → Ev g δ W (Is (.bl l))) : Ev (fAndV f g) δ W (Is (.bl (k && l))) := fun W1 Q s n => h W1 _ s fun x W2 s2 i => by
  rw [show x = D.bl k from i]
  cases k with
  | true => exact h2 rfl W2 _ (s.trans s2) fun z W3 s3 j => n _ W3 (s2.trans s3) j
  | false => exact n _ W2 s2 rfl
theorem ev_orV {k l : Bool} (h : Ev f δ W (Is (.bl k))) (h2 : k = false → Ev g δ W (Is (.bl l))) : Ev (fOrV f g) δ W (Is (.bl (k || l))) := fun W1 Q s n => h W1 _ s fun x W2 s2 i => by
  rw [show x = D.bl k from i]
  cases k with
  | false => exact h2 rfl W2 _ (s.trans s2) fun z W3 s3 j => n _ W3 (s2.trans s3) j
  | true => exact n _ W2 s2 rfl
theorem ev_if {k : Bool} (h : EvT p δ W k) (h1 : k = true → Ev f δ W R) (h2 : k = false → Ev g δ W R) (hR : RM R := by first | exact rm_is | exact rm_new) : Ev (fIf p f g) δ W R := fun W1 Q s n => h W1 _ s fun W2 s2 => by
  cases k with
  | true => exact h1 rfl W2 Q (s.trans s2) fun z W3 s3 l => n z W3 (s2.trans s3) (hR _ _ _ _ s2 l)
  | false => exact h2 rfl W2 Q (s.trans s2) fun z W3 s3 l => n z W3 (s2.trans s3) (hR _ _ _ _ s2 l)
/-! operations -/
theorem evo_ii {G : Int → Int → D} {i j : Int} : EvO (pII0 G) (.int i) (.int j) W (Is (G i j)) := fun W1 Q s k => k _ W1 (Sub.refl _) rfl
theorem evo_addI {i j : Int} : EvO pAdd (.int i) (.int j) W (Is (.int (i + j))) := fun W1 Q s k => k _ W1 (Sub.refl _) rfl
theorem evo_addT {us ws : List D} (hl : us.length + ws.length ≤ sizeLine) : EvO pAdd (.tup us) (.tup ws) W (Is (.tup (us ++ ws))) := fun W1 Q s k => ⟨hl, k _ W1 (Sub.refl _) rfl⟩
theorem ixD_sub (s : Sub W W0) : ∀ {x y d : D}, ixD W x y = some d → ixD W0 x y = some d := by
  intro x y d e
  cases x with
  | ref c =>
    simp only [ixD] at e ⊢
    cases w : W c with
    | none => rw [w] at e; cases e
    | some o => rw [w] at e; rw [s c o w]; exact e
  | _ => cases y <;> first | exact e | cases e
theorem evo_ix (e : ixD W x y = some d) : EvO pSub' x y W (Is d) := fun W1 Q s k => ⟨d, ixD_sub s e, k _ W1 (Sub.refl _) rfl⟩
theorem evo_notN : EvO pNotN x .non W (Is (.bl (!x.isN))) := fun W1 Q s k => k _ W1 (Sub.refl _) rfl
theorem evo_isN : EvO pIsN x .non W (Is (.bl x.isN)) := fun W1 Q s k => k _ W1 (Sub.refl _) rfl
mutual
theorem Py.up (s : Sub W W0) : ∀ {d : D} {z : PyData}, Py W d z → Py W0 d z
  | _, _, .non => .non
  | _, _, .bl k => .bl k
  | _, _, .int i => .int i
  | _, _, .str i => .str i
  | _, _, .tup h => .tup (Pys.up s h)
  | _, _, .rl h => .rl (Pys.up s h)
  | _, _, .lst w h => .lst (s _ _ w) (Pys.up s h)
theorem Pys.up (s : Sub W W0) : ∀ {ds : List D} {zs : List PyData}, Pys W ds zs → Pys W0 ds zs
  | _, _, .nil => .nil
  | _, _, .cons h t => .cons (Py.up s h) (Pys.up s t)
end
theorem evo_eq {u v : PyData} (hx : Py W x u) (hy : Py W y v) (sx : SeqAt.shaped u = true) (sy : SeqAt.shaped v = true) : EvO pEq x y W (Is (.bl (PyData.eqv u v))) := fun W1 Q s k => ⟨u, v, hx.up s, hy.up s, sx, sy, k _ W1 (Sub.refl _) rfl⟩
theorem evo_ne {u v : PyData} (hx : Py W x u) (hy : Py W y v) (sx : SeqAt.shaped u = true) (sy : SeqAt.shaped v = true) : EvO pNe x y W (Is (.bl (!PyData.eqv u v))) := fun W1 Q s k => ⟨u, v, hx.up s, hy.up s, sx, sy, k _ W1 (Sub.refl _) rfl⟩
theorem Ins.up (s : Sub W W0) {zs : List PyData} (h : Ins W y zs) : Ins W0 y zs := h.imp (fun ⟨a, b⟩ => ⟨a.up s, b⟩) fun ⟨a, b⟩ => ⟨a.up s, b⟩
theorem evo_in {u : PyData} {zs : List PyData} (hx : Py W x u) (hy : Ins W y zs) (sx : SeqAt.shaped u = true) : EvO (pInA false) x y W (Is (.bl (zs.any fun z => PyData.eqv z u))) := fun W1 Q s k => .inl ⟨u, zs, hx.up s, hy.up s, sx, k _ W1 (Sub.refl _) rfl⟩
theorem evo_notIn {u : PyData} {zs : List PyData} (hx : Py W x u) (hy : Ins W y zs) (sx : SeqAt.shaped u = true) : EvO (pInA true) x y W (Is (.bl (!zs.any fun z => PyData.eqv z u))) := fun W1 Q s k => .inl ⟨u, zs, hx.up s, hy.up s, sx, k _ W1 (Sub.refl _) rfl⟩
/-! builtins -/
theorem lenD_sub (s : Sub W W0) {n : Nat} : ∀ {x : D}, lenD W x = some n → lenD W0 x = some n := by
  intro x e
  cases x with
  | ref c =>
    simp only [lenD] at e ⊢
    cases w : W c with
    | none => rw [w] at e; cases e
    | some o => rw [w] at e; rw [s c o w]; exact e
  | _ => first | exact e | cases e
theorem seqD_sub (s : Sub W W0) : ∀ {x : D}, seqD W x = some xs → seqD W0 x = some xs := by
  intro x e
  cases x with
  | ref c =>
    simp only [seqD] at e ⊢
    cases w : W c with
    | none => rw [w] at e; cases e
    | some o => rw [w] at e; rw [s c o w]; exact e
  | _ => first | exact e | cases e
theorem evb_len {n : Nat} (e : lenD W x = some n) : EvB bLen [x] W (Is (.int n)) := fun W1 Q s k => ⟨x, n, rfl, lenD_sub s e, k _ W1 (Sub.refl _) rfl⟩
theorem evb_tuple (e : seqD W x = some xs) : EvB bTuple [x] W (Is (.tup xs)) := fun W1 Q s k => ⟨x, xs, rfl, seqD_sub s e, k _ W1 (Sub.refl _) rfl⟩
theorem evb_list (e : seqD W x = some xs) : EvB bList [x] W (New xs) := fun W1 Q s k => ⟨x, xs, rfl, seqD_sub s e, fun p hp => k _ _ ((Sub.refl W1).new hp) ⟨p, rfl, hp, wup_same⟩⟩
theorem evb_any {c : Addr} {ns : List Bool} (e : W c = some (.lst (ns.map D.bl))) : EvB bAny [.ref c] W (Is (.bl (ns.any id))) := fun W1 Q s k => ⟨c, ns, rfl, s _ _ e, k _ W1 (Sub.refl _) rfl⟩
theorem evb_all {c : Addr} {ns : List Bool} (e : W c = some (.lst (ns.map D.bl))) : EvB bAll [.ref c] W (Is (.bl (ns.all id))) := fun W1 Q s k => ⟨c, ns, rfl, s _ _ e, k _ W1 (Sub.refl _) rfl⟩
theorem evb_sum {c : Addr} {ns : List Int} (e : W c = some (.lst (ns.map D.int))) : EvB bSum [.ref c] W (Is (.int ns.sum)) := fun W1 Q s k => ⟨c, ns, rfl, s _ _ e, k _ W1 (Sub.refl _) rfl⟩
theorem evb_max {c : Addr} {ns : List Int} {m : Int} (e : W c = some (.lst (ns.map D.int))) (h0 : 0 < ns.length) (hm : ∀ z, z ∈ ns → (∀ y, y ∈ ns → y ≤ z) → z = m) : EvB bMax [.ref c] W (Is (.int m)) := fun W1 Q s k =>
  ⟨c, ns, rfl, s _ _ e, h0, fun z hz hy => by rw [hm z hz hy]; exact k _ W1 (Sub.refl _) rfl⟩
theorem evb_max2 {i j : Int} : EvB bMax2 [.int i, .int j] W (Is (.int (max i j))) := fun W1 Q s k => ⟨i, j, rfl, by rw [show (if j > i then j else i) = max i j by omega]; exact k _ W1 (Sub.refl _) rfl⟩
theorem evb_min2 {i j : Int} : EvB bMin2 [.int i, .int j] W (Is (.int (min i j))) := fun W1 Q s k => ⟨i, j, rfl, by rw [show (if j < i then j else i) = min i j by omega]; exact k _ W1 (Sub.refl _) rfl⟩
theorem evb_intB {k : Bool} : EvB bInt [.bl k] W (Is (.int (if k then 1 else 0))) := fun W1 Q s n => n _ W1 (Sub.refl _) rfl
theorem evb_intI {i : Int} : EvB bInt [.int i] W (Is (.int i)) := fun W1 Q s n => n _ W1 (Sub.refl _) rfl
theorem evb_sortT {c : Addr} {zs : List (List Int)} (e : W c = some (.lst (zs.map tupI))) (hn : ∀ z ∈ zs, z ≠ []) : EvB bSortA [.ref c] W (New ((zs.mergeSort leL).map tupI)) := fun W1 Q s k =>
  ⟨c, rfl, .inl ⟨zs, s _ _ e, hn, fun p hp => k _ _ ((Sub.refl W1).new hp) ⟨p, rfl, hp, wup_same⟩⟩⟩
/-! iterables -/
theorem EvJ.i (e : EvJ fi δ W xs) : EvI fi δ W xs := fun W1 R s k => e W1 R s fun keep W2 s2 hk => k keep W2 s2 fun W3 s3 => hk W3 (s.trans (s2.trans s3))
theorem EvJ.up (e : EvJ fi δ W xs) (s : Sub W W0) : EvJ fi δ W0 xs := fun W1 R s1 k => e W1 R (s.trans s1) fun keep W2 s2 hk => k keep W2 s2 fun W3 s3 => hk W3 (s.trans s3)
theorem keepD_of (e : seqD W d = some xs) : keepD d xs W := by
  cases d with
  | ref c =>
    simp only [seqD] at e
    show W c = _
    cases w : W c with
    | none => rw [w] at e; cases e
    | some o => rw [w] at e; cases o <;> simp at e; rw [e]
  | _ => trivial
theorem evi_seq (h : Ev f δ W (Is d)) (e : seqD W d = some xs) : EvJ (fSeq f) δ W xs := fun W1 R s k => h W1 _ s fun x W2 s2 i => by
  rw [show x = d from i]
  exact ⟨xs, seqD_sub (s.trans s2) e, k _ W2 s2 fun W3 s3 => keepD_of (seqD_sub s3 e)⟩
theorem evi_seqN (h : Ev f δ W (New xs)) : EvI (fSeq f) δ W xs := fun W1 R s k => h W1 _ s fun x W2 s2 i => by
  obtain ⟨p, rfl, h1, h2⟩ := i
  exact ⟨xs, by simp only [seqD]; rw [h2], k _ W2 s2 fun W3 s3 => s3 _ _ h2⟩
theorem evi_rng1 {n : Int} (h : Ev f δ W (Is (.int n))) (h1 : -(2 ^ 62) ≤ n) (h2 : n < 2 ^ 62) : EvJ (fRng1 (fCons f fNil)) δ W (rngD 0 n.toNat) := fun W1 R s k => h W1 _ s fun x W2 s2 i => by
  rw [show x = D.int n from i]
  exact ⟨n, rfl, h1, h2, k _ W2 s2 fun _ _ => trivial⟩
theorem evi_rng2 {m n : Int} (h : Ev f δ W (Is (.int m))) (h' : Ev g δ W (Is (.int n))) (hb : -(2 ^ 62) ≤ m ∧ m < 2 ^ 62 ∧ -(2 ^ 62) ≤ n ∧ n < 2 ^ 62) : EvJ (fRng2 (fCons f (fCons g fNil))) δ W (rngD m (n - m).toNat) := fun W1 R s k => h W1 _ s fun x W2 s2 i => by
  rw [show x = D.int m from i]
  refine h' W2 _ (s.trans s2) fun y W3 s3 j => ?_
  rw [show y = D.int n from j]
  exact ⟨m, n, rfl, hb, k _ W3 (s2.trans s3) fun _ _ => trivial⟩
theorem evi_enum {c : Addr} (h : Ev f δ W (Is (.ref c))) (e : W c = some (.lst xs)) : EvJ (fEnum (fCons f fNil)) δ W (enD xs) := fun W1 R s k => h W1 _ s fun x W2 s2 i => by
  rw [show x = D.ref c from i]
  exact ⟨c, xs, rfl, s2 _ _ (s _ _ e), k _ W2 s2 fun W3 s3 => s3 _ _ e⟩
/-! comprehensions -/
theorem lcD_ev {α : Type} {enc : α → D} {keep : DW → Prop} {gt : FG} {tt : FT} {te : FE} {vs : List Nat} {u : α → Option D} {pp : Addr} {Q : DW → Prop} (hp : W pp = none) (hk : ∀ W3, Sub W W3 → keep W3)
    : ∀ {ys : List α} {acc : List D} {W1 : DW}, Sub W W1 → W1 pp = some (.lst acc) → (∀ z ∈ ys, ∃ δ2, (∀ W2 N, N δ2 W2 → gt (enc z) (wipeD δ vs) W2 N) ∧ EvT tt δ2 W (u z).isSome ∧ ∀ y, u z = some y → Ev te δ2 W (Is y)) →
      acc.length + (ys.filterMap u).length ≤ sizeLine → (∀ W2, Sub W W2 → W2 pp = some (.lst (acc ++ ys.filterMap u)) → (∀ c o, c ≠ pp → W1 c = some o → W2 c = some o) → Q W2) → lcD keep gt tt te pp vs Q (ys.map enc) δ W1 := by
  intro ys
  induction ys with
  | nil => intro acc W1 s w _ _ q; exact ⟨hk W1 s, q W1 s (by simpa using w) fun c o _ h => h⟩
  | cons z ys ih =>
    intro acc W1 s w hx hl q
    obtain ⟨δ2, hg, ht, he⟩ := hx z (by simp)
    refine ⟨hk W1 s, hg W1 _ (ht W1 _ s fun W2 s2 => ?_)⟩
    cases hu : u z with
    | none =>
      have e1 : (z :: ys).filterMap u = ys.filterMap u := by rw [List.filterMap_cons, hu]
      rw [e1] at hl q
      simp only [Option.isSome_none, Bool.false_eq_true, ↓reduceIte]
      exact ih (s.trans s2) (s2 _ _ w) (fun y hy => hx y (by simp [hy])) hl fun W3 s3 w3 k3 => q W3 s3 w3 fun c o hc ho => k3 c o hc (s2 c o ho)
    | some y =>
      have e1 : (z :: ys).filterMap u = y :: ys.filterMap u := by rw [List.filterMap_cons, hu]
      rw [e1] at hl q
      simp only [Option.isSome_some, ↓reduceIte]
      refine he y hu W2 _ (s.trans s2) fun x W3 s3 i => ?_
      rw [show x = y from i]
      have w3 := s3 _ _ (s2 _ _ w)
      simp only [List.length_cons] at hl
      refine ⟨acc, w3, by omega, ih ((s.trans (s2.trans s3)).new hp) wup_same (fun y hy => hx y (by simp [hy])) (by simp; omega) fun W4 s4 w4 k4 => q W4 s4 (by simpa using w4) fun c o hc ho => k4 c o hc (by rw [wup_ne hc]; exact s3 c o (s2 c o ho))⟩
theorem ev_lc {α : Type} {enc : α → D} {ys : List α} {gt : FG} {tt : FT} {te : FE} {vs : List Nat} (u : α → Option D) (hi : EvI fi δ W (ys.map enc))
    (hx : ∀ z ∈ ys, ∃ δ2, (∀ W2 N, N δ2 W2 → gt (enc z) (wipeD δ vs) W2 N) ∧ EvT tt δ2 W (u z).isSome ∧ ∀ y, u z = some y → Ev te δ2 W (Is y)) (hl : (ys.filterMap u).length ≤ sizeLine) : Ev (fLc fi gt tt te vs) δ W (New (ys.filterMap u)) := fun W1 Q s k =>
  hi W1 _ s fun keep W2 s2 hk p hp => lcD_ev (W := W2) hp hk ((Sub.refl W2).new hp) wup_same (fun z hz => by
      obtain ⟨δ2, h1, h2, h3⟩ := hx z hz
      exact ⟨δ2, h1, h2.up (s.trans s2), fun y e => (h3 y e).up (s.trans s2)⟩) (by simpa using hl)
    fun W3 s3 w3 _ => k _ W3 (s2.trans s3) ⟨p, rfl, s2.none hp, by simpa using w3⟩
theorem ev_lcM {α : Type} {enc : α → D} {ys : List α} {gt : FG} {te : FE} {vs : List Nat} (u : α → D) (hi : EvI fi δ W (ys.map enc))
    (hx : ∀ z ∈ ys, ∃ δ2, (∀ W2 N, N δ2 W2 → gt (enc z) (wipeD δ vs) W2 N) ∧ Ev te δ2 W (Is (u z))) (hl : ys.length ≤ sizeLine) : Ev (fLc fi gt fYes te vs) δ W (New (ys.map u)) := by
  have := ev_lc (fi := fi) (gt := gt) (tt := fYes) (te := te) (vs := vs) (fun z => some (u z)) hi (fun z hz => by
    obtain ⟨δ2, h1, h2⟩ := hx z hz
    exact ⟨δ2, h1, evt_yes, fun y e => by cases e; exact h2⟩) (by simpa using hl)
  simpa using this
/-! two lists, one within the other -/
theorem lcI_ev {α : Type} {enc : α → D} {keep : DW → Prop} {gt : FG} {te : FE} {vs : List Nat} {u : α → D} {pp : Addr} {N : DW → Prop} (hp : W pp = none) (hk : ∀ W3, Sub W W3 → keep W3)
    : ∀ {ys : List α} {acc : List D} {W1 : DW}, Sub W W1 → W1 pp = some (.lst acc) → (∀ z ∈ ys, ∃ δ2, (∀ W2 N, N δ2 W2 → gt (enc z) (wipeD δ vs) W2 N) ∧ Ev te δ2 W (Is (u z))) →
      acc.length + ys.length ≤ sizeLine → (∀ W2, Sub W W2 → W2 pp = some (.lst (acc ++ ys.map u)) → N W2) → lcI keep gt fYes te pp vs N (ys.map enc) δ W1 := by
  intro ys
  induction ys with
  | nil => intro acc W1 s w _ _ q; exact ⟨hk W1 s, q W1 s (by simpa using w)⟩
  | cons z ys ih =>
    intro acc W1 s w hx hl q
    obtain ⟨δ2, hg, he⟩ := hx z (by simp)
    refine ⟨hk W1 s, hg W1 _ ?_⟩
    unfold fYes
    simp only [↓reduceIte]
    refine he W1 _ s fun x W3 s3 i => ?_
    rw [show x = u z from i]
    simp only [List.length_cons] at hl
    exact ⟨acc, s3 _ _ w, by omega, ih ((s.trans s3).new hp) wup_same (fun y hy => hx y (by simp [hy])) (by simp; omega) fun W4 s4 w4 => q W4 s4 (by simpa using w4)⟩
theorem lcO_ev {α β : Type} {enc : α → D} {en1 : β → D} {bs : α → List β} {keep : DW → Prop} {gt : FG} {fi1 : FI} {g1 : FG} {te : FE} {vs vs1 : List Nat} {u : α → β → D} {pp : Addr} {Q : DW → Prop} (hp : W pp = none) (hk : ∀ W3, Sub W W3 → keep W3)
    : ∀ {ys : List α} {acc : List D} {W1 : DW}, Sub W W1 → W1 pp = some (.lst acc) → (∀ z ∈ ys, ∃ δ2, (∀ W2 N, N δ2 W2 → gt (enc z) (wipeD δ vs) W2 N) ∧ EvJ fi1 δ2 W ((bs z).map en1) ∧ ∀ t ∈ bs z, ∃ δ3, (∀ W2 N, N δ3 W2 → g1 (en1 t) (wipeD δ2 vs1) W2 N) ∧ Ev te δ3 W (Is (u z t))) →
      acc.length + (ys.flatMap fun z => (bs z).map (u z)).length ≤ sizeLine → (∀ W2, Sub W W2 → W2 pp = some (.lst (acc ++ ys.flatMap fun z => (bs z).map (u z))) → Q W2) → lcO keep gt fYes fi1 g1 fYes te pp vs vs1 Q (ys.map enc) δ W1 := by
  intro ys
  induction ys with
  | nil => intro acc W1 s w _ _ q; exact ⟨hk W1 s, q W1 s (by simpa using w)⟩
  | cons z ys ih =>
    intro acc W1 s w hx hl q
    obtain ⟨δ2, hg, hi, he⟩ := hx z (by simp)
    rw [List.flatMap_cons] at hl q
    simp only [List.length_append, List.length_map] at hl
    refine ⟨hk W1 s, hg W1 _ ?_⟩
    unfold fYes
    simp only [↓reduceIte]
    refine hi W1 _ s fun keep1 W2 s2 hk1 => ?_
    exact lcI_ev (W := W) hp hk1 (s.trans s2) (s2 _ _ w) he (by omega) fun W3 s3 w3 => ih s3 w3 (fun y hy => hx y (by simp [hy])) (by simp only [List.length_append, List.length_map]; omega) fun W4 s4 w4 => q W4 s4 (by simpa using w4)
theorem ev_lc2 {α β : Type} {enc : α → D} {en1 : β → D} {ys : List α} {bs : α → List β} {gt : FG} {fi1 : FI} {g1 : FG} {te : FE} {vs vs1 : List Nat} (u : α → β → D) (hi : EvI fi δ W (ys.map enc))
    (hx : ∀ z ∈ ys, ∃ δ2, (∀ W2 N, N δ2 W2 → gt (enc z) (wipeD δ vs) W2 N) ∧ EvJ fi1 δ2 W ((bs z).map en1) ∧ ∀ t ∈ bs z, ∃ δ3, (∀ W2 N, N δ3 W2 → g1 (en1 t) (wipeD δ2 vs1) W2 N) ∧ Ev te δ3 W (Is (u z t)))
    (hl : (ys.flatMap fun z => (bs z).map (u z)).length ≤ sizeLine) : Ev (fLc2 fi gt fYes fi1 g1 fYes te vs vs1) δ W (New (ys.flatMap fun z => (bs z).map (u z))) := fun W1 Q s k =>
  hi W1 _ s fun keep W2 s2 hk p hp => lcO_ev (W := W2) hp hk ((Sub.refl W2).new hp) wup_same (fun z hz => by
      obtain ⟨δ2, h1, h2, h3⟩ := hx z hz
      exact ⟨δ2, h1, h2.up (s.trans s2), fun t ht => by
        obtain ⟨δ3, h4, h5⟩ := h3 t ht
        exact ⟨δ3, h4, h5.up (s.trans s2)⟩⟩) (by simpa using hl)
    fun W3 s3 w3 => k _ W3 (s2.trans s3) ⟨p, rfl, s2.none hp, by simpa using w3⟩
end
/-! ### loops -/
theorem loop_ind {keep : DW → Prop} {g : FG} {body : FS} {E : DE} (I : List D → Env → DW → Prop) (h0 : ∀ δ W, I [] δ W → keep W ∧ E.nx δ W)
    (h1 : ∀ x xs δ W (N : Env → DW → Prop), (∀ δ W, I xs δ W → N δ W) → I (x :: xs) δ W → keep W ∧ g x δ W fun δ2 W2 => body { nx := N, rt := E.rt, bk := E.nx, ct := N } δ2 W2) : ∀ xs δ W, I xs δ W → loopD keep g body E xs δ W
  | [], δ, W, h => h0 δ W h
  | x :: xs, δ, W, h => h1 x xs δ W (loopD keep g body E xs) (fun δ W h => loop_ind I h0 h1 xs δ W h) h
theorem loop_find {α : Type} {enc : α → D} {keep : DW → Prop} {g : FG} {body : FS} {B : DE} {W : DW} (E : Env → Prop) (h : α → Option D) (hk : ∀ W3, Sub W W3 → keep W3) : ∀ {ys : List α} {δ : Env} {W1 : DW}, E δ → Sub W W1 →
    (∀ z ∈ ys, ∀ (B' : DE) δ1 W1, E δ1 → Sub W W1 → (∀ r, h z = some r → ∀ W2, Sub W1 W2 → B'.rt r W2) → (h z = none → ∀ δ2 W2, E δ2 → Sub W1 W2 → B'.nx δ2 W2) → g (enc z) δ1 W1 fun δ2 W2 => body B' δ2 W2) →
    (∀ r, ys.findSome? h = some r → ∀ W2, Sub W W2 → B.rt r W2) → (ys.findSome? h = none → ∀ δ2 W2, E δ2 → Sub W W2 → B.nx δ2 W2) → loopD keep g body B (ys.map enc) δ W1
  | [], δ, W1, hE, s, _, _, hn => ⟨hk W1 s, hn rfl δ W1 hE s⟩
  | z :: ys, δ, W1, hE, s, hb, hr, hn => ⟨hk W1 s, hb z (by simp) _ δ W1 hE s (fun r e W2 s2 => hr r (by rw [List.findSome?_cons, e]) W2 (s.trans s2)) fun e δ2 W2 e2 s2 =>
      loop_find E h hk e2 (s.trans s2) (fun y hy => hb y (by simp [hy])) (fun r q => hr r (by rw [List.findSome?_cons, e]; exact q)) fun q => hn (by rw [List.findSome?_cons, e]; exact q)⟩
theorem for_find {α : Type} {enc : α → D} {ys : List α} {fi : FI} {g : FG} {body : FS} {B : DE} {δ : Env} {W : DW} (E : Env → Prop) (h : α → Option D) (hi : EvJ fi δ W (ys.map enc)) (hE : E δ)
    (hb : ∀ z ∈ ys, ∀ (B' : DE) δ1 W1, E δ1 → Sub W W1 → (∀ r, h z = some r → ∀ W2, Sub W1 W2 → B'.rt r W2) → (h z = none → ∀ δ2 W2, E δ2 → Sub W1 W2 → B'.nx δ2 W2) → g (enc z) δ1 W1 fun δ2 W2 => body B' δ2 W2)
    (hr : ∀ r, ys.findSome? h = some r → ∀ W2, Sub W W2 → B.rt r W2) (hn : ys.findSome? h = none → ∀ δ2 W2, E δ2 → Sub W W2 → B.nx δ2 W2) : sFor fi g body B δ W :=
  hi W _ (Sub.refl W) fun keep W2 s2 hk => loop_find (W := W) E h hk hE s2 hb hr hn
/-! ### data that is compared -/
theorem pys_map {α : Type} {W : DW} {f : α → D} {g : α → PyData} (h : ∀ x, Py W (f x) (g x)) : ∀ xs : List α, Pys W (xs.map f) (xs.map g)
  | [] => .nil
  | x :: xs => .cons (h x) (pys_map h xs)
theorem py_tupI {W : DW} (x : List Int) : Py W (tupI x) (encT x) := .tup (pys_map (fun i => .int i) x)
theorem lay_map {α : Type} {g : α → PyData} (h : ∀ x, PyData.canLay0 (g x) = true) : ∀ xs : List α, PyData.canLayAll0 (xs.map g) = true
  | [] => by simp [PyData.canLayAll0]
  | x :: xs => by simp [PyData.canLayAll0, h x, lay_map h xs]
theorem dep_map {α : Type} {g : α → PyData} {n : Nat} (h : ∀ x, PyData.depth (g x) ≤ n) : ∀ xs : List α, PyData.depthAll (xs.map g) ≤ n
  | [] => by simp [PyData.depthAll]
  | x :: xs => by have := dep_map h xs; have := h x; simp only [List.map_cons, PyData.depthAll]; omega
theorem shaped_of {d : PyData} (h1 : PyData.canLay0 d = true) (h2 : d.depth ≤ 64) : SeqAt.shaped d = true := by
  unfold SeqAt.shaped
  rw [h1, Bool.true_and]
  exact decide_eq_true h2
theorem lay_encT (x : List Int) : PyData.canLay0 (encT x) = true := by unfold encT; simp only [PyData.canLay0]; exact lay_map (fun i => by simp [PyData.canLay0]) x
theorem dep_encT (x : List Int) : PyData.depth (encT x) ≤ 1 := by unfold encT; simp only [PyData.depth]; have := dep_map (n := 0) (g := PyData.int) (fun i => by simp [PyData.depth]) x; omega
theorem shaped_encT (x : List Int) : SeqAt.shaped (encT x) = true := shaped_of (lay_encT x) (Nat.le_trans (dep_encT x) (by decide))
theorem shaped_encTs (x : List (List Int)) : SeqAt.shaped (.list (x.map encT)) = true := shaped_of (by simp only [PyData.canLay0]; exact lay_map lay_encT x) (by simp only [PyData.depth]; have := dep_map dep_encT x; omega)
theorem shaped_int {i : Int} : SeqAt.shaped (.int i) = true := shaped_of (by simp [PyData.canLay0]) (by simp [PyData.depth])
theorem shaped_intsL (x : List Int) : SeqAt.shaped (.list (x.map .int)) = true := shaped_of (by simp only [PyData.canLay0]; exact lay_map (fun i => by simp [PyData.canLay0]) x) (by simp only [PyData.depth]; have := dep_map (n := 0) (g := PyData.int) (fun i => by simp [PyData.depth]) x; omega)
theorem eqvAll_map {α : Type} [DecidableEq α] {g : α → PyData} (h : ∀ x y, PyData.eqv (g x) (g y) = decide (x = y)) : ∀ xs ys : List α, PyData.eqvAll (xs.map g) (ys.map g) = decide (xs = ys)
  | [], [] => by simp [PyData.eqvAll]
  | [], _ :: _ => by simp [PyData.eqvAll]
  | _ :: _, [] => by simp [PyData.eqvAll]
  | x :: xs, y :: ys => by
    simp only [List.map_cons, PyData.eqvAll, h x y, eqvAll_map h xs ys]
    by_cases z : x = y <;> simp [z]
theorem eqv_int (i j : Int) : PyData.eqv (.int i) (.int j) = decide (i = j) := by
  simp only [PyData.eqv]
  by_cases h : i = j <;> simp [h]
theorem eqv_encT (x y : List Int) : PyData.eqv (encT x) (encT y) = decide (x = y) := by unfold encT; simp only [PyData.eqv]; exact eqvAll_map eqv_int x y
theorem any_int (i : Int) (xs : List Int) : ((xs.map PyData.int).any fun z => PyData.eqv z (.int i)) = decide (i ∈ xs) := by
  induction xs with
  | nil => simp
  | cons x xs ih =>
    rw [List.map_cons, List.any_cons, ih, eqv_int]
    by_cases h : x = i
    · simp [h]
    · have : ¬ i = x := fun e => h e.symm
      simp [h, this]
theorem ins_tupI {W : DW} (x : List Int) : Ins W (tupI x) (x.map .int) := .inr ⟨py_tupI x, shaped_encT x⟩
theorem ins_lstI {W : DW} {a : Addr} (x : List Int) (h : W a = some (.lst (x.map D.int))) : Ins W (.ref a) (x.map .int) := .inl ⟨.lst h (pys_map (fun i => .int i) x), shaped_intsL x⟩
section
variable {f g : FE} {δ : Env} {W : DW}
theorem ev_inT {i : Int} {x : List Int} (hf : Ev f δ W (Is (.int i))) (hg : Ev g δ W (Is (tupI x))) : Ev (fBin (pInA false) f g) δ W (Is (.bl (decide (i ∈ x)))) := by
  have := ev_bin hf hg (evo_in (.int i) (ins_tupI x) shaped_int)
  rwa [any_int] at this
theorem ev_notInT {i : Int} {x : List Int} (hf : Ev f δ W (Is (.int i))) (hg : Ev g δ W (Is (tupI x))) : Ev (fBin (pInA true) f g) δ W (Is (.bl (!decide (i ∈ x)))) := by
  have := ev_bin hf hg (evo_notIn (.int i) (ins_tupI x) shaped_int)
  rwa [any_int] at this
theorem ev_inL {i : Int} {x : List Int} {a : Addr} (hf : Ev f δ W (Is (.int i))) (hg : Ev g δ W (Is (.ref a))) (w : W a = some (.lst (x.map D.int))) : Ev (fBin (pInA false) f g) δ W (Is (.bl (decide (i ∈ x)))) := by
  have := ev_bin hf hg (evo_in (.int i) (ins_lstI x w) shaped_int)
  rwa [any_int] at this
theorem ev_eqI {i j : Int} (hf : Ev f δ W (Is (.int i))) (hg : Ev g δ W (Is (.int j))) : Ev (fBin pEq f g) δ W (Is (.bl (decide (i = j)))) := by
  have := ev_bin hf hg (evo_eq (.int i) (.int j) shaped_int shaped_int)
  rwa [eqv_int] at this
theorem ev_neI {i j : Int} (hf : Ev f δ W (Is (.int i))) (hg : Ev g δ W (Is (.int j))) : Ev (fBin pNe f g) δ W (Is (.bl (!decide (i = j)))) := by
  have := ev_bin hf hg (evo_ne (.int i) (.int j) shaped_int shaped_int)
  rwa [eqv_int] at this
theorem ev_eqT {x y : List Int} (hf : Ev f δ W (Is (tupI x))) (hg : Ev g δ W (Is (tupI y))) : Ev (fBin pEq f g) δ W (Is (.bl (decide (x = y)))) := by
  have := ev_bin hf hg (evo_eq (py_tupI x) (py_tupI y) (shaped_encT x) (shaped_encT y))
  rwa [eqv_encT] at this
end
end DL
/-! Dl12: the call of the law's def, where the caller has no guards. -/
namespace DL
open PySem PySem.Spec PyProof.Rows L2
theorem no_guards : callerA.guards = some [] := rfl
section
variable {P : Program} {w : World} {K : PySem.W.Frag} {mg mb : Str → Option Value} {k : Nat} {fa a : Addr} {fd : FuncData} {x : Str} {sp : SpD} {σ₁ : Shared} {us : List Value} {zs : List Int}
abbrev Good (P : Program) (w : World) (fa a : Addr) (σ₁ : Shared) : Prop := codeAny (model P w) callerA (.call (.ref fa) ⟨[.ref a], []⟩) (fun r t => r = .ok (.ret (.bool true)) ∧ OldK σ₁.heap t.heap ∧ t.os = σ₁.os ∧ AllBare t.gens) σ₁
/-- from a heap in which the script alone may be tracked -/
theorem good_of (kin : K.In σ₁.heap) (nsg : σ₁.heap.Ns mainGlobals mg) (nsb : σ₁.heap.Ns builtinsNs mb) (bi : ∀ y : Str, y ≠ "__name__" → mb y = bootBuiltins y) (nl : σ₁.heap.NoLimit) (g0 : σ₁.gens = #[])
    (obj : σ₁.heap.get? a = some { cls := .type "list", data := .seq us.toArray }) (rm : Room k callerA) (prom : ∀ base : Heap, K.In base → base.Ns mainGlobals mg → FnG P w K mg base k fa fd [x] (toSp K sp))
    (bnd : ∀ (t : Shared) (u : Value), BindsTo t fd ⟨[u], []⟩ [(x, u)]) (H : Hp) (only : Only H) (ask : toSp K sp [.ref a] H (fun v _ => v = .bl true) E0) (hk : HOk P w H σ₁.heap) (one : ∀ b, H b ≠ none → b = a) (lk : H a ≠ none → K.lookup a = none) : Good P w fa a σ₁ := by
  have away : ∀ {b : Addr} {o : Obj} {es : Array DictEntry} {n : Nat}, σ₁.heap.get? b = some o → o.data = .dict es n → H b = none := by
    intro b o es n e d
    apply Classical.byContradiction
    intro hb
    have eb := one b hb
    rw [eb, obj] at e
    cases e
    exact absurd d (by simp)
  have hid : ∀ {b : Addr} {m : Str → Option Value}, σ₁.heap.Ns b m → (hidT σ₁.heap H).Ns b m := by
    rintro b m ⟨o, es, n, e, d, r⟩
    exact ⟨o, es, n, hidT_get e (away e d), d, r⟩
  have kin2 : K.In (hidT σ₁.heap H) := by
    intro b o e
    refine hidT_get (kin b o e) ?_
    apply Classical.byContradiction
    intro hb
    have eb := one b hb
    subst eb
    rw [lk hb] at e
    cases e
  have modl : Mod K mg (hidT σ₁.heap H) := by
    obtain ⟨mc, c1, c2⟩ := nl
    exact ⟨kin2, hid nsg, ⟨mb, hid nsb, bi⟩, mc, hid c1, c2⟩
  have env : Env0 P w K mg (hidT σ₁.heap H) callerA [] σ₁ H := by
    refine ⟨rfl, modl, fun b o e => of_hidT e, ?_, trivial, ?_, hk, .of_eq g0⟩
    · exact Nat.le_of_eq (hidT_size _ _)
    · intro b hb
      cases hb
  refine codeAny_mono ((prom _ kin2 (hid nsg)).run callerA [] σ₁ H ⟨[.ref a], []⟩ [.ref a] [.ref a] _ rm no_guards env (bnd σ₁ (.ref a)) (.cons rfl .nil) ask) fun r t z => ?_
  match r, z with
  | .error _, z => exact z.elim
  | .ok .next, z => exact False.elim z
  | .ok .brk, z => exact False.elim z
  | .ok .cont, z => exact False.elim z
  | .ok (.ret u), z =>
    obtain ⟨v, H', osE, bare, un, hk2, rel, e⟩ := z
    have e : v = .bl true := e
    rw [e] at rel
    have rel : u = Value.bool true := rel
    rw [rel]
    refine ⟨rfl, OldK.of_keep ?_, osE, bare⟩
    intro b o eo
    rcases only b with hn | ⟨ob, ys, hs⟩
    · refine un.keep b o eo hn ?_ (by simp)
      intro hm
      cases hm
    · have hs2 := un.frzs b ob _ hs
      have g1 := (hk b _ hs).1
      rw [eo] at g1
      cases g1
      exact (hk2 b _ hs2).1
theorem good_law (kin : K.In σ₁.heap) (nsg : σ₁.heap.Ns mainGlobals mg) (nsb : σ₁.heap.Ns builtinsNs mb) (bi : ∀ y : Str, y ≠ "__name__" → mb y = bootBuiltins y) (nl : σ₁.heap.NoLimit) (g0 : σ₁.gens = #[])
    (obj : σ₁.heap.get? a = some { cls := .type "list", data := .seq us.toArray }) (hi : IntsAre us zs) (hl : zs.length ≤ sizeLine) (rm : Room k callerA) (prom : ∀ base : Heap, K.In base → base.Ns mainGlobals mg → FnG P w K mg base k fa fd [x] (toSp K sp))
    (bnd : ∀ (t : Shared) (u : Value), BindsTo t fd ⟨[u], []⟩ [(x, u)]) (ask : ∀ Q : DK, (∀ W, Q (.bl true) W) → sp [.rl (zs.map D.int)] (fun _ => none) Q) : Good P w fa a σ₁ := by
  have vals := vals_ints hi
  have dvs : ∀ H : Hp, DVs K H (zs.map D.int) (zs.map V.int) := fun H => by
    generalize zs = ys
    induction ys with
    | nil => rfl
    | cons y ys ih => exact ⟨.int y, ys.map V.int, rfl, rfl, ih⟩
  have toask : ∀ H : Hp, RdL K H a (zs.map V.int) → toSp K sp [.ref a] H (fun v _ => v = .bl true) E0 := fun H hr =>
    ⟨[.rl (zs.map D.int)], fun _ => none, fun d _ => d = .bl true, ⟨.ref a, [], rfl, ⟨a, zs.map V.int, rfl, hr, dvs H⟩, rfl⟩, fun b o e => (by cases e), ask _ fun _ => rfl, fun v d H' W' _ _ dv e => (by
      have e : d = .bl true := e
      rw [e] at dv
      exact dv)⟩
  cases lk : K.lookup a with
  | some o =>
    have e := kin a o lk
    rw [obj] at e
    cases e
    refine good_of kin nsg nsb bi nl g0 obj rm prom bnd (fun _ => none) (fun _ => .inl rfl) (toask _ (.inr ⟨_, us.toArray, _, lk, rfl, rfl, rfl, ?_, ?_⟩)) ?_ (fun b hb => absurd rfl hb) fun hb => absurd rfl hb
    · have := hi.length
      rw [List.size_toArray]
      omega
    · simpa using vals
    · intro b u e
      cases (show (none : Option HO) = some u from e)
  | none =>
    let Ha : Hp := fun b => if b = a then some (.frz { cls := .type "list", data := .seq us.toArray } (.lst (zs.map V.int))) else none
    have at_ : Ha a = some (.frz { cls := .type "list", data := .seq us.toArray } (.lst (zs.map V.int))) := if_pos rfl
    have off : ∀ {b : Addr}, b ≠ a → Ha b = none := fun h => if_neg h
    refine good_of kin nsg nsb bi nl g0 obj rm prom bnd Ha ?_ (toask _ (.inl ⟨_, at_⟩)) ?_ ?_ fun _ => lk
    · intro b
      by_cases h : b = a
      · rw [h]; exact .inr ⟨_, _, at_⟩
      · exact .inl (off h)
    · intro b u e
      by_cases h : b = a
      · rw [h, at_] at e
        cases e
        rw [h]
        refine ⟨obj, ?_, us, _, vals, obj⟩
        rw [List.length_map]
        exact hl
      · rw [off h] at e
        cases e
    · intro b hb
      apply Classical.byContradiction
      intro h
      exact hb (off h)
end
theorem walk_g {l : PySem.W.OpenLaw} {n k : Nat} {q : Program} {loose : List Str} {XP : (Str → Option Value) → Heap → Prop} {YP : World → Heap → Prop} {d : DefRec} {K : Params → PySem.W.Frag} {sp : SpD} {x : Str}
    (most : l.most = some n) (small : n ≤ sizeLine) (nodef : d.params.defaults = []) (rm : Room k callerA) (kin : ∀ (w : World) (h : Heap), YP w h → (K w.params).In h)
    (prom : ∀ (w : World) (mg : Str → Option Value) (fa : Addr) (h : Heap), (K w.params).In h → h.Ns mainGlobals mg → mg d.name = some (.ref fa) → ∃ fd : FuncData, (∀ (t : Shared) (u : Value), BindsTo t fd ⟨[u], []⟩ [(x, u)]) ∧
      ∀ base : Heap, (K w.params).In base → base.Ns mainGlobals mg → FnG l.prog w (K w.params) mg base k fa fd [x] (toSp (K w.params) sp))
    (ask : ∀ (zs : List Int), zs.length ≤ n → ∀ Q : DK, (∀ W, Q (.bl true) W) → sp [.rl (zs.map D.int)] (fun _ => none) Q) : PySem.W.WalkO q loose XP YP l.row.toRowW d [] (fun f vs => PySem.call f vs) := by
  refine Att.attach_call most nodef ?_
  intro w t₀ t₁ mg mb fa o pm cd doc a us zs G Y ho hd hcd hmg hobj hints hlen hg
  have X := kin w _ Y
  obtain ⟨fd, hb, hF⟩ := prom w mg fa _ X G.T.g hmg
  exact good_law X G.T.g G.T.b G.T.builtins G.T.nolimit hg hobj hints (Nat.le_trans hlen small) rm hF hb (ask zs hlen)
end DL
/-! Dl13: a dict that a statement walks is locked: read, not written; its keys. -/
namespace DL
open PySem PySem.Spec PyProof.Rows L2
def keyT (k : List Key) : D := .tup (k.map keyToD)
section
variable {X : Cx} {e : Expr} {st : Stmt} {f : FE} {t : FS}
theorem keyToD_dv {K : PySem.W.Frag} {H : Hp} (k : Key) : DV K H (keyToD k) (kV k) := by cases k <;> rfl
theorem keysT_dv {K : PySem.W.Frag} {H : Hp} : ∀ ks : List Key, DVs K H (ks.map keyToD) (ks.map kV)
  | [] => rfl
  | k :: ks => ⟨_, _, rfl, keyToD_dv k, keysT_dv ks⟩
theorem keyT_dv {K : PySem.W.Frag} {H : Hp} {b : Addr} {k : List Key} (h : H b = some (.tup (k.map kV))) : DV K H (keyT k) (.ref b) := ⟨b, _, rfl, h, keysT_dv k⟩
theorem DKV.get {K : PySem.W.Frag} {H : Hp} {κ : Type} : ∀ {kvs : List (κ × D)} {ws : List (κ × V)} {i : Nat} {q : κ × V}, DKV K H kvs ws → ws[i]? = some q → ∃ p, kvs[i]? = some p ∧ p.1 = q.1
  | _, _, i, q, .nil, e => by simp at e
  | _, _, 0, q, .cons (a := a) (b := b) h t, e => by
    simp at e
    subst e
    exact ⟨_, rfl, h.1⟩
  | _, _, i + 1, q, .cons h t, e => DKV.get (i := i) t (by simpa using e)
/-- the keys of a locked dict -/
def fKeys (f : FE) : FI := fun δ W R => f δ W fun x W1 => ∃ a od, x = .ref a ∧
  ((∃ ws kvs, W1 a = some (.lic od ws kvs) ∧ R (kvs.map fun kv => keyToD kv.1) (fun W => W a = some (.lic od ws kvs)) W1) ∨ ∃ ws kvs, W1 a = some (.lit od ws kvs) ∧ R (kvs.map fun kv => keyT kv.1) (fun W => W a = some (.lit od ws kvs)) W1)
theorem it_keysK {K : PySem.W.Frag} {a : Addr} {od : Obj} {ws : List (Key × V)} {kvs : List (Key × D)} {H0 : Hp} (hl : ws.length = kvs.length) : ItOk K (Itk a od ws) (kvs.map fun kv => keyToD kv.1) (fun W => W a = some (.lic od ws kvs)) H0 where
  go H W i e rl kp hi := by
    obtain ⟨s, d⟩ := rl _ _ kp
    exact ⟨s, by rw [List.length_map] at hi; omega⟩
  yld H W i x H' e rl kp hi hy := by
    obtain ⟨s, d⟩ := rl _ _ kp
    obtain ⟨rfl, k, v, hk, rfl⟩ := hy
    obtain ⟨p, hp, e1⟩ := DKV.get d hk
    refine ⟨keyToD k, ?_, Ext.refl _, rl, keyToD_dv k⟩
    rw [List.getElem?_map, hp, Option.map_some, e1]
  stop H W i e rl kp hi := by
    obtain ⟨s, d⟩ := rl _ _ kp
    exact ⟨s, by rw [List.length_map] at hi; omega⟩
theorem it_keysT {K : PySem.W.Frag} {a : Addr} {od : Obj} {ws : List (List Key × V)} {kvs : List (List Key × D)} {H0 : Hp} (hl : ws.length = kvs.length) : ItOk K (Itkt a od ws) (kvs.map fun kv => keyT kv.1) (fun W => W a = some (.lit od ws kvs)) H0 where
  go H W i e rl kp hi := by
    obtain ⟨s, d⟩ := rl _ _ kp
    exact ⟨s, by rw [List.length_map] at hi; omega⟩
  yld H W i x H' e rl kp hi hy := by
    obtain ⟨s, d⟩ := rl _ _ kp
    obtain ⟨rfl, k, v, q, hk, rfl, hq⟩ := hy
    obtain ⟨p, hp, e1⟩ := DKV.get d hk
    refine ⟨keyT k, ?_, Ext.refl _, rl, keyT_dv hq⟩
    rw [List.getElem?_map, hp, Option.map_some, e1]
  stop H W i e rl kp hi := by
    obtain ⟨s, d⟩ := rl _ _ kp
    exact ⟨s, by rw [List.length_map] at hi; omega⟩
theorem si_keys {tg : Expr} (h : SE X e f) : SI X tg e (fKeys f) := PIimp (pi_keys h) fun σ H R ⟨δ, W, Q', er, rl, h, k⟩ => ⟨δ, W, _, er, rl, h, fun v d H' W' e' r' v' ⟨a, od, ed, q⟩ => by
  subst ed
  cases v'
  rcases q with ⟨ws, kvs, w, q⟩ | ⟨ws, kvs, w, q⟩
  · obtain ⟨s, d⟩ := r' _ _ w
    exact ⟨a, od, rfl, .inl ⟨ws, s, k _ _ _ H' W' e' r' q (it_keysK d.length)⟩⟩
  · obtain ⟨s, d⟩ := r' _ _ w
    exact ⟨a, od, rfl, .inr ⟨ws, s, k _ _ _ H' W' e' r' q (it_keysT d.length)⟩⟩⟩
/-! ### locks -/
/-- a dict, and what it is when locked -/
inductive Lk2 (a : Addr) (W : DW) : DO → (Obj → DO → Prop) → Prop
  | dic {kvs : List (Key × D)} : W a = some (.dic kvs) → Lk2 a W (.dic kvs) (fun od o => ∃ ws, o = .lic od ws kvs)
  | dit {kvs : List (List Key × D)} : W a = some (.dit kvs) → Lk2 a W (.dit kvs) (fun od o => ∃ ws, o = .lit od ws kvs)
def lockD (a : Addr) (o l : DO) (B : DE) : DE where
  nx := fun δ W => W a = some l ∧ B.nx δ (wup W a o)
  rt := fun d W => W a = some l ∧ B.rt d (wup W a o)
  bk := fun δ W => W a = some l ∧ B.bk δ (wup W a o)
  ct := fun δ W => W a = some l ∧ B.ct δ (wup W a o)
def sLock (t : FS) : FS := fun B δ W => ∃ a o L, Lk2 a W o L ∧ ∀ od l, L od l → t (lockD a o l B) δ (wup W a l)
/-- back from the lock -/
theorem Ext.unlock {K : PySem.W.Frag} {H H' : Hp} {d : Addr} {u : HO} {od : Obj} (hd : H d = some u) (mu : MutHO u) (e : Ext K (upd H d (.frz od u)) H') (hn : ∀ ys, u ≠ .lst ys) : Ext K H (upd H' d u) := by
  have ne : ∀ {a : Addr} {w : HO}, H a = some w → ¬ MutHO w → a ≠ d := fun {a w} r n z => by subst z; rw [hd] at r; cases r; exact n mu
  refine ⟨fun a xs r => ?_, fun a ob xs r => ?_⟩
  · have z := ne r id
    rw [upd_ne z]
    exact e.t a xs (by rw [upd_ne z]; exact r)
  · have z := ne r id
    rw [upd_ne z]
    exact e.l a ob xs (by rw [upd_ne z]; exact r)
theorem Ext.unlock2 {K : PySem.W.Frag} {H' : Hp} {d : Addr} {u : HO} {od : Obj} (hd : H' d = some (.frz od u)) (hn : ∀ ys, u ≠ .lst ys) : Ext K H' (upd H' d u) := by
  refine ⟨fun a xs r => ?_, fun a ob xs r => ?_⟩
  · have z : a ≠ d := fun z => by subst z; rw [hd] at r; cases r
    rw [upd_ne z]
    exact r
  · have z : a ≠ d := fun z => by subst z; rw [hd] at r; cases r; exact hn _ rfl
    rw [upd_ne z]
    exact r
theorem Rel.unlock {K : PySem.W.Frag} {H' : Hp} {W : DW} {d : Addr} {u : HO} {od : Obj} {o : DO} (r : Rel K H' W) (hd : H' d = some (.frz od u)) (hn : ∀ ys, u ≠ .lst ys) (ho : HasO K (upd H' d u) d o) : Rel K (upd H' d u) (wup W d o) := fun a v e => by
  by_cases z : a = d
  · subst z
    rw [wup_same] at e
    cases e
    exact ho
  · rw [wup_ne z] at e
    exact (r a v e).ext (Ext.unlock2 hd hn) (upd_ne z)
theorem ss_lock (h : SS X st t) : SS X st (sLock t) := PSimp (ps_lock h) fun B σ H ⟨δ, W, D', er, rl, ⟨a, o, L, hL, ht⟩, k⟩ => by
  cases hL with
  | @dic kvs w =>
    obtain ⟨ws, s, dk⟩ := rl _ _ w
    have hn : ∀ ys, HO.dK ws ≠ .lst ys := fun ys z => by cases z
    refine ⟨a, .dK ws, s, trivial, fun od => ?_⟩
    have ex : Ext X.K H (upd H a (.frz od (.dK ws))) := Ext.put s trivial
    have ent : ∀ H' W', Ext X.K (upd H a (.frz od (.dK ws))) H' → Rel X.K H' W' → W' a = some (.lic od ws kvs) → H' a = some (.frz od (.dK ws)) ∧ Ext X.K H (upd H' a (.dK ws)) ∧ Ext X.K H' (upd H' a (.dK ws)) ∧ Rel X.K (upd H' a (.dK ws)) (wup W' a (.dic kvs)) := fun H' W' e' r' w' => by
      obtain ⟨s', d'⟩ := r' _ _ w'
      have e2 := Ext.unlock2 (K := X.K) s' hn
      exact ⟨s', Ext.unlock s trivial e' hn, e2, r'.unlock s' hn ⟨ws, upd_same, DKV.ext e2 d'⟩⟩
    refine ⟨δ, _, _, er.ext ex, rl.wput s trivial (d := .lic od ws kvs) ⟨upd_same, DKV.ext ex dk⟩, ht od _ ⟨ws, rfl⟩, ⟨fun σ' δ' H' W' e' er' r' q => ?_, fun v d H' W' e' r' dv q => ?_, fun σ' δ' H' W' e' er' r' q => ?_, fun σ' δ' H' W' e' er' r' q => ?_⟩⟩
    · obtain ⟨s', x1, x2, x3⟩ := ent H' W' e' r' q.1
      exact ⟨s', k.nx σ' δ' _ _ x1 (er'.ext x2) x3 q.2⟩
    · obtain ⟨s', x1, x2, x3⟩ := ent H' W' e' r' q.1
      exact ⟨s', k.rt v d _ _ x1 x3 (DV.ext x2 dv) q.2⟩
    · obtain ⟨s', x1, x2, x3⟩ := ent H' W' e' r' q.1
      exact ⟨s', k.bk σ' δ' _ _ x1 (er'.ext x2) x3 q.2⟩
    · obtain ⟨s', x1, x2, x3⟩ := ent H' W' e' r' q.1
      exact ⟨s', k.ct σ' δ' _ _ x1 (er'.ext x2) x3 q.2⟩
  | @dit kvs w =>
    obtain ⟨ws, s, dk⟩ := rl _ _ w
    have hn : ∀ ys, HO.dT ws ≠ .lst ys := fun ys z => by cases z
    refine ⟨a, .dT ws, s, trivial, fun od => ?_⟩
    have ex : Ext X.K H (upd H a (.frz od (.dT ws))) := Ext.put s trivial
    have ent : ∀ H' W', Ext X.K (upd H a (.frz od (.dT ws))) H' → Rel X.K H' W' → W' a = some (.lit od ws kvs) → H' a = some (.frz od (.dT ws)) ∧ Ext X.K H (upd H' a (.dT ws)) ∧ Ext X.K H' (upd H' a (.dT ws)) ∧ Rel X.K (upd H' a (.dT ws)) (wup W' a (.dit kvs)) := fun H' W' e' r' w' => by
      obtain ⟨s', d'⟩ := r' _ _ w'
      have e2 := Ext.unlock2 (K := X.K) s' hn
      exact ⟨s', Ext.unlock s trivial e' hn, e2, r'.unlock s' hn ⟨ws, upd_same, DKV.ext e2 d'⟩⟩
    refine ⟨δ, _, _, er.ext ex, rl.wput s trivial (d := .lit od ws kvs) ⟨upd_same, DKV.ext ex dk⟩, ht od _ ⟨ws, rfl⟩, ⟨fun σ' δ' H' W' e' er' r' q => ?_, fun v d H' W' e' r' dv q => ?_, fun σ' δ' H' W' e' er' r' q => ?_, fun σ' δ' H' W' e' er' r' q => ?_⟩⟩
    · obtain ⟨s', x1, x2, x3⟩ := ent H' W' e' r' q.1
      exact ⟨s', k.nx σ' δ' _ _ x1 (er'.ext x2) x3 q.2⟩
    · obtain ⟨s', x1, x2, x3⟩ := ent H' W' e' r' q.1
      exact ⟨s', k.rt v d _ _ x1 x3 (DV.ext x2 dv) q.2⟩
    · obtain ⟨s', x1, x2, x3⟩ := ent H' W' e' r' q.1
      exact ⟨s', k.bk σ' δ' _ _ x1 (er'.ext x2) x3 q.2⟩
    · obtain ⟨s', x1, x2, x3⟩ := ent H' W' e' r' q.1
      exact ⟨s', k.ct σ' δ' _ _ x1 (er'.ext x2) x3 q.2⟩
/-- an expression that walks a dict -/
def eLock (f : FE) : FE := fun δ W Q => ∃ a o L, Lk2 a W o L ∧ ∀ od l, L od l → f δ (wup W a l) fun d W' => W' a = some l ∧ Q d (wup W' a o)
theorem se_lock (h : SE X e f) : SE X e (eLock f) := PEimp (pe_lock h) fun σ H Q ⟨δ, W, Q', er, rl, ⟨a, o, L, hL, ht⟩, k⟩ => by
  cases hL with
  | @dic kvs w =>
    obtain ⟨ws, s, dk⟩ := rl _ _ w
    have hn : ∀ ys, HO.dK ws ≠ .lst ys := fun ys z => by cases z
    refine ⟨a, .dK ws, s, trivial, fun od => ?_⟩
    have ex : Ext X.K H (upd H a (.frz od (.dK ws))) := Ext.put s trivial
    refine ⟨δ, _, _, er.ext ex, rl.wput s trivial (d := .lic od ws kvs) ⟨upd_same, DKV.ext ex dk⟩, ht od _ ⟨ws, rfl⟩, fun v d H' W' e' r' dv q => ?_⟩
    obtain ⟨s', d'⟩ := r' _ _ q.1
    have e2 := Ext.unlock2 (K := X.K) s' hn
    exact ⟨s', k v d _ _ (Ext.unlock s trivial e' hn) (r'.unlock (o := .dic kvs) s' hn ⟨ws, upd_same, DKV.ext e2 d'⟩) (DV.ext e2 dv) q.2⟩
  | @dit kvs w =>
    obtain ⟨ws, s, dk⟩ := rl _ _ w
    have hn : ∀ ys, HO.dT ws ≠ .lst ys := fun ys z => by cases z
    refine ⟨a, .dT ws, s, trivial, fun od => ?_⟩
    have ex : Ext X.K H (upd H a (.frz od (.dT ws))) := Ext.put s trivial
    refine ⟨δ, _, _, er.ext ex, rl.wput s trivial (d := .lit od ws kvs) ⟨upd_same, DKV.ext ex dk⟩, ht od _ ⟨ws, rfl⟩, fun v d H' W' e' r' dv q => ?_⟩
    obtain ⟨s', d'⟩ := r' _ _ q.1
    have e2 := Ext.unlock2 (K := X.K) s' hn
    exact ⟨s', k v d _ _ (Ext.unlock s trivial e' hn) (r'.unlock (o := .dit kvs) s' hn ⟨ws, upd_same, DKV.ext e2 d'⟩) (DV.ext e2 dv) q.2⟩
end
end DL
/-! Dl14: a tuple by an int from 1 on. -/
namespace DL
open PySem PySem.Spec PyProof.Rows L2
theorem once_tup (l : Addr) (items : Array Value) (n : Nat) (dd : Option Addr) (sl : Array (Option Value)) (u : Tok) :
    Meets (Builtin.«tuple.__mul__» ⟨[.ref l, .int 1 u], []⟩) (fun _ R s => s.heap.get? l = some { cls := .type "tuple", dict := dd, data := .seq items n, slots := sl } ∧ R (.ok (.ret (Value.ref l))) s) :=
  .of_wp fun prog w A R s ⟨hl, h⟩ => by
    obtain ⟨hp, g, d, tk, os⟩ := s
    have f1 := AutoSeq1.idx_int
    wp_walk using wpAny_loadPart' hl
    exact ⟨_, rfl, h⟩
def rOnce (K : PySem.W.Frag) : R2 := fun x y H Q => ∃ l xs, x = .ref l ∧ y = .int 1 ∧ SqT K H l xs ∧ Q (.ref l) H
section
variable {X : Cx} {a b : Expr} {pos : Pos} {f g : FE}
theorem op_once : OpR X (binaryOp .Mult) (rOnce X.K) := by
  rintro pins s σ H x y v u Q I rx ry ⟨l, xs, rfl, rfl, hT, q⟩
  cases rx
  obtain ⟨t, rfl⟩ := ry
  obtain ⟨its, r, ⟨⟨cls, dd, dat, sl⟩, ho, hc, n, hd⟩, _⟩ := I.tuple hT
  dsimp only at hc hd
  rw [hc, hd] at ho
  have own : s.TypeIs (.ref l) "tuple" := ⟨_, ho, rfl⟩
  refine wpAny_binaryOp_repeat_ref (U := "int") (T := "tuple") (by decide) own (fun s2 => typeIs_int s2 1 t) noFill_tuple_mul F.fills_int_mul F.slot_int_rmul repeat_tuple F.slot_int_index.lookup ?_
  refine call_meets F.slot_int_rmul (typeIs_int s 1 t) F.entry_int_rmul (F.args_int_rmul_2 _ _) (int_rmul_tuple 1 t l its.toArray n dd sl) ⟨ho, rfl, own, ?_⟩
  exact call_meets F.slot_tuple_mul own F.entry_tuple_mul (F.args_tuple_mul_2 _ _) (once_tup l its.toArray n dd sl t) ⟨ho, .ref l, H, I, rfl, q⟩
/-- a tuple so many times, from 1 on -/
def pTimes : R2D := fun x y W Q => match x, y with
  | .tup xs, .int k => xs ≠ [] ∧ 1 ≤ k ∧ k ≤ 1000 ∧ xs.length ≤ 1000 ∧ Q (.tup (List.replicate k.toNat xs).flatten) W
  | _, _ => False
theorem o_times {K : PySem.W.Frag} : Op2 K (fun x y H Q => rOnce K x y H Q ∨ rRepT K x y H Q) pTimes := fun H W x y dx dy Q Q' rl vx vy h k => by
  unfold pTimes at h
  split at h
  · rename_i xs n
    obtain ⟨a, us, rfl, s, d⟩ := vx
    cases vy
    obtain ⟨h0, h1, h2, h3, q⟩ := h
    by_cases e : n = 1
    · subst e
      refine .inl ⟨a, us, rfl, rfl, SqT.of s, k.at rl q ?_⟩
      have : (List.replicate (1 : Int).toNat xs).flatten = xs := by simp
      rw [this]
      exact ⟨a, us, rfl, s, d⟩
    · refine .inr ⟨a, n, us, rfl, rfl, SqT.of s, ?_, by omega, h2, by rw [d.length]; exact h3, fun p hp => newT rl hp (DVs.rep d _) q k⟩
      intro z
      subst z
      have := d.length
      simp at this
      exact h0 (List.eq_nil_of_length_eq_zero this.symm)
  · exact h.elim
theorem se_times (ha : SE X a f) (hb : SE X b g) : SE X (.BinOp a .Mult b pos) (fBin pTimes f g) := se_op (op_once.or op_repT) o_times ha hb
end
end DL
/-! Dl15: isinstance by built-in classes; range with a step. -/
namespace DL
open PySem PySem.Spec PyProof.Rows L2
def tyN (W : DW) : D → Option String
  | .non => some "NoneType"
  | .bl _ => some "bool"
  | .int _ => some "int"
  | .str _ => some "str"
  | .tup _ => some "tuple"
  | .rl _ => some "list"
  | .ref a => match W a with
    | some (.lst _) => some "list"
    | some (.dic _) => some "dict"
    | some (.dit _) => some "dict"
    | _ => none
  | .ty _ => none
def IsB (t n : String) (b : Bool) : Prop := ∀ K : PySem.W.Frag, PySem.W.kitOne K (.type t) (.type n) = some b
def bIsi : RD := fun ds W Q => ∃ x n t b, ds = [x, .ty n] ∧ tyN W x = some t ∧ IsB t n b ∧ Q (.bl b) W
section
variable {K : PySem.W.Frag} {H : Hp} {W : DW}
theorem tyN.ok {x : D} {v : V} {t : String} (rl : Rel K H W) (h : tyN W x = some t) (dv : DV K H x v) : TyX K H v (.type t) := by
  cases x with
  | non => cases h; cases dv; exact .base .non
  | bl b => cases h; cases dv; exact .base (.bl b)
  | int b => cases h; cases dv; exact .base (.int b)
  | str b => cases h; cases dv; exact .base (.str b)
  | ty n => cases h
  | tup ds =>
    cases h
    obtain ⟨a, us, rfl, s, _⟩ := dv
    exact .base (.tup s)
  | rl ds =>
    cases h
    obtain ⟨a, us, rfl, s, _⟩ := dv
    rcases s with ⟨ob, s⟩ | ⟨o, its, n, s, c, _⟩
    · exact .base (.frz s)
    · exact .kList s c
  | ref a =>
    cases dv
    unfold tyN at h
    cases w : W a with
    | none => simp [w] at h
    | some o =>
      have ho := rl _ _ w
      cases o with
      | lst ys =>
        simp [w] at h
        subst h
        obtain ⟨us, s, _⟩ := ho
        exact .base (.lst s)
      | dic ys =>
        simp [w] at h
        subst h
        obtain ⟨us, s, _⟩ := ho
        exact .base (.dK s)
      | dit ys =>
        simp [w] at h
        subst h
        obtain ⟨us, s, _⟩ := ho
        exact .base (.dT s)
      | lic _ _ ys => simp [w] at h
      | lit _ _ ys => simp [w] at h
theorem c_isi : CallD K (rIsi K) bIsi := fun H W vs ds Q Q' rl dv ⟨x, n, t, b, e, ht, hb, q⟩ k => by
  subst e
  obtain ⟨v, r, rfl, hv, hr⟩ := dv
  obtain ⟨u, r2, rfl, hu, hr2⟩ := hr
  cases hr2
  cases hu
  exact ⟨v, .ty n, .type t, .type n, b, rfl, .ty n, tyN.ok rl ht hv, hb K, k.at rl q rfl⟩
end
theorem isB_same (t : String) : IsB t t true := fun K => by unfold PySem.W.kitOne; simp
theorem isB_bool_int : IsB "bool" "int" true := fun _ => rfl
theorem isB_int_bool : IsB "int" "bool" false := fun _ => rfl
theorem isB_tuple_int : IsB "tuple" "int" false := fun _ => rfl
theorem isB_int_tuple : IsB "int" "tuple" false := fun _ => rfl
section
variable {X : Cx} {a b c : Expr} {pos p : Pos}
/-- the name of a built-in class -/
theorem se_ty {x : Str} {n : String} (hg : Gl X x) (hm : X.mg x = none) (hb : bootBuiltins x = some (.type n)) (hn : x ≠ "__name__" := by decide +kernel) (hd : (x == ("__debug__" : Str)) = false := by decide +kernel) : SE X (.Name x pos) (fC (.ty n)) := se_con (v := .ty n) (pe_bltn hg hm hb rfl (hn := hn) (hd := hd)) fun _ => rfl
/-- lo, lo + c, .. -/
def rngC (lo c : Int) (n : Nat) : List D := (List.range n).map fun k => .int (lo + (k : Nat) * c)
theorem it_rngC {K : PySem.W.Frag} {lo c : Int} {n : Nat} {H0 : Hp} : ItOk K (Itc lo c n) (rngC lo c n) (fun _ => True) H0 where
  go H W i e rl kp hi := by
    have hi : i < n := by simpa [rngC] using hi
    exact hi
  yld H W i x H' e rl kp hi hy := by
    obtain ⟨rfl, rfl⟩ := hy
    have hi : i < n := by simpa [rngC] using hi
    exact ⟨.int (lo + (i : Nat) * c), by simp [rngC, hi], Ext.refl _, rl, rfl⟩
  stop H W i e rl kp hi := by
    have hi : n ≤ i := by simpa [rngC] using hi
    exact hi
def fRng3 (f : FA) : FI := fun δ W R => f δ W fun vs W1 => ∃ (i j s : Int) (n : Nat), vs = [.int i, .int j, .int s] ∧ RgC i j s n ∧ R (rngC i s n) (fun _ => True) W1
theorem si_rng3 {tg : Expr} {r : FA} (hg : Gl X "range") (hm : X.mg "range" = none) (ha : SA X [a, b, c] r) (hs : starEach [a, b, c] X.env = (false, eval a X.env) :: starEach [b, c] X.env := by rfl) (hpl : (backTo pos (starEach [b, c] X.env)).any (·.1) = false := by rfl) :
    SI X tg (.Call (.Name "range" p) [a, b, c] [] pos) (fRng3 r) :=
  PIimp (pi_range3 hg hm ha hs hpl) fun σ H R ⟨δ, W, Q', er, rl, h, k⟩ => ⟨δ, W, _, er, rl, h, fun vs ds H' W' e' r' v' ⟨i, j, s, n, ed, q1, q2⟩ => by
    subst ed
    obtain ⟨v1, r1, rfl, h1, v'⟩ := v'
    obtain ⟨v2, r2, rfl, h2, v'⟩ := v'
    obtain ⟨v3, r3, rfl, h3, v'⟩ := v'
    cases v'
    cases h1
    cases h2
    cases h3
    exact ⟨i, j, s, n, rfl, q1, k _ _ _ H' W' e' r' q2 it_rngC⟩⟩
end
end DL
/-! Dl16: sorted of data of any kind; keys of a dict as a list. -/
namespace DL
open PySem PySem.Spec PyProof.Rows PySem.W L2
def bSortG : RD := fun ds W Q => ∃ (a : Addr) (β : Type) (enc : β → PyData) (en : β → D) (bs : List β), ds = [.ref a] ∧ W a = some (.lst (bs.map en)) ∧ (∀ b ∈ bs, Py W (en b) (enc b)) ∧ AllAlike (bs.map enc) ∧ Sortable (bs.map enc) ∧ (∀ b ∈ bs, (enc b).depth ≤ 60) ∧
  ∀ p, W p = none → Q (.ref p) (wup W p (.lst ((bs.mergeSort (dataLe false enc)).map en)))
theorem DVs.each_of {K : PySem.W.Frag} {H : Hp} {W : DW} (rl : Rel K H W) {β : Type} {enc : β → PyData} {en : β → D} : ∀ {bs : List β} {us : List V}, (∀ b ∈ bs, Py W (en b) (enc b)) → DVs K H (bs.map en) us → EachIs (fun v b => DV K H (en b) v ∧ Dp K H v (enc b)) us bs
  | [], _, _, h => by cases h; exact .nil
  | b :: bs, _, hp, h => by
    obtain ⟨v, r, rfl, h1, h2⟩ := h
    exact .cons ⟨h1, (hp b (by simp)).dp rl h1⟩ (DVs.each_of rl (fun c hc => hp c (by simp [hc])) h2)
theorem DVs.of_each2 {K : PySem.W.Frag} {H : Hp} {β : Type} {en : β → D} : ∀ {bs : List β} {us : List V}, EachIs (fun v b => DV K H (en b) v) us bs → DVs K H (bs.map en) us
  | _, _, .nil => rfl
  | _, _, .cons h t => ⟨_, _, rfl, h, DVs.of_each2 t⟩
theorem c_sortG {K : PySem.W.Frag} : CallD K (rSortB K) bSortG := fun H W vs ds Q Q' rl dv ⟨a, β, enc, en, bs, e, w, hp, h1, h2, h3, q⟩ k => by
  subst e
  obtain ⟨v, rfl, hv⟩ := dv.c1
  cases hv
  obtain ⟨us, s, d⟩ := rl _ _ w
  exact ⟨β, enc, fun v b => DV K H (en b) v, a, us, bs, rfl, SqL.of s, DVs.each_of rl hp d, h1, h2, h3, fun out p hp0 ho => newL rl hp0 (DVs.of_each2 ho) (fun p hp => q p hp) k⟩
/-- list(d), the keys of a dict -/
def bListD : RD := fun ds W Q => ∃ (a : Addr) (kvs : List (List Key × D)), ds = [.ref a] ∧ (W a = some (.dit kvs) ∨ ∃ od ws, W a = some (.lit od ws kvs)) ∧ ∀ p, W p = none → Q (.ref p) (wup W p (.lst (kvs.map fun kv => keyT kv.1)))
theorem keys_dvs {K : PySem.W.Frag} {H : Hp} : ∀ {kvs : List (List Key × D)} {ws : List (List Key × V)} {bs : List Addr}, DKV K H kvs ws → IsKeys H ws bs → DVs K H (kvs.map fun kv => keyT kv.1) (bs.map V.ref) := by
  intro kvs ws bs h
  induction h generalizing bs with
  | nil => intro hb; cases hb; rfl
  | cons hp t ih =>
    intro hb
    cases hb with
    | cons hk hr =>
      refine ⟨_, _, rfl, ?_, ih hr⟩
      show DV K H (keyT _) _
      rw [hp.1]
      exact keyT_dv hk
theorem c_listD {K : PySem.W.Frag} : CallD K (fun xs H Q => ∃ d kvs, xs = [V.ref d] ∧ Rd H d (.dT kvs) ∧ ∀ p bs, H p = none → IsKeys H kvs bs → Q (.ref p) (upd H p (.lst (bs.map V.ref)))) bListD := fun H W vs ds Q Q' rl dv ⟨a, kvs, e, w, q⟩ k => by
  subst e
  obtain ⟨v, rfl, hv⟩ := dv.c1
  cases hv
  rcases w with w | ⟨od, ws, w⟩
  · obtain ⟨ws, s, d⟩ := rl _ _ w
    exact ⟨a, ws, rfl, .inl s, fun p bs hp hb => newL rl hp (keys_dvs d hb) (fun p hp => q p hp) k⟩
  · obtain ⟨s, d⟩ := rl _ _ w
    exact ⟨a, ws, rfl, .inr ⟨od, s⟩, fun p bs hp hb => newL rl hp (keys_dvs d hb) (fun p hp => q p hp) k⟩
end DL
/-! Cm1: the source of draws: its promises, its bodies; some steps of statements. -/
namespace A30
open PySem PySem.Spec PyProof.Rows L2 DL
def Src (s c : Addr) (W : DW) : Prop := s ≠ c ∧ ∃ (l m t : Int) (xs : List Int), W s = some (.dic [(.inr "cells", .ref c), (.inr "left", .int l), (.inr "mixed", .int m), (.inr "turn", .int t)]) ∧ W c = some (.lst (xs.map D.int))
def Mv (s c : Addr) (W W' : DW) : Prop := (∀ a o, a ≠ s → a ≠ c → W a = some o → W' a = some o) ∧ (Src s c W → Src s c W')
def sp__law_open_cells : SpD := fun ds W Q => ∃ x xs, ds = [x] ∧ seqD W x = some (List.map D.int xs) ∧ (∀ ys, x ≠ .tup ys) ∧ xs.length ≤ 64 ∧ ∀ s c W', Sub W W' → Src s c W' → Q (.ref s) W'
def sp__law_pick : SpD := fun ds W Q => ∃ s c m, ds = [.ref s, .int m] ∧ Src s c W ∧ m ≤ 1000000 ∧ ∀ v W', Mv s c W W' → (m < 2 → v = 0) → (2 ≤ m → 0 ≤ v ∧ v < m) → Q (.int v) W'
def sp__law_any_order : SpD := fun ds W Q => ∃ s c a, ∃ xs : List D, ds = [.ref s, .ref a] ∧ Src s c W ∧ W a = some (.lst xs) ∧ a ≠ s ∧ a ≠ c ∧ xs.length ≤ 1000 ∧ ∀ ys p W', List.Perm ys xs → Mv s c W W' → W p = none → W' p = some (.lst ys) → Q (.ref p) W'
def f__law_open_cells : FS :=
    (sSeq (sAsg (fC (.int 11)) (gN 1))
    (sSeq (sFor (fSeq (fVar 0)) (gN 2) (sAsg (fBin pMod (fB1 bInt (fCons (fBin pAdd (fBin pAdd (fBin pMul (fVar 1) (fC (.int 69069))) (fBin pMul (fVar 2) (fC (.int 31)))) (fC (.int 5))) fNil)) (fC (.int 2147483629))) (gN 1)))
    (sSeq (sAsg (fLc (fSeq (fVar 0)) (gN 2) fYes (fB1 bAbs (fCons (fVar 2) fNil)) [2]) (gN 3))
    (sRet (fDisp [((fC (.str "cells")), (fRevL (fVar 3))), ((fC (.str "left")), (fC (.int 1))), ((fC (.str "mixed")), (fVar 1)), ((fC (.str "turn")), (fC (.int 0)))])))))
def f__law_pick : FS :=
    (sSeq (sIf (fB (fBin (pII0 fun i j => .bl (decide (i < j))) (fVar 1) (fC (.int 2)))) (sRet (fC (.int 0))) (fun D δ W => D.nx δ W))
    (sSeq (sAsg (fBin pSub' (fVar 0) (fC (.str "cells"))) (gN 2))
    (sSeq (sWhile (fAndT (fB (fBin (pII0 fun i j => .bl (decide (i < j))) (fBin pSub' (fVar 0) (fC (.str "left"))) (fC (.int 2)))) (fB (fBin (pII0 fun i j => .bl (decide (j < i))) (fB1 bLen (fCons (fVar 2) fNil)) (fC (.int 0))))) (sAsg (fM0 isL mPop (fVar 2)) (gSb (fVar 0) (fC (.str "left")) pSet)))
    (sSeq (sAsg (fBin pSub' (fVar 0) (fC (.str "left"))) (gN 3))
    (sSeq (sIf (fB (fBin (pII0 fun i j => .bl (decide (j < i))) (fVar 3) (fC (.int 1)))) (sSeq (sAsg (fBin pFdiv (fVar 3) (fVar 1)) (gSb (fVar 0) (fC (.str "left")) pSet))
    (sRet (fBin pMod (fB1 bInt (fCons (fVar 3) fNil)) (fVar 1)))) (fun D δ W => D.nx δ W))
    (sSeq (sAsg (fBin pAdd (fBin pSub' (fVar 0) (fC (.str "turn"))) (fC (.int 1))) (gSb (fVar 0) (fC (.str "turn")) pSet))
    (sSeq (sAsg (fBin pSub' (fVar 0) (fC (.str "turn"))) (gN 4))
    (sSeq (sAsg (fBin pMod (fB1 bInt (fCons (fBin pAdd (fBin pSub' (fVar 0) (fC (.str "mixed"))) (fBin pMul (fVar 4) (fC (.int 104729)))) fNil)) (fC (.int 998244353))) (gN 5))
    (sSeq (sAsg (fBin pMod (fB1 bInt (fCons (fBin pAdd (fBin pMul (fVar 5) (fVar 5)) (fBin pMul (fVar 4) (fC (.int 17)))) fNil)) (fC (.int 2147483647))) (gN 5))
    (sRet (fBin pMod (fB1 bInt (fCons (fBin pFdiv (fVar 5) (fC (.int 16))) fNil)) (fVar 1))))))))))))
def f__law_any_order : FS :=
    (sSeq (sAsg (fB1 bList (fCons (fVar 1) fNil)) (gN 2))
    (sRet (fLc (fRng1 (fCons (fB1 bLen (fCons (fVar 2) fNil)) fNil)) (gN 3) fYes (fM isL mPopAt (fVar 2) (fCons (fCall sp__law_pick (fCons (fVar 0) (fCons (fB1 bLen (fCons (fVar 2) fNil)) fNil))) fNil)) [3])))
abbrev RT (Q : DK) : DE := { nx := fun _ W' => ∃ W2, Sub W2 W' ∧ Q .non W2, rt := fun d W' => ∃ W2, Sub W2 W' ∧ Q d W2 }
theorem st_if (e : EvT p δ W k) (h1 : k = true → ∀ W1, Sub W W1 → s B δ W1) (h2 : k = false → ∀ W1, Sub W W1 → t B δ W1) : sIf p s t B δ W := e W _ (Sub.refl _) fun W1 s1 => by
  cases k with
  | true => exact h1 rfl W1 s1
  | false => exact h2 rfl W1 s1
theorem st_asgI {i : Nat} (e : Ev f δ W (Is d)) (h : ∀ W1, Sub W W1 → B.nx (δ.set i (some d)) W1) : sAsg f (gN i) B δ W := e W _ (Sub.refl _) fun x W1 s1 i => by rw [show x = d from i]; exact h W1 s1
theorem st_asgN {i : Nat} (e : Ev f δ W (New xs)) (h : ∀ p W1, Sub W W1 → W p = none → W1 p = some (.lst xs) → B.nx (δ.set i (some (.ref p))) W1) : sAsg f (gN i) B δ W := e W _ (Sub.refl _) fun x W1 s1 i => by obtain ⟨p, rfl, h1, h2⟩ := i; exact h p W1 s1 h1 h2
theorem st_retE (e : Ev f δ W (Is d)) (h : ∀ W1, Sub W W1 → B.rt d W1) : sRet f B δ W := e W _ (Sub.refl _) fun x W1 s1 i => by rw [show x = d from i]; exact h W1 s1
theorem sz (n : Nat) (h : n ≤ 1000 := by omega) : n ≤ sizeLine := Nat.le_trans h (by have := sizeLine_eq; omega)
theorem loop_acc {ys : List α} (I : List α → DL.Env → DW → Prop) (hk : ∀ done δ W', I done δ W' → keep W')
    (hs : ∀ done z rest δ W' (N : DL.Env → DW → Prop), ys = done ++ z :: rest → I done δ W' → (∀ δ2 W2, I (done ++ [z]) δ2 W2 → N δ2 W2) → g (enc z) δ W' fun δ2 W2 => body { nx := N, rt := B.rt, bk := B.nx, ct := N } δ2 W2)
    (he : ∀ δ W', I ys δ W' → B.nx δ W') : ∀ (rest done : List α) δ W', ys = done ++ rest → I done δ W' → loopD keep g body B (rest.map enc) δ W'
  | [], done, δ, W', e, h => ⟨hk _ _ _ h, he δ W' (by rw [e, List.append_nil]; exact h)⟩
  | z :: rest, done, δ, W', e, h => ⟨hk _ _ _ h, hs done z rest δ W' _ e h fun δ2 W2 h2 => loop_acc I hk hs he rest (done ++ [z]) δ2 W2 (by rw [e, List.append_assoc]; rfl) h2⟩
theorem for_acc {ys : List α} (I : List α → DL.Env → DW → Prop) (hi : EvJ fi δ W0 (ys.map enc)) (s0 : Sub W0 W) (hsub : ∀ done δ W', I done δ W' → Sub W0 W') (h0 : ∀ W1, Sub W W1 → I [] δ W1)
    (hs : ∀ done z rest δ W' (N : DL.Env → DW → Prop), ys = done ++ z :: rest → I done δ W' → (∀ δ2 W2, I (done ++ [z]) δ2 W2 → N δ2 W2) → g (enc z) δ W' fun δ2 W2 => body { nx := N, rt := B.rt, bk := B.nx, ct := N } δ2 W2)
    (he : ∀ δ W', I ys δ W' → B.nx δ W') : sFor fi g body B δ W := hi W _ s0 fun keep W2 s2 hk => loop_acc I (fun d e W' h => hk W' (hsub d e W' h)) hs he ys [] δ W2 rfl (h0 W2 s2)
theorem rngD0 (n : Nat) : rngD 0 n = (List.range n).map fun k => D.int ((k : Nat) : Int) := by
  unfold rngD
  congr 1
  funext k
  rw [Int.zero_add]
theorem ev_len (e : Ev f δ W (Is d)) {n : Nat} (h : lenD W d = some n) : Ev (fB1 bLen (fCons f fNil)) δ W (Is (.int n)) := ev_b1 (eva_cons e eva_nil) (evb_len h)
/-! ### the source -/
def dcS (c : Addr) (l m t : Int) : List (Key × D) := [(.inr "cells", .ref c), (.inr "left", .int l), (.inr "mixed", .int m), (.inr "turn", .int t)]
def St (s c : Addr) (l m t : Int) (xs : List Int) (W : DW) : Prop := s ≠ c ∧ W s = some (.dic (dcS c l m t)) ∧ W c = some (.lst (xs.map D.int))
theorem St.src {s c : Addr} {l m t : Int} {xs : List Int} {W : DW} (h : St s c l m t xs W) : Src s c W := ⟨h.1, l, m, t, xs, h.2.1, h.2.2⟩
theorem Src.st {s c : Addr} {W : DW} (h : Src s c W) : ∃ l m t xs, St s c l m t xs W := by
  obtain ⟨h1, l, m, t, xs, h2, h3⟩ := h
  exact ⟨l, m, t, xs, h1, h2, h3⟩
theorem St.up {s c : Addr} {l m t : Int} {xs : List Int} {W W1 : DW} (h : St s c l m t xs W) (u : Sub W W1) : St s c l m t xs W1 := ⟨h.1, u _ _ h.2.1, u _ _ h.2.2⟩
def Bk (s c : Addr) (W W' : DW) : Prop := ∀ a o, a ≠ s → a ≠ c → W a = some o → W' a = some o
theorem Bk.refl {s c : Addr} (W : DW) : Bk s c W W := fun _ _ _ _ h => h
theorem Bk.sub {s c : Addr} {W W1 W2 : DW} (h : Bk s c W W1) (u : Sub W1 W2) : Bk s c W W2 := fun a o h1 h2 h3 => u _ _ (h a o h1 h2 h3)
theorem Bk.trans {s c : Addr} {W W1 W2 : DW} (h : Bk s c W W1) (u : Bk s c W1 W2) : Bk s c W W2 := fun a o h1 h2 h3 => u a o h1 h2 (h a o h1 h2 h3)
theorem Bk.ws {s c : Addr} {W W1 : DW} {o : DO} (h : Bk s c W W1) : Bk s c W (wup W1 s o) := fun a o h1 h2 h3 => by rw [wup_ne h1]; exact h a o h1 h2 h3
theorem Bk.wc {s c : Addr} {W W1 : DW} {o : DO} (h : Bk s c W W1) : Bk s c W (wup W1 c o) := fun a o h1 h2 h3 => by rw [wup_ne h2]; exact h a o h1 h2 h3
theorem Bk.new {s c : Addr} {W W1 : DW} {p : Addr} {o : DO} (h : Bk s c W W1) (hp : W p = none) : Bk s c W (wup W1 p o) := fun a u h1 h2 h3 => by
  have : a ≠ p := fun e => by subst e; rw [hp] at h3; cases h3
  rw [wup_ne this]
  exact h a u h1 h2 h3
theorem mv_of {s c : Addr} {W W1 : DW} (h : Bk s c W W1) (g : Src s c W1) : Mv s c W W1 := ⟨h, fun _ => g⟩
theorem Mv.sub {s c : Addr} {W W1 W2 : DW} (h : Mv s c W W1) (u : Sub W1 W2) : Mv s c W W2 := ⟨Bk.sub h.1 u, fun g => by
  obtain ⟨l, m, t, xs, g⟩ := (h.2 g).st
  exact (g.up u).src⟩
theorem Mv.trans {s c : Addr} {W W1 W2 : DW} (h : Mv s c W W1) (u : Mv s c W1 W2) : Mv s c W W2 := ⟨Bk.trans h.1 u.1, fun g => u.2 (h.2 g)⟩
theorem Mv.refl {s c : Addr} (W : DW) : Mv s c W W := ⟨Bk.refl W, id⟩
theorem kCL : ¬ ((("cells" : Str)) = ("left" : Str)) := by decide +kernel
theorem kCM : ¬ ((("cells" : Str)) = ("mixed" : Str)) := by decide +kernel
theorem kCT : ¬ ((("cells" : Str)) = ("turn" : Str)) := by decide +kernel
theorem kLM : ¬ ((("left" : Str)) = ("mixed" : Str)) := by decide +kernel
theorem kLT : ¬ ((("left" : Str)) = ("turn" : Str)) := by decide +kernel
theorem kMT : ¬ ((("mixed" : Str)) = ("turn" : Str)) := by decide +kernel
theorem vC (c : Addr) (l m t : Int) : valD (dcS c l m t) (.inr "cells") = some (.ref c) := by simp [valD, dcS]
theorem vL (c : Addr) (l m t : Int) : valD (dcS c l m t) (.inr "left") = some (.int l) := by simp [valD, dcS, kCL]
theorem vM (c : Addr) (l m t : Int) : valD (dcS c l m t) (.inr "mixed") = some (.int m) := by simp [valD, dcS, kCM, kLM]
theorem vT (c : Addr) (l m t : Int) : valD (dcS c l m t) (.inr "turn") = some (.int t) := by simp [valD, dcS, kCT, kLT, kMT]
theorem pL (c : Addr) (l m t v : Int) : putD (dcS c l m t) (.inr "left") (.int v) = dcS c v m t := by
  have h1 : ¬ ((("mixed" : Str)) = ("left" : Str)) := fun e => kLM e.symm
  have h2 : ¬ ((("turn" : Str)) = ("left" : Str)) := fun e => kLT e.symm
  simp [putD, dcS, kCL, h1, h2]
theorem pT (c : Addr) (l m t v : Int) : putD (dcS c l m t) (.inr "turn") (.int v) = dcS c l m v := by simp [putD, dcS, kCT, kLT, kMT]
section
variable {s c : Addr} {l m t : Int} {xs : List Int} {W : DW} {f g : FE} {δ : DL.Env} (h : St s c l m t xs W)
include h
theorem St.left (e : Ev f δ W (Is (.ref s))) : Ev (fBin pSub' f (fC (.str "left"))) δ W (Is (.int l)) := ev_bin e ev_c (evo_ix (by simp only [ixD]; rw [h.2.1]; exact vL c l m t))
theorem St.cells (e : Ev f δ W (Is (.ref s))) : Ev (fBin pSub' f (fC (.str "cells"))) δ W (Is (.ref c)) := ev_bin e ev_c (evo_ix (by simp only [ixD]; rw [h.2.1]; exact vC c l m t))
theorem St.mixed (e : Ev f δ W (Is (.ref s))) : Ev (fBin pSub' f (fC (.str "mixed"))) δ W (Is (.int m)) := ev_bin e ev_c (evo_ix (by simp only [ixD]; rw [h.2.1]; exact vM c l m t))
theorem St.turn (e : Ev f δ W (Is (.ref s))) : Ev (fBin pSub' f (fC (.str "turn"))) δ W (Is (.int t)) := ev_bin e ev_c (evo_ix (by simp only [ixD]; rw [h.2.1]; exact vT c l m t))
theorem St.putL (v : Int) : St s c v m t xs (wup W s (.dic (dcS c v m t))) := ⟨h.1, wup_same, by rw [wup_ne h.1.symm]; exact h.2.2⟩
theorem St.putT (v : Int) : St s c l m v xs (wup W s (.dic (dcS c l m v))) := ⟨h.1, wup_same, by rw [wup_ne h.1.symm]; exact h.2.2⟩
theorem St.putC (ys : List Int) : St s c l m t ys (wup W c (.lst (ys.map D.int))) := ⟨h.1, by rw [wup_ne h.1]; exact h.2.1, wup_same⟩
end
theorem evo_mod {i j : Int} {W : DW} (h : 0 < j) : EvO pMod (.int i) (.int j) W (Is (.int (i % j))) := fun W1 Q s k => ⟨h, k _ W1 (Sub.refl _) rfl⟩
theorem evo_fdiv {i j : Int} {W : DW} (h : 0 < j) (h2 : j ≤ 1000000) : EvO pFdiv (.int i) (.int j) W (Is (.int (i / j))) := fun W1 Q s k => ⟨⟨h, by
  have h3 : j.natAbs < 2 ^ 64 := by omega
  by_cases h0 : j.natAbs = 0
  · omega
  · have := (Nat.log2_lt h0).mpr h3; omega⟩, k _ W1 (Sub.refl _) rfl⟩
theorem evo_mulC {i j : Int} {W : DW} (h1 : -(2 ^ 64) < j) (h2 : j < 2 ^ 64) : EvO pMul (.int i) (.int j) W (Is (.int (i * j))) := fun W1 Q s k => ⟨.inl (.inr ⟨h1, h2⟩), k _ W1 (Sub.refl _) rfl⟩
theorem st_sput {f o : FE} {B : DE} {δ : DL.Env} {W : DW} {s : Addr} {v : D} {k : Str} {kvs : List (Key × D)} (hf : Ev f δ W (Is v)) (ho : ∀ W1, Sub W W1 → Ev o δ W1 (Is (.ref s))) (w : W s = some (.dic kvs)) (hl : kvs.length < sizeLine)
    (h : ∀ W1, Sub W W1 → B.nx δ (wup W1 s (.dic (putD kvs (.inr k) v)))) : sAsg f (gSb o (fC (.str k)) pSet) B δ W :=
  hf W _ (Sub.refl _) fun x W1 s1 i => by
    rw [show x = v from i]
    refine (ho W1 s1) W1 _ (Sub.refl _) fun y W2 s2 j => ?_
    rw [show y = D.ref s from j]
    exact .inr ⟨kvs, .inr k, s2 _ _ (s1 _ _ w), rfl, hl, h W2 (s1.trans s2)⟩
theorem len__law_pick : ∀ ds W Q, sp__law_pick ds W Q → ds.length = 2 := fun ds W Q ⟨s, c, m, e, _⟩ => by rw [e]; rfl
theorem pick_while {s c : Addr} {B : DE} {most m t : Int} {W : DW} {δ : DL.Env} (hδ : δ = [some (.ref s), some (.int most), some (.ref c), none, none, none])
    (hB : ∀ l xs W1, Bk s c W W1 → St s c l m t xs W1 → B.nx δ W1) : ∀ (k : Nat) (l : Int) (xs : List Int) (W1 : DW), xs.length = k → Bk s c W W1 → St s c l m t xs W1 →
      whileD (fAndT (fB (fBin (pII0 fun i j => .bl (decide (i < j))) (fBin pSub' (fVar 0) (fC (.str "left"))) (fC (.int 2)))) (fB (fBin (pII0 fun i j => .bl (decide (j < i))) (fB1 bLen (fCons (fVar 2) fNil)) (fC (.int 0))))) (sAsg (fM0 isL mPop (fVar 2)) (gSb (fVar 0) (fC (.str "left")) pSet)) B (k + 1) δ W1
  | k, l, xs, W1, hk, hb, hs => by
    subst hδ
    refine (evt_and (k := decide (l < 2)) (l := decide ((0 : Int) < ((xs.length : Nat) : Int))) (evt_b (ev_bin (hs.left (ev_var rfl)) ev_c evo_ii)) fun _ => evt_b (ev_bin (ev_len (d := .ref c) (n := xs.length) (ev_var rfl) (by simp only [lenD]; rw [hs.2.2]; simp)) ev_c evo_ii)).run fun W2 s2 => ?_
    have hs2 := hs.up s2
    have hb2 := hb.sub s2
    by_cases h : (decide (l < 2) && decide ((0 : Int) < ((xs.length : Nat) : Int))) = true
    · rw [if_pos h]
      simp at h
      cases k with
      | zero => omega
      | succ k =>
        have hx : xs ≠ [] := fun e => by rw [e] at hk; cases hk
        obtain ⟨ys, y, rfl⟩ : ∃ ys y, xs = ys ++ [y] := ⟨xs.dropLast, xs.getLast hx, (List.dropLast_concat_getLast hx).symm⟩
        refine ⟨_, rfl, ⟨c, _, rfl, hs2.2.2⟩, ⟨c, _, .int y, rfl, hs2.2.2, by simp, ?_⟩⟩
        have e : ((ys ++ [y]).map D.int).dropLast = ys.map D.int := by simp
        rw [e]
        have hs3 := hs2.putC ys
        refine ⟨_, rfl, .inr ⟨_, _, hs3.2.1, rfl, sz 5, ?_⟩⟩
        rw [pL]
        exact pick_while rfl hB k y ys _ (by simpa using hk) hb2.wc.ws (hs3.putL y)
    · rw [if_neg h]
      exact hB l xs W2 hb2 hs2
theorem body__law_pick : ∀ ds W Q, sp__law_pick ds W Q → f__law_pick (RT Q) (startD ["source", "most", "cells", "others", "lap", "stirred"] ds) W := by
  rintro ds W Q ⟨s, c, most, rfl, hS, hm, q⟩
  unfold f__law_pick
  obtain ⟨l, m, t, xs, hS⟩ := hS.st
  have fin : ∀ v W1, Bk s c W W1 → Src s c W1 → (most < 2 → v = 0) → (2 ≤ most → 0 ≤ v ∧ v < most) → ∃ W2, Sub W2 W1 ∧ Q (.int v) W2 := fun v W1 h1 h2 h3 h4 => ⟨W1, Sub.refl _, q v W1 (mv_of h1 h2) h3 h4⟩
  refine st_if (k := decide (most < 2)) (evt_b (ev_bin (ev_var rfl) ev_c evo_ii)) (fun h W1 s1 => ?_) fun h W1 s1 => ?_
  · exact st_retE (B := RT Q) ev_c fun W2 s2 => fin 0 W2 ((Bk.refl W).sub (s1.trans s2)) (hS.up (s1.trans s2)).src (fun _ => rfl) fun h2 => by simp at h; omega
  · have h := of_decide_eq_false h
    have hp : 0 < most := by omega
    have hS1 := hS.up s1
    have hb1 : Bk s c W W1 := (Bk.refl W).sub s1
    refine st_asgI (hS1.cells (ev_var rfl)) fun W2 s2 => ?_
    have hS2 := hS1.up s2
    have hb2 := hb1.sub s2
    refine ⟨xs.length + 1, pick_while (W := W) (most := most) (m := m) (t := t) rfl (fun l xs W3 hb3 hS3 => ?_) xs.length l xs W2 rfl hb2 hS2⟩
    dsimp only
    refine st_asgI (hS3.left (ev_var rfl)) fun W4 s4 => ?_
    have hS4 := hS3.up s4
    have hb4 := hb3.sub s4
    refine st_if (k := decide (1 < l)) (evt_b (ev_bin (ev_var rfl) ev_c evo_ii)) (fun h1 W5 s5 => ?_) fun h1 W5 s5 => ?_
    · have hS5 := hS4.up s5
      refine st_sput (ev_bin (ev_var rfl) (ev_var rfl) (evo_fdiv hp hm)) (fun W6 s6 => ev_var rfl) hS5.2.1 (sz 5) fun W6 s6 => ?_
      rw [pL]
      have hS6 := (hS5.up s6).putL (l / most)
      refine st_retE (B := RT Q) (ev_bin (ev_b1 (eva_cons (ev_var rfl) eva_nil) evb_intI) (ev_var rfl) (evo_mod hp)) fun W7 s7 => fin (l % most) W7 (((hb4.sub (s5.trans s6)).ws).sub s7) (hS6.up s7).src (fun z => by omega) fun _ => ⟨Int.emod_nonneg _ (by omega), Int.emod_lt_of_pos _ hp⟩
    · have hS5 := hS4.up s5
      have hb5 := hb4.sub s5
      refine st_sput (ev_bin (hS5.turn (ev_var rfl)) ev_c evo_addI) (fun W6 s6 => ev_var rfl) hS5.2.1 (sz 5) fun W6 s6 => ?_
      rw [pT]
      have hS6 := (hS5.up s6).putT (t + 1)
      have hb6 : Bk s c W (wup W6 s (.dic (dcS c l m (t + 1)))) := (hb5.sub s6).ws
      refine st_asgI (hS6.turn (ev_var rfl)) fun W7 s7 => ?_
      have hS7 := hS6.up s7
      refine st_asgI (ev_bin (ev_b1 (eva_cons (ev_bin (hS7.mixed (ev_var rfl)) (ev_bin (ev_var rfl) ev_c (evo_mulC (by omega) (by omega))) evo_addI) eva_nil) evb_intI) ev_c (evo_mod (by omega))) fun W8 s8 => ?_
      have b1 : 0 ≤ (m + (t + 1) * 104729) % 998244353 := Int.emod_nonneg _ (by omega)
      have b2 : (m + (t + 1) * 104729) % 998244353 < 998244353 := Int.emod_lt_of_pos _ (by omega)
      refine st_asgI (ev_bin (ev_b1 (eva_cons (ev_bin (ev_bin (ev_var rfl) (ev_var rfl) (evo_mulC (by omega) (by omega))) (ev_bin (ev_var rfl) ev_c (evo_mulC (by omega) (by omega))) evo_addI) eva_nil) evb_intI) ev_c (evo_mod (by omega))) fun W9 s9 => ?_
      exact st_retE (B := RT Q) (ev_bin (ev_b1 (eva_cons (ev_bin (ev_var rfl) ev_c (evo_fdiv (by omega) (by omega))) eva_nil) evb_intI) (ev_var rfl) (evo_mod hp)) fun W10 s10 => fin _ W10 (hb6.sub (s7.trans (s8.trans (s9.trans s10)))) (hS7.up (s8.trans (s9.trans s10))).src (fun z => by omega) fun _ => ⟨Int.emod_nonneg _ (by omega), Int.emod_lt_of_pos _ hp⟩
theorem mergeD_dcS (c : Addr) (l m t : Int) : mergeD [] (dcS c l m t) = dcS c l m t := by
  simp [mergeD, putD, dcS, kCL, kCM, kCT, kLM, kLT, kMT]
theorem evb_abs {i : Int} {W : DW} : EvB bAbs [.int i] W (Is (.int (if i < 0 then -i else i))) := fun W1 Q s k => ⟨i, rfl, k _ W1 (Sub.refl _) rfl⟩
theorem rng_run {f : FE} {δ : DL.Env} {W : DW} {n : Nat} (h : Ev f δ W (Is (.int n))) (h2 : n ≤ 100000) {R : List D → (DW → Prop) → DW → Prop} (k : ∀ W1, Sub W W1 → R ((List.range n).map fun k => D.int ((k : Nat) : Int)) (fun _ => True) W1) : fRng1 (fCons f fNil) δ W R :=
  h W _ (Sub.refl _) fun x W1 s1 i => by
    rw [show x = D.int n from i]
    refine ⟨n, rfl, by omega, by omega, ?_⟩
    rw [show ((n : Nat) : Int).toNat = n by omega, rngD0]
    exact k W1 s1
theorem seq_run {f : FE} {δ : DL.Env} {W : DW} {d : D} {xs : List D} (h : Ev f δ W (Is d)) (e : seqD W d = some xs) {R : List D → (DW → Prop) → DW → Prop} (k : ∀ W1, Sub W W1 → R xs (keepD d xs) W1) : fSeq f δ W R :=
  h W _ (Sub.refl _) fun x W1 s1 i => by
    rw [show x = d from i]
    exact ⟨xs, seqD_sub s1 e, k W1 s1⟩
theorem lc_acc {α : Type} {enc : α → D} {keep : DW → Prop} {g : FG} {tt : FT} {te : FE} {p : Addr} {vs : List Nat} {Q : DW → Prop} {δ : DL.Env} {ys : List α} (I : List α → DW → Prop) (hk : ∀ done W', I done W' → keep W')
    (hs : ∀ done z rest W' (N : DW → Prop), ys = done ++ z :: rest → I done W' → (∀ W2, I (done ++ [z]) W2 → N W2) → g (enc z) (wipeD δ vs) W' fun δ2 W2 => tt δ2 W2 fun b W3 => if b = true then te δ2 W3 fun y W4 => ∃ acc, W4 p = some (.lst acc) ∧ acc.length < sizeLine ∧ N (wup W4 p (.lst (acc ++ [y]))) else N W3)
    (he : ∀ W', I ys W' → Q W') : ∀ (rest done : List α) W', ys = done ++ rest → I done W' → lcD keep g tt te p vs Q (rest.map enc) δ W'
  | [], done, W', e, h => ⟨hk _ _ h, he W' (by rw [e, List.append_nil]; exact h)⟩
  | z :: rest, done, W', e, h => ⟨hk _ _ h, hs done z rest W' (fun W => lcD keep g tt te p vs Q (rest.map enc) δ W) e h fun W2 h2 => lc_acc I hk hs he rest (done ++ [z]) W2 (by rw [e, List.append_assoc]; rfl) h2⟩
theorem pick_run {f g : FE} {δ : DL.Env} {W : DW} {s c : Addr} {m : Int} (hS : Src s c W) (ef : Ev f δ W (Is (.ref s))) (eg : Ev g δ W (Is (.int m))) (hm : m ≤ 1000000) {Q : DK} (k : ∀ v W', Mv s c W W' → (m < 2 → v = 0) → (2 ≤ m → 0 ≤ v ∧ v < m) → Q (.int v) W') : fCall sp__law_pick (fCons f (fCons g fNil)) δ W Q :=
  (eva_cons ef (eva_cons eg eva_nil)) W _ (Sub.refl _) fun W1 s1 => ⟨s, c, m, rfl, ((Mv.refl W).sub s1).2 hS, hm, fun v W' h1 h2 h3 => k v W' (((Mv.refl W).sub s1).trans h1) h2 h3⟩
theorem Src.ne {s c : Addr} {W : DW} (h : Src s c W) {p : Addr} (hp : W p = none) : p ≠ s ∧ p ≠ c := by
  obtain ⟨l, m, t, xs, h⟩ := h.st
  refine ⟨fun e => ?_, fun e => ?_⟩
  · subst e; rw [h.2.1] at hp; cases hp
  · subst e; rw [h.2.2] at hp; cases hp
theorem Src.up {s c : Addr} {W W1 : DW} (h : Src s c W) (u : Sub W W1) : Src s c W1 := ((Mv.refl W).sub u).2 h
theorem Mv.at {s c : Addr} {W W1 : DW} (h : Mv s c W W1) {p : Addr} {o : DO} (hp : p ≠ s ∧ p ≠ c) (w : W p = some o) : W1 p = some o := h.1 p o hp.1 hp.2 w
/-- an own list changes -/
theorem Mv.own {s c : Addr} {W W1 : DW} {p : Addr} {o : DO} (h : Mv s c W W1) (hp : W p = none) (hn : p ≠ s ∧ p ≠ c) : Mv s c W (wup W1 p o) := ⟨Bk.new h.1 hp, fun g => by
  obtain ⟨l, m, t, xs, z⟩ := (h.2 g).st
  exact ⟨z.1, l, m, t, xs, by rw [wup_ne hn.1.symm]; exact z.2.1, by rw [wup_ne hn.2.symm]; exact z.2.2⟩⟩
theorem Mv.none {s c : Addr} {W W1 : DW} (h : Mv s c W W1) (hS : Src s c W) {p : Addr} (hp : W1 p = Option.none) : W p = Option.none := by
  have hn := (h.2 hS).ne hp
  cases e : W p with
  | none => rfl
  | some o => have := h.at hn e; rw [hp] at this; cases this
theorem len__law_open_cells : ∀ ds W Q, sp__law_open_cells ds W Q → ds.length = 1 := fun ds W Q ⟨s, xs, e, _⟩ => by rw [e]; rfl
theorem body__law_open_cells : ∀ ds W Q, sp__law_open_cells ds W Q → f__law_open_cells (RT Q) (startD ["script", "stirred", "cell", "cells"] ds) W := by
  rintro ds W Q ⟨x, xs, rfl, hx, hnt, hl, q⟩
  unfold f__law_open_cells
  refine st_asgI ev_c fun W1 s1 => ?_
  refine for_acc (W0 := W) (ys := xs) (enc := D.int) (fun done δ W' => (∃ (v : Int) (x2 : Option D), δ = [some x, some (.int v), x2, none]) ∧ Sub W W') (evi_seq (ev_var rfl) hx) s1 (fun done δ W' h => h.2) (fun W2 s2 => ⟨⟨11, none, rfl⟩, s1.trans s2⟩) ?_ ?_
  · rintro done i rest δ W2 N e ⟨⟨v, x2, rfl⟩, s2⟩ hN
    show sAsg _ _ _ [some x, some (.int v), some (.int i), none] W2
    exact st_asgI (ev_bin (ev_b1 (eva_cons (ev_bin (ev_bin (ev_bin (ev_var rfl) ev_c (evo_mulC (by omega) (by omega))) (ev_bin (ev_var rfl) ev_c (evo_mulC (by omega) (by omega))) evo_addI) ev_c evo_addI) eva_nil) evb_intI) ev_c (evo_mod (by omega))) fun W3 s3 => hN _ _ ⟨⟨_, _, rfl⟩, s2.trans s3⟩
  · rintro δ W2 ⟨⟨v, x2, rfl⟩, s2⟩
    dsimp only
    refine st_asgN (ev_lcM (enc := D.int) (ys := xs) (fun i => .int (if i < 0 then -i else i)) (evi_seq (ev_var rfl) (seqD_sub s2 hx)).i (fun i hi => ⟨_, fun _ _ h => h, ?_⟩) (sz _)) fun p W3 s3 hp wp => ?_
    · exact ev_b1 (eva_cons (ev_var rfl) eva_nil) evb_abs
    · have wp' : W3 p = some (.lst ((xs.map fun i => if i < 0 then -i else i).map D.int)) := by rw [wp, List.map_map]; rfl
      show fDisp _ [some x, some (.int v), x2, some (.ref p)] W3 _
      intro d hd
      have hne : p ≠ d := fun e => by rw [e, hd] at wp; cases wp
      refine ⟨_, rfl, _, by simp only [seqD]; rw [wup_ne hne, wp'], by simp, fun r hr => ?_⟩
      have hne2 : r ≠ d := fun e => by rw [e, wup_same] at hr; cases hr
      refine ⟨_, rfl, ?_⟩
      refine ⟨by rw [wup_ne hne2.symm]; exact wup_same, dcS r 1 v 0, rfl, by simp [dcS], ?_⟩
      rw [mergeD_dcS]
      have hr0 : W3 r = none := by rw [wup_ne hne2] at hr; exact hr
      refine ⟨_, Sub.refl _, q d r _ ?_ ⟨hne2.symm, 1, v, 0, (xs.map fun i => if i < 0 then -i else i).reverse, wup_same, ?_⟩⟩
      · have hd0 : W d = none := s2.none (s3.none hd)
        have hr1 : W r = none := s2.none (s3.none hr0)
        exact (((s2.trans s3).new hd0).new hr1).new hd0
      · rw [wup_ne hne2, wup_same, List.map_reverse]
theorem lcs_yes {te : FE} {p : Addr} {N : DW → Prop} {δ2 : DL.Env} {W : DW} (h : te δ2 W fun y W4 => ∃ acc, W4 p = some (.lst acc) ∧ acc.length < sizeLine ∧ N (wup W4 p (.lst (acc ++ [y])))) : fYes δ2 W fun b W3 => if b = true then te δ2 W3 fun y W4 => ∃ acc, W4 p = some (.lst acc) ∧ acc.length < sizeLine ∧ N (wup W4 p (.lst (acc ++ [y]))) else N W3 := by
  unfold fYes
  simp only [↓reduceIte]
  exact h
theorem len__law_any_order : ∀ ds W Q, sp__law_any_order ds W Q → ds.length = 2 := fun ds W Q ⟨s, c, a, xs, e, _⟩ => by rw [e]; rfl
theorem erase_perm {α : Type} {xs : List α} {j : Nat} {y : α} (h : xs[j]? = some y) (acc : List α) : (acc ++ [y] ++ xs.eraseIdx j).Perm (acc ++ xs) := by
  obtain ⟨hj, e⟩ := List.getElem?_eq_some_iff.mp h
  rw [List.append_assoc]
  refine List.Perm.append_left acc ?_
  rw [List.eraseIdx_eq_take_drop_succ]
  have h2 : xs = xs.take j ++ y :: xs.drop (j + 1) := by
    rw [← e, List.getElem_cons_drop hj, List.take_append_drop]
  refine List.Perm.trans ?_ (List.Perm.of_eq h2.symm)
  show (y :: (xs.take j ++ xs.drop (j + 1))).Perm _
  exact List.perm_middle.symm
theorem body__law_any_order : ∀ ds W Q, sp__law_any_order ds W Q → f__law_any_order (RT Q) (startD ["source", "things", "others", "lap"] ds) W := by
  rintro ds W Q ⟨s, c, a, xs, rfl, hS, wa, has, hac, hl, q⟩
  unfold f__law_any_order
  refine st_asgN (ev_b1 (eva_cons (ev_var rfl) eva_nil) (evb_list (by simp only [seqD]; rw [wa]))) fun o W1 s1 ho wo => ?_
  have hno := hS.ne ho
  show fLc (fRng1 (fCons (fB1 bLen (fCons (fVar 2) fNil)) fNil)) (gN 3) fYes (fM isL mPopAt (fVar 2) (fCons (fCall sp__law_pick (fCons (fVar 0) (fCons (fB1 bLen (fCons (fVar 2) fNil)) fNil))) fNil)) [3] [some (.ref s), some (.ref a), some (.ref o), none] W1 _
  refine rng_run (n := xs.length) (ev_len (ev_var rfl) (by simp only [lenD]; rw [wo])) (by omega) fun W2 s2 p hp => ?_
  have hpW : W p = none := s1.none (s2.none hp)
  have hnp := hS.ne hpW
  have hpo : p ≠ o := fun e => by rw [e, s2 _ _ wo] at hp; cases hp
  refine lc_acc (ys := List.range xs.length) (enc := fun k : Nat => D.int (k : Int)) (fun done W' => Mv s c W W' ∧ ∃ acc rem, W' p = some (.lst acc) ∧ W' o = some (.lst rem) ∧ (acc ++ rem).Perm xs ∧ rem.length + done.length = xs.length) (fun _ _ _ => trivial) ?_ ?_ _ [] _ rfl ⟨((Mv.refl W).sub (s1.trans s2)).own hpW hnp, [], xs, wup_same, by rw [wup_ne hpo.symm]; exact s2 _ _ wo, List.Perm.refl _, by simp⟩
  · rintro done z rest W3 N e ⟨hM, acc, rem, wp, wo3, hpm, hlen⟩ hN
    have hd : done.length < xs.length := by
      have := congrArg List.length e
      simp at this
      omega
    have hS3 := hM.2 hS
    refine lcs_yes (te := fM isL mPopAt (fVar 2) (fCons (fCall sp__law_pick (fCons (fVar 0) (fCons (fB1 bLen (fCons (fVar 2) fNil)) fNil))) fNil)) (δ2 := [some (.ref s), some (.ref a), some (.ref o), some (.int (z : Nat))]) ?_
    refine ⟨_, rfl, ⟨o, rem, rfl, wo3⟩, ?_⟩
    refine pick_run hS3 (ev_var rfl) (ev_len (d := .ref o) (n := rem.length) (ev_var rfl) (by simp only [lenD]; rw [wo3])) (by omega) fun v W4 hM4 h1 h2 => ?_
    have hv : 0 ≤ v ∧ v < rem.length := by
      by_cases h : (rem.length : Int) < 2
      · have := h1 h; omega
      · have := h2 (by omega); omega
    have wo4 := hM4.at hno wo3
    have wp4 := hM4.at hnp wp
    have hj : v.toNat < rem.length := by omega
    refine ⟨o, rem, v, v.toNat, rem[v.toNat], rfl, rfl, wo4, by omega, by omega, ?_, List.getElem?_eq_getElem hj, ?_⟩
    · unfold seqIndex?
      simp only [show ¬ v < 0 by omega, ↓reduceIte]
      rw [if_pos (by simp; omega)]
    · have hla : acc.length + rem.length = xs.length := by have := hpm.length_eq; simpa using this
      refine ⟨acc, by rw [wup_ne hpo]; exact wp4, by have := sizeLine_eq; omega, hN _ ⟨((hM.trans hM4).own ho hno).own hpW hnp, _, _, wup_same, by rw [wup_ne hpo.symm, wup_same], (erase_perm (List.getElem?_eq_getElem hj) acc).trans hpm, ?_⟩⟩
      rw [List.length_eraseIdx, if_pos hj, List.length_append]
      simp
      omega
  · rintro W3 ⟨hM, acc, rem, wp, wo3, hpm, hlen⟩
    rw [List.length_range] at hlen
    have : rem = [] := List.eq_nil_of_length_eq_zero (by omega)
    subst this
    rw [List.append_nil] at hpm
    exact ⟨W3, Sub.refl _, q acc p W3 hpm hM hpW wp⟩
end A30
/-! Vl1: values without a heap; how data stands for them; frames of values; readings over values. -/
namespace VL
open PySem PySem.Spec PyProof.Rows L2 DL A30
inductive U where
  | non | bl (b : Bool) | int (i : Int) | str (x : Str) | ty (n : String) | tup (xs : List U) | lst (xs : List U) | dic (ks : List Key) (vs : List U) | dit (ks : List (List Key)) (vs : List U) | src | scr (xs : List Int)
abbrev Sc := Option (Addr × Addr)
def seqR (Z : DW) (d : D) (ds : List D) : Prop := ∃ a, d = .ref a ∧ Z a = some (.lst ds)
mutual
def Rep (sc : Sc) (Z : DW) : U → D → Prop
  | .non, d => d = .non
  | .bl b, d => d = .bl b
  | .int i, d => d = .int i
  | .str x, d => d = .str x
  | .ty n, d => d = .ty n
  | .tup us, d => ∃ ds, d = .tup ds ∧ Reps sc Z us ds
  | .lst us, d => ∃ a ds, d = .ref a ∧ Z a = some (.lst ds) ∧ Reps sc Z us ds
  | .dic ks us, d => ∃ a kvs, d = .ref a ∧ Z a = some (.dic kvs) ∧ kvs.map (·.1) = ks ∧ Reps sc Z us (kvs.map (·.2))
  | .dit ks us, d => ∃ a kvs, d = .ref a ∧ Z a = some (.dit kvs) ∧ kvs.map (·.1) = ks ∧ Reps sc Z us (kvs.map (·.2))
  | .src, d => ∃ s c, sc = some (s, c) ∧ d = .ref s
  | .scr xs, d => seqD Z d = some (xs.map D.int) ∧ ∀ ys, d ≠ .tup ys
def Reps (sc : Sc) (Z : DW) : List U → List D → Prop
  | [], ds => ds = []
  | u :: us, ds => ∃ d r, ds = d :: r ∧ Rep sc Z u d ∧ Reps sc Z us r
end
section
variable {sc : Sc} {Z Z' W W' : DW}
mutual
theorem Rep.up (s : Sub Z Z') : ∀ {u : U} {d : D}, Rep sc Z u d → Rep sc Z' u d
  | .non, _, h => h
  | .bl _, _, h => h
  | .int _, _, h => h
  | .str _, _, h => h
  | .ty _, _, h => h
  | .tup us, _, h => by
    unfold Rep at h ⊢
    obtain ⟨ds, e, h⟩ := h
    exact ⟨ds, e, Reps.up s h⟩
  | .lst us, _, h => by
    unfold Rep at h ⊢
    obtain ⟨a, ds, e, w, h⟩ := h
    exact ⟨a, ds, e, s _ _ w, Reps.up s h⟩
  | .dic ks us, _, h => by
    unfold Rep at h ⊢
    obtain ⟨a, ds, e, w, q, h⟩ := h
    exact ⟨a, ds, e, s _ _ w, q, Reps.up s h⟩
  | .dit ks us, _, h => by
    unfold Rep at h ⊢
    obtain ⟨a, ds, e, w, q, h⟩ := h
    exact ⟨a, ds, e, s _ _ w, q, Reps.up s h⟩
  | .src, _, h => by unfold Rep at h ⊢; exact h
  | .scr xs, _, h => by
    unfold Rep at h ⊢
    exact ⟨seqD_sub s h.1, h.2⟩
theorem Reps.up (s : Sub Z Z') : ∀ {us : List U} {ds : List D}, Reps sc Z us ds → Reps sc Z' us ds
  | [], _, h => by unfold Reps at h ⊢; exact h
  | u :: us, _, h => by
    unfold Reps at h ⊢
    obtain ⟨d, r, e, h1, h2⟩ := h
    exact ⟨d, r, e, Rep.up s h1, Reps.up s h2⟩
end
theorem reps_nil {ds : List D} : Reps sc Z [] ds ↔ ds = [] := by unfold Reps; exact Iff.rfl
theorem reps_cons {u : U} {us : List U} {ds : List D} : Reps sc Z (u :: us) ds ↔ ∃ d r, ds = d :: r ∧ Rep sc Z u d ∧ Reps sc Z us r := by
  conv => lhs; unfold Reps
theorem Reps.length : ∀ {us : List U} {ds : List D}, Reps sc Z us ds → ds.length = us.length
  | [], _, h => by rw [reps_nil.mp h]; rfl
  | u :: us, _, h => by
    obtain ⟨d, r, rfl, _, h2⟩ := reps_cons.mp h
    show r.length + 1 = us.length + 1
    rw [Reps.length h2]
theorem Reps.app : ∀ {us vs : List U} {ds es : List D}, Reps sc Z us ds → Reps sc Z vs es → Reps sc Z (us ++ vs) (ds ++ es)
  | [], _, _, _, h, g => by rw [reps_nil.mp h]; exact g
  | u :: us, _, _, _, h, g => by
    obtain ⟨d, r, rfl, h1, h2⟩ := reps_cons.mp h
    exact reps_cons.mpr ⟨d, _, rfl, h1, Reps.app h2 g⟩
theorem Reps.one {u : U} {d : D} (h : Rep sc Z u d) : Reps sc Z [u] [d] := reps_cons.mpr ⟨d, [], rfl, h, reps_nil.mpr rfl⟩
theorem Reps.get : ∀ {us : List U} {ds : List D} {i : Nat} {u : U}, Reps sc Z us ds → us[i]? = some u → ∃ d, ds[i]? = some d ∧ Rep sc Z u d
  | [], _, _, _, _, e => by simp at e
  | v :: us, _, 0, u, h, e => by
    obtain ⟨d, r, rfl, h1, h2⟩ := reps_cons.mp h
    simp at e
    subst e
    exact ⟨d, rfl, h1⟩
  | v :: us, _, i + 1, u, h, e => by
    obtain ⟨d, r, rfl, h1, h2⟩ := reps_cons.mp h
    obtain ⟨x, a, b⟩ := Reps.get (i := i) h2 (by simpa using e)
    exact ⟨x, by simpa using a, b⟩
theorem Reps.take : ∀ (n : Nat) {us : List U} {ds : List D}, Reps sc Z us ds → Reps sc Z (us.take n) (ds.take n)
  | 0, _, _, _ => by simp [reps_nil]
  | n + 1, [], _, h => by rw [reps_nil.mp h]; simp [reps_nil]
  | n + 1, u :: us, _, h => by
    obtain ⟨d, r, rfl, h1, h2⟩ := reps_cons.mp h
    exact reps_cons.mpr ⟨d, _, rfl, h1, Reps.take n h2⟩
theorem Reps.drop : ∀ (n : Nat) {us : List U} {ds : List D}, Reps sc Z us ds → Reps sc Z (us.drop n) (ds.drop n)
  | 0, _, _, h => h
  | n + 1, [], _, h => by rw [reps_nil.mp h]; simp [reps_nil]
  | n + 1, u :: us, _, h => by
    obtain ⟨d, r, rfl, h1, h2⟩ := reps_cons.mp h
    exact Reps.drop n h2
theorem Reps.set : ∀ (n : Nat) {us : List U} {ds : List D} {u : U} {d : D}, Rep sc Z u d → Reps sc Z us ds → Reps sc Z (us.set n u) (ds.set n d)
  | _, [], _, _, _, _, h => by rw [reps_nil.mp h]; simp [reps_nil]
  | 0, v :: us, _, _, _, hd, h => by
    obtain ⟨d, r, rfl, h1, h2⟩ := reps_cons.mp h
    exact reps_cons.mpr ⟨_, _, rfl, hd, h2⟩
  | n + 1, v :: us, _, _, _, hd, h => by
    obtain ⟨d, r, rfl, h1, h2⟩ := reps_cons.mp h
    exact reps_cons.mpr ⟨d, _, rfl, h1, Reps.set n hd h2⟩
theorem Reps.rev : ∀ {us : List U} {ds : List D}, Reps sc Z us ds → Reps sc Z us.reverse ds.reverse
  | [], _, h => by rw [reps_nil.mp h]; simp [reps_nil]
  | u :: us, _, h => by
    obtain ⟨d, r, rfl, h1, h2⟩ := reps_cons.mp h
    rw [List.reverse_cons, List.reverse_cons]
    exact Reps.app (Reps.rev h2) (Reps.one h1)
theorem Reps.rep {us : List U} {ds : List D} (h : Reps sc Z us ds) : ∀ n : Nat, Reps sc Z (List.replicate n us).flatten (List.replicate n ds).flatten
  | 0 => by simp [reps_nil]
  | n + 1 => by
    rw [List.replicate_succ, List.replicate_succ, List.flatten_cons, List.flatten_cons]
    exact Reps.app h (Reps.rep h n)
theorem Reps.dropLast {us : List U} {ds : List D} (h : Reps sc Z us ds) : Reps sc Z us.dropLast ds.dropLast := by
  rw [List.dropLast_eq_take, List.dropLast_eq_take, h.length]
  exact h.take _
theorem Reps.eraseIdx : ∀ (n : Nat) {us : List U} {ds : List D}, Reps sc Z us ds → Reps sc Z (us.eraseIdx n) (ds.eraseIdx n)
  | _, [], _, h => by rw [reps_nil.mp h]; simp [reps_nil]
  | 0, u :: us, _, h => by
    obtain ⟨d, r, rfl, h1, h2⟩ := reps_cons.mp h
    exact h2
  | n + 1, u :: us, _, h => by
    obtain ⟨d, r, rfl, h1, h2⟩ := reps_cons.mp h
    exact reps_cons.mpr ⟨d, _, rfl, h1, Reps.eraseIdx n h2⟩
theorem Reps.ints : ∀ (ns : List Int), Reps sc Z (ns.map U.int) (ns.map D.int)
  | [] => by simp [reps_nil]
  | n :: ns => reps_cons.mpr ⟨_, _, rfl, by unfold Rep; rfl, Reps.ints ns⟩
theorem Reps.ints_iff : ∀ {ns : List Int} {ds : List D}, Reps sc Z (ns.map U.int) ds → ds = ns.map D.int
  | [], _, h => by rw [reps_nil.mp h]; rfl
  | n :: ns, _, h => by
    obtain ⟨d, r, rfl, h1, h2⟩ := reps_cons.mp h
    unfold Rep at h1
    rw [h1, Reps.ints_iff h2]; rfl
theorem Reps.bls_iff : ∀ {ns : List Bool} {ds : List D}, Reps sc Z (ns.map U.bl) ds → ds = ns.map D.bl
  | [], _, h => by rw [reps_nil.mp h]; rfl
  | n :: ns, _, h => by
    obtain ⟨d, r, rfl, h1, h2⟩ := reps_cons.mp h
    unfold Rep at h1
    rw [h1, Reps.bls_iff h2]; rfl
end
/-- what a list or dict at an address of W holds, its members in Z -/
def OwnR (sc : Sc) (Z W : DW) (a : Addr) : U → Prop
  | .lst us => ∃ ds, W a = some (.lst ds) ∧ Reps sc Z us ds
  | .dic ks us => ∃ kvs, W a = some (.dic kvs) ∧ kvs.map (·.1) = ks ∧ Reps sc Z us (kvs.map (·.2))
  | .dit ks us => ∃ kvs, W a = some (.dit kvs) ∧ kvs.map (·.1) = ks ∧ Reps sc Z us (kvs.map (·.2))
  | _ => False
def NoSrc (sc : Sc) (a : Addr) : Prop := ∀ s c, sc = some (s, c) → a ≠ s ∧ a ≠ c
def SrcOk (sc : Sc) (Z W : DW) : Prop := ∀ s c, sc = some (s, c) → Src s c W ∧ Z s = none ∧ Z c = none
/-- what expressions do to the views -/
structure Gr (sc : Sc) (Z W Z' W' : DW) : Prop where
  z : Sub Z Z'
  w : Sub Z' W'
  k : ∀ a o, NoSrc sc a → W a = some o → W' a = some o
  s : ∀ s c, sc = some (s, c) → Src s c W → Src s c W'
  n : ∀ a, W a ≠ none → Z a = none → Z' a = none
theorem Gr.srcOk {sc : Sc} {Z W Z' W' : DW} (g : Gr sc Z W Z' W') (h : SrcOk sc Z W) : SrcOk sc Z' W' := fun s c e => by
  obtain ⟨h1, h2, h3⟩ := h s c e
  have h1' := h1
  obtain ⟨_, l, m, t, xs, w1, w2⟩ := h1'
  exact ⟨g.s s c e h1, g.n s (by rw [w1]; simp) h2, g.n c (by rw [w2]; simp) h3⟩
theorem Gr.ex {sc : Sc} {Z W Z' W' : DW} (g : Gr sc Z W Z' W') (h : SrcOk sc Z W) {a : Addr} (ha : W a ≠ none) : W' a ≠ none := by
  by_cases hn : NoSrc sc a
  · cases e : W a with
    | none => exact absurd e ha
    | some o => rw [g.k a o hn e]; simp
  · unfold NoSrc at hn
    simp only [Classical.not_forall] at hn
    obtain ⟨s, c, e, hn⟩ := hn
    obtain ⟨h1, _⟩ := g.srcOk h s c e
    obtain ⟨_, l, m, t, xs, w1, w2⟩ := h1
    by_cases e1 : a = s
    · rw [e1, w1]; simp
    · by_cases e2 : a = c
      · rw [e2, w2]; simp
      · exact absurd ⟨e1, e2⟩ hn
theorem Gr.refl {sc : Sc} {Z W : DW} (h : Sub Z W) : Gr sc Z W Z W := ⟨Sub.refl _, h, fun _ _ _ h => h, fun _ _ _ h => h, fun _ _ h => h⟩
theorem Gr.trans {sc : Sc} {Z W Z1 W1 Z2 W2 : DW} (h : SrcOk sc Z W) (g : Gr sc Z W Z1 W1) (g' : Gr sc Z1 W1 Z2 W2) : Gr sc Z W Z2 W2 :=
  ⟨g.z.trans g'.z, g'.w, fun a o n e => g'.k a o n (g.k a o n e), fun s c e x => g'.s s c e (g.s s c e x), fun a x y => g'.n a (g.ex h x) (g.n a x y)⟩
theorem Gr.of_sub {sc : Sc} {Z W W' : DW} (h : Sub Z W) (s : Sub W W') : Gr sc Z W Z W' := ⟨Sub.refl _, h.trans s, fun a o _ e => s a o e, fun a c _ g => g.up s, fun _ _ h => h⟩
theorem OwnR.up {sc : Sc} {Z W Z' W' : DW} {a : Addr} {u : U} (h : OwnR sc Z W a u) (s : Sub Z Z') (k : ∀ o, W a = some o → W' a = some o) : OwnR sc Z' W' a u := by
  cases u <;> try exact h.elim
  · obtain ⟨ds, w, r⟩ := h; exact ⟨ds, k _ w, r.up s⟩
  · obtain ⟨ds, w, q, r⟩ := h; exact ⟨ds, k _ w, q, r.up s⟩
  · obtain ⟨ds, w, q, r⟩ := h; exact ⟨ds, k _ w, q, r.up s⟩
theorem OwnR.ex {sc : Sc} {Z W : DW} {a : Addr} {u : U} (h : OwnR sc Z W a u) : W a ≠ none := by
  cases u <;> try exact h.elim
  · obtain ⟨ds, w, r⟩ := h; rw [w]; simp
  · obtain ⟨ds, w, q, r⟩ := h; rw [w]; simp
  · obtain ⟨ds, w, q, r⟩ := h; rw [w]; simp
/-- frozen -/
theorem OwnR.rep {sc : Sc} {Z W : DW} {a : Addr} {u : U} (h : OwnR sc Z W a u) (n : Z a = none) : ∃ o, W a = some o ∧ Rep sc (wup Z a o) u (.ref a) := by
  have s : ∀ o, Sub Z (wup Z a o) := fun o => (Sub.refl Z).new n
  cases u <;> try exact h.elim
  · obtain ⟨ds, w, r⟩ := h; exact ⟨_, w, by unfold Rep; exact ⟨a, ds, rfl, wup_same, r.up (s _)⟩⟩
  · obtain ⟨ds, w, q, r⟩ := h; exact ⟨_, w, by unfold Rep; exact ⟨a, ds, rfl, wup_same, q, r.up (s _)⟩⟩
  · obtain ⟨ds, w, q, r⟩ := h; exact ⟨_, w, by unfold Rep; exact ⟨a, ds, rfl, wup_same, q, r.up (s _)⟩⟩
theorem Sub.put {Z W : DW} {a : Addr} {o : DO} (h : Sub Z W) (w : W a = some o) : Sub (wup Z a o) W := fun b x e => by
  by_cases q : b = a
  · subst q; rw [wup_same] at e; cases e; exact w
  · rw [wup_ne q] at e; exact h b x e
/-! ### frames -/
inductive VX where
  | val (u : U) | own (u : U)
abbrev VEnv := List (Option VX)
def EntR (B : Addr → Prop) (sc : Sc) (Z W : DW) (od : Option (Option D)) : VX → Prop
  | .val u => ∃ d, od = some (some d) ∧ Rep sc Z u d
  | .own u => ∃ a, od = some (some (.ref a)) ∧ OwnR sc Z W a u ∧ Z a = none ∧ NoSrc sc a ∧ ¬ B a
structure StE (B : Addr → Prop) (sc : Sc) (Z W : DW) (δ : DL.Env) (e : VEnv) : Prop where
  len : e.length = δ.length
  sub : Sub Z W
  src : SrcOk sc Z W
  bex : ∀ a, B a → W a ≠ none
  env : ∀ (i : Nat) (x : VX), e[i]? = some (some x) → EntR B sc Z W δ[i]? x
  dis : ∀ (i j : Nat) (u v : U) (a : Addr), e[i]? = some (some (.own u)) → e[j]? = some (some (.own v)) → δ[i]? = some (some (.ref a)) → δ[j]? = some (some (.ref a)) → i = j
theorem EntR.up {B : Addr → Prop} {sc : Sc} {Z W Z' W' : DW} {od : Option (Option D)} {x : VX} (g : Gr sc Z W Z' W') (h : EntR B sc Z W od x) : EntR B sc Z' W' od x := by
  cases x with
  | val u => obtain ⟨d, e, r⟩ := h; exact ⟨d, e, r.up g.z⟩
  | own u => obtain ⟨a, e, r, n, s, b⟩ := h; exact ⟨a, e, r.up g.z fun o w => g.k a o s w, g.n a r.ex n, s, b⟩
theorem StE.gr {B : Addr → Prop} {sc : Sc} {Z W Z' W' : DW} {δ : DL.Env} {e : VEnv} (h : StE B sc Z W δ e) (g : Gr sc Z W Z' W') : StE B sc Z' W' δ e :=
  ⟨h.len, g.w, g.srcOk h.src, fun a b => g.ex h.src (h.bex a b), fun i x q => (h.env i x q).up g, h.dis⟩
theorem StE.setV {B : Addr → Prop} {sc : Sc} {Z W : DW} {δ : DL.Env} {e : VEnv} {i : Nat} {u : U} {d : D} (h : StE B sc Z W δ e) (r : Rep sc Z u d) : StE B sc Z W (δ.set i (some d)) (e.set i (some (.val u))) := by
  refine ⟨by simp [h.len], h.sub, h.src, h.bex, fun j x q => ?_, fun j k v w a q1 q2 q3 q4 => ?_⟩
  · by_cases z : i = j
    · subst z
      by_cases hl : i < e.length
      · rw [List.getElem?_set_self hl] at q
        cases q
        exact ⟨d, by rw [List.getElem?_set_self (by rw [← h.len]; exact hl)], r⟩
      · rw [List.getElem?_eq_none (by simp; omega)] at q; cases q
    · rw [List.getElem?_set_ne z] at q ⊢
      exact h.env j x q
  · by_cases z : i = j
    · subst z
      by_cases hl : i < e.length
      · rw [List.getElem?_set_self hl] at q1; cases q1
      · rw [List.getElem?_eq_none (by simp; omega)] at q1; cases q1
    · by_cases z2 : i = k
      · subst z2
        by_cases hl : i < e.length
        · rw [List.getElem?_set_self hl] at q2; cases q2
        · rw [List.getElem?_eq_none (by simp; omega)] at q2; cases q2
      · rw [List.getElem?_set_ne z] at q1 q3
        rw [List.getElem?_set_ne z2] at q2 q4
        exact h.dis j k v w a q1 q2 q3 q4
/-- an own one is set, at an address that no other own one has -/
theorem StE.setO {B : Addr → Prop} {sc : Sc} {Z W : DW} {δ : DL.Env} {e : VEnv} {i : Nat} {u : U} {a : Addr} (h : StE B sc Z W δ e) (r : OwnR sc Z W a u) (n : Z a = none) (s : NoSrc sc a) (b : ¬ B a)
    (f : ∀ (j : Nat) (v : U), j ≠ i → e[j]? = some (some (.own v)) → δ[j]? ≠ some (some (.ref a))) : StE B sc Z W (δ.set i (some (.ref a))) (e.set i (some (.own u))) := by
  have hne : ∀ {α : Type} {l : List α} {x y : α} {j : Nat}, (l.set i x)[j]? = some y → j = i → i < l.length ∧ y = x := fun {α l x y j} q z => by
    subst z
    by_cases hl : j < l.length
    · rw [List.getElem?_set_self hl] at q; cases q; exact ⟨hl, rfl⟩
    · rw [List.getElem?_eq_none (by simp; omega)] at q; cases q
  refine ⟨by simp [h.len], h.sub, h.src, h.bex, fun j x q => ?_, fun j k v w c q1 q2 q3 q4 => ?_⟩
  · by_cases z : j = i
    · obtain ⟨hl, e1⟩ := hne q z
      cases e1
      subst z
      exact ⟨a, by rw [List.getElem?_set_self (by rw [← h.len]; exact hl)], r, n, s, b⟩
    · rw [List.getElem?_set_ne (Ne.symm z)] at q ⊢
      exact h.env j x q
  · by_cases z : j = i
    · by_cases z2 : k = i
      · rw [z, z2]
      · have e3 := (hne q3 z).2
        rw [List.getElem?_set_ne (Ne.symm z2)] at q2 q4
        cases e3
        exact absurd q4 (f k w z2 q2)
    · rw [List.getElem?_set_ne (Ne.symm z)] at q1 q3
      by_cases z2 : k = i
      · have e3 := (hne q4 z2).2
        cases e3
        exact absurd q3 (f j v z q1)
      · rw [List.getElem?_set_ne (Ne.symm z2)] at q2 q4
        exact h.dis j k v w c q1 q2 q3 q4
/-- a new object does not disturb, an own one that no name has may change -/
theorem StE.put {B : Addr → Prop} {sc : Sc} {Z W : DW} {δ : DL.Env} {e : VEnv} {p : Addr} {o : DO} (h : StE B sc Z W δ e) (n : Z p = none) (s : NoSrc sc p) (f : ∀ (j : Nat) (v : U), e[j]? = some (some (.own v)) → δ[j]? ≠ some (some (.ref p))) : StE B sc Z (DL.wup W p o) δ e := by
  refine ⟨h.len, fun a x q => ?_, fun a c q => ?_, fun a b => ?_, fun i x q => ?_, h.dis⟩
  · have : a ≠ p := fun z => by subst z; rw [n] at q; cases q
    rw [wup_ne this]; exact h.sub a x q
  · obtain ⟨⟨g0, l, m, t, xs, g1, g2⟩, g3, g4⟩ := h.src a c q
    obtain ⟨n1, n2⟩ := s a c q
    exact ⟨⟨g0, l, m, t, xs, by rw [wup_ne n1.symm]; exact g1, by rw [wup_ne n2.symm]; exact g2⟩, g3, g4⟩
  · by_cases z : a = p
    · subst z; rw [wup_same]; simp
    · rw [wup_ne z]; exact h.bex a b
  · have hx := h.env i x q
    cases x with
    | val u => exact hx
    | own u =>
      obtain ⟨a, ea, r, na, sa, ba⟩ := hx
      have : a ≠ p := fun z => by subst z; exact f i u q ea
      exact ⟨a, ea, r.up (Sub.refl _) (fun o w => by rw [wup_ne this]; exact w), na, sa, ba⟩
theorem StE.out {B : Addr → Prop} {sc : Sc} {Z W : DW} {δ : DL.Env} {e : VEnv} {p : Addr} (h : StE B sc Z W δ e) (hp : W p = none) : Z p = none ∧ NoSrc sc p ∧ ¬ B p ∧ ∀ (j : Nat) (v : U), e[j]? = some (some (.own v)) → δ[j]? ≠ some (some (.ref p)) := by
  refine ⟨?_, fun s c q => ?_, fun b => h.bex p b hp, fun j v q z => ?_⟩
  · cases e1 : Z p with
    | none => rfl
    | some o => have := h.sub p o e1; rw [hp] at this; cases this
  · obtain ⟨g, _⟩ := h.src s c q
    exact g.ne hp
  · obtain ⟨a, ea, r, _⟩ := h.env j _ q
    rw [ea] at z
    cases z
    exact r.ex hp
theorem StE.wipe1 {B : Addr → Prop} {sc : Sc} {Z W : DW} {δ : DL.Env} {e : VEnv} {i : Nat} (h : StE B sc Z W δ e) {x : Option D} : StE B sc Z W (δ.set i x) (e.set i none) := by
  have hne : ∀ {α : Type} {l : List α} {x : α} {y : α} {j : Nat}, (l.set i x)[j]? = some y → j = i → y = x := fun {α l x y j} q z => by
    subst z
    by_cases hl : j < l.length
    · rw [List.getElem?_set_self hl] at q; cases q; rfl
    · rw [List.getElem?_eq_none (by simp; omega)] at q; cases q
  refine ⟨by simp [h.len], h.sub, h.src, h.bex, fun j y q => ?_, fun j k v w c q1 q2 q3 q4 => ?_⟩
  · have : j ≠ i := fun z => by have := hne q z; cases this
    rw [List.getElem?_set_ne (Ne.symm this)] at q ⊢
    exact h.env j y q
  · have z1 : j ≠ i := fun z => by have := hne q1 z; cases this
    have z2 : k ≠ i := fun z => by have := hne q2 z; cases this
    rw [List.getElem?_set_ne (Ne.symm z1)] at q1 q3
    rw [List.getElem?_set_ne (Ne.symm z2)] at q2 q4
    exact h.dis j k v w c q1 q2 q3 q4
@[simp] def wipeV (e : VEnv) : List Nat → VEnv
  | [] => e
  | v :: vs => (wipeV e vs).set v none
theorem StE.wipe {B : Addr → Prop} {sc : Sc} {Z W : DW} {δ : DL.Env} {e : VEnv} (h : StE B sc Z W δ e) : ∀ vs, StE B sc Z W (wipeD δ vs) (wipeV e vs)
  | [] => h
  | v :: vs => (StE.wipe h vs).wipe1
/-- entries are forgotten -/
theorem StE.fgt1 {B : Addr → Prop} {sc : Sc} {Z W : DW} {δ : DL.Env} {e : VEnv} {i : Nat} (h : StE B sc Z W δ e) : StE B sc Z W δ (e.set i none) := by
  by_cases hl : i < δ.length
  · have : δ.set i δ[i] = δ := by simp
    have := h.wipe1 (i := i) (x := δ[i])
    rwa [List.set_getElem_self] at this
  · rw [List.set_eq_of_length_le (by rw [h.len]; omega)]; exact h
theorem StE.fgt {B : Addr → Prop} {sc : Sc} {Z W : DW} {δ : DL.Env} {e : VEnv} (h : StE B sc Z W δ e) : ∀ vs, StE B sc Z W δ (wipeV e vs)
  | [] => h
  | v :: vs => (StE.fgt h vs).fgt1
end VL
/-! Vl2: expressions over values. -/
namespace VL
open PySem PySem.Spec PyProof.Rows L2 DL A30
abbrev VE := VEnv → (U → Prop) → Prop
abbrev VT := VEnv → (Bool → Prop) → Prop
abbrev VA := VEnv → (List U → Prop) → Prop
abbrev VF := List U → (U → Prop) → Prop
abbrev VO2 := U → U → (U → Prop) → Prop
structure Ok (B : Addr → Prop) (sc : Sc) (Z W : DW) : Prop where
  sub : Sub Z W
  src : SrcOk sc Z W
  bex : ∀ a, B a → W a ≠ none
theorem StE.ok {B : Addr → Prop} {sc : Sc} {Z W : DW} {δ : DL.Env} {e : VEnv} (h : StE B sc Z W δ e) : Ok B sc Z W := ⟨h.sub, h.src, h.bex⟩
theorem Ok.gr {B : Addr → Prop} {sc : Sc} {Z W Z' W' : DW} (h : Ok B sc Z W) (g : Gr sc Z W Z' W') : Ok B sc Z' W' := ⟨g.w, g.srcOk h.src, fun a b => g.ex h.src (h.bex a b)⟩
/-- a value, or a list of a name that may change -/
def RepB (B : Addr → Prop) (sc : Sc) (Z W : DW) (u : U) (d : D) : Prop := Rep sc Z u d ∨ ∃ a, d = .ref a ∧ OwnR sc Z W a u ∧ Z a = none ∧ NoSrc sc a ∧ ¬ B a
def RepBs (B : Addr → Prop) (sc : Sc) (Z W : DW) : List U → List D → Prop
  | [], ds => ds = []
  | u :: us, ds => ∃ d r, ds = d :: r ∧ RepB B sc Z W u d ∧ RepBs B sc Z W us r
section
variable {B : Addr → Prop} {sc : Sc} {Z W Z' W' : DW} {u : U} {d : D} {us : List U} {ds : List D}
theorem RepB.up (g : Gr sc Z W Z' W') (h : RepB B sc Z W u d) : RepB B sc Z' W' u d := h.imp (fun h => h.up g.z) fun ⟨a, e, r, n, s, b⟩ => ⟨a, e, r.up g.z fun o w => g.k a o s w, g.n a r.ex n, s, b⟩
theorem RepBs.up (g : Gr sc Z W Z' W') : ∀ {us : List U} {ds : List D}, RepBs B sc Z W us ds → RepBs B sc Z' W' us ds
  | [], _, h => h
  | u :: us, _, ⟨d, r, e, h1, h2⟩ => ⟨d, r, e, h1.up g, RepBs.up g h2⟩
theorem RepBs.c0 (h : RepBs B sc Z W [] ds) : ds = [] := h
theorem RepBs.c1 {x : U} (h : RepBs B sc Z W [x] ds) : ∃ d, ds = [d] ∧ RepB B sc Z W x d := by
  obtain ⟨d, r, rfl, h1, h2⟩ := h
  rw [h2.c0]; exact ⟨d, rfl, h1⟩
theorem RepBs.c2 {x y : U} (h : RepBs B sc Z W [x, y] ds) : ∃ d d', ds = [d, d'] ∧ RepB B sc Z W x d ∧ RepB B sc Z W y d' := by
  obtain ⟨d, r, rfl, h1, h2⟩ := h
  obtain ⟨d', rfl, h3⟩ := RepBs.c1 h2; exact ⟨d, d', rfl, h1, h3⟩
theorem RepB.int {i : Int} (h : RepB B sc Z W (.int i) d) : d = .int i := by
  rcases h with h | ⟨a, _, h, _⟩
  · unfold Rep at h; exact h
  · exact h.elim
theorem RepB.bl {i : Bool} (h : RepB B sc Z W (.bl i) d) : d = .bl i := by
  rcases h with h | ⟨a, _, h, _⟩
  · unfold Rep at h; exact h
  · exact h.elim
theorem RepB.str {i : Str} (h : RepB B sc Z W (.str i) d) : d = .str i := by
  rcases h with h | ⟨a, _, h, _⟩
  · unfold Rep at h; exact h
  · exact h.elim
theorem RepB.ty {i : String} (h : RepB B sc Z W (.ty i) d) : d = .ty i := by
  rcases h with h | ⟨a, _, h, _⟩
  · unfold Rep at h; exact h
  · exact h.elim
theorem RepB.non (h : RepB B sc Z W .non d) : d = .non := by
  rcases h with h | ⟨a, _, h, _⟩
  · unfold Rep at h; exact h
  · exact h.elim
theorem RepB.tup (h : RepB B sc Z W (.tup us) d) : ∃ ds, d = .tup ds ∧ Reps sc Z us ds := by
  rcases h with h | ⟨a, _, h, _⟩
  · unfold Rep at h; exact h
  · exact h.elim
theorem RepB.lst (s : Sub Z W) (h : RepB B sc Z W (.lst us) d) : ∃ a ds, d = .ref a ∧ W a = some (.lst ds) ∧ Reps sc Z us ds := by
  rcases h with h | ⟨a, e, h, _⟩
  · unfold Rep at h
    obtain ⟨a, ds, e, w, r⟩ := h
    exact ⟨a, ds, e, s _ _ w, r⟩
  · obtain ⟨ds, w, r⟩ := h
    exact ⟨a, ds, e, w, r⟩
theorem RepB.dic {ks : List Key} (s : Sub Z W) (h : RepB B sc Z W (.dic ks us) d) : ∃ a kvs, d = .ref a ∧ W a = some (.dic kvs) ∧ kvs.map (·.1) = ks ∧ Reps sc Z us (kvs.map (·.2)) := by
  rcases h with h | ⟨a, e, h, _⟩
  · unfold Rep at h
    obtain ⟨a, ds, e, w, q, r⟩ := h
    exact ⟨a, ds, e, s _ _ w, q, r⟩
  · obtain ⟨ds, w, q, r⟩ := h
    exact ⟨a, ds, e, w, q, r⟩
theorem RepB.dit {ks : List (List Key)} (s : Sub Z W) (h : RepB B sc Z W (.dit ks us) d) : ∃ a kvs, d = .ref a ∧ W a = some (.dit kvs) ∧ kvs.map (·.1) = ks ∧ Reps sc Z us (kvs.map (·.2)) := by
  rcases h with h | ⟨a, e, h, _⟩
  · unfold Rep at h
    obtain ⟨a, ds, e, w, q, r⟩ := h
    exact ⟨a, ds, e, s _ _ w, q, r⟩
  · obtain ⟨ds, w, q, r⟩ := h
    exact ⟨a, ds, e, w, q, r⟩
theorem rep_int {i : Int} : Rep sc Z (.int i) (.int i) := by unfold Rep; rfl
theorem rep_bl {i : Bool} : Rep sc Z (.bl i) (.bl i) := by unfold Rep; rfl
theorem rep_str {i : Str} : Rep sc Z (.str i) (.str i) := by unfold Rep; rfl
theorem rep_non : Rep sc Z .non .non := by unfold Rep; rfl
theorem rep_tup (h : Reps sc Z us ds) : Rep sc Z (.tup us) (.tup ds) := by unfold Rep; exact ⟨ds, rfl, h⟩
end
/-! ### judgements -/
def SV (f : FE) (g : VE) : Prop := ∀ (B : Addr → Prop) sc Z W δ e (Qv : U → Prop) (Q : DK), StE B sc Z W δ e → g e Qv → (∀ u d Z' W', Gr sc Z W Z' W' → Rep sc Z' u d → Qv u → Q d W') → f δ W Q
def SB (f : FE) (g : VE) : Prop := ∀ (B : Addr → Prop) sc Z W δ e (Qv : U → Prop) (Q : DK), StE B sc Z W δ e → g e Qv → (∀ u d Z' W', Gr sc Z W Z' W' → RepB B sc Z' W' u d → Qv u → Q d W') → f δ W Q
def SF (f : FE) (g : VE) : Prop := ∀ (B : Addr → Prop) sc Z W δ e (Qv : U → Prop) (Q : DK), StE B sc Z W δ e → g e Qv → (∀ u a Z' W', Gr sc Z W Z' W' → OwnR sc Z' W' a u → Z' a = none → W a = none → Qv u → Q (.ref a) W') → f δ W Q
def SBo (p : FT) (q : VT) : Prop := ∀ (B : Addr → Prop) sc Z W δ e (Qv : Bool → Prop) (Q : Bool → DW → Prop), StE B sc Z W δ e → q e Qv → (∀ b Z' W', Gr sc Z W Z' W' → Qv b → Q b W') → p δ W Q
def SAv (r : FA) (v : VA) : Prop := ∀ (B : Addr → Prop) sc Z W δ e (Qv : List U → Prop) (Q : List D → DW → Prop), StE B sc Z W δ e → v e Qv → (∀ us ds Z' W', Gr sc Z W Z' W' → Reps sc Z' us ds → Qv us → Q ds W') → r δ W Q
def SAb (r : FA) (v : VA) : Prop := ∀ (B : Addr → Prop) sc Z W δ e (Qv : List U → Prop) (Q : List D → DW → Prop), StE B sc Z W δ e → v e Qv → (∀ us ds Z' W', Gr sc Z W Z' W' → RepBs B sc Z' W' us ds → Qv us → Q ds W') → r δ W Q
def OV (F : R2D) (G : VO2) : Prop := ∀ (B : Addr → Prop) sc Z W x y dx dy (Qv : U → Prop) (Q : DK), Ok B sc Z W → RepB B sc Z W x dx → RepB B sc Z W y dy → G x y Qv → (∀ u d Z' W', Gr sc Z W Z' W' → Rep sc Z' u d → Qv u → Q d W') → F dx dy W Q
def OF (F : R2D) (G : VO2) : Prop := ∀ (B : Addr → Prop) sc Z W x y dx dy (Qv : U → Prop) (Q : DK), Ok B sc Z W → RepB B sc Z W x dx → RepB B sc Z W y dy → G x y Qv → (∀ u a Z' W', Gr sc Z W Z' W' → OwnR sc Z' W' a u → Z' a = none → W a = none → Qv u → Q (.ref a) W') → F dx dy W Q
def BV (F : RD) (G : VF) : Prop := ∀ (B : Addr → Prop) sc Z W us ds (Qv : U → Prop) (Q : DK), Ok B sc Z W → RepBs B sc Z W us ds → G us Qv → (∀ u d Z' W', Gr sc Z W Z' W' → Rep sc Z' u d → Qv u → Q d W') → F ds W Q
def BF (F : RD) (G : VF) : Prop := ∀ (B : Addr → Prop) sc Z W us ds (Qv : U → Prop) (Q : DK), Ok B sc Z W → RepBs B sc Z W us ds → G us Qv → (∀ u a Z' W', Gr sc Z W Z' W' → OwnR sc Z' W' a u → Z' a = none → W a = none → Qv u → Q (.ref a) W') → F ds W Q
section
variable {f g h : FE} {f' g' h' : VE} {p q : FT} {p' q' : VT} {r : FA} {r' : VA} {F F2 : R2D} {G G2 : VO2}
theorem SV.b (h : SV f f') : SB f f' := fun B sc Z W δ e Qv Q st hv k => h B sc Z W δ e Qv Q st hv fun u d Z' W' g r q => k u d Z' W' g (.inl r) q
/-- frozen at once -/
theorem fz {sc : Sc} {Z W Z' W' : DW} {a : Addr} {u : U} (g : Gr sc Z W Z' W') (r : OwnR sc Z' W' a u) (n : Z' a = none) (w : W a = none) : ∃ Z2, Gr sc Z W Z2 W' ∧ Rep sc Z2 u (.ref a) := by
  obtain ⟨o, wo, rr⟩ := r.rep n
  refine ⟨DL.wup Z' a o, ⟨g.z.new ?_, Sub.put g.w wo, g.k, g.s, fun b hb hz => ?_⟩, rr⟩
  · cases e : Z a with
    | none => rfl
    | some o => have := g.z a o e; rw [n] at this; cases this
  · have : b ≠ a := fun z => by subst z; exact hb w
    rw [wup_ne this]; exact g.n b hb hz
theorem SF.v (h : SF f f') : SV f f' := fun B sc Z W δ e Qv Q st hv k => h B sc Z W δ e Qv Q st hv fun u a Z' W' g r n w q => by
  obtain ⟨Z2, g2, r2⟩ := fz g r n w
  exact k u (.ref a) Z2 W' g2 r2 q
/-! names, constants -/
@[simp] def vVar (i : Nat) : VE := fun e Q => ∃ u, e[i]? = some (some (.val u)) ∧ Q u
@[simp] def vBor (i : Nat) : VE := fun e Q => ∃ u, (e[i]? = some (some (.own u)) ∨ e[i]? = some (some (.val u))) ∧ Q u
@[simp] def vC (u : U) : VE := fun _ Q => Q u
theorem sv_var {i : Nat} : SV (fVar i) (vVar i) := fun B sc Z W δ e Qv Q st ⟨u, hu, q⟩ k => by
  obtain ⟨d, ed, rd⟩ := st.env i _ hu
  exact ⟨d, ed, k u d Z W (Gr.refl st.sub) rd q⟩
theorem sb_bor {i : Nat} : SB (fVar i) (vBor i) := fun B sc Z W δ e Qv Q st ⟨u, hu, q⟩ k => by
  rcases hu with hu | hu
  · obtain ⟨a, ed, r, n, s, b⟩ := st.env i _ hu
    exact ⟨_, ed, k u _ Z W (Gr.refl st.sub) (.inr ⟨a, rfl, r, n, s, b⟩) q⟩
  · obtain ⟨d, ed, rd⟩ := st.env i _ hu
    exact ⟨d, ed, k u d Z W (Gr.refl st.sub) (.inl rd) q⟩
theorem sv_int {i : Int} : SV (fC (.int i)) (vC (.int i)) := fun B sc Z W δ e Qv Q st hv k => k _ _ Z W (Gr.refl st.sub) (by unfold Rep; rfl) hv
theorem sv_bl {i : Bool} : SV (fC (.bl i)) (vC (.bl i)) := fun B sc Z W δ e Qv Q st hv k => k _ _ Z W (Gr.refl st.sub) (by unfold Rep; rfl) hv
theorem sv_non : SV (fC .non) (vC .non) := fun B sc Z W δ e Qv Q st hv k => k _ _ Z W (Gr.refl st.sub) (by unfold Rep; rfl) hv
theorem sv_str {x : Str} : SV (fC (.str x)) (vC (.str x)) := fun B sc Z W δ e Qv Q st hv k => k _ _ Z W (Gr.refl st.sub) (by unfold Rep; rfl) hv
theorem sv_ty {x : String} : SV (fC (.ty x)) (vC (.ty x)) := fun B sc Z W δ e Qv Q st hv k => k _ _ Z W (Gr.refl st.sub) (by unfold Rep; rfl) hv
/-! two places -/
@[simp] def vBin (G : VO2) (f g : VE) : VE := fun e Q => f e fun x => g e fun y => G x y Q
theorem sv_bin (o : OV F G) (a : SB f f') (b : SB g g') : SV (fBin F f g) (vBin G f' g') := fun B sc Z W δ e Qv Q st hv k =>
  a B sc Z W δ e _ _ st hv fun x dx Z1 W1 g1 r1 q1 => b B sc Z1 W1 δ e _ _ (st.gr g1) q1 fun y dy Z2 W2 g2 r2 q2 =>
    o B sc Z2 W2 x y dx dy Qv Q ((st.gr g1).gr g2).ok (r1.up g2) r2 q2 fun u d Z3 W3 g3 r3 q3 => k u d Z3 W3 ((g1.trans st.src g2).trans st.src g3) r3 q3
theorem sf_bin (o : OF F G) (a : SB f f') (b : SB g g') : SF (fBin F f g) (vBin G f' g') := fun B sc Z W δ e Qv Q st hv k =>
  a B sc Z W δ e _ _ st hv fun x dx Z1 W1 g1 r1 q1 => b B sc Z1 W1 δ e _ _ (st.gr g1) q1 fun y dy Z2 W2 g2 r2 q2 =>
    o B sc Z2 W2 x y dx dy Qv Q ((st.gr g1).gr g2).ok (r1.up g2) r2 q2 fun u a Z3 W3 g3 r3 n3 w3 q3 => k u a Z3 W3 ((g1.trans st.src g2).trans st.src g3) r3 n3 (by
      cases ew : W a with
      | none => rfl
      | some o => exact absurd w3 ((g1.trans st.src g2).ex st.src (by rw [ew]; simp))) q3
@[simp] def vChain (G G2 : VO2) (f g h : VE) : VE := fun e Q => f e fun x => g e fun y => G x y fun z => match z with | .bl k => if k = true then h e fun w => G2 y w Q else Q (.bl false) | _ => False
theorem sv_chain (o : OV F G) (o2 : OV F2 G2) (a : SB f f') (b : SB g g') (c : SB h h') : SV (fChain F F2 f g h) (vChain G G2 f' g' h') := fun B sc Z W δ e Qv Q st hv k =>
  a B sc Z W δ e _ _ st hv fun x dx Z1 W1 g1 r1 q1 => b B sc Z1 W1 δ e _ _ (st.gr g1) q1 fun y dy Z2 W2 g2 r2 q2 =>
    have g12 := g1.trans st.src g2
    o B sc Z2 W2 x y dx dy _ _ (st.gr g12).ok (r1.up g2) r2 q2 fun z dz Z3 W3 g3 r3 q3 => by
      have g13 := g12.trans st.src g3
      cases z <;> try exact q3.elim
      rename_i b
      unfold Rep at r3
      subst r3
      cases b with
      | false => exact k _ _ Z3 W3 g13 rep_bl q3
      | true =>
        simp only [↓reduceIte] at q3 ⊢
        exact c B sc Z3 W3 δ e _ _ (st.gr g13) q3 fun w dw Z4 W4 g4 r4 q4 =>
          o2 B sc Z4 W4 y w dy dw Qv Q ((st.gr g13).gr g4).ok ((r2.up g3).up g4) r4 q4 fun u d Z5 W5 g5 r5 q5 => k u d Z5 W5 ((g13.trans st.src g4).trans st.src g5) r5 q5
/-! tests, truth -/
@[simp] def vB (f : VE) : VT := fun e Q => f e fun x => match x with | .bl k => Q k | _ => False
theorem so_b (a : SB f f') : SBo (fB f) (vB f') := fun B sc Z W δ e Qv Q st hv k =>
  a B sc Z W δ e _ _ st hv fun x dx Z1 W1 g1 r1 q1 => by
    cases x <;> try exact q1.elim
    rw [r1.bl]
    exact k _ Z1 W1 g1 q1
@[simp] def truU : U → Option Bool
  | .non => some false
  | .bl b => some b
  | .int i => some (i != 0)
  | .tup xs => some (!xs.isEmpty)
  | .lst xs => some (!xs.isEmpty)
  | .dic ks _ => some (!ks.isEmpty)
  | _ => none
theorem Reps.isEmpty {sc : Sc} {Z : DW} {us : List U} {ds : List D} (h : Reps sc Z us ds) : ds.isEmpty = us.isEmpty := by
  have := h.length
  cases us <;> cases ds <;> simp_all
theorem truU_ok {B : Addr → Prop} {sc : Sc} {Z W : DW} {u : U} {d : D} {b : Bool} (s : Sub Z W) (h : RepB B sc Z W u d) (e : truU u = some b) : tru W d = some b := by
  cases u with
  | non => rw [h.non]; exact e
  | bl => rw [h.bl]; exact e
  | int => rw [h.int]; exact e
  | tup =>
    obtain ⟨ds, rfl, r⟩ := h.tup
    simp only [tru, truU] at e ⊢
    rw [r.isEmpty]; exact e
  | lst =>
    obtain ⟨a, ds, rfl, w, r⟩ := h.lst s
    simp only [tru, truU] at e ⊢
    rw [w]
    simp only [r.isEmpty]; exact e
  | dic =>
    obtain ⟨a, kvs, rfl, w, hk, r⟩ := h.dic s
    simp only [tru, truU] at e ⊢
    rw [w]
    subst hk
    simpa using e
  | _ => simp [truU] at e
@[simp] def vTru (f : VE) : VT := fun e Q => f e fun x => ∃ k, truU x = some k ∧ Q k
theorem so_tru (a : SB f f') : SBo (fTru f) (vTru f') := fun B sc Z W δ e Qv Q st hv k =>
  a B sc Z W δ e _ _ st hv fun x dx Z1 W1 g1 r1 ⟨b, hb, q1⟩ => ⟨b, truU_ok g1.w r1 hb, k b Z1 W1 g1 q1⟩
@[simp] def vAndT (p q : VT) : VT := fun e Q => p e fun k => if k = true then q e Q else Q false
@[simp] def vOrT (p q : VT) : VT := fun e Q => p e fun k => if k = true then Q true else q e Q
@[simp] def vNotT (p : VT) : VT := fun e Q => p e fun k => Q (!k)
@[simp] def vYes : VT := fun _ Q => Q true
theorem so_yes : SBo fYes vYes := fun B sc Z W δ e Qv Q st hv k => k true Z W (Gr.refl st.sub) hv
theorem so_and (a : SBo p p') (b : SBo q q') : SBo (fAndT p q) (vAndT p' q') := fun B sc Z W δ e Qv Q st hv k =>
  a B sc Z W δ e _ _ st hv fun x Z1 W1 g1 q1 => by
    cases x with
    | true => exact b B sc Z1 W1 δ e _ _ (st.gr g1) q1 fun y Z2 W2 g2 q2 => k y Z2 W2 (g1.trans st.src g2) q2
    | false => exact k false Z1 W1 g1 q1
theorem so_or (a : SBo p p') (b : SBo q q') : SBo (fOrT p q) (vOrT p' q') := fun B sc Z W δ e Qv Q st hv k =>
  a B sc Z W δ e _ _ st hv fun x Z1 W1 g1 q1 => by
    cases x with
    | false => exact b B sc Z1 W1 δ e _ _ (st.gr g1) q1 fun y Z2 W2 g2 q2 => k y Z2 W2 (g1.trans st.src g2) q2
    | true => exact k true Z1 W1 g1 q1
theorem so_not (a : SBo p p') : SBo (fNotT p) (vNotT p') := fun B sc Z W δ e Qv Q st hv k =>
  a B sc Z W δ e _ _ st hv fun x Z1 W1 g1 q1 => k (!x) Z1 W1 g1 q1
@[simp] def vAndV (f g : VE) : VE := fun e Q => f e fun x => match x with | .bl k => if k = true then g e Q else Q (.bl false) | _ => False
@[simp] def vOrV (f g : VE) : VE := fun e Q => f e fun x => match x with | .bl k => if k = true then Q (.bl true) else g e Q | _ => False
@[simp] def vNotV (f : VE) : VE := fun e Q => f e fun x => match x with | .bl k => Q (.bl (!k)) | _ => False
theorem sv_and (a : SB f f') (b : SV g g') : SV (fAndV f g) (vAndV f' g') := fun B sc Z W δ e Qv Q st hv k =>
  a B sc Z W δ e _ _ st hv fun x dx Z1 W1 g1 r1 q1 => by
    cases x <;> try exact q1.elim
    rename_i x
    rw [r1.bl]
    cases x with
    | true => exact b B sc Z1 W1 δ e _ _ (st.gr g1) q1 fun y d Z2 W2 g2 r2 q2 => k y d Z2 W2 (g1.trans st.src g2) r2 q2
    | false => exact k _ _ Z1 W1 g1 rep_bl q1
theorem sv_or (a : SB f f') (b : SV g g') : SV (fOrV f g) (vOrV f' g') := fun B sc Z W δ e Qv Q st hv k =>
  a B sc Z W δ e _ _ st hv fun x dx Z1 W1 g1 r1 q1 => by
    cases x <;> try exact q1.elim
    rename_i x
    rw [r1.bl]
    cases x with
    | false => exact b B sc Z1 W1 δ e _ _ (st.gr g1) q1 fun y d Z2 W2 g2 r2 q2 => k y d Z2 W2 (g1.trans st.src g2) r2 q2
    | true => exact k _ _ Z1 W1 g1 rep_bl q1
theorem sv_not (a : SB f f') : SV (fNotV f) (vNotV f') := fun B sc Z W δ e Qv Q st hv k =>
  a B sc Z W δ e _ _ st hv fun x dx Z1 W1 g1 r1 q1 => by
    cases x <;> try exact q1.elim
    rw [r1.bl]
    exact k _ _ Z1 W1 g1 rep_bl q1
@[simp] def vIf (p : VT) (f g : VE) : VE := fun e Q => p e fun k => if k = true then f e Q else g e Q
theorem sv_if (a : SBo p p') (b : SV f f') (c : SV g g') : SV (fIf p f g) (vIf p' f' g') := fun B sc Z W δ e Qv Q st hv k =>
  a B sc Z W δ e _ _ st hv fun x Z1 W1 g1 q1 => by
    cases x with
    | true => exact b B sc Z1 W1 δ e _ _ (st.gr g1) q1 fun y d Z2 W2 g2 r2 q2 => k y d Z2 W2 (g1.trans st.src g2) r2 q2
    | false => exact c B sc Z1 W1 δ e _ _ (st.gr g1) q1 fun y d Z2 W2 g2 r2 q2 => k y d Z2 W2 (g1.trans st.src g2) r2 q2
/-! arguments, displays, calls -/
@[simp] def vaN : VA := fun _ Q => Q []
@[simp] def vaC (f : VE) (r : VA) : VA := fun e Q => f e fun x => r e fun xs => Q (x :: xs)
theorem sa_n : SAv fNil vaN := fun B sc Z W δ e Qv Q st hv k => k [] [] Z W (Gr.refl st.sub) (reps_nil.mpr rfl) hv
theorem sa_c (a : SV f f') (b : SAv r r') : SAv (fCons f r) (vaC f' r') := fun B sc Z W δ e Qv Q st hv k =>
  a B sc Z W δ e _ _ st hv fun x dx Z1 W1 g1 r1 q1 => b B sc Z1 W1 δ e _ _ (st.gr g1) q1 fun us ds Z2 W2 g2 r2 q2 => k (x :: us) (dx :: ds) Z2 W2 (g1.trans st.src g2) (reps_cons.mpr ⟨dx, ds, rfl, r1.up g2.z, r2⟩) q2
theorem sab_n : SAb fNil vaN := fun B sc Z W δ e Qv Q st hv k => k [] [] Z W (Gr.refl st.sub) rfl hv
theorem sab_c (a : SB f f') (b : SAb r r') : SAb (fCons f r) (vaC f' r') := fun B sc Z W δ e Qv Q st hv k =>
  a B sc Z W δ e _ _ st hv fun x dx Z1 W1 g1 r1 q1 => b B sc Z1 W1 δ e _ _ (st.gr g1) q1 fun us ds Z2 W2 g2 r2 q2 => k (x :: us) (dx :: ds) Z2 W2 (g1.trans st.src g2) ⟨dx, ds, rfl, r1.up g2, r2⟩ q2
@[simp] def vTup (r : VA) : VE := fun e Q => r e fun us => us.length ≤ 1000000 ∧ Q (.tup us)
@[simp] def vLst (r : VA) : VE := fun e Q => r e fun us => us.length ≤ 1000000 ∧ Q (.lst us)
theorem le_line {n : Nat} (h : n ≤ 1000000) : n ≤ sizeLine := Nat.le_trans h (by have := sizeLine_eq; omega)
theorem lt_line {n : Nat} (h : n < 1000000) : n < sizeLine := Nat.lt_of_lt_of_le h (by have := sizeLine_eq; omega)
theorem sv_tup (a : SAv r r') : SV (fTup r) (vTup r') := fun B sc Z W δ e Qv Q st hv k =>
  a B sc Z W δ e _ _ st hv fun us ds Z1 W1 g1 r1 ⟨hl, q1⟩ => ⟨by rw [r1.length]; exact le_line hl, k _ _ Z1 W1 g1 (rep_tup r1) q1⟩
/-- a new object -/
theorem newO {sc : Sc} {Z W : DW} {B : Addr → Prop} (ok : Ok B sc Z W) {p : Addr} {o : DO} (hp : W p = none) : Gr sc Z W Z (DL.wup W p o) ∧ Z p = none := by
  have hz : Z p = none := by
    cases e1 : Z p with
    | none => rfl
    | some o => have := ok.sub p o e1; rw [hp] at this; cases this
  exact ⟨Gr.of_sub ok.sub ((Sub.refl W).new hp), hz⟩
theorem sf_lst (a : SAv r r') : SF (fLst r) (vLst r') := fun B sc Z W δ e Qv Q st hv k =>
  a B sc Z W δ e _ _ st hv fun us ds Z1 W1 g1 r1 ⟨hl, q1⟩ => ⟨by rw [r1.length]; exact le_line hl, fun p hp => by
    obtain ⟨g2, n2⟩ := newO (o := .lst ds) (st.gr g1).ok hp
    exact k (.lst us) p Z1 _ (g1.trans st.src g2) ⟨ds, wup_same, r1⟩ n2 (by
      cases ew : W p with
      | none => rfl
      | some o => exact absurd hp (g1.ex st.src (by rw [ew]; simp))) q1⟩
@[simp] def vCall (vf : VF) (r : VA) : VE := fun e Q => r e fun us => vf us Q
def spOf (vf : VF) : SpD := fun ds W Q => ∃ sc Z us Qv, Sub Z W ∧ SrcOk sc Z W ∧ Reps sc Z us ds ∧ vf us Qv ∧ ∀ u d Z' W', Gr sc Z W Z' W' → Rep sc Z' u d → Qv u → Q d W'
theorem sv_call {vf : VF} (a : SAv r r') : SV (fCall (spOf vf) r) (vCall vf r') := fun B sc Z W δ e Qv Q st hv k =>
  a B sc Z W δ e _ _ st hv fun us ds Z1 W1 g1 r1 q1 => ⟨sc, Z1, us, Qv, g1.w, g1.srcOk st.src, r1, q1, fun u d Z2 W2 g2 r2 q2 => k u d Z2 W2 (g1.trans st.src g2) r2 q2⟩
/-! the same with lists of names that may change, lent -/
mutual
@[simp] def flat : U → Bool
  | .non => true | .bl _ => true | .int _ => true | .str _ => true | .ty _ => true
  | .tup us => flats us
  | _ => false
@[simp] def flats : List U → Bool
  | [] => true
  | u :: us => flat u && flats us
end
mutual
theorem flat_rep {sc : Sc} {Z Z' : DW} : ∀ {u : U} {d : D}, flat u = true → Rep sc Z u d → Rep sc Z' u d
  | .non, _, _, h => by unfold Rep at h ⊢; exact h
  | .bl _, _, _, h => by unfold Rep at h ⊢; exact h
  | .int _, _, _, h => by unfold Rep at h ⊢; exact h
  | .str _, _, _, h => by unfold Rep at h ⊢; exact h
  | .ty _, _, _, h => by unfold Rep at h ⊢; exact h
  | .tup us, _, f, h => by
    unfold Rep at h ⊢
    obtain ⟨ds, e, h⟩ := h
    exact ⟨ds, e, flats_reps (by unfold flat at f; exact f) h⟩
  | .lst _, _, f, _ => by unfold flat at f; cases f
  | .dic _ _, _, f, _ => by unfold flat at f; cases f
  | .dit _ _, _, f, _ => by unfold flat at f; cases f
  | .src, _, f, _ => by unfold flat at f; cases f
  | .scr _, _, f, _ => by unfold flat at f; cases f
theorem flats_reps {sc : Sc} {Z Z' : DW} : ∀ {us : List U} {ds : List D}, flats us = true → Reps sc Z us ds → Reps sc Z' us ds
  | [], _, _, h => by unfold Reps at h ⊢; exact h
  | u :: us, _, f, h => by
    unfold flats at f
    rw [Bool.and_eq_true] at f
    unfold Reps at h ⊢
    obtain ⟨d, r, e, h1, h2⟩ := h
    exact ⟨d, r, e, flat_rep f.1 h1, flats_reps f.2 h2⟩
end
theorem lend {B : Addr → Prop} {sc : Sc} {W : DW} : ∀ {us : List U} {ds : List D} {Z : DW}, Ok B sc Z W → RepBs B sc Z W us ds → ∃ Z2, Sub Z Z2 ∧ Sub Z2 W ∧ SrcOk sc Z2 W ∧ Reps sc Z2 us ds
  | [], _, Z, ok, h => ⟨Z, Sub.refl _, ok.sub, ok.src, by rw [h.c0]; exact reps_nil.mpr rfl⟩
  | u :: us, _, Z, ok, ⟨d, r, e, h1, h2⟩ => by
    obtain ⟨Z2, s1, s2, s3, r2⟩ := lend ok h2
    subst e
    rcases h1 with h1 | ⟨a, e, r, n, s, b⟩
    · exact ⟨Z2, s1, s2, s3, reps_cons.mpr ⟨_, _, rfl, h1.up s1, r2⟩⟩
    · subst e
      obtain ⟨o, wo, rr⟩ := r.rep n
      cases ez : Z2 a with
      | some o2 =>
        have e2 := s2 _ _ ez
        rw [wo] at e2
        cases e2
        refine ⟨Z2, s1, s2, s3, reps_cons.mpr ⟨_, _, rfl, rr.up fun c x q => ?_, r2⟩⟩
        by_cases z : c = a
        · subst z; rw [wup_same] at q; cases q; exact ez
        · rw [wup_ne z] at q; exact s1 _ _ q
      | none =>
        refine ⟨DL.wup Z2 a o, s1.new n, Sub.put s2 wo, fun c x q => ?_, reps_cons.mpr ⟨_, _, rfl, rr.up (Sub.wup s1), r2.up ((Sub.refl _).new ez)⟩⟩
        obtain ⟨q1, q2, q3⟩ := s3 c x q
        obtain ⟨n1, n2⟩ := s c x q
        exact ⟨q1, by rw [wup_ne n1.symm]; exact q2, by rw [wup_ne n2.symm]; exact q3⟩
@[simp] def vCallB (vf : VF) (r : VA) : VE := fun e Q => r e fun us => vf us fun u => flat u = true ∧ Q u
theorem sv_callB {vf : VF} (a : SAb r r') : SV (fCall (spOf vf) r) (vCallB vf r') := fun B sc Z W δ e Qv Q st hv k =>
  a B sc Z W δ e _ _ st hv fun us ds Z1 W1 g1 r1 q1 => by
    obtain ⟨Z2, s1, s2, s3, r2⟩ := lend (st.gr g1).ok r1
    refine ⟨sc, Z2, us, _, s2, s3, r2, q1, fun u d Z3 W3 g3 r3 q3 => k u d Z1 W3 (g1.trans st.src ?_) (flat_rep q3.1 r3) q3.2⟩
    exact ⟨Sub.refl _, (s1.trans g3.z).trans g3.w, g3.k, g3.s, fun _ _ h => h⟩
@[simp] def vB1 (G : VF) (r : VA) : VE := fun e Q => r e fun us => G us Q
theorem sv_b1 {F : RD} {G : VF} (o : BV F G) (a : SAb r r') : SV (fB1 F r) (vB1 G r') := fun B sc Z W δ e Qv Q st hv k =>
  a B sc Z W δ e _ _ st hv fun us ds Z1 W1 g1 r1 q1 => o B sc Z1 W1 us ds Qv Q (st.gr g1).ok r1 q1 fun u d Z2 W2 g2 r2 q2 => k u d Z2 W2 (g1.trans st.src g2) r2 q2
theorem sf_b1 {F : RD} {G : VF} (o : BF F G) (a : SAb r r') : SF (fB1 F r) (vB1 G r') := fun B sc Z W δ e Qv Q st hv k =>
  a B sc Z W δ e _ _ st hv fun us ds Z1 W1 g1 r1 q1 => o B sc Z1 W1 us ds Qv Q (st.gr g1).ok r1 q1 fun u d Z2 W2 g2 r2 n2 w2 q2 => k u d Z2 W2 (g1.trans st.src g2) r2 n2 (by
      cases ew : W d with
      | none => rfl
      | some o => exact absurd w2 (g1.ex st.src (by rw [ew]; simp))) q2
theorem BF.v {F : RD} {G : VF} (o : BF F G) : BV F G := fun B sc Z W us ds Qv Q ok r hv k => o B sc Z W us ds Qv Q ok r hv fun u a Z' W' g r n w q => by
  obtain ⟨Z2, g2, r2⟩ := fz g r n w
  exact k u (.ref a) Z2 W' g2 r2 q
theorem OF.v {F : R2D} {G : VO2} (o : OF F G) : OV F G := fun B sc Z W x y dx dy Qv Q ok r1 r2 hv k => o B sc Z W x y dx dy Qv Q ok r1 r2 hv fun u a Z' W' g r n w q => by
  obtain ⟨Z2, g2, r2⟩ := fz g r n w
  exact k u (.ref a) Z2 W' g2 r2 q
end
end VL
/-! Vl3: operations and built-ins over values. -/
namespace VL
open PySem PySem.Spec PyProof.Rows L2 DL A30
section
variable {B : Addr → Prop} {sc : Sc} {Z W Z' W' : DW}
theorem Ok.same (h : Ok B sc Z W) : Gr sc Z W Z W := Gr.refl h.sub
/-! arithmetic -/
def gAdd : VO2 := fun x y Q => match x, y with
  | .int i, .int j => Q (.int (i + j))
  | .tup us, .tup vs => us.length + vs.length ≤ 1000000 ∧ Q (.tup (us ++ vs))
  | .lst us, .lst vs => us.length + vs.length ≤ 1000000 ∧ Q (.lst (us ++ vs))
  | .str s, .str t => s.length + t.length ≤ 1000000 ∧ Q (.str (s ++ t))
  | _, _ => False
theorem ov_add : OV pAdd gAdd := fun B sc Z W x y dx dy Qv Q ok rx ry hv k => by
  unfold gAdd at hv
  split at hv
  · rw [rx.int, ry.int]; exact k _ _ Z W ok.same rep_int hv
  · obtain ⟨ds, rfl, r1⟩ := rx.tup
    obtain ⟨es, rfl, r2⟩ := ry.tup
    exact ⟨by rw [r1.length, r2.length]; exact le_line hv.1, k _ _ Z W ok.same (rep_tup (r1.app r2)) hv.2⟩
  · obtain ⟨a, ds, rfl, w1, r1⟩ := rx.lst ok.sub
    obtain ⟨b, es, rfl, w2, r2⟩ := ry.lst ok.sub
    refine ⟨ds, es, w1, w2, by rw [r1.length, r2.length]; exact le_line hv.1, fun p hp => ?_⟩
    obtain ⟨g, n⟩ := newO (o := .lst (ds ++ es)) ok hp
    obtain ⟨Z2, g2, r⟩ := fz g (u := .lst _) ⟨_, wup_same, r1.app r2⟩ n hp
    exact k _ _ Z2 _ g2 r hv.2
  · rw [rx.str, ry.str]; exact ⟨le_line hv.1, k _ _ Z W ok.same rep_str hv.2⟩
  · exact hv.elim
def gI2 (h : Int → Int → U) : VO2 := fun x y Q => match x, y with
  | .int i, .int j => Q (h i j)
  | _, _ => False
def gIC (C : Int → Int → Prop) (h : Int → Int → U) : VO2 := fun x y Q => match x, y with
  | .int i, .int j => C i j ∧ Q (h i j)
  | _, _ => False
theorem ov_ii {h : Int → Int → Int} : OV (pII0 fun i j => .int (h i j)) (gI2 fun i j => .int (h i j)) := fun B sc Z W x y dx dy Qv Q ok rx ry hv k => by
  unfold gI2 at hv
  split at hv
  · rw [rx.int, ry.int]; exact k _ _ Z W ok.same rep_int hv
  · exact hv.elim
theorem ov_ib {h : Int → Int → Bool} : OV (pII0 fun i j => .bl (h i j)) (gI2 fun i j => .bl (h i j)) := fun B sc Z W x y dx dy Qv Q ok rx ry hv k => by
  unfold gI2 at hv
  split at hv
  · rw [rx.int, ry.int]; exact k _ _ Z W ok.same rep_bl hv
  · exact hv.elim
theorem ov_ic {C : Int → Int → Prop} {h : Int → Int → Int} : OV (pII C fun i j => .int (h i j)) (gIC C fun i j => .int (h i j)) := fun B sc Z W x y dx dy Qv Q ok rx ry hv k => by
  unfold gIC at hv
  split at hv
  · rw [rx.int, ry.int]; exact ⟨hv.1, k _ _ Z W ok.same rep_int hv.2⟩
  · exact hv.elim
abbrev gSub : VO2 := gI2 fun i j => .int (i - j)
abbrev gMod : VO2 := gIC (fun _ j => 0 < j) fun i j => .int (i % j)
abbrev gFdiv : VO2 := gIC CDivW fun i j => .int (i / j)
abbrev gPow : VO2 := gIC CPow fun i j => .int (i ^ j.toNat)
/-- products of ints -/
def gMul : VO2 := fun x y Q => match x, y with
  | .int i, .int j => (CMul i j ∨ CMulW i j) ∧ Q (.int (i * j))
  | .lst us, .int j => -(2 ^ 63) ≤ j ∧ j < 2 ^ 63 ∧ us.length * j.toNat ≤ 1000000 ∧ Q (.lst (List.replicate j.toNat us).flatten)
  | _, _ => False
theorem ov_mul : OV pMul gMul := fun B sc Z W x y dx dy Qv Q ok rx ry hv k => by
  unfold gMul at hv
  split at hv
  · rw [rx.int, ry.int]; exact ⟨hv.1, k _ _ Z W ok.same rep_int hv.2⟩
  · obtain ⟨a, ds, rfl, w1, r1⟩ := rx.lst ok.sub
    rw [ry.int]
    obtain ⟨h1, h2, h3, q⟩ := hv
    refine ⟨ds, w1, h1, h2, by rw [r1.length]; exact le_line h3, fun p hp => ?_⟩
    obtain ⟨g, n⟩ := newO (o := .lst _) ok hp
    obtain ⟨Z2, g2, r⟩ := fz g (u := .lst _) ⟨_, wup_same, r1.rep _⟩ n hp
    exact k _ _ Z2 _ g2 r q
  · exact hv.elim
/-- a new list of so many -/
def gRepL : VO2 := fun x y Q => match x, y with
  | .lst us, .int j => -(2 ^ 63) ≤ j ∧ j < 2 ^ 63 ∧ us.length * j.toNat ≤ 1000000 ∧ Q (.lst (List.replicate j.toNat us).flatten)
  | _, _ => False
theorem of_rep : OF pMul gRepL := fun B sc Z W x y dx dy Qv Q ok rx ry hv k => by
  unfold gRepL at hv
  split at hv
  · rename_i us j
    obtain ⟨a, ds, rfl, w1, r1⟩ := rx.lst ok.sub
    rw [ry.int]
    obtain ⟨h1, h2, h3, q⟩ := hv
    refine ⟨ds, w1, h1, h2, by rw [r1.length]; exact le_line h3, fun p hp => ?_⟩
    obtain ⟨g, n⟩ := newO (o := .lst _) ok hp
    exact k (.lst (List.replicate _ us).flatten) _ Z _ g ⟨_, wup_same, r1.rep _⟩ n hp q
  · exact hv.elim
def gCatL : VO2 := fun x y Q => match x, y with
  | .lst us, .lst vs => us.length + vs.length ≤ 1000000 ∧ Q (.lst (us ++ vs))
  | _, _ => False
theorem of_cat : OF pAdd gCatL := fun B sc Z W x y dx dy Qv Q ok rx ry hv k => by
  unfold gCatL at hv
  split at hv
  · rename_i us vs
    obtain ⟨a, ds, rfl, w1, r1⟩ := rx.lst ok.sub
    obtain ⟨b, es, rfl, w2, r2⟩ := ry.lst ok.sub
    refine ⟨ds, es, w1, w2, by rw [r1.length, r2.length]; exact le_line hv.1, fun p hp => ?_⟩
    obtain ⟨g, n⟩ := newO (o := .lst (ds ++ es)) ok hp
    exact k (.lst (us ++ vs)) _ Z _ g ⟨_, wup_same, r1.app r2⟩ n hp hv.2
  · exact hv.elim
def gTimes : VO2 := fun x y Q => match x, y with
  | .tup us, .int k => us ≠ [] ∧ 1 ≤ k ∧ k ≤ 1000 ∧ us.length ≤ 1000 ∧ Q (.tup (List.replicate k.toNat us).flatten)
  | _, _ => False
theorem ov_times : OV pTimes gTimes := fun B sc Z W x y dx dy Qv Q ok rx ry hv k => by
  unfold gTimes at hv
  split at hv
  · obtain ⟨ds, rfl, r1⟩ := rx.tup
    rw [ry.int]
    obtain ⟨h0, h1, h2, h3, q⟩ := hv
    exact ⟨fun e => h0 (by have := r1.length; rw [e] at this; exact List.eq_nil_of_length_eq_zero this.symm), h1, h2, by rw [r1.length]; exact h3, k _ _ Z W ok.same (rep_tup (r1.rep _)) q⟩
  · exact hv.elim
/-! data that is compared -/
mutual
@[simp] def pyU : U → Option PyData
  | .non => some .none
  | .bl b => some (.bool b)
  | .int i => some (.int i)
  | .str x => some (.str x)
  | .tup us => (pyUs us).map .tuple
  | .lst us => (pyUs us).map .list
  | _ => none
@[simp] def pyUs : List U → Option (List PyData)
  | [] => some []
  | u :: us => match pyU u, pyUs us with
    | some x, some xs => some (x :: xs)
    | _, _ => none
end
mutual
theorem pyU_ok : ∀ {u : U} {d : D} {y : PyData}, Sub Z W → Rep sc Z u d → pyU u = some y → Py W d y
  | .non, _, _, s, r, e => by unfold Rep at r; unfold pyU at e; cases e; rw [r]; exact .non
  | .bl b, _, _, s, r, e => by unfold Rep at r; unfold pyU at e; cases e; rw [r]; exact .bl b
  | .int i, _, _, s, r, e => by unfold Rep at r; unfold pyU at e; cases e; rw [r]; exact .int i
  | .str x, _, _, s, r, e => by unfold Rep at r; unfold pyU at e; cases e; rw [r]; exact .str x
  | .tup us, _, _, s, r, e => by
    unfold Rep at r
    unfold pyU at e
    obtain ⟨ds, rfl, r⟩ := r
    cases q : pyUs us with
    | none => rw [q] at e; cases e
    | some ys => rw [q] at e; cases e; exact .tup (pyUs_ok s r q)
  | .lst us, _, _, s, r, e => by
    unfold Rep at r
    unfold pyU at e
    obtain ⟨a, ds, rfl, w, r⟩ := r
    cases q : pyUs us with
    | none => rw [q] at e; cases e
    | some ys => rw [q] at e; cases e; exact .lst (s _ _ w) (pyUs_ok s r q)
  | .ty _, _, _, _, _, e => by unfold pyU at e; cases e
  | .dic _ _, _, _, _, _, e => by unfold pyU at e; cases e
  | .dit _ _, _, _, _, _, e => by unfold pyU at e; cases e
  | .src, _, _, _, _, e => by unfold pyU at e; cases e
  | .scr _, _, _, _, _, e => by unfold pyU at e; cases e
theorem pyUs_ok : ∀ {us : List U} {ds : List D} {ys : List PyData}, Sub Z W → Reps sc Z us ds → pyUs us = some ys → Pys W ds ys
  | [], _, _, s, r, e => by unfold Reps at r; unfold pyUs at e; cases e; rw [r]; exact .nil
  | u :: us, _, _, s, r, e => by
    unfold Reps at r
    unfold pyUs at e
    obtain ⟨d, t, rfl, h1, h2⟩ := r
    cases q1 : pyU u with
    | none => rw [q1] at e; cases e
    | some y =>
      cases q2 : pyUs us with
      | none => rw [q1, q2] at e; cases e
      | some ys => rw [q1, q2] at e; cases e; exact .cons (pyU_ok s h1 q1) (pyUs_ok s h2 q2)
end
theorem RepB.py {u : U} {d : D} {y : PyData} (s : Sub Z W) (h : RepB B sc Z W u d) (e : pyU u = some y) : Py W d y := by
  rcases h with h | ⟨a, rfl, r, _⟩
  · exact pyU_ok s h e
  · cases u with
    | lst us =>
      unfold pyU at e
      obtain ⟨ds, w, r⟩ := r
      cases q : pyUs us with
      | none => rw [q] at e; cases e
      | some ys => rw [q] at e; cases e; exact .lst w (pyUs_ok s r q)
    | dic => unfold pyU at e; cases e
    | dit => unfold pyU at e; cases e
    | _ => exact r.elim
def gEq (neg : Bool) : VO2 := fun x y Q => ∃ a b, pyU x = some a ∧ pyU y = some b ∧ SeqAt.shaped a = true ∧ SeqAt.shaped b = true ∧ Q (.bl (if neg then !PyData.eqv a b else PyData.eqv a b))
theorem ov_eq : OV pEq (gEq false) := fun B sc Z W x y dx dy Qv Q ok rx ry ⟨a, b, ha, hb, s1, s2, hv⟩ k => ⟨a, b, rx.py ok.sub ha, ry.py ok.sub hb, s1, s2, k _ _ Z W ok.same rep_bl hv⟩
theorem ov_ne : OV pNe (gEq true) := fun B sc Z W x y dx dy Qv Q ok rx ry ⟨a, b, ha, hb, s1, s2, hv⟩ k => ⟨a, b, rx.py ok.sub ha, ry.py ok.sub hb, s1, s2, k _ _ Z W ok.same rep_bl hv⟩
@[simp] def U.isN : U → Bool
  | .non => true | _ => false
theorem RepB.isN {u : U} {d : D} (s : Sub Z W) (h : RepB B sc Z W u d) : d.isN = u.isN := by
  cases u with
  | non => rw [h.non]; rfl
  | bl => rw [h.bl]; rfl
  | int => rw [h.int]; rfl
  | str => rw [h.str]; rfl
  | ty => rw [h.ty]; rfl
  | tup => obtain ⟨ds, rfl, _⟩ := h.tup; rfl
  | lst => obtain ⟨a, ds, rfl, _⟩ := h.lst s; rfl
  | dic => obtain ⟨a, ds, rfl, _⟩ := h.dic s; rfl
  | dit => obtain ⟨a, ds, rfl, _⟩ := h.dit s; rfl
  | src =>
    rcases h with h | ⟨a, rfl, r, _⟩
    · unfold Rep at h; obtain ⟨s, c, _, rfl⟩ := h; rfl
    · exact r.elim
  | scr =>
    rcases h with h | ⟨a, rfl, r, _⟩
    · unfold Rep at h
      obtain ⟨h, _⟩ := h
      cases d with
      | non => cases h
      | _ => rfl
    · exact r.elim
def gIsN (neg : Bool) : VO2 := fun x y Q => match y with
  | .non => Q (.bl (if neg then !x.isN else x.isN))
  | _ => False
theorem ov_isN : OV pIsN (gIsN false) := fun B sc Z W x y dx dy Qv Q ok rx ry hv k => by
  cases y <;> try exact hv.elim
  rw [ry.non]
  exact k (.bl x.isN) _ Z W ok.same (by rw [rx.isN ok.sub]; exact rep_bl) hv
theorem ov_notN : OV pNotN (gIsN true) := fun B sc Z W x y dx dy Qv Q ok rx ry hv k => by
  cases y <;> try exact hv.elim
  rw [ry.non]
  exact k (.bl !x.isN) _ Z W ok.same (by rw [rx.isN ok.sub]; exact rep_bl) hv
/-! subscripts -/
@[simp] def keyU : U → Option Key
  | .int i => some (.inl i)
  | .str s => some (.inr s)
  | _ => none
@[simp] def keysU : List U → Option (List Key)
  | [] => some []
  | u :: us => match keyU u, keysU us with
    | some k, some ks => some (k :: ks)
    | _, _ => none
@[simp] def tkeyU : U → Option (List Key)
  | .tup us => keysU us
  | _ => none
theorem RepB.key {u : U} {d : D} {kk : Key} (h : RepB B sc Z W u d) (e : keyU u = some kk) : keyD d = some kk := by
  cases u with
  | int => rw [h.int]; exact e
  | str => rw [h.str]; exact e
  | _ => cases e
theorem keysU_ok : ∀ {us : List U} {ds : List D} {ks : List Key}, Reps sc Z us ds → keysU us = some ks → keysD ds = some ks
  | [], _, _, r, e => by rw [reps_nil.mp r]; exact e
  | u :: us, _, ks, r, e => by
    obtain ⟨d, t, rfl, h1, h2⟩ := reps_cons.mp r
    unfold keysU at e
    cases q1 : keyU u with
    | none => rw [q1] at e; cases e
    | some x =>
      cases q2 : keysU us with
      | none => rw [q1, q2] at e; cases e
      | some xs =>
        rw [q1, q2] at e
        cases e
        have := RepB.key (B := fun _ => False) (W := Z) (.inl h1) q1
        unfold keysD
        rw [this, keysU_ok h2 q2]
theorem RepB.tkey {u : U} {d : D} {kk : List Key} (h : RepB B sc Z W u d) (e : tkeyU u = some kk) : tkeyD d = some kk := by
  cases u with
  | tup us =>
    obtain ⟨ds, rfl, r⟩ := h.tup
    exact keysU_ok r e
  | _ => cases e
def atU (xs : List U) (i : Int) : Option U := (ixN xs.length i).bind fun j => xs[j]?
theorem Reps.at {us : List U} {ds : List D} {i : Int} {u : U} (h : Reps sc Z us ds) (e : atU us i = some u) : ∃ d, atD ds i = some d ∧ Rep sc Z u d := by
  unfold atU at e
  unfold atD
  rw [h.length]
  cases q : ixN us.length i with
  | none => rw [q] at e; cases e
  | some j => rw [q] at e; exact Reps.get (i := j) h e
def valU {κ : Type} [DecidableEq κ] : List κ → List U → κ → Option U
  | k :: ks, u :: us, q => if k = q then some u else valU ks us q
  | _, _, _ => none
theorem valU_ok {κ : Type} [DecidableEq κ] {q : κ} : ∀ {kvs : List (κ × D)} {us : List U}, Reps sc Z us (kvs.map (·.2)) → (∀ u, valU (kvs.map (·.1)) us q = some u → ∃ d, valD kvs q = some d ∧ Rep sc Z u d) ∧ (valU (kvs.map (·.1)) us q).isSome = (valD kvs q).isSome
  | [], us, h => by simp [valU, valD]
  | (k, d) :: kvs, [], h => by
    have := reps_nil.mp h
    cases this
  | (k, d) :: kvs, u :: us, h => by
    obtain ⟨d', r, e, h1, h2⟩ := reps_cons.mp h
    simp only [List.map_cons, List.cons.injEq] at e
    obtain ⟨rfl, rfl⟩ := e
    have ih := valU_ok (q := q) h2
    by_cases z : k = q
    · simp only [List.map_cons, valU, valD, List.find?_cons, z, decide_true, ↓reduceIte, Option.map_some]
      exact ⟨fun v e => by cases e; exact ⟨_, rfl, h1⟩, rfl⟩
    · have e1 : valD ((k, d) :: kvs) q = valD kvs q := by simp [valD, List.find?_cons, z]
      simp only [List.map_cons, valU, z, ↓reduceIte]
      rw [e1]
      exact ih
@[simp] def ixU : U → U → Option U
  | .tup us, .int i => atU us i
  | .lst us, .int i => atU us i
  | .dic ks us, y => (keyU y).bind fun k => valU ks us k
  | .dit ks us, y => (tkeyU y).bind fun k => valU ks us k
  | _, _ => none
@[simp] def gIx : VO2 := fun x y Q => ∃ u, ixU x y = some u ∧ Q u
theorem ov_ix : OV pSub' gIx := fun B sc Z W x y dx dy Qv Q ok rx ry ⟨u, hu, hv⟩ k => by
  unfold ixU at hu
  split at hu
  · obtain ⟨ds, rfl, r⟩ := rx.tup
    rw [ry.int]
    obtain ⟨d, e, rd⟩ := r.at hu
    exact ⟨d, e, k u d Z W ok.same rd hv⟩
  · obtain ⟨a, ds, rfl, w, r⟩ := rx.lst ok.sub
    rw [ry.int]
    obtain ⟨d, e, rd⟩ := r.at hu
    exact ⟨d, by simp only [ixD]; rw [w]; exact e, k u d Z W ok.same rd hv⟩
  · obtain ⟨a, kvs, rfl, w, e, r⟩ := rx.dic ok.sub
    cases hk : keyU y with
    | none => rw [hk] at hu; cases hu
    | some kk =>
      rw [hk] at hu
      subst e
      obtain ⟨d, e, rd⟩ := (valU_ok r).1 u hu
      exact ⟨d, by simp only [ixD]; rw [w]; simp only [ry.key hk, Option.bind_some]; exact e, k u d Z W ok.same rd hv⟩
  · obtain ⟨a, kvs, rfl, w, e, r⟩ := rx.dit ok.sub
    cases hk : tkeyU y with
    | none => rw [hk] at hu; cases hu
    | some kk =>
      rw [hk] at hu
      subst e
      obtain ⟨d, e, rd⟩ := (valU_ok r).1 u hu
      exact ⟨d, by simp only [ixD]; rw [w]; simp only [ry.tkey hk, Option.bind_some]; exact e, k u d Z W ok.same rd hv⟩
  · cases hu
/-! membership -/
def inU (x y : U) : Option Bool := match y with
  | .tup us => match pyU x, pyUs us with
    | some a, some ps => if SeqAt.shaped (.tuple ps) = true ∧ SeqAt.shaped a = true then some (ps.any fun z => PyData.eqv z a) else none
    | _, _ => none
  | .lst us => match pyU x, pyUs us with
    | some a, some ps => if SeqAt.shaped (.list ps) = true ∧ SeqAt.shaped a = true then some (ps.any fun z => PyData.eqv z a) else none
    | _, _ => none
  | .dic ks us => match keyU x with
    | some k => some (valU ks us k).isSome
    | none => none
  | .dit ks us => match tkeyU x with
    | some k => some (valU ks us k).isSome
    | none => none
  | _ => none
@[simp] def gIn (neg : Bool) : VO2 := fun x y Q => ∃ b, inU x y = some b ∧ Q (.bl (if neg then !b else b))
theorem ov_in (neg : Bool) : OV (pInA neg) (gIn neg) := fun B sc Z W x y dx dy Qv Q ok rx ry ⟨b, hb, hv⟩ k => by
  unfold inU at hb
  split at hb
  · split at hb
    · rename_i us _ a ps e1 e2
      split at hb
      · rename_i hs
        cases hb
        exact .inl ⟨a, ps, rx.py ok.sub e1, .inr ⟨ry.py ok.sub (by unfold pyU; rw [e2]; rfl), hs.1⟩, hs.2, k _ _ Z W ok.same rep_bl hv⟩
      · cases hb
    · cases hb
  · split at hb
    · rename_i us _ a ps e1 e2
      split at hb
      · rename_i hs
        cases hb
        exact .inl ⟨a, ps, rx.py ok.sub e1, .inl ⟨ry.py ok.sub (by unfold pyU; rw [e2]; rfl), hs.1⟩, hs.2, k _ _ Z W ok.same rep_bl hv⟩
      · cases hb
    · cases hb
  · split at hb
    · rename_i kk hk
      cases hb
      obtain ⟨a, kvs, rfl, w, e, r⟩ := ry.dic ok.sub
      subst e
      refine .inr (.inl ⟨a, kvs, kk, rfl, w, rx.key hk, k _ _ Z W ok.same ?_ hv⟩)
      rw [(valU_ok r).2]; exact rep_bl
    · cases hb
  · split at hb
    · rename_i kk hk
      cases hb
      obtain ⟨a, kvs, rfl, w, e, r⟩ := ry.dit ok.sub
      subst e
      refine .inr (.inr ⟨a, kvs, kk, rfl, w, rx.tkey hk, k _ _ Z W ok.same ?_ hv⟩)
      rw [(valU_ok r).2]; exact rep_bl
    · cases hb
  · cases hb
/-! built-ins -/
@[simp] def lenU : U → Option Nat
  | .tup us => some us.length
  | .lst us => some us.length
  | _ => none
@[simp] def seqU : U → Option (List U)
  | .tup us => some us
  | .lst us => some us
  | _ => none
theorem RepB.seq {u : U} {d : D} {us : List U} (s : Sub Z W) (h : RepB B sc Z W u d) (e : seqU u = some us) : ∃ ds, seqD W d = some ds ∧ Reps sc Z us ds := by
  cases u with
  | tup => cases e; obtain ⟨ds, rfl, r⟩ := h.tup; exact ⟨ds, rfl, r⟩
  | lst => cases e; obtain ⟨a, ds, rfl, w, r⟩ := h.lst s; exact ⟨ds, by simp only [seqD]; rw [w], r⟩
  | _ => cases e
@[simp] def gLen : VF := fun us Q => match us with
  | [x] => ∃ n, lenU x = some n ∧ Q (.int (n : Nat))
  | _ => False
theorem bv_len : BV bLen gLen := fun B sc Z W us ds Qv Q ok r hv k => by
  unfold gLen at hv
  split at hv
  · obtain ⟨n, hn, hv⟩ := hv
    obtain ⟨d, rfl, rd⟩ := r.c1
    refine ⟨d, n, rfl, ?_, k _ _ Z W ok.same rep_int hv⟩
    rename_i x
    cases x with
    | tup => cases hn; obtain ⟨ds, rfl, r2⟩ := rd.tup; simp only [lenD]; rw [r2.length]
    | lst => cases hn; obtain ⟨a, ds, rfl, w, r2⟩ := rd.lst ok.sub; simp only [lenD]; rw [w]; simp only [r2.length]
    | _ => cases hn
  · exact hv.elim
@[simp] def gAbs : VF := fun us Q => match us with
  | [.int i] => Q (.int (if i < 0 then -i else i))
  | _ => False
theorem bv_abs : BV bAbs gAbs := fun B sc Z W us ds Qv Q ok r hv k => by
  unfold gAbs at hv
  split at hv
  · obtain ⟨d, rfl, rd⟩ := r.c1
    rw [rd.int]
    exact ⟨_, rfl, k _ _ Z W ok.same rep_int hv⟩
  · exact hv.elim
@[simp] def gInt : VF := fun us Q => match us with
  | [.int i] => Q (.int i)
  | [.bl b] => Q (.int (if b then 1 else 0))
  | _ => False
theorem bv_int : BV bInt gInt := fun B sc Z W us ds Qv Q ok r hv k => by
  unfold gInt at hv
  split at hv
  · obtain ⟨d, rfl, rd⟩ := r.c1
    rw [rd.int]
    exact k _ _ Z W ok.same rep_int hv
  · obtain ⟨d, rfl, rd⟩ := r.c1
    rw [rd.bl]
    exact k _ _ Z W ok.same rep_int hv
  · exact hv.elim
@[simp] def gTuple : VF := fun us Q => match us with
  | [x] => ∃ xs, seqU x = some xs ∧ Q (.tup xs)
  | _ => False
theorem bv_tuple : BV bTuple gTuple := fun B sc Z W us ds Qv Q ok r hv k => by
  unfold gTuple at hv
  split at hv
  · obtain ⟨xs, hx, hv⟩ := hv
    obtain ⟨d, rfl, rd⟩ := r.c1
    obtain ⟨es, e, r⟩ := rd.seq ok.sub hx
    exact ⟨d, es, rfl, e, k _ _ Z W ok.same (rep_tup r) hv⟩
  · exact hv.elim
@[simp] def gList : VF := fun us Q => match us with
  | [x] => ∃ xs, seqU x = some xs ∧ Q (.lst xs)
  | _ => False
theorem bf_list : BF bList gList := fun B sc Z W us ds Qv Q ok r hv k => by
  unfold gList at hv
  split at hv
  · obtain ⟨xs, hx, hv⟩ := hv
    obtain ⟨d, rfl, rd⟩ := r.c1
    obtain ⟨es, e, r⟩ := rd.seq ok.sub hx
    refine ⟨d, es, rfl, e, fun p hp => ?_⟩
    obtain ⟨g, n⟩ := newO (o := .lst es) ok hp
    exact k (.lst xs) _ Z _ g ⟨_, wup_same, r⟩ n hp hv
  · exact hv.elim
/-- the ints of a list -/
def intsU : List U → Option (List Int)
  | [] => some []
  | .int i :: us => (intsU us).map (i :: ·)
  | _ => none
theorem intsU_ok : ∀ {us : List U} {ns : List Int}, intsU us = some ns → us = ns.map U.int
  | [], _, e => by cases e; rfl
  | u :: us, _, e => by
    cases u <;> try (cases e; done)
    unfold intsU at e
    cases q : intsU us with
    | none => rw [q] at e; cases e
    | some ms => rw [q] at e; cases e; rw [intsU_ok q]; rfl
theorem intsU_map : ∀ (ns : List Int), intsU (ns.map U.int) = some ns
  | [] => rfl
  | n :: ns => by simp [intsU, intsU_map ns]
def blsU : List U → Option (List Bool)
  | [] => some []
  | .bl i :: us => (blsU us).map (i :: ·)
  | _ => none
theorem blsU_ok : ∀ {us : List U} {ns : List Bool}, blsU us = some ns → us = ns.map U.bl
  | [], _, e => by cases e; rfl
  | u :: us, _, e => by
    cases u <;> try (cases e; done)
    unfold blsU at e
    cases q : blsU us with
    | none => rw [q] at e; cases e
    | some ms => rw [q] at e; cases e; rw [blsU_ok q]; rfl
theorem blsU_map : ∀ (ns : List Bool), blsU (ns.map U.bl) = some ns
  | [] => rfl
  | n :: ns => by simp [blsU, blsU_map ns]
@[simp] def gSum : VF := fun us Q => match us with
  | [.lst xs] => ∃ ns, intsU xs = some ns ∧ Q (.int ns.sum)
  | _ => False
theorem bv_sum : BV bSum gSum := fun B sc Z W us ds Qv Q ok r hv k => by
  unfold gSum at hv
  split at hv
  · obtain ⟨ns, hn, hv⟩ := hv
    obtain ⟨d, rfl, rd⟩ := r.c1
    obtain ⟨a, es, rfl, w, r⟩ := rd.lst ok.sub
    rw [intsU_ok hn] at r
    rw [r.ints_iff] at w
    exact ⟨a, ns, rfl, w, k _ _ Z W ok.same rep_int hv⟩
  · exact hv.elim
@[simp] def gMaxL : VF := fun us Q => match us with
  | [.lst xs] => ∃ ns, intsU xs = some ns ∧ 0 < ns.length ∧ ∀ m, m ∈ ns → (∀ y, y ∈ ns → y ≤ m) → Q (.int m)
  | _ => False
theorem bv_max : BV bMax gMaxL := fun B sc Z W us ds Qv Q ok r hv k => by
  unfold gMaxL at hv
  split at hv
  · obtain ⟨ns, hn, h0, hv⟩ := hv
    obtain ⟨d, rfl, rd⟩ := r.c1
    obtain ⟨a, es, rfl, w, r⟩ := rd.lst ok.sub
    rw [intsU_ok hn] at r
    rw [r.ints_iff] at w
    exact ⟨a, ns, rfl, w, h0, fun m h1 h2 => k _ _ Z W ok.same rep_int (hv m h1 h2)⟩
  · exact hv.elim
@[simp] def gMinL : VF := fun us Q => match us with
  | [.lst xs] => ∃ ns, intsU xs = some ns ∧ 0 < ns.length ∧ ∀ m, m ∈ ns → (∀ y, y ∈ ns → m ≤ y) → Q (.int m)
  | _ => False
theorem bv_min : BV bMin gMinL := fun B sc Z W us ds Qv Q ok r hv k => by
  unfold gMinL at hv
  split at hv
  · obtain ⟨ns, hn, h0, hv⟩ := hv
    obtain ⟨d, rfl, rd⟩ := r.c1
    obtain ⟨a, es, rfl, w, r⟩ := rd.lst ok.sub
    rw [intsU_ok hn] at r
    rw [r.ints_iff] at w
    exact ⟨a, ns, rfl, w, h0, fun m h1 h2 => k _ _ Z W ok.same rep_int (hv m h1 h2)⟩
  · exact hv.elim
@[simp] def gMax2 : VF := fun us Q => match us with
  | [.int i, .int j] => Q (.int (max i j))
  | _ => False
theorem bv_max2 : BV bMax2 gMax2 := fun B sc Z W us ds Qv Q ok r hv k => by
  unfold gMax2 at hv
  split at hv
  · rename_i i j
    obtain ⟨d, d', rfl, r1, r2⟩ := r.c2
    rw [r1.int, r2.int]
    exact ⟨i, j, rfl, by rw [show (if j > i then j else i) = max i j by omega]; exact k _ _ Z W ok.same rep_int hv⟩
  · exact hv.elim
@[simp] def gMin2 : VF := fun us Q => match us with
  | [.int i, .int j] => Q (.int (min i j))
  | _ => False
theorem bv_min2 : BV bMin2 gMin2 := fun B sc Z W us ds Qv Q ok r hv k => by
  unfold gMin2 at hv
  split at hv
  · rename_i i j
    obtain ⟨d, d', rfl, r1, r2⟩ := r.c2
    rw [r1.int, r2.int]
    exact ⟨i, j, rfl, by rw [show (if j < i then j else i) = min i j by omega]; exact k _ _ Z W ok.same rep_int hv⟩
  · exact hv.elim
@[simp] def gAny : VF := fun us Q => match us with
  | [.lst xs] => ∃ ns, blsU xs = some ns ∧ Q (.bl (ns.any id))
  | _ => False
theorem bv_any : BV bAny gAny := fun B sc Z W us ds Qv Q ok r hv k => by
  unfold gAny at hv
  split at hv
  · obtain ⟨ns, hn, hv⟩ := hv
    obtain ⟨d, rfl, rd⟩ := r.c1
    obtain ⟨a, es, rfl, w, r⟩ := rd.lst ok.sub
    rw [blsU_ok hn] at r
    rw [r.bls_iff] at w
    exact ⟨a, ns, rfl, w, k _ _ Z W ok.same rep_bl hv⟩
  · exact hv.elim
@[simp] def gAll : VF := fun us Q => match us with
  | [.lst xs] => ∃ ns, blsU xs = some ns ∧ Q (.bl (ns.all id))
  | _ => False
theorem bv_all : BV bAll gAll := fun B sc Z W us ds Qv Q ok r hv k => by
  unfold gAll at hv
  split at hv
  · obtain ⟨ns, hn, hv⟩ := hv
    obtain ⟨d, rfl, rd⟩ := r.c1
    obtain ⟨a, es, rfl, w, r⟩ := rd.lst ok.sub
    rw [blsU_ok hn] at r
    rw [r.bls_iff] at w
    exact ⟨a, ns, rfl, w, k _ _ Z W ok.same rep_bl hv⟩
  · exact hv.elim
def gRepr : VF := fun us Q => match us with
  | [x] => ∃ y, pyU x = some y ∧ y.showable = true ∧ y.hasDict = false ∧ y.depth ≤ 60 ∧ y.shown.length ≤ 1000000 ∧ Q (.str y.shown)
  | _ => False
theorem bv_repr : BV bRepr gRepr := fun B sc Z W us ds Qv Q ok r hv k => by
  unfold gRepr at hv
  split at hv
  · obtain ⟨y, hy, h1, h2, h3, h4, hv⟩ := hv
    obtain ⟨d, rfl, rd⟩ := r.c1
    exact ⟨d, y, rfl, rd.py ok.sub hy, h1, h2, h3, le_line h4, k _ _ Z W ok.same rep_str hv⟩
  · exact hv.elim
@[simp] def tyU : U → Option String
  | .non => some "NoneType"
  | .bl _ => some "bool"
  | .int _ => some "int"
  | .str _ => some "str"
  | .tup _ => some "tuple"
  | .lst _ => some "list"
  | .dic _ _ => some "dict"
  | .dit _ _ => some "dict"
  | _ => none
@[simp] def gIsi : VF := fun us Q => match us with
  | [x, .ty n] => ∃ t b, tyU x = some t ∧ IsB t n b ∧ Q (.bl b)
  | _ => False
theorem bv_isi : BV bIsi gIsi := fun B sc Z W us ds Qv Q ok r hv k => by
  unfold gIsi at hv
  split at hv
  · rename_i x n
    obtain ⟨t, b, ht, hb, hv⟩ := hv
    obtain ⟨d, d', rfl, r1, r2⟩ := r.c2
    rw [r2.ty]
    refine ⟨d, n, t, b, rfl, ?_, hb, k _ _ Z W ok.same rep_bl hv⟩
    cases x with
    | non => rw [r1.non]; exact ht
    | bl => rw [r1.bl]; exact ht
    | int => rw [r1.int]; exact ht
    | str => rw [r1.str]; exact ht
    | tup => obtain ⟨ds, rfl, r⟩ := r1.tup; exact ht
    | lst => obtain ⟨a, ds, rfl, w, r⟩ := r1.lst ok.sub; simp only [tyN]; rw [w]; exact ht
    | dic => obtain ⟨a, ds, rfl, w, r⟩ := r1.dic ok.sub; simp only [tyN]; rw [w]; exact ht
    | dit => obtain ⟨a, ds, rfl, w, r⟩ := r1.dit ok.sub; simp only [tyN]; rw [w]; exact ht
    | _ => cases ht
  · exact hv.elim
end
section
variable {Q : U → Prop} {i j : Int} {us vs : List U} {x y : U}
@[simp] theorem gAdd_ii : gAdd (.int i) (.int j) Q = Q (.int (i + j)) := rfl
@[simp] theorem gAdd_tt : gAdd (.tup us) (.tup vs) Q = (us.length + vs.length ≤ 1000000 ∧ Q (.tup (us ++ vs))) := rfl
@[simp] theorem gAdd_ll : gAdd (.lst us) (.lst vs) Q = (us.length + vs.length ≤ 1000000 ∧ Q (.lst (us ++ vs))) := rfl
@[simp] theorem gCatL_ll : gCatL (.lst us) (.lst vs) Q = (us.length + vs.length ≤ 1000000 ∧ Q (.lst (us ++ vs))) := rfl
@[simp] theorem gI2_ii {h : Int → Int → U} : gI2 h (.int i) (.int j) Q = Q (h i j) := rfl
@[simp] theorem gIC_ii {C : Int → Int → Prop} {h : Int → Int → U} : gIC C h (.int i) (.int j) Q = (C i j ∧ Q (h i j)) := rfl
@[simp] theorem gMul_ii : gMul (.int i) (.int j) Q = ((CMul i j ∨ CMulW i j) ∧ Q (.int (i * j))) := rfl
@[simp] theorem gMul_li : gMul (.lst us) (.int j) Q = (-(2 ^ 63) ≤ j ∧ j < 2 ^ 63 ∧ us.length * j.toNat ≤ 1000000 ∧ Q (.lst (List.replicate j.toNat us).flatten)) := rfl
@[simp] theorem gRepL_li : gRepL (.lst us) (.int j) Q = (-(2 ^ 63) ≤ j ∧ j < 2 ^ 63 ∧ us.length * j.toNat ≤ 1000000 ∧ Q (.lst (List.replicate j.toNat us).flatten)) := rfl
@[simp] theorem gTimes_ti : gTimes (.tup us) (.int j) Q = (us ≠ [] ∧ 1 ≤ j ∧ j ≤ 1000 ∧ us.length ≤ 1000 ∧ Q (.tup (List.replicate j.toNat us).flatten)) := rfl
@[simp] theorem gIsN_n {neg : Bool} : gIsN neg x .non Q = Q (.bl (if neg = true then !x.isN else x.isN)) := rfl
end
end VL
/-! Vl4: slices, what is walked, targets, comprehensions over values. -/
namespace VL
open PySem PySem.Spec PyProof.Rows L2 DL A30
/-! slices, signs -/
abbrev VOp := VEnv → (Option Int → Prop) → Prop
def SOp (f : FO) (g : VOp) : Prop := ∀ (B : Addr → Prop) sc Z W δ e (Qv : Option Int → Prop) (Q : Option Int → DW → Prop), StE B sc Z W δ e → g e Qv → (∀ u Z' W', Gr sc Z W Z' W' → Qv u → Q u W') → f δ W Q
@[simp] def voN : VOp := fun _ Q => Q none
@[simp] def voS (f : VE) : VOp := fun e Q => f e fun x => match x with | .int i => Q (some i) | _ => False
section
variable {f g h : FE} {f' g' h' : VE} {p q : FT} {p' q' : VT} {r : FA} {r' : VA} {lo hi : FO} {lo' hi' : VOp}
theorem so_n : SOp fNoPart voN := fun B sc Z W δ e Qv Q st hv k => k none Z W (Gr.refl st.sub) hv
theorem so_s (a : SB f f') : SOp (fPart f) (voS f') := fun B sc Z W δ e Qv Q st hv k =>
  a B sc Z W δ e _ _ st hv fun x dx Z1 W1 g1 r1 q1 => by
    cases x <;> try exact q1.elim
    rw [r1.int]
    exact k _ Z1 W1 g1 q1
def cutU (xs : List U) (lo hi : Option Int) : List U := (xs.drop (HT.sIx xs.length 0 lo)).take (HT.sIx xs.length xs.length hi - HT.sIx xs.length 0 lo)
theorem Reps.cut {sc : Sc} {Z : DW} {us : List U} {ds : List D} (h : Reps sc Z us ds) (l u : Option Int) : Reps sc Z (cutU us l u) (DL.cutD ds l u) := by
  unfold cutU DL.cutD
  rw [h.length]
  exact (h.drop _).take _
@[simp] def vSl (f : VE) (lo hi : VOp) : VE := fun e Q => f e fun x => lo e fun l => hi e fun u => match x with
  | .tup xs => Q (.tup (cutU xs l u))
  | .lst xs => Q (.lst (cutU xs l u))
  | _ => False
@[simp] def vSlL (f : VE) (lo hi : VOp) : VE := fun e Q => f e fun x => lo e fun l => hi e fun u => match x with
  | .lst xs => Q (.lst (cutU xs l u))
  | _ => False
theorem none_back {sc : Sc} {Z W Z' W' : DW} {p : Addr} (g : Gr sc Z W Z' W') (s : SrcOk sc Z W) (h : W' p = none) : W p = none := by
  cases ew : W p with
  | none => rfl
  | some o => exact absurd h (g.ex s (by rw [ew]; simp))
theorem sf_sl (a : SB f f') (b : SOp lo lo') (c : SOp hi hi') : SF (fSl f lo hi) (vSlL f' lo' hi') := fun B sc Z W δ e Qv Q st hv k =>
  a B sc Z W δ e _ _ st hv fun x dx Z1 W1 g1 r1 q1 => b B sc Z1 W1 δ e _ _ (st.gr g1) q1 fun l Z2 W2 g2 q2 =>
    have g12 := g1.trans st.src g2
    c B sc Z2 W2 δ e _ _ (st.gr g12) q2 fun u Z3 W3 g3 q3 => by
      have g13 := g12.trans st.src g3
      have r3 := (r1.up g2).up g3
      cases x <;> try exact q3.elim
      obtain ⟨a, ds, rfl, w, r⟩ := r3.lst g3.w
      refine ⟨ds, w, fun p hp => ?_⟩
      obtain ⟨g4, n⟩ := newO (o := .lst (DL.cutD ds l u)) (st.gr g13).ok hp
      exact k (.lst _) p Z3 _ (g13.trans st.src g4) ⟨_, wup_same, r.cut l u⟩ n (none_back g13 st.src hp) q3
theorem sv_sl (a : SB f f') (b : SOp lo lo') (c : SOp hi hi') : SV (fSl f lo hi) (vSl f' lo' hi') := fun B sc Z W δ e Qv Q st hv k =>
  a B sc Z W δ e _ _ st hv fun x dx Z1 W1 g1 r1 q1 => b B sc Z1 W1 δ e _ _ (st.gr g1) q1 fun l Z2 W2 g2 q2 =>
    have g12 := g1.trans st.src g2
    c B sc Z2 W2 δ e _ _ (st.gr g12) q2 fun u Z3 W3 g3 q3 => by
      have g13 := g12.trans st.src g3
      have r3 := (r1.up g2).up g3
      cases x <;> try exact q3.elim
      · obtain ⟨ds, rfl, r⟩ := r3.tup
        exact k _ _ Z3 W3 g13 (rep_tup (r.cut l u)) q3
      · obtain ⟨a, ds, rfl, w, r⟩ := r3.lst g3.w
        refine ⟨ds, w, fun p hp => ?_⟩
        obtain ⟨g4, n⟩ := newO (o := .lst (DL.cutD ds l u)) (st.gr g13).ok hp
        obtain ⟨Z4, g5, r5⟩ := fz (u := .lst (cutU _ l u)) (g13.trans st.src g4) ⟨_, wup_same, r.cut l u⟩ n (none_back g13 st.src hp)
        exact k _ _ Z4 _ g5 r5 q3
@[simp] def vRevL (f : VE) : VE := fun e Q => f e fun x => match x with
  | .lst xs => Q (.lst xs.reverse)
  | _ => False
theorem sf_revL (a : SB f f') : SF (fRevL f) (vRevL f') := fun B sc Z W δ e Qv Q st hv k =>
  a B sc Z W δ e _ _ st hv fun x dx Z1 W1 g1 r1 q1 => by
    cases x <;> try exact q1.elim
    obtain ⟨a, ds, rfl, w, r⟩ := r1.lst g1.w
    refine ⟨ds, by simp only [seqD]; rw [w], (fun ys e => by cases e), fun p hp => ?_⟩
    obtain ⟨g4, n⟩ := newO (o := .lst ds.reverse) (st.gr g1).ok hp
    exact k (.lst _) p Z1 _ (g1.trans st.src g4) ⟨_, wup_same, r.rev⟩ n (none_back g1 st.src hp) q1
@[simp] def vNeg (f : VE) : VE := fun e Q => f e fun x => match x with
  | .int n => Q (.int (-n))
  | _ => False
theorem sv_neg (a : SB f f') : SV (fNeg f) (vNeg f') := fun B sc Z W δ e Qv Q st hv k =>
  a B sc Z W δ e _ _ st hv fun x dx Z1 W1 g1 r1 q1 => by
    cases x <;> try exact q1.elim
    rw [r1.int]
    exact ⟨_, rfl, k _ _ Z1 W1 g1 rep_int q1⟩
def rngU (lo : Int) (n : Nat) : List U := (List.range n).map fun k => .int (lo + (k : Nat))
theorem reps_rng {sc : Sc} {Z : DW} (h : Nat → Int) : ∀ l : List Nat, Reps sc Z (l.map fun k => U.int (h k)) (l.map fun k => D.int (h k))
  | [] => reps_nil.mpr rfl
  | k :: l => reps_cons.mpr ⟨_, _, rfl, rep_int, reps_rng h l⟩
@[simp] def vLstR1 (f : VE) : VE := fun e Q => f e fun x => match x with
  | .int n => -1000000 ≤ n ∧ n ≤ 1000000 ∧ Q (.lst (rngU 0 n.toNat))
  | _ => False
theorem sf_lstR1 (a : SB f f') : SF (fLstR1 f) (vLstR1 f') := fun B sc Z W δ e Qv Q st hv k =>
  a B sc Z W δ e _ _ st hv fun x dx Z1 W1 g1 r1 q1 => by
    cases x <;> try exact q1.elim
    rename_i n
    obtain ⟨h1, h2, q1⟩ := q1
    rw [r1.int]
    refine ⟨_, rfl, ⟨by omega, by omega, by omega, by omega, by omega⟩, fun p hp => ?_⟩
    obtain ⟨g4, n⟩ := newO (o := .lst _) (st.gr g1).ok hp
    exact k (.lst _) p Z1 _ (g1.trans st.src g4) ⟨_, wup_same, reps_rng _ _⟩ n (none_back g1 st.src hp) q1
end
/-! ### what is walked -/
abbrev VI := VEnv → (List U → Prop) → Prop
def SIt (fi : FI) (gi : VI) : Prop := ∀ (B : Addr → Prop) sc Z W δ e (Qv : List U → Prop) (R : List D → (DW → Prop) → DW → Prop), StE B sc Z W δ e → gi e Qv → (∀ us xs keep Z' W', Gr sc Z W Z' W' → Reps sc Z' us xs → (∀ W2, Sub Z' W2 → keep W2) → Qv us → R xs keep W') → fi δ W R
section
variable {f g h : FE} {f' g' h' : VE} {p q : FT} {p' q' : VT} {r : FA} {r' : VA}
@[simp] def viSeq (f : VE) : VI := fun e Q => f e fun x => ∃ us, seqU x = some us ∧ Q us
theorem si_seqV (a : SV f f') : SIt (fSeq f) (viSeq f') := fun B sc Z W δ e Qv R st hv k =>
  a B sc Z W δ e _ _ st hv fun x dx Z1 W1 g1 r1 ⟨us, hu, q1⟩ => by
    cases x with
    | tup =>
      cases hu
      unfold Rep at r1
      obtain ⟨ds, rfl, r⟩ := r1
      exact ⟨ds, rfl, k us ds _ Z1 W1 g1 r (fun _ _ => trivial) q1⟩
    | lst =>
      cases hu
      unfold Rep at r1
      obtain ⟨a, ds, rfl, w, r⟩ := r1
      exact ⟨ds, by simp only [seqD]; rw [g1.w _ _ w], k us ds _ Z1 W1 g1 r (fun W2 s => s _ _ w) q1⟩
    | _ => cases hu
@[simp] def viRng1 (r : VA) : VI := fun e Q => r e fun us => match us with
  | [.int j] => -(2 ^ 62) ≤ j ∧ j < 2 ^ 62 ∧ Q (rngU 0 j.toNat)
  | _ => False
theorem RepBs.i1 {B : Addr → Prop} {sc : Sc} {Z W : DW} {i : Int} {ds : List D} (h : RepBs B sc Z W [.int i] ds) : ds = [.int i] := by
  obtain ⟨d, rfl, h2⟩ := h.c1; rw [h2.int]
theorem RepBs.i2 {B : Addr → Prop} {sc : Sc} {Z W : DW} {i j : Int} {ds : List D} (h : RepBs B sc Z W [.int i, .int j] ds) : ds = [.int i, .int j] := by
  obtain ⟨d, d', rfl, h1, h2⟩ := h.c2; rw [h1.int, h2.int]
theorem RepBs.i3 {B : Addr → Prop} {sc : Sc} {Z W : DW} {i j l : Int} {ds : List D} (h : RepBs B sc Z W [.int i, .int j, .int l] ds) : ds = [.int i, .int j, .int l] := by
  obtain ⟨d, r, rfl, h1, h2⟩ := h
  rw [h1.int, RepBs.i2 h2]
theorem si_rng1V (a : SAb r r') : SIt (fRng1 r) (viRng1 r') := fun B sc Z W δ e Qv R st hv k =>
  a B sc Z W δ e _ _ st hv fun us ds Z1 W1 g1 r1 q1 => by
    split at q1
    · rename_i j
      obtain ⟨h1, h2, q⟩ := q1
      rw [r1.i1]
      exact ⟨j, rfl, h1, h2, k _ _ _ Z1 W1 g1 (reps_rng _ _) (fun _ _ => trivial) q⟩
    · exact q1.elim
@[simp] def viRng2 (r : VA) : VI := fun e Q => r e fun us => match us with
  | [.int i, .int j] => (-(2 ^ 62) ≤ i ∧ i < 2 ^ 62 ∧ -(2 ^ 62) ≤ j ∧ j < 2 ^ 62) ∧ Q (rngU i (j - i).toNat)
  | _ => False
theorem si_rng2V (a : SAb r r') : SIt (fRng2 r) (viRng2 r') := fun B sc Z W δ e Qv R st hv k =>
  a B sc Z W δ e _ _ st hv fun us ds Z1 W1 g1 r1 q1 => by
    split at q1
    · rename_i i j
      obtain ⟨h1, q⟩ := q1
      rw [r1.i2]
      exact ⟨i, j, rfl, h1, k _ _ _ Z1 W1 g1 (reps_rng _ _) (fun _ _ => trivial) q⟩
    · exact q1.elim
@[simp] def viRng3 (r : VA) : VI := fun e Q => r e fun us => match us with
  | [.int i, .int j, .int s] => ∃ n, RgC i j s n ∧ Q ((List.range n).map fun k => U.int (i + (k : Nat) * s))
  | _ => False
theorem si_rng3V (a : SAb r r') : SIt (fRng3 r) (viRng3 r') := fun B sc Z W δ e Qv R st hv k =>
  a B sc Z W δ e _ _ st hv fun us ds Z1 W1 g1 r1 q1 => by
    split at q1
    · rename_i i j s
      obtain ⟨n, h1, q⟩ := q1
      rw [r1.i3]
      exact ⟨i, j, s, n, rfl, h1, k _ _ _ Z1 W1 g1 (reps_rng _ _) (fun _ _ => trivial) q⟩
    · exact q1.elim
/-- with numbers from k on -/
def enU (k : Int) : List U → List U
  | [] => []
  | u :: us => .tup [.int k, u] :: enU (k + 1) us
def enD' (k : Int) : List D → List D
  | [] => []
  | u :: us => .tup [.int k, u] :: enD' (k + 1) us
theorem enD'_get (k : Int) : ∀ (xs : List D) (i : Nat), (enD' k xs)[i]? = xs[i]?.map fun d => .tup [.int (k + i), d]
  | [], i => by simp [enD']
  | x :: xs, 0 => by simp [enD']
  | x :: xs, i + 1 => by
    simp only [enD', List.getElem?_cons_succ]
    rw [enD'_get]
    congr 1
    funext d
    have : k + 1 + (i : Int) = k + ((i + 1 : Nat) : Int) := by omega
    rw [this]
theorem enD_eq (xs : List D) : enD xs = enD' 0 xs := by
  apply List.ext_getElem?
  intro i
  rw [enD'_get]
  by_cases h : i < xs.length
  · rw [enD_get (List.getElem?_eq_getElem h), List.getElem?_eq_getElem h]
    simp
  · rw [List.getElem?_eq_none (by rw [enD_length]; omega), List.getElem?_eq_none (by omega)]
    rfl
theorem Reps.en {sc : Sc} {Z : DW} : ∀ {us : List U} {ds : List D} (k : Int), Reps sc Z us ds → Reps sc Z (enU k us) (enD' k ds)
  | [], _, _, h => by rw [reps_nil.mp h]; exact reps_nil.mpr rfl
  | u :: us, _, k, h => by
    obtain ⟨d, r, rfl, h1, h2⟩ := reps_cons.mp h
    exact reps_cons.mpr ⟨_, _, rfl, rep_tup (reps_cons.mpr ⟨_, _, rfl, rep_int, Reps.one h1⟩), Reps.en (k + 1) h2⟩
@[simp] def viEnum (r : VA) : VI := fun e Q => r e fun us => match us with
  | [.lst xs] => Q (enU 0 xs)
  | _ => False
theorem si_enumV (a : SAv r r') : SIt (fEnum r) (viEnum r') := fun B sc Z W δ e Qv R st hv k =>
  a B sc Z W δ e _ _ st hv fun us ds Z1 W1 g1 r1 q1 => by
    split at q1
    · obtain ⟨d, t, rfl, h1, h2⟩ := reps_cons.mp r1
      rw [reps_nil.mp h2]
      unfold Rep at h1
      obtain ⟨a, ds, rfl, w, r⟩ := h1
      exact ⟨a, ds, rfl, g1.w _ _ w, k _ _ _ Z1 W1 g1 (by rw [enD_eq]; exact r.en 0) (fun W2 s => s _ _ w) q1⟩
    · exact q1.elim
end
/-! ### targets -/
abbrev VG := U → VEnv → (VEnv → Prop) → Prop
abbrev VGs := List U → VEnv → (VEnv → Prop) → Prop
def SGt (g : FG) (t : VG) : Prop := ∀ (B : Addr → Prop) sc Z W δ e u d (Qv : VEnv → Prop) (Q : DL.Env → DW → Prop), StE B sc Z W δ e → Rep sc Z u d → t u e Qv → (∀ δ' e', StE B sc Z W δ' e' → Qv e' → Q δ' W) → g d δ W Q
def SGts (g : FGs) (t : VGs) : Prop := ∀ (B : Addr → Prop) sc Z W δ e us ds (Qv : VEnv → Prop) (Q : DL.Env → DW → Prop), StE B sc Z W δ e → Reps sc Z us ds → t us e Qv → (∀ δ' e', StE B sc Z W δ' e' → Qv e' → Q δ' W) → g ds δ W Q
@[simp] def tN (i : Nat) : VG := fun u e Q => Q (e.set i (some (.val u)))
@[simp] def tNl : VGs := fun us e Q => us = [] ∧ Q e
@[simp] def tCn (g : VG) (r : VGs) : VGs := fun us e Q => match us with
  | u :: us => g u e fun e' => r us e' Q
  | [] => False
@[simp] def tTp (n : Nat) (g : VGs) : VG := fun u e Q => match u with
  | .tup us => us.length = n ∧ g us e Q
  | _ => False
theorem sg_n {i : Nat} : SGt (gN i) (tN i) := fun B sc Z W δ e u d Qv Q st r hv k => k _ _ (st.setV r) hv
theorem sg_nl : SGts gNl tNl := fun B sc Z W δ e us ds Qv Q st r hv k => by
  obtain ⟨rfl, hv⟩ := hv
  exact ⟨reps_nil.mp r, k _ _ st hv⟩
theorem sg_cn {g : FG} {t : VG} {gs : FGs} {ts : VGs} (a : SGt g t) (b : SGts gs ts) : SGts (gCn g gs) (tCn t ts) := fun B sc Z W δ e us ds Qv Q st r hv k => by
  cases us with
  | nil => exact hv.elim
  | cons u us =>
    obtain ⟨d, r', rfl, h1, h2⟩ := reps_cons.mp r
    exact a B sc Z W δ e u d _ _ st h1 hv fun δ' e' st' q => b B sc Z W δ' e' us r' _ _ st' h2 q k
theorem sg_tp {n : Nat} {gs : FGs} {ts : VGs} (b : SGts gs ts) : SGt (gTp n gs) (tTp n ts) := fun B sc Z W δ e u d Qv Q st r hv k => by
  cases u <;> try exact hv.elim
  unfold Rep at r
  obtain ⟨ds, rfl, r⟩ := r
  exact ⟨by rw [r.length]; exact hv.1, b B sc Z W δ e _ ds _ _ st r hv.2 k⟩
/-! ### comprehensions -/
theorem Gr.put {sc : Sc} {Z W Z' W' : DW} {p : Addr} {o : DO} (g : Gr sc Z W Z' W') (h0 : W p = none) (n : Z' p = none) (s : NoSrc sc p) : Gr sc Z W Z' (DL.wup W' p o) := by
  refine ⟨g.z, fun a x q => ?_, fun a x ns q => ?_, fun a c q h => ?_, g.n⟩
  · have : a ≠ p := fun z => by subst z; rw [n] at q; cases q
    rw [wup_ne this]; exact g.w a x q
  · have : a ≠ p := fun z => by subst z; rw [h0] at q; cases q
    rw [wup_ne this]; exact g.k a x ns q
  · obtain ⟨g0, l, m, t, xs, g1, g2⟩ := g.s a c q h
    obtain ⟨n1, n2⟩ := s a c q
    exact ⟨g0, l, m, t, xs, by rw [wup_ne n1.symm]; exact g1, by rw [wup_ne n2.symm]; exact g2⟩
def vlc (tg : VG) (tt : VT) (te : VE) (e : VEnv) (Q : U → Prop) : List U → List U → Prop
  | [], acc => Q (.lst acc)
  | u :: us, acc => tg u e fun e2 => tt e2 fun b => if b = true then te e2 fun y => acc.length < 1000000 ∧ vlc tg tt te e Q us (acc ++ [y]) else vlc tg tt te e Q us acc
def vLc (gi : VI) (tg : VG) (tt : VT) (te : VE) (vs : List Nat) : VE := fun e Q => gi e fun us => vlc tg tt te (wipeV e vs) Q us []
/-- the list that is made -/
structure Mk (B : Addr → Prop) (sc : Sc) (Z0 W0 : DW) (p : Addr) (Z W : DW) (δ : DL.Env) (e : VEnv) (acc : List U) : Prop where
  st : StE B sc Z W δ e
  gr : Gr sc Z0 W0 Z W
  w0 : W0 p = none
  ok : SrcOk sc Z0 W0
  zp : Z p = none
  ns : NoSrc sc p
  nb : ¬ B p
  ne : ∀ (j : Nat) (v : U), e[j]? = some (some (.own v)) → δ[j]? ≠ some (some (.ref p))
  wp : ∃ ds, W p = some (.lst ds) ∧ Reps sc Z acc ds
section
variable {B : Addr → Prop} {sc : Sc} {Z0 W0 Z W Z' W' : DW} {p : Addr} {δ : DL.Env} {e : VEnv} {acc : List U}
theorem Mk.up (m : Mk B sc Z0 W0 p Z W δ e acc) (g : Gr sc Z W Z' W') : Mk B sc Z0 W0 p Z' W' δ e acc := by
  obtain ⟨ds, w, r⟩ := m.wp
  exact ⟨m.st.gr g, m.gr.trans m.ok g, m.w0, m.ok, g.n p (by rw [w]; simp) m.zp, m.ns, m.nb, m.ne, ds, g.k _ _ m.ns w, r.up g.z⟩
theorem Mk.add (m : Mk B sc Z0 W0 p Z W δ e acc) {u : U} {d : D} (r : Rep sc Z u d) (hl : acc.length < 1000000) : ∃ ds, W p = some (.lst ds) ∧ ds.length < sizeLine ∧ Mk B sc Z0 W0 p Z (DL.wup W p (.lst (ds ++ [d]))) δ e (acc ++ [u]) := by
  obtain ⟨ds, w, rr⟩ := m.wp
  exact ⟨ds, w, by rw [rr.length]; exact lt_line hl, m.st.put m.zp m.ns m.ne, m.gr.put m.w0 m.zp m.ns, m.w0, m.ok, m.zp, m.ns, m.nb, m.ne, _, wup_same, rr.app (Reps.one r)⟩
theorem Mk.start {Z1 W1 : DW} (st : StE B sc Z1 W1 δ e) (g : Gr sc Z0 W0 Z1 W1) (ok : SrcOk sc Z0 W0) (hp : W1 p = none) : Mk B sc Z0 W0 p Z1 (DL.wup W1 p (.lst [])) δ e [] := by
  obtain ⟨a, b, c, d⟩ := st.out hp
  exact ⟨st.put a b d, g.put (none_back g ok hp) a b, none_back g ok hp, ok, a, b, c, d, [], wup_same, reps_nil.mpr rfl⟩
/-- other names -/
theorem Mk.wipe (m : Mk B sc Z0 W0 p Z W δ e acc) : ∀ (vs : List Nat), StE B sc Z W (wipeD δ vs) (wipeV e vs) := fun vs => m.st.wipe vs
end
section
variable {fi fi1 : FI} {gi gi1 : VI} {gt g1 : FG} {t t1 : VG} {tt tt1 : FT} {tt' tt1' : VT} {te : FE} {te' : VE}
theorem lc_ok {B : Addr → Prop} {sc : Sc} {Z0 W0 : DW} {p : Addr} {δ : DL.Env} {e : VEnv} {vs : List Nat} {keep : DW → Prop} {Qv : U → Prop} {Q : DW → Prop} {Zs : DW} (hg : SGt gt t) (ht : SBo tt tt') (he : SV te te') (hk : ∀ W2, Sub Zs W2 → keep W2)
    (k : ∀ acc Z' W', Mk B sc Z0 W0 p Z' W' δ e acc → Qv (.lst acc) → Q W') : ∀ (us : List U) (xs : List D) (acc : List U) (Z W : DW), Mk B sc Z0 W0 p Z W δ e acc → Sub Zs Z → Reps sc Zs us xs → vlc t tt' te' (wipeV e vs) Qv us acc → lcD keep gt tt te p vs Q xs δ W
  | [], _, acc, Z, W, m, s, r, hv => by
    rw [reps_nil.mp r]
    exact ⟨hk W (s.trans m.st.sub), k acc Z W m hv⟩
  | u :: us, _, acc, Z, W, m, s, r, hv => by
    obtain ⟨d, xs, rfl, r1, r2⟩ := reps_cons.mp r
    refine ⟨hk W (s.trans m.st.sub), hg B sc Z W _ _ u d _ _ (m.st.wipe vs) (r1.up s) hv fun δ2 e2 st2 q2 => ?_⟩
    refine ht B sc Z W δ2 e2 _ _ st2 q2 fun b Z3 W3 g3 q3 => ?_
    cases b with
    | false => exact lc_ok hg ht he hk k us xs acc Z3 W3 (m.up g3) (s.trans g3.z) r2 q3
    | true =>
      simp only [↓reduceIte] at q3 ⊢
      refine he B sc Z3 W3 δ2 e2 _ _ (st2.gr g3) q3 fun y dy Z4 W4 g4 r4 q4 => ?_
      obtain ⟨ds, w, hl, m5⟩ := ((m.up g3).up g4).add r4 q4.1
      exact ⟨ds, w, hl, lc_ok hg ht he hk k us xs _ Z4 _ m5 ((s.trans g3.z).trans g4.z) r2 q4.2⟩
theorem sf_lc {vs : List Nat} (hi : SIt fi gi) (hg : SGt gt t) (ht : SBo tt tt') (he : SV te te') : SF (fLc fi gt tt te vs) (vLc gi t tt' te' vs) := fun B sc Z W δ e Qv Q st hv k =>
  hi B sc Z W δ e _ _ st hv fun us xs keep Z1 W1 g1 r1 hk q1 p hp =>
    lc_ok hg ht he hk (fun acc Z2 W2 m q => by
      obtain ⟨ds, w, r⟩ := m.wp
      exact k (.lst acc) p Z2 W2 m.gr ⟨ds, w, r⟩ m.zp m.w0 q) us xs [] Z1 _ (Mk.start (st.gr g1) g1 st.src hp) (Sub.refl _) r1 q1
/-! two lists, one within the other -/
def vlcI (tg : VG) (tt : VT) (te : VE) (e : VEnv) (N : List U → Prop) : List U → List U → Prop
  | [], acc => N acc
  | u :: us, acc => tg u e fun e2 => tt e2 fun b => if b = true then te e2 fun y => acc.length < 1000000 ∧ vlcI tg tt te e N us (acc ++ [y]) else vlcI tg tt te e N us acc
def vlcO (tg : VG) (tt : VT) (gi1 : VI) (tg1 : VG) (tt1 : VT) (te : VE) (vs1 : List Nat) (e : VEnv) (Q : U → Prop) : List U → List U → Prop
  | [], acc => Q (.lst acc)
  | u :: us, acc => tg u e fun e2 => tt e2 fun b => if b = true then gi1 e2 fun ys => vlcI tg1 tt1 te (wipeV e2 vs1) (vlcO tg tt gi1 tg1 tt1 te vs1 e Q us) ys acc else vlcO tg tt gi1 tg1 tt1 te vs1 e Q us acc
def vLc2 (gi : VI) (tg : VG) (tt : VT) (gi1 : VI) (tg1 : VG) (tt1 : VT) (te : VE) (vs vs1 : List Nat) : VE := fun e Q => gi e fun us => vlcO tg tt gi1 tg1 tt1 te vs1 (wipeV e vs) Q us []
/-- the list that is made, beside other names -/
theorem lcI_ok {B : Addr → Prop} {sc : Sc} {Z0 W0 : DW} {p : Addr} {δ δi : DL.Env} {e ei : VEnv} {vs : List Nat} {keep : DW → Prop} {Nv : List U → Prop} {N : DW → Prop} {Zs : DW} (hg : SGt gt t) (ht : SBo tt tt') (he : SV te te') (hk : ∀ W2, Sub Zs W2 → keep W2)
    (k : ∀ acc Z' W', Mk B sc Z0 W0 p Z' W' δ e acc → Sub Zs Z' → Nv acc → N W') : ∀ (us : List U) (xs : List D) (acc : List U) (Z W : DW), Mk B sc Z0 W0 p Z W δ e acc → StE B sc Z W δi ei → (∀ (j : Nat) (v : U), ei[j]? = some (some (.own v)) → δi[j]? ≠ some (some (.ref p))) → Sub Zs Z → Reps sc Zs us xs → vlcI t tt' te' (wipeV ei vs) Nv us acc → lcI keep gt tt te p vs N xs δi W
  | [], _, acc, Z, W, m, sti, nei, s, r, hv => by
    rw [reps_nil.mp r]
    exact ⟨hk W (s.trans m.st.sub), k acc Z W m s hv⟩
  | u :: us, _, acc, Z, W, m, sti, nei, s, r, hv => by
    obtain ⟨d, xs, rfl, r1, r2⟩ := reps_cons.mp r
    refine ⟨hk W (s.trans m.st.sub), hg B sc Z W _ _ u d _ _ (sti.wipe vs) (r1.up s) hv fun δ2 e2 st2 q2 => ?_⟩
    refine ht B sc Z W δ2 e2 _ _ st2 q2 fun b Z3 W3 g3 q3 => ?_
    cases b with
    | false => exact lcI_ok hg ht he hk k us xs acc Z3 W3 (m.up g3) (sti.gr g3) nei (s.trans g3.z) r2 q3
    | true =>
      simp only [↓reduceIte] at q3 ⊢
      refine he B sc Z3 W3 δ2 e2 _ _ (st2.gr g3) q3 fun y dy Z4 W4 g4 r4 q4 => ?_
      have m4 := (m.up g3).up g4
      obtain ⟨ds, w, hl, m5⟩ := m4.add r4 q4.1
      exact ⟨ds, w, hl, lcI_ok hg ht he hk k us xs _ Z4 _ m5 (((sti.gr g3).gr g4).put m4.zp m4.ns nei) nei ((s.trans g3.z).trans g4.z) r2 q4.2⟩
/-- targets keep own names -/
def KeepG (g : FG) : Prop := ∀ (d : D) (δ : DL.Env) (W : DW) (Q : DL.Env → DW → Prop), g d δ W Q → True
theorem wipe_own : ∀ (vs : List Nat) {e : VEnv} {j : Nat} {v : U}, (wipeV e vs)[j]? = some (some (.own v)) → j ∉ vs ∧ e[j]? = some (some (.own v))
  | [], _, _, _, h => ⟨by simp, h⟩
  | x :: vs, e, j, v, h => by
    unfold wipeV at h
    by_cases z : x = j
    · subst z
      by_cases hl : x < (wipeV e vs).length
      · rw [List.getElem?_set_self hl] at h; cases h
      · rw [List.getElem?_eq_none (by simp; omega)] at h; cases h
    · rw [List.getElem?_set_ne z] at h
      obtain ⟨h1, h2⟩ := wipe_own vs h
      exact ⟨by simp; exact ⟨fun q => z q.symm, h1⟩, h2⟩
theorem wipe_ref : ∀ (vs : List Nat) {δ : DL.Env} {j : Nat}, j ∉ vs → (wipeD δ vs)[j]? = δ[j]?
  | [], _, _, _ => rfl
  | x :: vs, δ, j, h => by
    unfold wipeD
    rw [List.mem_cons, not_or] at h
    rw [List.getElem?_set_ne (Ne.symm h.1)]
    exact wipe_ref vs h.2
/-- what stays apart from p through a target -/
theorem sg_apart {B : Addr → Prop} {sc : Sc} {Z W : DW} {δ : DL.Env} {e : VEnv} {u : U} {d : D} {p : Addr} {Qv : VEnv → Prop} {Q : DL.Env → DW → Prop} (hg : SGt gt t) (st : StE B sc Z W δ e) (ne : ∀ (j : Nat) (v : U), e[j]? = some (some (.own v)) → δ[j]? ≠ some (some (.ref p))) (hp : ¬ B p) (hw : W p ≠ none) (r : Rep sc Z u d) (hv : t u e Qv)
    (k : ∀ δ' e', StE B sc Z W δ' e' → (∀ (j : Nat) (v : U), e'[j]? = some (some (.own v)) → δ'[j]? ≠ some (some (.ref p))) → Qv e' → Q δ' W) : gt d δ W Q := by
  -- with p among what is not to be touched
  refine hg (fun a => B a ∨ a = p) sc Z W δ e u d Qv Q ⟨st.len, st.sub, st.src, fun a b => b.elim (st.bex a) (fun z => by rw [z]; exact hw), fun i x q => ?_, st.dis⟩ r hv fun δ' e' st' q => k δ' e' ⟨st'.len, st'.sub, st'.src, fun a b => st'.bex a (.inl b), fun i x q => ?_, st'.dis⟩ (fun j v q z => ?_) q
  · have h := st.env i x q
    cases x with
    | val u => exact h
    | own u =>
      obtain ⟨a, e1, r1, n, s, b⟩ := h
      exact ⟨a, e1, r1, n, s, fun z => z.elim b fun z => by subst z; exact ne i u q e1⟩
  · have h := st'.env i x q
    cases x with
    | val u => exact h
    | own u =>
      obtain ⟨a, e1, r1, n, s, b⟩ := h
      exact ⟨a, e1, r1, n, s, fun z => b (.inl z)⟩
  · obtain ⟨a, e1, r1, n, s, b⟩ := st'.env j _ q
    rw [e1] at z
    cases z
    exact b (.inr rfl)
theorem lcO_ok {B : Addr → Prop} {sc : Sc} {Z0 W0 : DW} {p : Addr} {δ : DL.Env} {e : VEnv} {vs vs1 : List Nat} {keep : DW → Prop} {Qv : U → Prop} {Q : DW → Prop} {Zs : DW} (hg : SGt gt t) (ht : SBo tt tt') (hi1 : SIt fi1 gi1) (hg1 : SGt g1 t1) (ht1 : SBo tt1 tt1') (he : SV te te') (hk : ∀ W2, Sub Zs W2 → keep W2)
    (k : ∀ acc Z' W', Mk B sc Z0 W0 p Z' W' δ e acc → Qv (.lst acc) → Q W') : ∀ (us : List U) (xs : List D) (acc : List U) (Z W : DW), Mk B sc Z0 W0 p Z W δ e acc → Sub Zs Z → Reps sc Zs us xs → vlcO t tt' gi1 t1 tt1' te' vs1 (wipeV e vs) Qv us acc → lcO keep gt tt fi1 g1 tt1 te p vs vs1 Q xs δ W
  | [], _, acc, Z, W, m, s, r, hv => by
    rw [reps_nil.mp r]
    exact ⟨hk W (s.trans m.st.sub), k acc Z W m hv⟩
  | u :: us, _, acc, Z, W, m, s, r, hv => by
    obtain ⟨d, xs, rfl, r1, r2⟩ := reps_cons.mp r
    have hw : W p ≠ none := by obtain ⟨ds, w, _⟩ := m.wp; rw [w]; simp
    refine ⟨hk W (s.trans m.st.sub), sg_apart (p := p) hg (m.st.wipe vs) (fun j v q => ?_) m.nb hw (r1.up s) hv fun δ2 e2 st2 ne2 q2 => ?_⟩
    · obtain ⟨h1, h2⟩ := wipe_own vs q
      rw [wipe_ref vs h1]
      exact m.ne j v h2
    refine ht B sc Z W δ2 e2 _ _ st2 q2 fun b Z3 W3 g3 q3 => ?_
    cases b with
    | false => exact lcO_ok hg ht hi1 hg1 ht1 he hk k us xs acc Z3 W3 (m.up g3) (s.trans g3.z) r2 q3
    | true =>
      simp only [↓reduceIte] at q3 ⊢
      refine hi1 B sc Z3 W3 δ2 e2 _ _ (st2.gr g3) q3 fun ys ds keep1 Z4 W4 g4 r4 hk1 q4 => ?_
      have m4 := (m.up g3).up g4
      exact lcI_ok (Zs := Z4) hg1 ht1 he hk1 (fun acc2 Z5 W5 m5 s5 q5 => lcO_ok hg ht hi1 hg1 ht1 he hk k us xs acc2 Z5 W5 m5 (((s.trans g3.z).trans g4.z).trans s5) r2 q5) ys ds acc Z4 W4 m4 ((st2.gr g3).gr g4) ne2 (Sub.refl _) r4 q4
theorem sf_lc2 {vs vs1 : List Nat} (hi : SIt fi gi) (hg : SGt gt t) (ht : SBo tt tt') (hi1 : SIt fi1 gi1) (hg1 : SGt g1 t1) (ht1 : SBo tt1 tt1') (he : SV te te') : SF (fLc2 fi gt tt fi1 g1 tt1 te vs vs1) (vLc2 gi t tt' gi1 t1 tt1' te' vs vs1) := fun B sc Z W δ e Qv Q st hv k =>
  hi B sc Z W δ e _ _ st hv fun us xs keep Z1 W1 gg r1 hk q1 p hp =>
    lcO_ok hg ht hi1 hg1 ht1 he hk (fun acc Z2 W2 m q => by
      obtain ⟨ds, w, r⟩ := m.wp
      exact k (.lst acc) p Z2 W2 m.gr ⟨ds, w, r⟩ m.zp m.w0 q) us xs [] Z1 _ (Mk.start (st.gr gg) gg st.src hp) (Sub.refl _) r1 q1
end
end VL
/-! Vl5: statements over values; defs. -/
namespace VL
open PySem PySem.Spec PyProof.Rows L2 DL A30
structure VD where
  nx : VEnv → Prop
  rt : U → Prop
  bk : VEnv → Prop := fun _ => False
  ct : VEnv → Prop := fun _ => False
abbrev VS := VD → VEnv → Prop
structure GrS (B : Addr → Prop) (sc : Sc) (Z W Z' W' : DW) : Prop where
  z : Sub Z Z'
  k : ∀ a o, B a → NoSrc sc a → W a = some o → W' a = some o
  s : ∀ s c, sc = some (s, c) → Src s c W → Src s c W'
  n : ∀ a, B a → Z a = none → Z' a = none
section
variable {B : Addr → Prop} {sc : Sc} {Z W Z' W' Z2 W2 : DW}
theorem GrS.refl : GrS B sc Z W Z W := ⟨Sub.refl _, fun _ _ _ _ h => h, fun _ _ _ h => h, fun _ _ h => h⟩
theorem GrS.trans (g : GrS B sc Z W Z' W') (h : GrS B sc Z' W' Z2 W2) : GrS B sc Z W Z2 W2 := ⟨g.z.trans h.z, fun a o b n e => h.k a o b n (g.k a o b n e), fun s c e x => h.s s c e (g.s s c e x), fun a b e => h.n a b (g.n a b e)⟩
theorem Gr.S (g : Gr sc Z W Z' W') (h : ∀ a, B a → W a ≠ none) : GrS B sc Z W Z' W' := ⟨g.z, fun a o _ n e => g.k a o n e, g.s, fun a b e => g.n a (h a b) e⟩
/-- an own object changes -/
theorem GrS.put {p : Addr} {o : DO} (b : ¬ B p) (n : NoSrc sc p) : GrS B sc Z W Z (DL.wup W p o) := by
  refine ⟨Sub.refl _, fun a x ba ns q => ?_, fun a c q h => ?_, fun _ _ h => h⟩
  · have : a ≠ p := fun z => by subst z; exact b ba
    rw [wup_ne this]; exact q
  · obtain ⟨g0, l, m, t, xs, g1, g2⟩ := h
    obtain ⟨n1, n2⟩ := n a c q
    exact ⟨g0, l, m, t, xs, by rw [wup_ne n1.symm]; exact g1, by rw [wup_ne n2.symm]; exact g2⟩
end
structure LkD (B : Addr → Prop) (sc : Sc) (Z W : DW) (Dv : VD) (D : DE) : Prop where
  nx : ∀ δ' e' Z' W', GrS B sc Z W Z' W' → StE B sc Z' W' δ' e' → Dv.nx e' → D.nx δ' W'
  rt : ∀ u d Z' W', GrS B sc Z W Z' W' → Sub Z' W' → SrcOk sc Z' W' → Rep sc Z' u d → Dv.rt u → D.rt d W'
  bk : ∀ δ' e' Z' W', GrS B sc Z W Z' W' → StE B sc Z' W' δ' e' → Dv.bk e' → D.bk δ' W'
  ct : ∀ δ' e' Z' W', GrS B sc Z W Z' W' → StE B sc Z' W' δ' e' → Dv.ct e' → D.ct δ' W'
theorem LkD.gr {B : Addr → Prop} {sc : Sc} {Z W Z' W' : DW} {Dv : VD} {D : DE} (l : LkD B sc Z W Dv D) (g : GrS B sc Z W Z' W') : LkD B sc Z' W' Dv D :=
  ⟨fun δ' e' Z2 W2 h => l.nx δ' e' Z2 W2 (g.trans h), fun u d Z2 W2 h => l.rt u d Z2 W2 (g.trans h), fun δ' e' Z2 W2 h => l.bk δ' e' Z2 W2 (g.trans h), fun δ' e' Z2 W2 h => l.ct δ' e' Z2 W2 (g.trans h)⟩
def SSt (s : FS) (t : VS) : Prop := ∀ (B : Addr → Prop) sc Z W δ e Dv D, StE B sc Z W δ e → LkD B sc Z W Dv D → t Dv e → s D δ W
section
variable {f g h : FE} {f' g' h' : VE} {p q : FT} {p' q' : VT} {r : FA} {r' : VA} {s t : FS} {s' t' : VS}
@[simp] def vSeq (s t : VS) : VS := fun D e => s { D with nx := t D } e
theorem ss_seq (a : SSt s s') (b : SSt t t') : SSt (sSeq s t) (vSeq s' t') := fun B sc Z W δ e Dv D st l hv =>
  a B sc Z W δ e { Dv with nx := t' Dv } _ st ⟨fun δ' e' Z' W' g st' q => b B sc Z' W' δ' e' Dv D st' (l.gr g) q, l.rt, l.bk, l.ct⟩ hv
@[simp] def vNx : VS := fun D e => D.nx e
theorem ss_nx : SSt (fun D δ W => D.nx δ W) vNx := fun B sc Z W δ e Dv D st l hv => l.nx δ e Z W GrS.refl st hv
@[simp] def vCt : VS := fun D e => D.ct e
theorem ss_ct : SSt (fun D δ W => D.ct δ W) vCt := fun B sc Z W δ e Dv D st l hv => l.ct δ e Z W GrS.refl st hv
@[simp] def vBk : VS := fun D e => D.bk e
theorem ss_bk : SSt (fun D δ W => D.bk δ W) vBk := fun B sc Z W δ e Dv D st l hv => l.bk δ e Z W GrS.refl st hv
@[simp] def vRtN : VS := fun D e => D.rt .non
theorem ss_rtN : SSt (fun D _ W => D.rt .non W) vRtN := fun B sc Z W δ e Dv D st l hv => l.rt _ _ Z W GrS.refl st.sub st.src rep_non hv
@[simp] def vRet (f : VE) : VS := fun D e => f e D.rt
theorem ss_rt (a : SB f f') : SSt (sRet f) (vRet f') := fun B sc Z W δ e Dv D st l hv =>
  a B sc Z W δ e _ _ st hv fun u d Z1 W1 g1 r1 q1 => by
    rcases r1 with r1 | ⟨a, rfl, r, n, s, b⟩
    · exact l.rt u d Z1 W1 (g1.S st.bex) g1.w (g1.srcOk st.src) r1 q1
    · obtain ⟨o, wo, rr⟩ := r.rep n
      refine l.rt u _ (DL.wup Z1 a o) W1 ((g1.S st.bex).trans ⟨(Sub.refl _).new n, fun _ _ _ _ h => h, fun _ _ _ h => h, fun c bc e => ?_⟩) (Sub.put g1.w wo) (fun x y z => ?_) rr q1
      · have : c ≠ a := fun z => by subst z; exact b bc
        rw [wup_ne this]; exact e
      · obtain ⟨q1, q2, q3⟩ := g1.srcOk st.src x y z
        obtain ⟨n1, n2⟩ := s x y z
        exact ⟨q1, by rw [wup_ne n1.symm]; exact q2, by rw [wup_ne n2.symm]; exact q3⟩
@[simp] def vAsg (f : VE) (t : VG) : VS := fun D e => f e fun x => t x e D.nx
theorem ss_as {gg : FG} {tt : VG} (a : SV f f') (b : SGt gg tt) : SSt (sAsg f gg) (vAsg f' tt) := fun B sc Z W δ e Dv D st l hv =>
  a B sc Z W δ e _ _ st hv fun u d Z1 W1 g1 r1 q1 => b B sc Z1 W1 δ e u d _ _ (st.gr g1) r1 q1 fun δ' e' st' q => l.nx δ' e' Z1 W1 (g1.S st.bex) st' q
/-- a name gets a new list of its own -/
@[simp] def vOwn (i : Nat) (f : VE) : VS := fun D e => f e fun x => D.nx (e.set i (some (.own x)))
theorem StE.newO {B : Addr → Prop} {sc : Sc} {Z W Z' W' : DW} {δ : DL.Env} {e : VEnv} {i : Nat} {u : U} {a : Addr} (st : StE B sc Z W δ e) (g : Gr sc Z W Z' W') (r : OwnR sc Z' W' a u) (n : Z' a = none) (w : W a = none) : StE B sc Z' W' (δ.set i (some (.ref a))) (e.set i (some (.own u))) := by
  obtain ⟨a1, a2, a3, a4⟩ := st.out w
  exact (st.gr g).setO r n a2 a3 fun j v _ q => a4 j v q
theorem ss_own {i : Nat} (a : SF f f') : SSt (sAsg f (gN i)) (vOwn i f') := fun B sc Z W δ e Dv D st l hv =>
  a B sc Z W δ e _ _ st hv fun u d Z1 W1 g1 r1 n1 w1 q1 => l.nx _ _ Z1 W1 (g1.S st.bex) (st.newO g1 r1 n1 w1) q1
/-- an own name is from now on a value -/
@[simp] def vFrz (i : Nat) (s : VS) : VS := fun D e => ∃ u, e[i]? = some (some (.own u)) ∧ s D (e.set i (some (.val u)))
theorem ss_frz {i : Nat} (a : SSt s s') : SSt s (vFrz i s') := fun B sc Z W δ e Dv D st l ⟨u, hu, hv⟩ => by
  obtain ⟨p, ep, r, n, ns, nb⟩ := st.env i _ hu
  obtain ⟨o, wo, rr⟩ := r.rep n
  have g : GrS B sc Z W (DL.wup Z p o) W := ⟨(Sub.refl _).new n, fun _ _ _ _ h => h, fun _ _ _ h => h, fun c bc e => by
    have : c ≠ p := fun z => by subst z; exact nb bc
    rw [wup_ne this]; exact e⟩
  refine a B sc (DL.wup Z p o) W δ _ Dv D ?_ (l.gr g) hv
  have hset : δ.set i (some (.ref p)) = δ := by
    apply List.ext_getElem?
    intro j
    by_cases z : i = j
    · subst z
      rw [ep, List.getElem?_set_self]
      exact (List.getElem?_eq_some_iff.mp ep).1
    · rw [List.getElem?_set_ne z]
  -- the others do not lie at p
  have st2 : StE B sc (DL.wup Z p o) W δ (e.set i none) := by
    refine ⟨by simp [st.len], Sub.put st.sub wo, fun x y z => ?_, st.bex, fun j x q => ?_, (st.fgt1 (i := i)).dis⟩
    · obtain ⟨q1, q2, q3⟩ := st.src x y z
      obtain ⟨n1, n2⟩ := ns x y z
      exact ⟨q1, by rw [wup_ne n1.symm]; exact q2, by rw [wup_ne n2.symm]; exact q3⟩
    · have hj : j ≠ i := fun z => by
        subst z
        by_cases hl : j < e.length
        · rw [List.getElem?_set_self hl] at q; cases q
        · rw [List.getElem?_eq_none (by simp; omega)] at q; cases q
      rw [List.getElem?_set_ne (Ne.symm hj)] at q
      have h := st.env j x q
      cases x with
      | val v => obtain ⟨d, e1, r1⟩ := h; exact ⟨d, e1, r1.up ((Sub.refl _).new n)⟩
      | own v =>
        obtain ⟨a, e1, r1, n1, s1, b1⟩ := h
        have : a ≠ p := fun z => by subst z; exact hj (st.dis j i v u a q hu e1 ep)
        exact ⟨a, e1, r1.up ((Sub.refl _).new n) (fun _ h => h), by rw [wup_ne this]; exact n1, s1, b1⟩
  have := st2.setV (i := i) rr
  rw [hset, List.set_set] at this
  exact this
/-- names are forgotten -/
@[simp] def vFgt (vs : List Nat) (s : VS) : VS := fun D e => s D (wipeV e vs)
theorem ss_fgt {vs : List Nat} (a : SSt s s') : SSt s (vFgt vs s') := fun B sc Z W δ e Dv D st l hv => a B sc Z W δ _ Dv D (st.fgt vs) l hv
/-- forgotten at the end -/
@[simp] def vEnd (vs : List Nat) (s : VS) : VS := fun D e => s { D with nx := fun e' => D.nx (wipeV e' vs), ct := fun e' => D.ct (wipeV e' vs) } e
theorem ss_end {vs : List Nat} (a : SSt s s') : SSt s (vEnd vs s') := fun B sc Z W δ e Dv D st l hv =>
  a B sc Z W δ e { Dv with nx := fun e' => Dv.nx (wipeV e' vs), ct := fun e' => Dv.ct (wipeV e' vs) } D st ⟨fun δ' e' Z' W' g st' q => l.nx δ' _ Z' W' g (st'.fgt vs) q, l.rt, l.bk, fun δ' e' Z' W' g st' q => l.ct δ' _ Z' W' g (st'.fgt vs) q⟩ hv
/-! parallel assignments -/
abbrev VXA := VEnv → (List VX → Prop) → Prop
def RepX (B : Addr → Prop) (sc : Sc) (Z W : DW) : VX → D → Prop
  | .val u, d => Rep sc Z u d
  | .own u, d => ∃ a, d = .ref a ∧ OwnR sc Z W a u ∧ Z a = none ∧ NoSrc sc a ∧ ¬ B a
theorem RepX.up {B : Addr → Prop} {sc : Sc} {Z W Z' W' : DW} {x : VX} {d : D} (g : Gr sc Z W Z' W') (h : RepX B sc Z W x d) : RepX B sc Z' W' x d := by
  cases x with
  | val u => exact Rep.up g.z h
  | own u => obtain ⟨a, e, r, n, s, b⟩ := h; exact ⟨a, e, r.up g.z fun o w => g.k a o s w, g.n a r.ex n, s, b⟩
theorem RepX.set {B : Addr → Prop} {sc : Sc} {Z W : DW} {δ : DL.Env} {e : VEnv} {i : Nat} {x : VX} {d : D} (st : StE B sc Z W δ e) (r : RepX B sc Z W x d) (f : ∀ u a, x = .own u → d = .ref a → ∀ (j : Nat) (v : U), j ≠ i → e[j]? = some (some (.own v)) → δ[j]? ≠ some (some (.ref a))) : StE B sc Z W (δ.set i (some d)) (e.set i (some x)) := by
  cases x with
  | val u => exact st.setV r
  | own u =>
    obtain ⟨a, rfl, r, n, s, b⟩ := r
    exact st.setO r n s b (f u a rfl rfl)
@[simp] def vPar (i j : Nat) (a b : Bool) (f g : VE) : VS := fun D e => f e fun x => g e fun y => D.nx ((e.set i (some (if a then .own x else .val x))).set j (some (if b then .own y else .val y)))
/-- clean, or new if own -/
def SX (a : Bool) (f : FE) (f' : VE) : Prop := if a = true then SF f f' else SV f f'
theorem SX.run {a : Bool} (h : SX a f f') {B : Addr → Prop} {sc : Sc} {Z W : DW} {δ : DL.Env} {e : VEnv} {Qv : U → Prop} {Q : DK} (st : StE B sc Z W δ e) (hv : f' e Qv)
    (k : ∀ u d Z' W', Gr sc Z W Z' W' → RepX B sc Z' W' (if a = true then .own u else .val u) d → (∀ p, a = true → d = .ref p → W p = none) → Qv u → Q d W') : f δ W Q := by
  cases a with
  | true =>
    simp only [SX, ↓reduceIte] at h
    exact h B sc Z W δ e Qv Q st hv fun u a Z1 W1 g1 r1 n1 w1 q1 => by
      obtain ⟨a1, a2, a3, a4⟩ := st.out w1
      exact k u _ Z1 W1 g1 ⟨a, rfl, r1, n1, a2, a3⟩ (fun p _ z => by cases z; exact w1) q1
  | false =>
    simp only [SX, Bool.false_eq_true, ↓reduceIte] at h
    exact h B sc Z W δ e Qv Q st hv fun u d Z1 W1 g1 r1 q1 => k u d Z1 W1 g1 r1 (fun p z _ => by cases z) q1
theorem par_core {i j : Nat} {a b : Bool} (hf : SX a f f') (hg : SX b g g') (hij : i ≠ j) {B : Addr → Prop} {sc : Sc} {Z W : DW} {δ : DL.Env} {e : VEnv} {P : VEnv → Prop} {Q : List D → DW → Prop} (st : StE B sc Z W δ e) (hv : f' e fun x => g' e fun y => P ((e.set i (some (if a then .own x else .val x))).set j (some (if b then .own y else .val y))))
    (kk : ∀ dx dy e' Z2 W2, Gr sc Z W Z2 W2 → StE B sc Z2 W2 ((δ.set i (some dx)).set j (some dy)) e' → P e' → Q [dx, dy] W2) : fCons f (fCons g fNil) δ W Q :=
  hf.run st hv fun x dx Z1 W1 g1 r1 n1 q1 => hg.run (st.gr g1) q1 fun y dy Z2 W2 g2 r2 n2 q2 => by
    have g12 := g1.trans st.src g2
    refine kk dx dy _ Z2 W2 g12 ?_ q2
    have s1 : StE B sc Z2 W2 (δ.set i (some dx)) (e.set i (some (if a = true then .own x else .val x))) := RepX.set (st.gr g12) (r1.up g2) fun u p e1 e2 k v _ q z => by
      cases a with
      | false => cases e1
      | true => exact (st.out (n1 p rfl e2)).2.2.2 k v q z
    refine RepX.set s1 r2 fun u p e1 e2 k v hk q z => ?_
    cases b with
    | false => cases e1
    | true =>
      have hp := n2 p rfl e2
      by_cases hki : k = i
      · subst hki
        by_cases hl : k < e.length
        · rw [List.getElem?_set_self hl] at q
          rw [List.getElem?_set_self (by rw [← st.len]; exact hl)] at z
          cases a with
          | false => simp at q
          | true =>
            simp only [↓reduceIte] at r1
            obtain ⟨c, rfl, rr, _⟩ := r1
            cases z
            exact rr.ex hp
        · rw [List.getElem?_eq_none (by simp; omega)] at q; cases q
      · rw [List.getElem?_set_ne (Ne.symm hki)] at q z
        exact ((st.gr g1).out hp).2.2.2 k v q z
theorem ss_par {i j : Nat} {a b : Bool} (hf : SX a f f') (hg : SX b g g') (hij : i ≠ j := by decide) : SSt (sPar i j (fCons f (fCons g fNil))) (vPar i j a b f' g') := fun B sc Z W δ e Dv D st l hv =>
  par_core hf hg hij st hv fun dx dy e' Z2 W2 g2 st' q => ⟨dx, dy, rfl, l.nx _ _ Z2 W2 (g2.S st.bex) st' q⟩
theorem ss_parT {i j : Nat} {a b : Bool} (hf : SX a f f') (hg : SX b g g') (hij : i ≠ j := by decide) : SSt (sAsg (fTup (fCons f (fCons g fNil))) (gTp 2 (gCn (gN i) (gCn (gN j) gNl)))) (vPar i j a b f' g') := fun B sc Z W δ e Dv D st l hv => by
  show fCons f (fCons g fNil) δ W (fun xs W1 => xs.length ≤ sizeLine ∧ gTp 2 (gCn (gN i) (gCn (gN j) gNl)) (.tup xs) δ W1 D.nx)
  exact par_core hf hg hij st hv fun dx dy e' Z2 W2 g2 st' q => ⟨le_line (n := 2) (by omega), rfl, rfl, l.nx _ _ Z2 W2 (g2.S st.bex) st' q⟩
@[simp] def vPar3 (i j m : Nat) (a b c : Bool) (f g h : VE) : VS := fun D e => f e fun x => g e fun y => h e fun z => D.nx (((e.set i (some (if a then .own x else .val x))).set j (some (if b then .own y else .val y))).set m (some (if c then .own z else .val z)))
theorem par3_core {i j m : Nat} {a b c : Bool} (hf : SX a f f') (hg : SX b g g') (hh : SX c h h') (hij : i ≠ j ∧ i ≠ m ∧ j ≠ m) {B : Addr → Prop} {sc : Sc} {Z W : DW} {δ : DL.Env} {e : VEnv} {P : VEnv → Prop} {Q : List D → DW → Prop} (st : StE B sc Z W δ e)
    (hv : f' e fun x => g' e fun y => h' e fun z => P (((e.set i (some (if a then .own x else .val x))).set j (some (if b then .own y else .val y))).set m (some (if c then .own z else .val z))))
    (kk : ∀ dx dy dw e' Z2 W2, Gr sc Z W Z2 W2 → StE B sc Z2 W2 (((δ.set i (some dx)).set j (some dy)).set m (some dw)) e' → P e' → Q [dx, dy, dw] W2) : fCons f (fCons g (fCons h fNil)) δ W Q :=
  hf.run st hv fun x dx Z1 W1 g1 r1 n1 q1 => hg.run (st.gr g1) q1 fun y dy Z2 W2 g2 r2 n2 q2 => hh.run ((st.gr g1).gr g2) q2 fun w dw Z3 W3 g3 r3 n3 q3 => by
    have g12 := g1.trans st.src g2
    have g13 := g12.trans st.src g3
    have g23 := g2.trans (st.gr g1).src g3
    refine kk dx dy dw _ Z3 W3 g13 ?_ q3
    have s1 : StE B sc Z3 W3 (δ.set i (some dx)) (e.set i (some (if a = true then .own x else .val x))) := RepX.set (st.gr g13) (r1.up g23) fun u p e1 e2 k v _ q z => by
      cases a with
      | false => cases e1
      | true => exact (st.out (n1 p rfl e2)).2.2.2 k v q z
    have s2 : StE B sc Z3 W3 ((δ.set i (some dx)).set j (some dy)) ((e.set i (some (if a = true then .own x else .val x))).set j (some (if b = true then .own y else .val y))) := RepX.set s1 (r2.up g3) fun u p e1 e2 k v hk q z => by
      cases b with
      | false => cases e1
      | true =>
        have hp := n2 p rfl e2
        by_cases hki : k = i
        · subst hki
          by_cases hl : k < e.length
          · rw [List.getElem?_set_self hl] at q
            rw [List.getElem?_set_self (by rw [← st.len]; exact hl)] at z
            cases a with
            | false => simp at q
            | true =>
              simp only [↓reduceIte] at r1
              obtain ⟨c, rfl, rr, _⟩ := r1
              cases z
              exact rr.ex hp
          · rw [List.getElem?_eq_none (by simp; omega)] at q; cases q
        · rw [List.getElem?_set_ne (Ne.symm hki)] at q z
          exact ((st.gr g1).out hp).2.2.2 k v q z
    refine RepX.set s2 r3 fun u p e1 e2 k v hk q z => ?_
    cases c with
    | false => cases e1
    | true =>
      have hp := n3 p rfl e2
      by_cases hkj : k = j
      · subst hkj
        by_cases hl : k < e.length
        · rw [List.getElem?_set_self (by simpa using hl)] at q
          rw [List.getElem?_set_self (by rw [List.length_set, ← st.len]; exact hl)] at z
          cases b with
          | false => simp at q
          | true =>
            simp only [↓reduceIte] at r2
            obtain ⟨c, rfl, rr, _⟩ := r2
            cases z
            exact rr.ex hp
        · rw [List.getElem?_eq_none (by simp; omega)] at q; cases q
      · rw [List.getElem?_set_ne (Ne.symm hkj)] at q z
        by_cases hki : k = i
        · subst hki
          by_cases hl : k < e.length
          · rw [List.getElem?_set_self hl] at q
            rw [List.getElem?_set_self (by rw [← st.len]; exact hl)] at z
            cases a with
            | false => simp at q
            | true =>
              have r1' := r1.up g2
              simp only [↓reduceIte] at r1'
              obtain ⟨c, rfl, rr, _⟩ := r1'
              cases z
              exact rr.ex hp
          · rw [List.getElem?_eq_none (by simp; omega)] at q; cases q
        · rw [List.getElem?_set_ne (Ne.symm hki)] at q z
          exact (((st.gr g1).gr g2).out hp).2.2.2 k v q z
theorem ss_par3 {i j m : Nat} {a b c : Bool} (hf : SX a f f') (hg : SX b g g') (hh : SX c h h') (hij : i ≠ j ∧ i ≠ m ∧ j ≠ m := by decide) : SSt (sPar3 i j m (fCons f (fCons g (fCons h fNil)))) (vPar3 i j m a b c f' g' h') := fun B sc Z W δ e Dv D st l hv =>
  par3_core hf hg hh hij st hv fun dx dy dw e' Z2 W2 g2 st' q => ⟨dx, dy, dw, rfl, l.nx _ _ Z2 W2 (g2.S st.bex) st' q⟩
theorem ss_par3T {i j m : Nat} {a b c : Bool} (hf : SX a f f') (hg : SX b g g') (hh : SX c h h') (hij : i ≠ j ∧ i ≠ m ∧ j ≠ m := by decide) : SSt (sAsg (fTup (fCons f (fCons g (fCons h fNil)))) (gTp 3 (gCn (gN i) (gCn (gN j) (gCn (gN m) gNl))))) (vPar3 i j m a b c f' g' h') := fun B sc Z W δ e Dv D st l hv => by
  show fCons f (fCons g (fCons h fNil)) δ W (fun xs W1 => xs.length ≤ sizeLine ∧ gTp 3 (gCn (gN i) (gCn (gN j) (gCn (gN m) gNl))) (.tup xs) δ W1 D.nx)
  exact par3_core hf hg hh hij st hv fun dx dy dw e' Z2 W2 g2 st' q => ⟨le_line (n := 3) (by omega), rfl, rfl, l.nx _ _ Z2 W2 (g2.S st.bex) st' q⟩
/-! own lists that change -/
theorem StE.ch {B : Addr → Prop} {sc : Sc} {Z W : DW} {δ : DL.Env} {e : VEnv} {i : Nat} {u u2 : U} {a : Addr} {o : DO} (st : StE B sc Z W δ e) (hu : e[i]? = some (some (.own u))) (ha : δ[i]? = some (some (.ref a))) (r : OwnR sc Z (DL.wup W a o) a u2) :
    GrS B sc Z W Z (DL.wup W a o) ∧ StE B sc Z (DL.wup W a o) δ (e.set i (some (.own u2))) := by
  obtain ⟨b, eb, rb, n, s, nb⟩ := st.env i _ hu
  rw [ha] at eb
  cases eb
  refine ⟨GrS.put nb s, ?_⟩
  have st2 : StE B sc Z (DL.wup W a o) δ (e.set i none) := (st.fgt1 (i := i)).put n s fun j v q z => by
    have hj : j ≠ i := fun z2 => by
      subst z2
      by_cases hl : j < e.length
      · rw [List.getElem?_set_self hl] at q; cases q
      · rw [List.getElem?_eq_none (by simp; omega)] at q; cases q
    rw [List.getElem?_set_ne (Ne.symm hj)] at q
    exact hj (st.dis j i v u a q hu z ha)
  have hset : δ.set i (some (.ref a)) = δ := by
    apply List.ext_getElem?
    intro j
    by_cases z : i = j
    · subst z
      rw [ha, List.getElem?_set_self]
      exact (List.getElem?_eq_some_iff.mp ha).1
    · rw [List.getElem?_set_ne z]
  have := st2.setO (i := i) r n s nb fun j v hj q z => by
    rw [List.getElem?_set_ne (Ne.symm hj)] at q
    exact hj (st.dis j i v u a q hu z ha)
  rw [hset, List.set_set] at this
  exact this
@[simp] def vApp (i : Nat) (f : VE) : VS := fun D e => ∃ us, e[i]? = some (some (.own (.lst us))) ∧ us.length < 1000000 ∧ f e fun y => D.nx (e.set i (some (.own (.lst (us ++ [y])))))
theorem ss_app {i : Nat} (a : SV f f') : SSt (sDrop (fM isL mAppend (fVar i) (fCons f fNil))) (vApp i f') := fun B sc Z W δ e Dv D st l ⟨us, hu, hl, hv⟩ => by
  obtain ⟨p, ep, ⟨ds, w, r⟩, _⟩ := st.env i _ hu
  refine ⟨.ref p, ep, ⟨p, ds, rfl, w⟩, ?_⟩
  refine a B sc Z W δ e _ _ st hv fun y dy Z1 W1 g1 r1 q => ?_
  have st1 := st.gr g1
  obtain ⟨p1, ep1, ⟨ds1, w1, rr⟩, n1, s1, b1⟩ := st1.env i _ hu
  rw [ep] at ep1
  cases ep1
  have hc := st1.ch (i := i) (a := p) (o := .lst (ds1 ++ [dy])) (u2 := .lst (us ++ [y])) hu ep ⟨_, wup_same, rr.app (Reps.one r1)⟩
  exact ⟨p, ds1, dy, rfl, rfl, w1, by rw [rr.length]; exact lt_line hl, l.nx _ _ Z1 _ ((g1.S st.bex).trans hc.1) hc.2 q⟩
@[simp] def vPopS (k : Nat) (t : VG) : VS := fun D e => ∃ us u, e[k]? = some (some (.own (.lst (us ++ [u])))) ∧ t u (e.set k (some (.own (.lst us)))) D.nx
theorem ss_pop {k : Nat} {gg : FG} {t : VG} (b : SGt gg t) : SSt (sAsg (fM0 isL mPop (fVar k)) gg) (vPopS k t) := fun B sc Z W δ e Dv D st l ⟨us, u, hu, hv⟩ => by
  obtain ⟨p, ep, ⟨ds, w, r⟩, n, s, nb⟩ := st.env k _ hu
  refine ⟨.ref p, ep, ⟨p, ds, rfl, w⟩, ?_⟩
  have hlen : ds.length = us.length + 1 := by rw [r.length]; simp
  obtain ⟨d, hd, rd⟩ := r.get (i := us.length) (u := u) (by simp)
  have hdl : (us ++ [u]).dropLast = us := by simp
  have r2 := r.dropLast
  rw [hdl] at r2
  have hc := st.ch (i := k) (a := p) (o := .lst ds.dropLast) (u2 := .lst us) hu ep ⟨_, wup_same, r2⟩
  refine ⟨p, ds, d, rfl, w, by rw [hlen]; exact hd, ?_⟩
  exact b B sc Z _ δ _ u d _ _ hc.2 rd hv fun δ' e' st' q => l.nx δ' e' Z _ hc.1 st' q
/-- x[i] = v -/
def putKs {κ : Type} [DecidableEq κ] (ks : List κ) (q : κ) : List κ := if q ∈ ks then ks else ks ++ [q]
def putVs {κ : Type} [DecidableEq κ] : List κ → List U → κ → U → List U
  | k :: ks, u :: us, q, v => if k = q then v :: us else u :: putVs ks us q v
  | [], _, _, v => [v]
  | _ :: _, [], _, _ => []
theorem putD_ok {κ : Type} [DecidableEq κ] {sc : Sc} {Z : DW} {q : κ} {v : U} {d : D} (hv : Rep sc Z v d) : ∀ {kvs : List (κ × D)} {us : List U}, (kvs.map (·.1)).Nodup → Reps sc Z us (kvs.map (·.2)) → (putD kvs q d).map (·.1) = putKs (kvs.map (·.1)) q ∧ Reps sc Z (putVs (kvs.map (·.1)) us q v) ((putD kvs q d).map (·.2))
  | [], us, _, h => by
    have := h.length
    cases us with
    | nil => simp [putD, putKs, putVs]; exact Reps.one hv
    | cons => simp at this
  | (k, x) :: kvs, [], _, h => by have := h.length; simp at this
  | (k, x) :: kvs, u :: us, nd, h => by
    obtain ⟨d', r, e, h1, h2⟩ := reps_cons.mp h
    simp only [List.map_cons, List.cons.injEq] at e
    obtain ⟨rfl, rfl⟩ := e
    simp only [List.map_cons, List.nodup_cons] at nd
    have ih := putD_ok (q := q) hv nd.2 h2
    by_cases z : k = q
    · subst z
      have hid : kvs.map (fun kv => if kv.1 = k then (kv.1, d) else kv) = kvs := by
        rw [List.map_congr_left (g := id), List.map_id]
        intro kv hkv
        have : kv.1 ≠ k := fun e => nd.1 (List.mem_map.mpr ⟨kv, hkv, e⟩)
        simp [this]
      simp only [putD, List.any_cons, decide_true, Bool.true_or, ↓reduceIte, List.map_cons, putKs, List.mem_cons, true_or, putVs]
      rw [hid]
      exact ⟨rfl, reps_cons.mpr ⟨_, _, rfl, hv, h2⟩⟩
    · have e1 : putD ((k, x) :: kvs) q d = (k, x) :: putD kvs q d := by
        simp only [putD, List.any_cons, z, decide_false, Bool.false_or, List.map_cons, ↓reduceIte]
        split <;> rfl
      rw [e1]
      simp only [List.map_cons, putVs, z, ↓reduceIte, putKs, List.mem_cons]
      have e2 : (q = k) = False := by simp; exact fun e => z e.symm
      simp only [e2, false_or]
      refine ⟨?_, reps_cons.mpr ⟨_, _, rfl, h1, ih.2⟩⟩
      rw [ih.1]
      unfold putKs
      split <;> rfl
def setU (x i v : U) : Option U := match x with
  | .lst us => match i with
    | .int k => (ixN us.length k).map fun j => .lst (us.set j v)
    | _ => none
  | .dic ks us => match keyU i with
    | some k => if ks.Nodup ∧ ks.length < 1000000 then some (.dic (putKs ks k) (putVs ks us k v)) else none
    | none => none
  | .dit ks us => match tkeyU i with
    | some k => if ks.Nodup ∧ ks.length < 1000000 then some (.dit (putKs ks k) (putVs ks us k v)) else none
    | none => none
  | _ => none
theorem set_ok {B : Addr → Prop} {sc : Sc} {Z W : DW} {δ : DL.Env} {e : VEnv} {k : Nat} {u i v u2 : U} {a : Addr} {di dv : D} (st : StE B sc Z W δ e) (hu : e[k]? = some (some (.own u))) (ha : δ[k]? = some (some (.ref a))) (ri : RepB B sc Z W i di) (rv : Rep sc Z v dv) (hs : setU u i v = some u2) (Q : DW → Prop)
    (q : ∀ W', GrS B sc Z W Z W' → StE B sc Z W' δ (e.set k (some (.own u2))) → Q W') : pSet (.ref a) di dv W Q := by
  obtain ⟨b, eb, rb, n, s, nb⟩ := st.env k _ hu
  rw [ha] at eb
  cases eb
  unfold setU at hs
  cases u <;> try (cases hs; done)
  · obtain ⟨ds, w, r⟩ := rb
    cases i <;> try (cases hs; done)
    rename_i j
    simp only at hs
    cases hj : ixN _ j with
    | none => rw [hj] at hs; cases hs
    | some m =>
      rw [hj] at hs
      cases hs
      rw [ri.int]
      have hc := st.ch (i := k) (a := a) (o := .lst (ds.set m dv)) (u2 := .lst _) hu ha ⟨_, wup_same, r.set m rv⟩
      exact .inl (.inl ⟨ds, j, m, rfl, w, by rw [r.length]; exact hj, q _ hc.1 hc.2⟩)
  · obtain ⟨kvs, w, e1, r⟩ := rb
    cases hk : keyU i with
    | none => rw [hk] at hs; cases hs
    | some kk =>
      rw [hk] at hs
      simp only at hs
      split at hs
      · rename_i hn
        cases hs
        subst e1
        obtain ⟨p1, p2⟩ := putD_ok (q := kk) rv hn.1 r
        have hc := st.ch (i := k) (a := a) (o := .dic (putD kvs kk dv)) (u2 := .dic _ _) hu ha ⟨_, wup_same, p1, p2⟩
        exact .inr ⟨kvs, kk, w, ri.key hk, by have := hn.2; rw [List.length_map] at this; exact lt_line this, q _ hc.1 hc.2⟩
      · cases hs
  · obtain ⟨kvs, w, e1, r⟩ := rb
    cases hk : tkeyU i with
    | none => rw [hk] at hs; cases hs
    | some kk =>
      rw [hk] at hs
      simp only at hs
      split at hs
      · rename_i hn
        cases hs
        subst e1
        obtain ⟨p1, p2⟩ := putD_ok (q := kk) rv hn.1 r
        have hc := st.ch (i := k) (a := a) (o := .dit (putD kvs kk dv)) (u2 := .dit _ _) hu ha ⟨_, wup_same, p1, p2⟩
        exact .inl (.inr ⟨kvs, kk, w, ri.tkey hk, by have := hn.2; rw [List.length_map] at this; exact lt_line this, q _ hc.1 hc.2⟩)
      · cases hs
@[simp] def vSet (k : Nat) (gi : VE) (gv : VE) : VS := fun D e => gv e fun v => ∃ u, e[k]? = some (some (.own u)) ∧ gi e fun i => ∃ u2, setU u i v = some u2 ∧ D.nx (e.set k (some (.own u2)))
theorem ss_setI {k : Nat} (a : SB g g') (b : SV f f') : SSt (sAsg f (gSb (fVar k) g pSet)) (vSet k g' f') := fun B sc Z W δ e Dv D st l hv =>
  b B sc Z W δ e _ _ st hv fun v dv Z1 W1 g1 r1 ⟨u, hu, q1⟩ => by
    have st1 := st.gr g1
    obtain ⟨p, ep, _⟩ := st1.env k _ hu
    refine ⟨.ref p, ep, a B sc Z1 W1 δ e _ _ st1 q1 fun i di Z2 W2 g2 r2 ⟨u2, hs, q2⟩ => ?_⟩
    exact set_ok (st1.gr g2) hu ep r2 (r1.up g2.z) hs _ fun W' gs st' => l.nx δ _ Z2 W' (((g1.trans st.src g2).S st.bex).trans gs) st' q2
/-! if, loops -/
@[simp] def vIfS (p : VT) (s t : VS) : VS := fun D e => p e fun k => if k = true then s D e else t D e
theorem ss_if (c : SBo p p') (a : SSt s s') (b : SSt t t') : SSt (sIf p s t) (vIfS p' s' t') := fun B sc Z W δ e Dv D st l hv =>
  c B sc Z W δ e _ _ st hv fun x Z1 W1 g1 q1 => by
    cases x with
    | true => exact a B sc Z1 W1 δ e Dv D (st.gr g1) (l.gr (g1.S st.bex)) q1
    | false => exact b B sc Z1 W1 δ e Dv D (st.gr g1) (l.gr (g1.S st.bex)) q1
@[simp] def vDrop (f : VE) : VS := fun D e => f e fun _ => D.nx e
theorem ss_drop (a : SB f f') : SSt (sDrop f) (vDrop f') := fun B sc Z W δ e Dv D st l hv =>
  a B sc Z W δ e _ _ st hv fun u d Z1 W1 g1 r1 q1 => l.nx δ e Z1 W1 (g1.S st.bex) (st.gr g1) q1
@[simp] def vAug (i : Nat) (h : Int → Int → Int) (f : VE) : VS := fun D e => ∃ a, e[i]? = some (some (.val (.int a))) ∧ f e fun y => match y with
  | .int b => D.nx (e.set i (some (.val (.int (h a b)))))
  | _ => False
theorem ss_aug {i : Nat} {h : Int → Int → Int} (a : SB f f') : SSt (sAug i f (pII0 fun x y => .int (h x y))) (vAug i h f') := fun B sc Z W δ e Dv D st l ⟨x, hx, hv⟩ => by
  obtain ⟨d, ed, rd⟩ := st.env i _ hx
  unfold Rep at rd
  subst rd
  refine ⟨_, ed, a B sc Z W δ e _ _ st hv fun y dy Z1 W1 g1 r1 q1 => ?_⟩
  cases y <;> try exact q1.elim
  rw [r1.int]
  exact l.nx _ _ Z1 W1 (g1.S st.bex) ((st.gr g1).setV rep_int) q1
def vLoop (tg : VG) (body : VS) (D : VD) : List U → VEnv → Prop
  | [], e => D.nx e
  | u :: us, e => tg u e fun e2 => body { nx := vLoop tg body D us, rt := D.rt, bk := D.nx, ct := vLoop tg body D us } e2
def vFor (gi : VI) (tg : VG) (body : VS) : VS := fun D e => gi e fun us => vLoop tg body D us e
theorem loop_ok {gg : FG} {tg : VG} {B : Addr → Prop} {sc : Sc} {Dv : VD} {E : DE} {keep : DW → Prop} {Zs : DW} (hg : SGt gg tg) (hb : SSt s s') (hk : ∀ W2, Sub Zs W2 → keep W2) : ∀ (us : List U) (xs : List D) (Z W : DW) δ e, StE B sc Z W δ e → LkD B sc Z W Dv E → Sub Zs Z → Reps sc Zs us xs → vLoop tg s' Dv us e → loopD keep gg s E xs δ W
  | [], _, Z, W, δ, e, st, l, sb, r, hv => by
    rw [reps_nil.mp r]
    exact ⟨hk W (sb.trans st.sub), l.nx δ e Z W GrS.refl st hv⟩
  | u :: us, _, Z, W, δ, e, st, l, sb, r, hv => by
    obtain ⟨d, xs, rfl, r1, r2⟩ := reps_cons.mp r
    refine ⟨hk W (sb.trans st.sub), hg B sc Z W δ e u d _ _ st (r1.up sb) hv fun δ2 e2 st2 q2 => ?_⟩
    refine hb B sc Z W δ2 e2 { nx := vLoop tg s' Dv us, rt := Dv.rt, bk := Dv.nx, ct := vLoop tg s' Dv us } _ st2 ⟨fun δ' e' Z' W' g st' q => ?_, l.rt, l.nx, fun δ' e' Z' W' g st' q => ?_⟩ q2
    · exact loop_ok hg hb hk us xs Z' W' δ' e' st' (l.gr g) (sb.trans g.z) r2 q
    · exact loop_ok hg hb hk us xs Z' W' δ' e' st' (l.gr g) (sb.trans g.z) r2 q
theorem ss_for {fi : FI} {gi : VI} {gg : FG} {tg : VG} (hi : SIt fi gi) (hg : SGt gg tg) (hb : SSt s s') : SSt (sFor fi gg s) (vFor gi tg s') := fun B sc Z W δ e Dv D st l hv =>
  hi B sc Z W δ e _ _ st hv fun us xs keep Z1 W1 g1 r1 hk q1 => loop_ok hg hb hk us xs Z1 W1 δ e (st.gr g1) (l.gr (g1.S st.bex)) (Sub.refl _) r1 q1
def vWh (c : VT) (body : VS) (D : VD) : Nat → VEnv → Prop
  | 0, _ => False
  | n + 1, e => c e fun b => if b = true then body { nx := vWh c body D n, rt := D.rt, bk := D.nx, ct := vWh c body D n } e else D.nx e
def vWhile (c : VT) (body : VS) : VS := fun D e => ∃ n, vWh c body D n e
theorem wh_ok {B : Addr → Prop} {sc : Sc} {Dv : VD} {D : DE} (hc : SBo p p') (hb : SSt s s') : ∀ (n : Nat) (Z W : DW) δ e, StE B sc Z W δ e → LkD B sc Z W Dv D → vWh p' s' Dv n e → whileD p s D n δ W
  | 0, _, _, _, _, _, _, h => h.elim
  | n + 1, Z, W, δ, e, st, l, h => hc B sc Z W δ e _ _ st h fun b Z1 W1 g1 q1 => by
    cases b with
    | false => exact l.nx δ e Z1 W1 (g1.S st.bex) (st.gr g1) q1
    | true =>
      have l1 := l.gr (g1.S st.bex)
      exact hb B sc Z1 W1 δ e { nx := vWh p' s' Dv n, rt := Dv.rt, bk := Dv.nx, ct := vWh p' s' Dv n } _ (st.gr g1) ⟨fun δ' e' Z' W' g st' q => wh_ok hc hb n Z' W' δ' e' st' (l1.gr g) q, l1.rt, l1.nx, fun δ' e' Z' W' g st' q => wh_ok hc hb n Z' W' δ' e' st' (l1.gr g) q⟩ q1
theorem ss_while (hc : SBo p p') (hb : SSt s s') : SSt (sWhile p s) (vWhile p' s') := fun B sc Z W δ e Dv D st l ⟨n, hv⟩ => ⟨n, wh_ok hc hb n Z W δ e st l hv⟩
end
/-! ### defs -/
def startV (n : Nat) (us : List U) : VEnv := us.map (fun u => some (.val u)) ++ List.replicate (n - us.length) none
@[simp] def RTv (Q : U → Prop) : VD := { nx := fun _ => Q .non, rt := Q }
/-- what a body comes to -/
def vFn (n m : Nat) (s : VS) : VF := fun us Q => us.length = n ∧ s (RTv Q) (startV m us)
theorem start_ok {B : Addr → Prop} {sc : Sc} {Z W : DW} {N : List Str} {us : List U} {ds : List D} (ok : Ok B sc Z W) (r : Reps sc Z us ds) : StE B sc Z W (startD N ds) (startV N.length us) := by
  have hl := r.length
  refine ⟨by simp [startV, startD, hl], ok.sub, ok.src, ok.bex, fun i x q => ?_, fun i j u v a q _ _ _ => ?_⟩
  · unfold startV at q
    by_cases hi : i < us.length
    · rw [List.getElem?_append_left (by simpa using hi), List.getElem?_map, List.getElem?_eq_getElem hi] at q
      cases q
      obtain ⟨d, e, rd⟩ := r.get (List.getElem?_eq_getElem hi)
      refine ⟨d, ?_, rd⟩
      unfold startD
      rw [List.getElem?_append_left (by rw [List.length_map, hl]; exact hi), List.getElem?_map, e]; rfl
    · rw [List.getElem?_append_right (by simpa using hi), List.getElem?_replicate] at q
      split at q <;> cases q
  · unfold startV at q
    by_cases hi : i < us.length
    · rw [List.getElem?_append_left (by simpa using hi), List.getElem?_map, List.getElem?_eq_getElem hi] at q
      cases q
    · rw [List.getElem?_append_right (by simpa using hi), List.getElem?_replicate] at q
      split at q <;> cases q
theorem len_of {n m : Nat} {s : VS} : ∀ ds W Q, spOf (vFn n m s) ds W Q → ds.length = n := fun ds W Q ⟨sc, Z, us, Qv, _, _, r, h, _⟩ => by rw [r.length]; exact h.1
theorem body_of {n : Nat} {s : FS} {t : VS} {N : List Str} (h : SSt s t) : ∀ ds W Q, spOf (vFn n N.length t) ds W Q → s (RT Q) (startD N ds) W := fun ds W Q ⟨sc, Z, us, Qv, sb, so, r, hv, k⟩ => by
  have ok : Ok (fun a => W a ≠ none) sc Z W := ⟨sb, so, fun _ h => h⟩
  have fin : ∀ u d Z' W', GrS (fun a => W a ≠ none) sc Z W Z' W' → Sub Z' W' → Rep sc Z' u d → Qv u → Q d W' := fun u d Z' W' g s' rr q => k u d Z' W' ⟨g.z, s', fun a o n e => g.k a o (by rw [e]; simp) n e, g.s, g.n⟩ rr q
  refine h (fun a => W a ≠ none) sc Z W (startD N ds) (startV N.length us) (RTv Qv) (RT Q) (start_ok ok r) ⟨fun δ' e' Z' W' g st q => ?_, fun u d Z' W' g s' so rr q => ?_, fun _ _ _ _ _ _ q => q.elim, fun _ _ _ _ _ _ q => q.elim⟩ hv.2
  · exact ⟨W', Sub.refl _, fin .non .non Z' W' g st.sub rep_non q⟩
  · exact ⟨W', Sub.refl _, fin u d Z' W' g s' rr q⟩
theorem body_of2 {n : Nat} {s : FS} {t : VS} {N : List Str} {vf : VF} (h : SSt s t) (hf : ∀ us Q, vf us Q → vFn n N.length t us Q) : ∀ ds W Q, spOf vf ds W Q → s (RT Q) (startD N ds) W := fun ds W Q ⟨sc, Z, us, Qv, a, b, c, d, e⟩ => body_of h ds W Q ⟨sc, Z, us, Qv, a, b, c, hf us Qv d, e⟩
theorem len_of2 {n m : Nat} {t : VS} {vf : VF} (hf : ∀ us Q, vf us Q → vFn n m t us Q) : ∀ ds W Q, spOf vf ds W Q → ds.length = n := fun ds W Q ⟨sc, Z, us, Qv, a, b, c, d, e⟩ => len_of (m := m) (s := t) ds W Q ⟨sc, Z, us, Qv, a, b, c, hf us Qv d, e⟩
/-! ### the source -/
def vfPick : VF := fun us Q => ∃ m, us = [.src, .int m] ∧ m ≤ 1000000 ∧ ∀ v, (m < 2 → v = 0) → (2 ≤ m → 0 ≤ v ∧ v < m) → Q (.int v)
theorem mv_gr {s c : Addr} {Z W W' : DW} (h : Mv s c W W') (sb : Sub Z W) (so : SrcOk (some (s, c)) Z W) : Gr (some (s, c)) Z W Z W' := by
  obtain ⟨g, zs, zc⟩ := so s c rfl
  refine ⟨Sub.refl _, fun a o e => ?_, fun a o n e => ?_, fun x y e g => ?_, fun _ _ h => h⟩
  · have n1 : a ≠ s := fun z => by subst z; rw [zs] at e; cases e
    have n2 : a ≠ c := fun z => by subst z; rw [zc] at e; cases e
    exact h.1 a o n1 n2 (sb a o e)
  · obtain ⟨n1, n2⟩ := n s c rfl
    exact h.1 a o n1 n2 e
  · cases e; exact h.2 g
theorem len_pick : ∀ ds W Q, spOf vfPick ds W Q → ds.length = 2 := fun ds W Q ⟨sc, Z, us, Qv, _, _, r, ⟨m, e, _⟩, _⟩ => by rw [r.length, e]; rfl
theorem body_pick : ∀ ds W Q, spOf vfPick ds W Q → f__law_pick (RT Q) (startD ["source", "most", "cells", "others", "lap", "stirred"] ds) W := fun ds W Q ⟨sc, Z, us, Qv, sb, so, r, ⟨m, e, hm, q⟩, k⟩ => by
  subst e
  obtain ⟨d1, r1, rfl, h1, h2⟩ := reps_cons.mp r
  obtain ⟨d2, r2, rfl, h3, h4⟩ := reps_cons.mp h2
  cases reps_nil.mp h4
  unfold Rep at h1 h3
  obtain ⟨s, c, rfl, rfl⟩ := h1
  subst h3
  exact body__law_pick _ W Q ⟨s, c, m, rfl, (so s c rfl).1, hm, fun v W' hM h1 h2 => k _ _ Z W' (mv_gr hM sb so) rep_int (q v h1 h2)⟩
def vfOrder : VF := fun us Q => ∃ xs, us = [.src, .lst xs] ∧ xs.length ≤ 1000 ∧ ∀ ys, List.Perm ys xs → Q (.lst ys)
theorem len_order : ∀ ds W Q, spOf vfOrder ds W Q → ds.length = 2 := fun ds W Q ⟨sc, Z, us, Qv, _, _, r, ⟨m, e, _⟩, _⟩ => by rw [r.length, e]; rfl
theorem reps_perm {sc : Sc} {Z : DW} {ds es : List D} (h : List.Perm ds es) : ∀ {us : List U}, Reps sc Z us ds → ∃ vs, List.Perm vs us ∧ Reps sc Z vs es := by
  induction h with
  | nil => intro us r; exact ⟨us, List.Perm.refl _, r⟩
  | cons x _ ih =>
    intro us r
    cases us with
    | nil => cases reps_nil.mp r
    | cons u us =>
      obtain ⟨d, t, e, h1, h2⟩ := reps_cons.mp r
      cases e
      obtain ⟨vs, p, rv⟩ := ih h2
      exact ⟨u :: vs, p.cons u, reps_cons.mpr ⟨_, _, rfl, h1, rv⟩⟩
  | swap x y l =>
    intro us r
    cases us with
    | nil => cases reps_nil.mp r
    | cons u us =>
      obtain ⟨d, t, e, h1, h2⟩ := reps_cons.mp r
      cases e
      cases us with
      | nil => cases reps_nil.mp h2
      | cons v us =>
        obtain ⟨d, t, e, h3, h4⟩ := reps_cons.mp h2
        cases e
        exact ⟨v :: u :: us, List.Perm.swap u v us, reps_cons.mpr ⟨_, _, rfl, h3, reps_cons.mpr ⟨_, _, rfl, h1, h4⟩⟩⟩
  | trans _ _ ih1 ih2 =>
    intro us r
    obtain ⟨vs, p1, r1⟩ := ih1 r
    obtain ⟨ws, p2, r2⟩ := ih2 r1
    exact ⟨ws, p2.trans p1, r2⟩
theorem body_order : ∀ ds W Q, spOf vfOrder ds W Q → f__law_any_order (RT Q) (startD ["source", "things", "others", "lap"] ds) W := fun ds W Q ⟨sc, Z, us, Qv, sb, so, r, ⟨xs, e, hl, q⟩, k⟩ => by
  subst e
  obtain ⟨d1, r1, rfl, h1, h2⟩ := reps_cons.mp r
  obtain ⟨d2, r2, rfl, h3, h4⟩ := reps_cons.mp h2
  cases reps_nil.mp h4
  unfold Rep at h1 h3
  obtain ⟨s, c, rfl, rfl⟩ := h1
  obtain ⟨a, es, rfl, w, rr⟩ := h3
  have ws := sb _ _ w
  obtain ⟨g, zs, zc⟩ := so s c rfl
  have n1 : a ≠ s := fun z => by subst z; rw [zs] at w; cases w
  have n2 : a ≠ c := fun z => by subst z; rw [zc] at w; cases w
  refine body__law_any_order _ W Q ⟨s, c, a, es, rfl, g, ws, n1, n2, by rw [rr.length]; exact hl, fun ys p W' hp hM hp0 hw => ?_⟩
  obtain ⟨vs, pv, rv⟩ := reps_perm hp.symm rr
  obtain ⟨Z2, g2, r2⟩ := fz (u := .lst vs) (mv_gr hM sb so) ⟨ys, hw, rv⟩ (by
    cases ez : Z p with
    | none => rfl
    | some o => have := sb _ _ ez; rw [hp0] at this; cases this) hp0
  exact k _ _ Z2 W' g2 r2 (q vs pv)
end VL
/-! Dl17: zip of two and of three, enumerate, over lists and tuples; stores by operators at subscripts. -/
namespace DL
open PySem PySem.Spec PyProof.Rows L2
/-- a list or a tuple -/
def SqK (K : PySem.W.Frag) (H : Hp) (t : Bool) (a : Addr) (xs : List V) : Prop := if t = true then SqT K H a xs else SqL K H a xs
def SqHp (t : Bool) (h : Heap) (a : Addr) (its : Array Value) : Prop := if t = true then h.IsTuple a its else h.IsList a its
def ItHp (t : Bool) (h : Heap) (i a : Addr) (k : Nat) : Prop := if t = true then h.IsTupleIter i a k else h.IsListIter i a k
def itObj (t : Bool) (a : Addr) : Obj := if t = true then { cls := .type "tuple_iterator", data := .fields #[.ref a, .int 0 0] } else { cls := .type "list_iterator", data := .fields #[.ref a, .int 0 0] }
theorem sqhp_of {X : Cx} {pins : List (Addr × Obj)} {σ : L2.St} {H : Hp} {s : Shared} {t : Bool} {a : Addr} {xs : List V} (I : L2.Inv X pins σ H s) (h : SqK X.K H t a xs) : ∃ its : List Value, Vals xs its ∧ SqHp t s.heap a its.toArray ∧ a < s.heap.objs.size := by
  cases t with
  | true =>
    obtain ⟨its, r, p, _⟩ := I.tuple h
    have p' := p
    obtain ⟨o, ho, _⟩ := p'
    exact ⟨its, r, p, Heap.lt_size ho⟩
  | false => obtain ⟨its, r, p, _⟩ := I.list h; exact ⟨its, r, p.isList, p.lt⟩
theorem sqk_inj {X : Cx} {pins : List (Addr × Obj)} {σ : L2.St} {H : Hp} {s : Shared} {t : Bool} {a : Addr} {xs ys : List V} (I : L2.Inv X pins σ H s) (h : SqK X.K H t a xs) (g : SqK X.K H t a ys) : xs = ys := by
  cases t with
  | true => exact I.tuple_inj h g
  | false => exact I.list_inj h g
theorem draws_k {prog : Program} {w : World} {A : Around} (hh : A.handled = none) (t : Bool) (it l : Addr) (hne : l ≠ it) (items : Array Value) :
    Draws prog w A it [it, l] items.size (fun i v => items[i]? = some v) (fun i h => ItHp t h it l i ∧ SqHp t h l items) := by
  cases t with
  | true => exact Draws.tuple hh it l hne items
  | false => exact Draws.list hh it l hne items
theorem begins_k (t : Bool) (l : Addr) (items : Array Value) : Begins (.ref l) (itObj t l) fun h => SqHp t h l items := by
  cases t with
  | true => exact begins_tuple l items
  | false => exact begins_list l items
theorem ithp_new {t : Bool} {h : Heap} {i a : Addr} (e : h.get? i = some (itObj t a)) : ItHp t h i a 0 := by
  cases t with
  | true => exact ⟨_, e, rfl, rfl⟩
  | false => exact ⟨_, e, rfl, rfl⟩
theorem ithp_at {t : Bool} {h h' : Heap} {i a : Addr} {k : Nat} (e : ItHp t h i a k) (hk : ∀ o, h.get? i = some o → h'.get? i = some o) : ItHp t h' i a k := by
  cases t with
  | true => obtain ⟨o, ho, r⟩ := e; exact ⟨o, hk o ho, r⟩
  | false => obtain ⟨o, ho, r⟩ := e; exact ⟨o, hk o ho, r⟩
theorem ithp_obj {t : Bool} {h : Heap} {i a : Addr} {k : Nat} (e : ItHp t h i a k) : ∃ o, h.get? i = some o ∧ ∀ v, o.data ≠ .cell v := by
  cases t with
  | true => obtain ⟨o, ho, _, hd⟩ := e; exact ⟨o, ho, fun v q => by rw [hd] at q; cases q⟩
  | false => obtain ⟨o, ho, _, hd⟩ := e; exact ⟨o, ho, fun v q => by rw [hd] at q; cases q⟩
/-- turns told by walks, anew at each turn -/
theorem turn_walks {P : Program} {w : World} {K : PySem.W.Frag} {elts : List Expr} {kk : Nat} {tpos : Pos} {J : It} {fp wr : List Addr} {it : Addr} {tn : Nat → Heap → Prop} (hm : it ∈ fp) (hwr : ∀ b ∈ wr, b ∈ fp)
    (hobj : ∀ i h, tn i h → ∀ b ∈ fp, ∃ o, h.get? b = some o ∧ ∀ v, o.data ≠ .cell v) (hkeep : ∀ i h h', tn i h → (∀ b ∈ fp, ∀ o, h.get? b = some o → h'.get? b = some o) → tn i h')
    (hW : ∀ (X : Cx), X.prog = P → X.w = w → X.K = K → X.A.handled = none → ∀ (i : Nat) (pins : List (Addr × Obj)) (s : Shared) (σ : L2.St) (H : Hp), L2.Inv X pins σ H s → tn i s.heap → (J.go i H ∨ J.stop i H) →
      ∃ n fpW Pt St Mid, WalksT P w X.A it fpW wr n Pt St Mid ∧ St i s.heap ∧ (J.go i H → i < n) ∧ (J.stop i H → i = n) ∧ (J.go i H → ∀ h, St (i + 1) h → tn (i + 1) h) ∧
        (∀ vals, Pt i vals → ∃ xs, Vals xs vals.toList ∧ xs.length ≤ sizeLine ∧ (J.go i H → ∀ T, H T = none → J.yld i H (.ref T) (upd H T (.tup xs)))))
    (hself : ∀ (A : Around) (i : Nat) (s : Shared) (Q : Value → Shared → Prop) (E : Value → Shared → Prop), tn i s.heap → Q (.ref it) s → wpAny (model P w) A (pyIter (.ref it)) Q E s) :
    Turn P w K (.Tuple elts kk tpos) J fp it tn where
  mem := hm
  obj := hobj
  keep := hkeep
  item := by
    intro X hP hw hK hc i pins s σ H E I hf st hg
    obtain ⟨n, fpW, Pt, St, Mid, WT, hst, hlt, _, hnx, hv⟩ := hW X hP hw hK (I.ok.hd hc) i pins s σ H I st (.inl hg)
    subst hP hw hK
    refine WT.item i s _ E (hlt hg) hst fun T vals h' tk hPt hT hTup hMid hk => ?_
    refine ⟨.ref T, rfl, WT.go elts kk tpos i T { s with heap := h', toks := tk } _ E hMid fun h'' hst2 hk2 => ?_⟩
    obtain ⟨xs, hxs, hl, hy⟩ := hv vals hPt
    have hTw : T ∉ wr := WT.apart i T h' hMid
    have hT2 : h''.IsTuple T vals := by
      obtain ⟨o, ho, r⟩ := hTup
      exact ⟨o, hk2 T o hTw ho, r⟩
    have hnone : H T = none := I.hok.fresh hT
    have new : ObjOk X.prog X.w (upd H T (.tup xs)) h'' T (.tup xs) := ⟨hl, vals.toList, hxs, by rw [Array.toArray_toList]; exact hT2⟩
    have I1 : L2.Inv X pins σ (upd H T (.tup xs)) { s with heap := h'', toks := tk } :=
      I.turnedNew (ch := wr) (fun b o hb q => hk2 b o hb (hk b o hb q)) (fun b hb => hf b (hwr b hb)) hT new
    refine ⟨.ref T, _, I1, rfl, hy hg T hnone, hnx hg _ hst2, fun b hb => ?_⟩
    obtain ⟨o, ho, _⟩ := hobj i s.heap st b hb
    have hlt : b < s.heap.objs.size := Heap.lt_size ho
    have hne : b ≠ T := Nat.ne_of_lt (Nat.lt_of_lt_of_le hlt hT)
    rw [upd_ne hne]
    exact (hf b hb).1
  done := by
    intro X hP hw hK hc i pins s σ H E I hf st hg
    obtain ⟨n, fpW, Pt, St, Mid, WT, hst, _, hn, hnx, hv⟩ := hW X hP hw hK (I.ok.hd hc) i pins s σ H I st (.inr hg)
    subst hP hw hK
    rw [hn hg] at hst
    exact WT.done s _ E hst fun h' tk hk => ⟨rfl, I.turnedL (t' := tk) (ch := wr) (fun b o hb q => hk b o hb q) fun b hb => hf b (hwr b hb)⟩
  self := hself
/-! ### zip of two -/
def ItZ2 (K : PySem.W.Frag) (t u : Bool) (a b : Addr) (n : Nat) : It :=
  ⟨fun i H => ∃ (xs ys : List V), SqK K H t a xs ∧ SqK K H u b ys ∧ min xs.length ys.length = n ∧ i < n,
    fun i H v H' => ∃ T x y, v = .ref T ∧ H T = none ∧ H' = upd H T (.tup [x, y]) ∧ (∀ xs, SqK K H t a xs → xs[i]? = some x) ∧ ∀ ys, SqK K H u b ys → ys[i]? = some y,
    fun i H => ∃ xs ys : List V, SqK K H t a xs ∧ SqK K H u b ys ∧ min xs.length ys.length = n ∧ n ≤ i⟩
theorem turn_z2 {P : Program} {w : World} {K : PySem.W.Frag} {elts : List Expr} {kk : Nat} {tpos : Pos} {t u : Bool} {a b z TI TO i1 i2 : Addr} {n : Nat} (D : ZipSep2 z TI TO i1 i2 [i1, a] [i2, b]) (ha : a ≠ i1) (hb : b ≠ i2) :
    Turn P w K (.Tuple elts kk tpos) (ItZ2 K t u a b n) [z, TI, TO, i1, i2] z (fun i h => IsZip h z TI TO .none ∧ IsTupOf2 h TI (.ref i1) (.ref i2) ∧ (∃ x y, IsTupOf2 h TO x y) ∧ ItHp t h i1 a i ∧ ItHp u h i2 b i ∧ i ≤ n) := by
  refine turn_walks (wr := [z, TO, i1, i2]) (by simp) (fun c hc => ?_) (fun i h st c hc => ?_) (fun i h h' st k => ?_) ?_ (fun A i s Q E st h => wpAny_pyIter_zip st.1 h)
  · have : c = z ∨ c = TO ∨ c = i1 ∨ c = i2 := by simpa using hc
    rcases this with q | q | q | q <;> simp [q]
  · obtain ⟨hz, hTI, ⟨x, y, hTO⟩, h1, h2, hin⟩ := st
    have e' : c = z ∨ c = TI ∨ c = TO ∨ c = i1 ∨ c = i2 := by simpa using hc
    rcases e' with q | q | q | q | q
    · rw [q]; exact ⟨_, hz, fun v q => nomatch q⟩
    · rw [q]; exact ⟨_, hTI, fun v q => nomatch q⟩
    · rw [q]; exact ⟨_, hTO, fun v q => nomatch q⟩
    · rw [q]; exact ithp_obj h1
    · rw [q]; exact ithp_obj h2
  · obtain ⟨hz, hTI, ⟨x, y, hTO⟩, h1, h2, hin⟩ := st
    exact ⟨k z (by simp) _ hz, k TI (by simp) _ hTI, ⟨x, y, k TO (by simp) _ hTO⟩, ithp_at h1 fun o q => k i1 (by simp) o q, ithp_at h2 (fun o q => k i2 (by simp) o q), hin⟩
  · intro X hP hw hK hh i pins s σ H I st hg
    subst hP hw hK
    obtain ⟨hz, hTI, ⟨x0, y0, hTO⟩, h1, h2, hin⟩ := st
    have key : ∃ xs ys, SqK X.K H t a xs ∧ SqK X.K H u b ys ∧ min xs.length ys.length = n := by
      rcases hg with ⟨xs, ys, q1, q2, q3, _⟩ | ⟨xs, ys, q1, q2, q3, _⟩
      · exact ⟨xs, ys, q1, q2, q3⟩
      · exact ⟨xs, ys, q1, q2, q3⟩
    obtain ⟨xs, ys, hqx, hqy, hn⟩ := key
    obtain ⟨its, rv, p, _⟩ := sqhp_of I hqx
    obtain ⟨its2, rv2, p2, _⟩ := sqhp_of I hqy
    have l1 := rv.length
    have l2 := rv2.length
    have hin1 : X.A.in1.handled = none := hh
    have D1 := draws_k (prog := X.prog) (w := X.w) hin1 t i1 a ha its.toArray
    have D2 := draws_k (prog := X.prog) (w := X.w) hin1 u i2 b hb its2.toArray
    refine ⟨_, _, _, _, _, WalksT.zipD2 D D1 D2, ⟨hz, hTI, ⟨_, _, hTO⟩, ⟨h1, p⟩, ⟨h2, p2⟩⟩, fun hg => ?_, fun hg => ?_, fun hg h ⟨a1, a2, a3, a4, a5⟩ => ⟨a1, a2, a3, a4.1, a5.1, by obtain ⟨_, _, _, _, _, q⟩ := hg; omega⟩, fun vals ⟨x1, x2, y1, y2, e⟩ => ?_⟩
    · obtain ⟨_, _, _, _, _, q⟩ := hg
      show i < min its.toArray.size its2.toArray.size
      simp only [List.size_toArray]
      omega
    · obtain ⟨_, _, _, _, _, q⟩ := hg
      show i = min its.toArray.size its2.toArray.size
      simp only [List.size_toArray]
      omega
    · subst e
      have y1 : its[i]? = some x1 := by simpa using y1
      have y2 : its2[i]? = some x2 := by simpa using y2
      have hi1 : i < xs.length := by rw [l1]; exact (List.getElem?_eq_some_iff.mp y1).1
      have hi2 : i < ys.length := by rw [l2]; exact (List.getElem?_eq_some_iff.mp y2).1
      obtain ⟨u1, hu1, ru1⟩ := rv.get (List.getElem?_eq_getElem hi1)
      obtain ⟨u2, hu2, ru2⟩ := rv2.get (List.getElem?_eq_getElem hi2)
      rw [y1] at hu1
      rw [y2] at hu2
      cases hu1
      cases hu2
      refine ⟨[xs[i], ys[i]], .cons ru1 (.cons ru2 .nil), by show 2 ≤ sizeLine; decide, fun _ T hT => ⟨T, xs[i], ys[i], rfl, hT, rfl, fun l hl => ?_, fun l hl => ?_⟩⟩
      · rw [sqk_inj I hl hqx]; exact List.getElem?_eq_getElem hi1
      · rw [sqk_inj I hl hqy]; exact List.getElem?_eq_getElem hi2
def iZip2 (K : PySem.W.Frag) (ta : TA) : TI := fun σ H R => ta σ H fun vs H1 => ∃ t u a b xs ys, vs = [.ref a, .ref b] ∧ SqK K H1 t a xs ∧ SqK K H1 u b ys ∧ R (ItZ2 K t u a b (min xs.length ys.length)) H1
theorem pi_zip2 {X : Cx} {e e2 : Expr} {ta : TA} {p pos tpos : Pos} {elts : List Expr} {kk : Nat} (hg : Gl X "zip") (hm : X.mg "zip" = none) (ha : PA X [e, e2] ta)
    (hs : starEach [e, e2] X.env = (false, eval e X.env) :: starEach [e2] X.env := by rfl) (hpl : (backTo pos (starEach [e2] X.env)).any (·.1) = false := by rfl) :
    PI X (.Tuple elts kk tpos) (.Call (.Name "zip" p) [e, e2] [] pos) (iZip2 X.K ta) := by
  refine ⟨fun pins s σ H R I h => ?_⟩
  refine Call_ (ld_blt I hg hm PyProof.Rows.boot_zip (PyProof.Rows.callWith_type1 (thn (ha.run pos pins s σ H _ I h) fun us s1 ⟨vs, H1, I1, r1, q1⟩ => ?_) hs hpl))
  obtain ⟨t, u, a, b, xs, ys, ex, hqx, hqy, q⟩ := q1
  subst ex
  cases r1 with
  | cons r rr =>
    cases rr with
    | cons r' rr =>
      cases rr
      cases r
      cases r'
      obtain ⟨its, rv, p1, la⟩ := sqhp_of I1 hqx
      obtain ⟨its2, rv2, p2, lb⟩ := sqhp_of I1 hqy
      refine zip_begins2 (begins_k t a its.toArray) (begins_k u b its2.toArray) p1 p2 fun h' hz hTI hTO h1 h2 hsz hk => wpAny_pyIter_zip hz ?_
      have I2 : L2.Inv X pins σ H1 { s1 with heap := h' } := I1.kept (t' := s1.toks) hk
      refine ⟨s1.heap.objs.size + 4, [s1.heap.objs.size + 4, s1.heap.objs.size + 2, s1.heap.objs.size + 3, s1.heap.objs.size, s1.heap.objs.size + 1], _, _, H1, rfl, I2, turn_z2 (zip_sep2 (fp1 := [a]) (fp2 := [b]) (by simpa using la) (by simpa using lb)) (Nat.ne_of_lt la) (Nat.ne_of_lt (Nat.lt_succ_of_lt lb)), ⟨hz, hTI, ⟨_, _, hTO⟩, ithp_new h1, ithp_new h2, Nat.zero_le _⟩, fun c hcm => ?_, q⟩
      have e' : c = s1.heap.objs.size + 4 ∨ c = s1.heap.objs.size + 2 ∨ c = s1.heap.objs.size + 3 ∨ c = s1.heap.objs.size ∨ c = s1.heap.objs.size + 1 := by simpa using hcm
      have hle : s1.heap.objs.size ≤ c := by
        rcases e' with z | z | z | z | z
        · rw [z]; exact Nat.le_add_right _ _
        · rw [z]; exact Nat.le_add_right _ _
        · rw [z]; exact Nat.le_add_right _ _
        · rw [z]; exact Nat.le_refl _
        · rw [z]; exact Nat.le_add_right _ _
      exact I1.fpOk hle (I1.hok.fresh hle)
/-! ### zip of three -/
def ItZ3 (K : PySem.W.Frag) (t u v : Bool) (a b c : Addr) (n : Nat) : It :=
  ⟨fun i H => ∃ (xs ys zs : List V), SqK K H t a xs ∧ SqK K H u b ys ∧ SqK K H v c zs ∧ min (min xs.length ys.length) zs.length = n ∧ i < n,
    fun i H r H' => ∃ T x y z, r = .ref T ∧ H T = none ∧ H' = upd H T (.tup [x, y, z]) ∧ (∀ xs, SqK K H t a xs → xs[i]? = some x) ∧ (∀ ys, SqK K H u b ys → ys[i]? = some y) ∧ ∀ zs, SqK K H v c zs → zs[i]? = some z,
    fun i H => ∃ xs ys zs : List V, SqK K H t a xs ∧ SqK K H u b ys ∧ SqK K H v c zs ∧ min (min xs.length ys.length) zs.length = n ∧ n ≤ i⟩
theorem turn_z3 {P : Program} {w : World} {K : PySem.W.Frag} {elts : List Expr} {kk : Nat} {tpos : Pos} {t u v : Bool} {a b c z TI TO i1 i2 i3 : Addr} {n : Nat} (D : ZipSep3 z TI TO i1 i2 i3 [i1, a] [i2, b] [i3, c]) (ha : a ≠ i1) (hb : b ≠ i2) (hc : c ≠ i3) :
    Turn P w K (.Tuple elts kk tpos) (ItZ3 K t u v a b c n) [z, TI, TO, i1, i2, i3] z (fun i h => IsZip h z TI TO .none ∧ IsTupOf3 h TI (.ref i1) (.ref i2) (.ref i3) ∧ (∃ x y r, IsTupOf3 h TO x y r) ∧ ItHp t h i1 a i ∧ ItHp u h i2 b i ∧ ItHp v h i3 c i ∧ i ≤ n) := by
  refine turn_walks (wr := [z, TO, i1, i2, i3]) (by simp) (fun c hc => ?_) (fun i h st c hc => ?_) (fun i h h' st k => ?_) ?_ (fun A i s Q E st h => wpAny_pyIter_zip st.1 h)
  · have : c = z ∨ c = TO ∨ c = i1 ∨ c = i2 ∨ c = i3 := by simpa using hc
    rcases this with q | q | q | q | q <;> simp [q]
  · obtain ⟨hz, hTI, ⟨x, y, r, hTO⟩, h1, h2, h3, hin⟩ := st
    have e' : c = z ∨ c = TI ∨ c = TO ∨ c = i1 ∨ c = i2 ∨ c = i3 := by simpa using hc
    rcases e' with q | q | q | q | q | q
    · rw [q]; exact ⟨_, hz, fun v q => nomatch q⟩
    · rw [q]; exact ⟨_, hTI, fun v q => nomatch q⟩
    · rw [q]; exact ⟨_, hTO, fun v q => nomatch q⟩
    · rw [q]; exact ithp_obj h1
    · rw [q]; exact ithp_obj h2
    · rw [q]; exact ithp_obj h3
  · obtain ⟨hz, hTI, ⟨x, y, r, hTO⟩, h1, h2, h3, hin⟩ := st
    exact ⟨k z (by simp) _ hz, k TI (by simp) _ hTI, ⟨x, y, r, k TO (by simp) _ hTO⟩, ithp_at h1 fun o q => k i1 (by simp) o q, ithp_at h2 fun o q => k i2 (by simp) o q, ithp_at h3 (fun o q => k i3 (by simp) o q), hin⟩
  · intro X hP hw hK hh i pins s σ H I st hg
    subst hP hw hK
    obtain ⟨hz, hTI, ⟨x0, y0, r0, hTO⟩, h1, h2, h3, hin⟩ := st
    have key : ∃ xs ys zs, SqK X.K H t a xs ∧ SqK X.K H u b ys ∧ SqK X.K H v c zs ∧ min (min xs.length ys.length) zs.length = n := by
      rcases hg with ⟨xs, ys, zs, q1, q2, q3, q4, _⟩ | ⟨xs, ys, zs, q1, q2, q3, q4, _⟩
      · exact ⟨xs, ys, zs, q1, q2, q3, q4⟩
      · exact ⟨xs, ys, zs, q1, q2, q3, q4⟩
    obtain ⟨xs, ys, zs, hqx, hqy, hqz, hn⟩ := key
    obtain ⟨its, rv, p, _⟩ := sqhp_of I hqx
    obtain ⟨its2, rv2, p2, _⟩ := sqhp_of I hqy
    obtain ⟨its3, rv3, p3, _⟩ := sqhp_of I hqz
    have l1 := rv.length
    have l2 := rv2.length
    have l3 := rv3.length
    have hin1 : X.A.in1.handled = none := hh
    have D1 := draws_k (prog := X.prog) (w := X.w) hin1 t i1 a ha its.toArray
    have D2 := draws_k (prog := X.prog) (w := X.w) hin1 u i2 b hb its2.toArray
    have D3 := draws_k (prog := X.prog) (w := X.w) hin1 v i3 c hc its3.toArray
    refine ⟨_, _, _, _, _, WalksT.zipD3 D D1 D2 D3, ⟨hz, hTI, ⟨_, _, _, hTO⟩, ⟨h1, p⟩, ⟨h2, p2⟩, ⟨h3, p3⟩⟩, fun hg => ?_, fun hg => ?_, fun hg h ⟨a1, a2, a3, a4, a5, a6⟩ => ⟨a1, a2, a3, a4.1, a5.1, a6.1, by obtain ⟨_, _, _, _, _, _, _, q⟩ := hg; omega⟩, fun vals ⟨x1, x2, x3, y1, y2, y3, e⟩ => ?_⟩
    · obtain ⟨_, _, _, _, _, _, _, q⟩ := hg
      show i < min (min its.toArray.size its2.toArray.size) its3.toArray.size
      simp only [List.size_toArray]
      omega
    · obtain ⟨_, _, _, _, _, _, _, q⟩ := hg
      show i = min (min its.toArray.size its2.toArray.size) its3.toArray.size
      simp only [List.size_toArray]
      omega
    · subst e
      have y1 : its[i]? = some x1 := by simpa using y1
      have y2 : its2[i]? = some x2 := by simpa using y2
      have y3 : its3[i]? = some x3 := by simpa using y3
      have hi1 : i < xs.length := by rw [l1]; exact (List.getElem?_eq_some_iff.mp y1).1
      have hi2 : i < ys.length := by rw [l2]; exact (List.getElem?_eq_some_iff.mp y2).1
      have hi3 : i < zs.length := by rw [l3]; exact (List.getElem?_eq_some_iff.mp y3).1
      obtain ⟨u1, hu1, ru1⟩ := rv.get (List.getElem?_eq_getElem hi1)
      obtain ⟨u2, hu2, ru2⟩ := rv2.get (List.getElem?_eq_getElem hi2)
      obtain ⟨u3, hu3, ru3⟩ := rv3.get (List.getElem?_eq_getElem hi3)
      rw [y1] at hu1
      rw [y2] at hu2
      rw [y3] at hu3
      cases hu1
      cases hu2
      cases hu3
      refine ⟨[xs[i], ys[i], zs[i]], .cons ru1 (.cons ru2 (.cons ru3 .nil)), by show 3 ≤ sizeLine; decide, fun _ T hT => ⟨T, xs[i], ys[i], zs[i], rfl, hT, rfl, fun l hl => ?_, fun l hl => ?_, fun l hl => ?_⟩⟩
      · rw [sqk_inj I hl hqx]; exact List.getElem?_eq_getElem hi1
      · rw [sqk_inj I hl hqy]; exact List.getElem?_eq_getElem hi2
      · rw [sqk_inj I hl hqz]; exact List.getElem?_eq_getElem hi3
def iZip3 (K : PySem.W.Frag) (ta : TA) : TI := fun σ H R => ta σ H fun vs H1 => ∃ t u v a b c xs ys zs, vs = [.ref a, .ref b, .ref c] ∧ SqK K H1 t a xs ∧ SqK K H1 u b ys ∧ SqK K H1 v c zs ∧ R (ItZ3 K t u v a b c (min (min xs.length ys.length) zs.length)) H1
theorem pi_zip3 {X : Cx} {e e2 e3 : Expr} {ta : TA} {p pos tpos : Pos} {elts : List Expr} {kk : Nat} (hg : Gl X "zip") (hm : X.mg "zip" = none) (ha : PA X [e, e2, e3] ta)
    (hs : starEach [e, e2, e3] X.env = (false, eval e X.env) :: starEach [e2, e3] X.env := by rfl) (hpl : (backTo pos (starEach [e2, e3] X.env)).any (·.1) = false := by rfl) :
    PI X (.Tuple elts kk tpos) (.Call (.Name "zip" p) [e, e2, e3] [] pos) (iZip3 X.K ta) := by
  refine ⟨fun pins s σ H R I h => ?_⟩
  refine Call_ (ld_blt I hg hm PyProof.Rows.boot_zip (PyProof.Rows.callWith_type1 (thn (ha.run pos pins s σ H _ I h) fun us s1 ⟨vs, H1, I1, r1, q1⟩ => ?_) hs hpl))
  obtain ⟨t, u, v, a, b, c, xs, ys, zs, ex, hqx, hqy, hqz, q⟩ := q1
  subst ex
  cases r1 with
  | cons r rr =>
    cases rr with
    | cons r' rr =>
      cases rr with
      | cons r'' rr =>
        cases rr
        cases r
        cases r'
        cases r''
        obtain ⟨its, rv, p1, la⟩ := sqhp_of I1 hqx
        obtain ⟨its2, rv2, p2, lb⟩ := sqhp_of I1 hqy
        obtain ⟨its3, rv3, p3, lc⟩ := sqhp_of I1 hqz
        refine zip_begins3 (begins_k t a its.toArray) (begins_k u b its2.toArray) (begins_k v c its3.toArray) p1 p2 p3 fun h' hz hTI hTO h1 h2 h3 hsz hk => wpAny_pyIter_zip hz ?_
        have I2 : L2.Inv X pins σ H1 { s1 with heap := h' } := I1.kept (t' := s1.toks) hk
        refine ⟨s1.heap.objs.size + 5, [s1.heap.objs.size + 5, s1.heap.objs.size + 3, s1.heap.objs.size + 4, s1.heap.objs.size, s1.heap.objs.size + 1, s1.heap.objs.size + 2], _, _, H1, rfl, I2, turn_z3 (zip_sep3 (fp1 := [a]) (fp2 := [b]) (fp3 := [c]) (by simpa using la) (by simpa using lb) (by simpa using lc)) (Nat.ne_of_lt la) (Nat.ne_of_lt (Nat.lt_succ_of_lt lb)) (Nat.ne_of_lt (Nat.lt_succ_of_lt (Nat.lt_succ_of_lt lc))), ⟨hz, hTI, ⟨_, _, _, hTO⟩, ithp_new h1, ithp_new h2, ithp_new h3, Nat.zero_le _⟩, fun d hcm => ?_, q⟩
        have e' : d = s1.heap.objs.size + 5 ∨ d = s1.heap.objs.size + 3 ∨ d = s1.heap.objs.size + 4 ∨ d = s1.heap.objs.size ∨ d = s1.heap.objs.size + 1 ∨ d = s1.heap.objs.size + 2 := by simpa using hcm
        have hle : s1.heap.objs.size ≤ d := by
          rcases e' with z | z | z | z | z | z
          · rw [z]; exact Nat.le_add_right _ _
          · rw [z]; exact Nat.le_add_right _ _
          · rw [z]; exact Nat.le_add_right _ _
          · rw [z]; exact Nat.le_refl _
          · rw [z]; exact Nat.le_add_right _ _
          · rw [z]; exact Nat.le_add_right _ _
        exact I1.fpOk hle (I1.hok.fresh hle)
end DL
/-! Dl18: zip and enumerate over data. -/
namespace DL
open PySem PySem.Spec PyProof.Rows L2
def isTupD : D → Bool
  | .tup _ => true | _ => false
theorem sqk_data {K : PySem.W.Frag} {H0 H : Hp} {W : DW} {d : D} {p : Addr} {xs : List D} (dv : DV K H0 d (.ref p)) (e : Ext K H0 H) (rl : Rel K H W) (h : seqD W d = some xs) : ∃ us, SqK K H (isTupD d) p us ∧ DVs K H xs us := by
  obtain ⟨q, us, e1, r, ⟨s, nt⟩ | ⟨s, et⟩⟩ := seqD.ok rl h (DV.ext e dv)
  · cases e1
    refine ⟨us, ?_, r⟩
    have : isTupD d = false := by
      cases d with
      | tup ys => exact absurd rfl (nt ys)
      | _ => rfl
    rw [this]; exact s
  · cases e1
    subst et
    exact ⟨us, SqT.of s, r⟩
def zipD (xs ys : List D) : List D := List.zipWith (fun a b => .tup [a, b]) xs ys
def fZip2 (r : FA) : FI := fun δ W R => r δ W fun vs W1 => ∃ x y xs ys, vs = [x, y] ∧ seqD W1 x = some xs ∧ seqD W1 y = some ys ∧ R (zipD xs ys) (fun W => seqD W x = some xs ∧ seqD W y = some ys) W1
theorem it_z2 {K : PySem.W.Frag} {x y : D} {a b : Addr} {xs ys : List D} {H0 : Hp} (vx : DV K H0 x (.ref a)) (vy : DV K H0 y (.ref b)) : ItOk K (ItZ2 K (isTupD x) (isTupD y) a b (min xs.length ys.length)) (zipD xs ys) (fun W => seqD W x = some xs ∧ seqD W y = some ys) H0 where
  go H W i e rl kp hi := by
    obtain ⟨us, s1, d1⟩ := sqk_data vx e rl kp.1
    obtain ⟨ws, s2, d2⟩ := sqk_data vy e rl kp.2
    exact ⟨us, ws, s1, s2, by rw [d1.length, d2.length], by simpa [zipD] using hi⟩
  yld H W i r H' e rl kp hi hy := by
    obtain ⟨us, s1, d1⟩ := sqk_data vx e rl kp.1
    obtain ⟨ws, s2, d2⟩ := sqk_data vy e rl kp.2
    obtain ⟨T, u, w, rfl, hT, rfl, f1, f2⟩ := hy
    have hm : i < min xs.length ys.length := by simpa [zipD] using hi
    have g1 : xs[i]? = some (xs[i]'(by omega)) := List.getElem?_eq_getElem (by omega)
    have g2 : ys[i]? = some (ys[i]'(by omega)) := List.getElem?_eq_getElem (by omega)
    obtain ⟨v1, e1, r1⟩ := d1.get g1
    obtain ⟨v2, e2, r2⟩ := d2.get g2
    rw [f1 us s1] at e1
    rw [f2 ws s2] at e2
    cases e1
    cases e2
    refine ⟨.tup [xs[i]'(by omega), ys[i]'(by omega)], ?_, Ext.new hT, rl.ext_new hT, dvT upd_same ⟨_, _, rfl, DV.ext (Ext.new hT) r1, _, _, rfl, DV.ext (Ext.new hT) r2, rfl⟩⟩
    simp [zipD, List.getElem?_zipWith, g1, g2]
  stop H W i e rl kp hi := by
    obtain ⟨us, s1, d1⟩ := sqk_data vx e rl kp.1
    obtain ⟨ws, s2, d2⟩ := sqk_data vy e rl kp.2
    exact ⟨us, ws, s1, s2, by rw [d1.length, d2.length], by simpa [zipD] using hi⟩
theorem si_zip2 {X : Cx} {e e2 : Expr} {elts : List Expr} {kk : Nat} {p pos tpos : Pos} {r : FA} (hm : X.mg "zip" = none) (ha : SA X [e, e2] r) (hg : Gl X "zip" := by rfl)
    (hs : starEach [e, e2] X.env = (false, eval e X.env) :: starEach [e2] X.env := by rfl) (hpl : (backTo pos (starEach [e2] X.env)).any (·.1) = false := by rfl) : SI X (.Tuple elts kk tpos) (.Call (.Name "zip" p) [e, e2] [] pos) (fZip2 r) :=
  PIimp (pi_zip2 hg hm ha hs hpl) fun σ H R ⟨δ, W, Q', er, rl, h, k⟩ => ⟨δ, W, _, er, rl, h, fun vs ds H' W' e' r' v' ⟨x, y, xs, ys, ed, w1, w2, q⟩ => by
    subst ed
    obtain ⟨v1, v2, rfl, h1, h2⟩ := v'.c2
    obtain ⟨a, us, rfl, _⟩ := seqD.ok r' w1 h1
    obtain ⟨b, ws, rfl, _⟩ := seqD.ok r' w2 h2
    obtain ⟨us, s1, d1⟩ := sqk_data h1 (Ext.refl H') r' w1
    obtain ⟨ws, s2, d2⟩ := sqk_data h2 (Ext.refl H') r' w2
    refine ⟨isTupD x, isTupD y, a, b, us, ws, rfl, s1, s2, ?_⟩
    rw [d1.length, d2.length]
    exact k _ _ _ H' W' e' r' q (it_z2 h1 h2)⟩
def zip3D : List D → List D → List D → List D
  | a :: as, b :: bs, c :: cs => .tup [a, b, c] :: zip3D as bs cs
  | _, _, _ => []
theorem zip3D_len : ∀ (xs ys zs : List D), (zip3D xs ys zs).length = min (min xs.length ys.length) zs.length
  | a :: as, b :: bs, c :: cs => by simp only [zip3D, List.length_cons, zip3D_len]; omega
  | [], _, _ => by simp [zip3D]
  | _ :: _, [], _ => by simp [zip3D]
  | _ :: _, _ :: _, [] => by simp [zip3D]
theorem zip3D_get : ∀ {xs ys zs : List D} {i : Nat} {a b c : D}, xs[i]? = some a → ys[i]? = some b → zs[i]? = some c → (zip3D xs ys zs)[i]? = some (.tup [a, b, c])
  | x :: xs, y :: ys, z :: zs, 0, a, b, c, h1, h2, h3 => by simp at h1 h2 h3; subst h1 h2 h3; simp [zip3D]
  | x :: xs, y :: ys, z :: zs, i + 1, a, b, c, h1, h2, h3 => by
    simp at h1 h2 h3
    simp only [zip3D, List.getElem?_cons_succ]
    exact zip3D_get h1 h2 h3
  | [], _, _, _, _, _, _, h, _, _ => by simp at h
  | _ :: _, [], _, _, _, _, _, _, h, _ => by simp at h
  | _ :: _, _ :: _, [], _, _, _, _, _, _, h => by simp at h
def fZip3 (r : FA) : FI := fun δ W R => r δ W fun vs W1 => ∃ x y z xs ys zs, vs = [x, y, z] ∧ seqD W1 x = some xs ∧ seqD W1 y = some ys ∧ seqD W1 z = some zs ∧ R (zip3D xs ys zs) (fun W => seqD W x = some xs ∧ seqD W y = some ys ∧ seqD W z = some zs) W1
theorem it_z3 {K : PySem.W.Frag} {x y z : D} {a b c : Addr} {xs ys zs : List D} {H0 : Hp} (vx : DV K H0 x (.ref a)) (vy : DV K H0 y (.ref b)) (vz : DV K H0 z (.ref c)) : ItOk K (ItZ3 K (isTupD x) (isTupD y) (isTupD z) a b c (min (min xs.length ys.length) zs.length)) (zip3D xs ys zs) (fun W => seqD W x = some xs ∧ seqD W y = some ys ∧ seqD W z = some zs) H0 where
  go H W i e rl kp hi := by
    obtain ⟨us, s1, d1⟩ := sqk_data vx e rl kp.1
    obtain ⟨ws, s2, d2⟩ := sqk_data vy e rl kp.2.1
    obtain ⟨rs, s3, d3⟩ := sqk_data vz e rl kp.2.2
    exact ⟨us, ws, rs, s1, s2, s3, by rw [d1.length, d2.length, d3.length], by rw [zip3D_len] at hi; exact hi⟩
  yld H W i r H' e rl kp hi hy := by
    obtain ⟨us, s1, d1⟩ := sqk_data vx e rl kp.1
    obtain ⟨ws, s2, d2⟩ := sqk_data vy e rl kp.2.1
    obtain ⟨rs, s3, d3⟩ := sqk_data vz e rl kp.2.2
    obtain ⟨T, u, w, q, rfl, hT, rfl, f1, f2, f3⟩ := hy
    rw [zip3D_len] at hi
    have g1 : xs[i]? = some (xs[i]'(by omega)) := List.getElem?_eq_getElem (by omega)
    have g2 : ys[i]? = some (ys[i]'(by omega)) := List.getElem?_eq_getElem (by omega)
    have g3 : zs[i]? = some (zs[i]'(by omega)) := List.getElem?_eq_getElem (by omega)
    obtain ⟨v1, e1, r1⟩ := d1.get g1
    obtain ⟨v2, e2, r2⟩ := d2.get g2
    obtain ⟨v3, e3, r3⟩ := d3.get g3
    rw [f1 us s1] at e1
    rw [f2 ws s2] at e2
    rw [f3 rs s3] at e3
    cases e1
    cases e2
    cases e3
    exact ⟨_, zip3D_get g1 g2 g3, Ext.new hT, rl.ext_new hT, dvT upd_same ⟨_, _, rfl, DV.ext (Ext.new hT) r1, _, _, rfl, DV.ext (Ext.new hT) r2, _, _, rfl, DV.ext (Ext.new hT) r3, rfl⟩⟩
  stop H W i e rl kp hi := by
    obtain ⟨us, s1, d1⟩ := sqk_data vx e rl kp.1
    obtain ⟨ws, s2, d2⟩ := sqk_data vy e rl kp.2.1
    obtain ⟨rs, s3, d3⟩ := sqk_data vz e rl kp.2.2
    exact ⟨us, ws, rs, s1, s2, s3, by rw [d1.length, d2.length, d3.length], by rw [zip3D_len] at hi; exact hi⟩
theorem DVs.c3 {K : PySem.W.Frag} {H : Hp} {x y z : D} {vs : List V} (h : DVs K H [x, y, z] vs) : ∃ a b c, vs = [a, b, c] ∧ DV K H x a ∧ DV K H y b ∧ DV K H z c := by
  obtain ⟨a, r, rfl, h1, h2⟩ := h
  obtain ⟨b, c, rfl, h3, h4⟩ := DVs.c2 h2
  exact ⟨a, b, c, rfl, h1, h3, h4⟩
theorem si_zip3 {X : Cx} {e e2 e3 : Expr} {elts : List Expr} {kk : Nat} {p pos tpos : Pos} {r : FA} (hm : X.mg "zip" = none) (ha : SA X [e, e2, e3] r) (hg : Gl X "zip" := by rfl)
    (hs : starEach [e, e2, e3] X.env = (false, eval e X.env) :: starEach [e2, e3] X.env := by rfl) (hpl : (backTo pos (starEach [e2, e3] X.env)).any (·.1) = false := by rfl) : SI X (.Tuple elts kk tpos) (.Call (.Name "zip" p) [e, e2, e3] [] pos) (fZip3 r) :=
  PIimp (pi_zip3 hg hm ha hs hpl) fun σ H R ⟨δ, W, Q', er, rl, h, k⟩ => ⟨δ, W, _, er, rl, h, fun vs ds H' W' e' r' v' ⟨x, y, z, xs, ys, zs, ed, w1, w2, w3, q⟩ => by
    subst ed
    obtain ⟨v1, v2, v3, rfl, h1, h2, h3⟩ := v'.c3
    obtain ⟨a, us, rfl, _⟩ := seqD.ok r' w1 h1
    obtain ⟨b, ws, rfl, _⟩ := seqD.ok r' w2 h2
    obtain ⟨c, rs, rfl, _⟩ := seqD.ok r' w3 h3
    obtain ⟨us, s1, d1⟩ := sqk_data h1 (Ext.refl H') r' w1
    obtain ⟨ws, s2, d2⟩ := sqk_data h2 (Ext.refl H') r' w2
    obtain ⟨rs, s3, d3⟩ := sqk_data h3 (Ext.refl H') r' w3
    refine ⟨isTupD x, isTupD y, isTupD z, a, b, c, us, ws, rs, rfl, s1, s2, s3, ?_⟩
    rw [d1.length, d2.length, d3.length]
    exact k _ _ _ H' W' e' r' q (it_z3 h1 h2 h3)⟩
end DL
/-! Dl19: enumerate over lists and tuples, from 0 or another number; o[i] op= e. -/
namespace DL
open PySem PySem.Spec PyProof.Rows L2
def ItEn (K : PySem.W.Frag) (t : Bool) (a : Addr) (k0 : Int) (n : Nat) : It :=
  ⟨fun i H => ∃ (xs : List V), SqK K H t a xs ∧ xs.length = n ∧ i < n,
    fun i H r H' => ∃ T x, r = .ref T ∧ H T = none ∧ H' = upd H T (.tup [.int (k0 + (i : Nat)), x]) ∧ ∀ xs, SqK K H t a xs → xs[i]? = some x,
    fun i H => ∃ xs : List V, SqK K H t a xs ∧ xs.length = n ∧ n ≤ i⟩
theorem turn_en {P : Program} {w : World} {K : PySem.W.Frag} {elts : List Expr} {kk : Nat} {tpos : Pos} {t : Bool} {a e it : Addr} {k0 : Int} {n : Nat} (ha : a ≠ it) (hei : e ≠ it) (hea : e ≠ a) :
    Turn P w K (.Tuple elts kk tpos) (ItEn K t a k0 n) [e, it] e (fun i h => (∃ old, IsEnum h e it (k0 + (i : Int)) old) ∧ ItHp t h it a i ∧ i ≤ n) := by
  refine turn_walks (wr := [e, it]) (by simp) (fun c hc => hc) (fun i h st c hc => ?_) (fun i h h' st k => ?_) ?_ (fun A i s Q E st h => let ⟨⟨_, he⟩, _⟩ := st; wpAny_pyIter_enum he h)
  · obtain ⟨⟨old, he⟩, h1, _⟩ := st
    rcases List.mem_cons.mp hc with q | q
    · rw [q]; exact ⟨_, he, fun v q => nomatch q⟩
    · rw [List.mem_singleton.mp q]; exact ithp_obj h1
  · obtain ⟨⟨old, he⟩, h1, hn⟩ := st
    exact ⟨⟨old, k e (by simp) _ he⟩, ithp_at h1 (fun o q => k it (by simp) o q), hn⟩
  · intro X hP hw hK hh i pins s σ H I st hg
    subst hP hw hK
    obtain ⟨⟨old, he⟩, h1, hin⟩ := st
    have key : ∃ xs, SqK X.K H t a xs ∧ xs.length = n := by
      rcases hg with ⟨xs, q1, q2, _⟩ | ⟨xs, q1, q2, _⟩
      · exact ⟨xs, q1, q2⟩
      · exact ⟨xs, q1, q2⟩
    obtain ⟨xs, hqx, hn⟩ := key
    obtain ⟨its, rv, p, _⟩ := sqhp_of I hqx
    have l1 := rv.length
    have D1 := draws_k (prog := X.prog) (w := X.w) (A := X.A.in1) hh t it a ha its.toArray
    refine ⟨_, _, _, _, _, WalksT.enumFrom k0 D1 e hei (by simp [hei, hea]) (by simp), ⟨⟨_, he⟩, h1, p⟩, fun hg => ?_, fun hg => ?_, fun hg h ⟨a1, a2⟩ => ⟨a1, a2.1, by obtain ⟨_, _, _, q⟩ := hg; omega⟩, fun vals ⟨tk, x, y1, e1⟩ => ?_⟩
    · obtain ⟨_, _, _, q⟩ := hg
      show i < its.toArray.size
      simp only [List.size_toArray]
      omega
    · obtain ⟨_, _, _, q⟩ := hg
      show i = its.toArray.size
      simp only [List.size_toArray]
      omega
    · subst e1
      have y1 : its[i]? = some x := by simpa using y1
      have hi1 : i < xs.length := by rw [l1]; exact (List.getElem?_eq_some_iff.mp y1).1
      obtain ⟨u1, hu1, ru1⟩ := rv.get (List.getElem?_eq_getElem hi1)
      rw [y1] at hu1
      cases hu1
      refine ⟨[.int (k0 + (i : Nat)), xs[i]], .cons ⟨_, rfl⟩ (.cons ru1 .nil), by show 2 ≤ sizeLine; decide, fun _ T hT => ⟨T, xs[i], rfl, hT, rfl, fun l hl => ?_⟩⟩
      rw [sqk_inj I hl hqx]; exact List.getElem?_eq_getElem hi1
set_option maxHeartbeats 2000000 in
theorem meets_enum1 {v : Value} {o : Obj} {G : Heap → Prop} (B : Begins v o G) :
    Meets (Builtin.«enumerate.__new__» ⟨[.type "enumerate", v], []⟩) (fun _ R s => G s.heap ∧
      R (.ok (.ret (.ref (s.heap.push o).objs.size))) { s with heap := (s.heap.push o).push { cls := .type "enumerate", data := .fields #[.none, .bool false, .ref s.heap.objs.size, rawInt 0, .none, .none] } }) :=
  .of_wp fun prog w A R s hs => by
    obtain ⟨hp, g, d, tk, os⟩ := s; obtain ⟨g1, hs⟩ := hs
    have hsub := sub_enumerate
    have step : ∀ {A' : Around} {E : Value → Shared → Prop} {Q : Value → Shared → Prop}, Q (.ref hp.objs.size) ⟨hp.push o, g, d, tk, os⟩ → wpAny (model prog w) A' (pyIter v) Q E ⟨hp, g, d, tk, os⟩ :=
      fun q => B.iter prog w _ _ ⟨hp, g, d, tk, os⟩ _ g1 q
    wp_walk using step
    refine wpAny_stack_any fun st => wpAny_pure ?_
    split
    · rename_i c _ _ _ _ _
      cases hc : (c == Value.type "enumerate") <;> (wp_walk using step; exact ⟨_, rfl, hs⟩)
    · wp_walk using step
      exact ⟨_, rfl, hs⟩
theorem enum1_begins {prog : Program} {w : World} {A : Around} {E : Value → Shared → Prop} {s : Shared} {v : Value} {o : Obj} {G : Heap → Prop} {Q : Value → Shared → Prop} (B : Begins v o G) (g1 : G s.heap)
    (h : ∀ h', IsEnum h' (s.heap.objs.size + 1) s.heap.objs.size 0 .none → h'.get? s.heap.objs.size = some o → h'.objs.size = s.heap.objs.size + 2 →
      (∀ b o, s.heap.get? b = some o → h'.get? b = some o) → Q (.ref (s.heap.objs.size + 1)) { s with heap := h' }) :
    wpAny (model prog w) A (call (.type "enumerate") [v]) Q E s := by
  refine callType_new F.called_enumerate (by decide) (F.typeCall_enumerate_1 _) (F.newCall_enumerate_1 _) (fun obj => F.args_object_init_2 obj _) F.entry_enumerate_new (meets_enum1 B) ⟨g1, ?_⟩
  have hz : (s.heap.push o).objs.size = s.heap.objs.size + 1 := Heap.size_push ..
  show _ ∧ _
  rw [hz]
  have hq := Heap.get?_push_size (s.heap.push o) (o := { cls := .type "enumerate", data := .fields #[.none, .bool false, .ref s.heap.objs.size, rawInt 0, .none, .none] }) rfl
  rw [hz] at hq
  exact ⟨⟨_, hq, rfl⟩, h _ hq (Heap.get?_push_of_some _ (Heap.get?_push_size _ B.free)) (by rw [Heap.size_push, hz]) fun b o x => Heap.get?_push_of_some _ (Heap.get?_push_of_some _ x)⟩
def iEn1 (K : PySem.W.Frag) (ta : TA) : TI := fun σ H R => ta σ H fun vs H1 => ∃ t a xs, vs = [.ref a] ∧ SqK K H1 t a xs ∧ R (ItEn K t a 0 xs.length) H1
def iEn2 (K : PySem.W.Frag) (ta : TA) : TI := fun σ H R => ta σ H fun vs H1 => ∃ t a xs k, vs = [.ref a, .int k] ∧ -1000000 ≤ k ∧ k ≤ 1000000 ∧ SqK K H1 t a xs ∧ R (ItEn K t a k xs.length) H1
theorem en_fp {X : Cx} {pins : List (Addr × Obj)} {σ : L2.St} {H : Hp} {s s1 : Shared} (I : L2.Inv X pins σ H s) : ∀ b ∈ [s.heap.objs.size + 1, s.heap.objs.size], FpOk X pins H b := fun b hb => by
  have hle : s.heap.objs.size ≤ b := by
    rcases List.mem_cons.mp hb with q | q
    · rw [q]; exact Nat.le_add_right _ _
    · rw [List.mem_singleton.mp q]; exact Nat.le_refl _
  exact I.fpOk hle (I.hok.fresh hle)
theorem pi_en1 {X : Cx} {e : Expr} {ta : TA} {p pos tpos : Pos} {elts : List Expr} {kk : Nat} (hg : Gl X "enumerate") (hm : X.mg "enumerate" = none) (ha : PA X [e] ta) (hs : starEach [e] X.env = [(false, eval e X.env)] := by rfl) :
    PI X (.Tuple elts kk tpos) (.Call (.Name "enumerate" p) [e] [] pos) (iEn1 X.K ta) := by
  refine ⟨fun pins s σ H R I h => ?_⟩
  refine Call_ (ld_blt I hg hm boot_enumerate (PyProof.Rows.callWith_type1 (thn (ha.run pos pins s σ H _ I h) fun us s1 ⟨vs, H1, I1, r1, q1⟩ => ?_) hs rfl))
  obtain ⟨t, a, xs, ex, hq, q⟩ := q1
  subst ex
  cases r1 with
  | cons r rr =>
    cases rr
    cases r
    obtain ⟨its, rv, p', la⟩ := sqhp_of I1 hq
    refine enum1_begins (begins_k t a its.toArray) p' fun h' he h1 hsz hk => wpAny_pyIter_enum he ?_
    have I2 : L2.Inv X pins σ H1 { s1 with heap := h' } := I1.kept (t' := s1.toks) hk
    exact ⟨s1.heap.objs.size + 1, [s1.heap.objs.size + 1, s1.heap.objs.size], _, _, H1, rfl, I2, turn_en (Nat.ne_of_lt la) (Nat.succ_ne_self _) (Ne.symm (Nat.ne_of_lt (Nat.lt_succ_of_lt la))), ⟨⟨.none, by simpa using he⟩, ithp_new h1, Nat.zero_le _⟩, en_fp (s1 := s1) I1, q⟩
theorem pi_en2 {X : Cx} {e e2 : Expr} {ta : TA} {p pos tpos : Pos} {elts : List Expr} {kk : Nat} (hg : Gl X "enumerate") (hm : X.mg "enumerate" = none) (ha : PA X [e, e2] ta)
    (hs : starEach [e, e2] X.env = (false, eval e X.env) :: starEach [e2] X.env := by rfl) (hpl : (backTo pos (starEach [e2] X.env)).any (·.1) = false := by rfl) :
    PI X (.Tuple elts kk tpos) (.Call (.Name "enumerate" p) [e, e2] [] pos) (iEn2 X.K ta) := by
  refine ⟨fun pins s σ H R I h => ?_⟩
  refine Call_ (ld_blt I hg hm boot_enumerate (PyProof.Rows.callWith_type1 (thn (ha.run pos pins s σ H _ I h) fun us s1 ⟨vs, H1, I1, r1, q1⟩ => ?_) hs hpl))
  obtain ⟨t, a, xs, k, ex, b1, b2, hq, q⟩ := q1
  subst ex
  cases r1 with
  | cons r rr =>
    cases rr with
    | cons r' rr =>
      cases rr
      cases r
      obtain ⟨tk, rfl⟩ := r'
      obtain ⟨its, rv, p', la⟩ := sqhp_of I1 hq
      refine enum_begins (begins_k t a its.toArray) p' (by omega) (by omega) fun h' he h1 hsz hk => wpAny_pyIter_enum he ?_
      have I2 : L2.Inv X pins σ H1 { s1 with heap := h' } := I1.kept (t' := s1.toks) hk
      exact ⟨s1.heap.objs.size + 1, [s1.heap.objs.size + 1, s1.heap.objs.size], _, _, H1, rfl, I2, turn_en (Nat.ne_of_lt la) (Nat.succ_ne_self _) (Ne.symm (Nat.ne_of_lt (Nat.lt_succ_of_lt la))), ⟨⟨.none, by simpa using he⟩, ithp_new h1, Nat.zero_le _⟩, en_fp (s1 := s1) I1, q⟩
/-- with numbers from k on -/
def enF (k : Int) (xs : List D) : List D := (List.range xs.length).map fun i => .tup [.int (k + (i : Nat)), xs.getD i .non]
theorem enF_len {k : Int} {xs : List D} : (enF k xs).length = xs.length := by simp [enF]
theorem enF_get {k : Int} {xs : List D} {i : Nat} {d : D} (h : xs[i]? = some d) : (enF k xs)[i]? = some (.tup [.int (k + (i : Nat)), d]) := by
  have hi := (List.getElem?_eq_some_iff.mp h).1
  have e : xs.getD i .non = d := by simp [List.getD, h]
  simp only [enF, List.getElem?_map, List.getElem?_range hi, Option.map_some, e]
theorem it_en {K : PySem.W.Frag} {x : D} {a : Addr} {k : Int} {xs : List D} {H0 : Hp} (vx : DV K H0 x (.ref a)) : ItOk K (ItEn K (isTupD x) a k xs.length) (enF k xs) (fun W => seqD W x = some xs) H0 where
  go H W i e rl kp hi := by
    obtain ⟨us, s1, d1⟩ := sqk_data vx e rl kp
    exact ⟨us, s1, d1.length, by rw [enF_len] at hi; exact hi⟩
  yld H W i r H' e rl kp hi hy := by
    obtain ⟨us, s1, d1⟩ := sqk_data vx e rl kp
    obtain ⟨T, u, rfl, hT, rfl, f1⟩ := hy
    rw [enF_len] at hi
    have g1 : xs[i]? = some xs[i] := List.getElem?_eq_getElem hi
    obtain ⟨v1, e1, r1⟩ := d1.get g1
    rw [f1 us s1] at e1
    cases e1
    exact ⟨_, enF_get g1, Ext.new hT, rl.ext_new hT, dvT upd_same ⟨_, _, rfl, rfl, _, _, rfl, DV.ext (Ext.new hT) r1, rfl⟩⟩
  stop H W i e rl kp hi := by
    obtain ⟨us, s1, d1⟩ := sqk_data vx e rl kp
    exact ⟨us, s1, d1.length, by rw [enF_len] at hi; exact hi⟩
def fEn1 (r : FA) : FI := fun δ W R => r δ W fun vs W1 => ∃ x xs, vs = [x] ∧ seqD W1 x = some xs ∧ R (enF 0 xs) (fun W => seqD W x = some xs) W1
def fEn2 (r : FA) : FI := fun δ W R => r δ W fun vs W1 => ∃ x k xs, vs = [x, .int k] ∧ -1000000 ≤ k ∧ k ≤ 1000000 ∧ seqD W1 x = some xs ∧ R (enF k xs) (fun W => seqD W x = some xs) W1
theorem si_en1 {X : Cx} {e : Expr} {elts : List Expr} {kk : Nat} {p pos tpos : Pos} {r : FA} (hm : X.mg "enumerate" = none) (ha : SA X [e] r) (hg : Gl X "enumerate" := by rfl) (hs : starEach [e] X.env = [(false, eval e X.env)] := by rfl) : SI X (.Tuple elts kk tpos) (.Call (.Name "enumerate" p) [e] [] pos) (fEn1 r) :=
  PIimp (pi_en1 hg hm ha hs) fun σ H R ⟨δ, W, Q', er, rl, h, k⟩ => ⟨δ, W, _, er, rl, h, fun vs ds H' W' e' r' v' ⟨x, xs, ed, w1, q⟩ => by
    subst ed
    obtain ⟨v1, rfl, h1⟩ := v'.c1
    obtain ⟨a, us, rfl, _⟩ := seqD.ok r' w1 h1
    obtain ⟨us, s1, d1⟩ := sqk_data h1 (Ext.refl H') r' w1
    refine ⟨isTupD x, a, us, rfl, s1, ?_⟩
    rw [d1.length]
    exact k _ _ _ H' W' e' r' q (it_en h1)⟩
theorem si_en2 {X : Cx} {e e2 : Expr} {elts : List Expr} {kk : Nat} {p pos tpos : Pos} {r : FA} (hm : X.mg "enumerate" = none) (ha : SA X [e, e2] r) (hg : Gl X "enumerate" := by rfl)
    (hs : starEach [e, e2] X.env = (false, eval e X.env) :: starEach [e2] X.env := by rfl) (hpl : (backTo pos (starEach [e2] X.env)).any (·.1) = false := by rfl) : SI X (.Tuple elts kk tpos) (.Call (.Name "enumerate" p) [e, e2] [] pos) (fEn2 r) :=
  PIimp (pi_en2 hg hm ha hs hpl) fun σ H R ⟨δ, W, Q', er, rl, h, k⟩ => ⟨δ, W, _, er, rl, h, fun vs ds H' W' e' r' v' ⟨x, m, xs, ed, b1, b2, w1, q⟩ => by
    subst ed
    obtain ⟨v1, v2, rfl, h1, h2⟩ := v'.c2
    cases h2
    obtain ⟨a, us, rfl, _⟩ := seqD.ok r' w1 h1
    obtain ⟨us, s1, d1⟩ := sqk_data h1 (Ext.refl H') r' w1
    refine ⟨isTupD x, a, us, m, rfl, b1, b2, s1, ?_⟩
    rw [d1.length]
    exact k _ _ _ H' W' e' r' q (it_en h1)⟩
/-! ### o[i] op= e -/
def rGetL (K : PySem.W.Frag) : V → V → Hp → VK → Prop := rIxL K
end DL
/-! Dl20: o[i] op= e, of lists and dicts. -/
namespace DL
open PySem PySem.Spec PyProof.Rows L2
section
variable {X : Cx} {a b c e o i : Expr} {pos tpos : Pos} {f g h : FE}
/-- a list at a place from 0 on -/
def rGL (K : PySem.W.Frag) : V → V → Hp → VK → Prop := fun x y H Q => ∃ p xs k v, x = .ref p ∧ y = .int k ∧ 0 ≤ k ∧ SqL K H p xs ∧ xs[k.toNat]? = some v ∧ Q v H
theorem gl_ok : PGet X (rGL X.K) := fun pins s σ H x y ov iv Q I rx ry ⟨p, xs, k, z, e1, e2, h0, hq, he, q⟩ => by
  subst e1; subst e2
  cases rx
  obtain ⟨t, rfl⟩ := ry
  obtain ⟨its, r, pl, hz⟩ := I.list hq
  obtain ⟨w, ew, rw'⟩ := r.get he
  have hl := r.length
  have hk := (List.getElem?_eq_some_iff.mp he).1
  have hn := line63
  exact wpAny_getItem_list pl.isList h0 (by simp [List.size_toArray]; omega) (by simpa using ew) ⟨z, H, I, rw', q⟩
def rGD : V → V → Hp → VK → Prop := fun x y H Q => ∃ p v, x = .ref p ∧ DGet H p y (some v) ∧ Q v H
theorem gd_ok (hu : X.A.units + 1 < cLine) : PGet X rGD := fun pins s σ H x y ov iv Q I rx ry ⟨p, z, e1, g, q⟩ => by
  subst e1
  cases rx
  exact d_getItem hu I g ry fun w' s3 I3 rw' => ⟨z, H, I3, rw', q⟩
theorem pget_or {t u : V → V → Hp → VK → Prop} (h : PGet X t) (h' : PGet X u) : PGet X (fun x y H Q => t x y H Q ∨ u x y H Q) := fun pins s σ H x y ov iv Q I rx ry q => by
  rcases q with q | q
  · exact h pins s σ H x y ov iv Q I rx ry q
  · exact h' pins s σ H x y ov iv Q I rx ry q
/-- by data -/
def pGet : R2D := fun x y W Q => match x with
  | .ref a => (∃ xs k d, y = .int k ∧ 0 ≤ k ∧ W a = some (.lst xs) ∧ xs[k.toNat]? = some d ∧ Q d W) ∨ (∃ kvs k d, W a = some (.dic kvs) ∧ keyD y = some k ∧ valD kvs k = some d ∧ Q d W) ∨ ∃ kvs k d, W a = some (.dit kvs) ∧ tkeyD y = some k ∧ valD kvs k = some d ∧ Q d W
  | _ => False
theorem o_get {K : PySem.W.Frag} : Op2 K (fun x y H Q => rGL K x y H Q ∨ rGD x y H Q) pGet := fun H W x y dx dy Q Q' rl vx vy h k => by
  unfold pGet at h
  split at h
  · cases vx
    rcases h with ⟨xs, n, d, e, h0, w, hd, q⟩ | ⟨kvs, kk, d, w, hk, hv, q⟩ | ⟨kvs, kk, d, w, hk, hv, q⟩
    · subst e
      cases vy
      obtain ⟨us, s1, d1⟩ := rl _ _ w
      obtain ⟨v, e1, r1⟩ := d1.get hd
      exact .inl ⟨_, us, n, v, rfl, rfl, h0, SqL.of s1, e1, k.at rl q r1⟩
    · obtain ⟨ws, s1, d1⟩ := rl _ _ w
      have ey := keyD.ok hk vy
      subst ey
      obtain ⟨v, e1, r1⟩ := d1.val.1 d hv
      exact .inr ⟨_, v, rfl, .inl ⟨ws, kk, .inl s1, rfl, e1.symm⟩, k.at rl q r1⟩
    · obtain ⟨ws, s1, d1⟩ := rl _ _ w
      obtain ⟨b, rfl, hb⟩ := tkeyD.ok hk vy
      obtain ⟨v, e1, r1⟩ := d1.val.1 d hv
      exact .inr ⟨_, v, rfl, .inr ⟨ws, kk, b, .inl s1, rfl, hb, e1.symm⟩, k.at rl q r1⟩
  · exact h.elim
def sAugS (fo fi : FE) (fe : FE) (F : R2D) : FS := fun D δ W => fo δ W fun x W1 => fi δ W1 fun y W2 => pGet x y W2 fun u W3 => fe δ W3 fun v W4 => F u v W4 fun z W5 => pSet x y z W5 fun W6 => D.nx δ W6
theorem ss_augS {op : Operator} {r : TIp} {F : R2D} (hu : X.A.units + 1 < cLine) (hop : PIp X op r) (hr : Op2 X.K r F) (ho : SE X o f) (hi : SE X i g) (he : SE X e h)
    (ha : ∀ ov iv new, augStore i ov iv new = (do holding [new, ov, iv] (setItem ov iv new); release [new, ov, iv] []; pure .next) := by intros; rfl) : SS X (.AugAssign (.Subscript o i tpos) op e pos) (sAugS f g h F) :=
  PSimp (ps_augS ho hi (pget_or gl_ok (gd_ok hu)) he hop (set_any hu) ha) fun D σ H ⟨δ, W, D', er, rl, hh, k⟩ => ⟨δ, W, _, er, rl, hh, fun x dx H1 W1 e1 r1 v1 q1 => ⟨δ, W1, _, er.ext e1, r1, q1, fun y dy H2 W2 e2 r2 v2 q2 =>
    o_get H2 W2 x y dx dy _ _ r2 (DV.ext e2 v1) v2 q2 fun u du H3 W3 e3 r3 v3 q3 => ⟨δ, W3, _, er.ext ((e1.trans e2).trans e3), r3, q3, fun v dv H4 W4 e4 r4 v4 q4 =>
      hr H4 W4 u v du dv _ _ r4 (DV.ext e4 v3) v4 q4 fun z dz H5 W5 e5 r5 v5 q5 =>
        os_any H5 W5 x y z dx dy dz _ _ r5 (DV.ext (((e2.trans e3).trans e4).trans e5) v1) (DV.ext ((e3.trans e4).trans e5) v2) v5 q5 fun H6 W6 e6 r6 q6 =>
          k.nx _ δ H6 W6 (((((e1.trans e2).trans e3).trans e4).trans e5).trans e6) (er.ext (((((e1.trans e2).trans e3).trans e4).trans e5).trans e6)) r6 q6⟩⟩⟩
theorem ip_subD : Op2 X.K (ipI fun i j => i - j) (pII0 fun i j => .int (i - j)) := fun H W x y dx dy Q Q' rl vx vy h k => by
  unfold pII0 at h
  split at h
  · cases vx; cases vy; exact ⟨_, _, rfl, rfl, k.at rl h rfl⟩
  · exact h.elim
end
end DL
/-! Vl6: zip, enumerate, o[i] op= e over values. -/
namespace VL
open PySem PySem.Spec PyProof.Rows L2 DL A30
section
variable {f g h : FE} {f' g' h' : VE} {r : FA} {r' : VA}
theorem Rep.seq {sc : Sc} {Z W : DW} {u : U} {d : D} {us : List U} (h : Rep sc Z u d) (e : seqU u = some us) : ∃ ds, Reps sc Z us ds ∧ ∀ W2, Sub Z W2 → seqD W2 d = some ds := by
  cases u with
  | tup =>
    cases e
    unfold Rep at h
    obtain ⟨ds, rfl, r⟩ := h
    exact ⟨ds, r, fun _ _ => rfl⟩
  | lst =>
    cases e
    unfold Rep at h
    obtain ⟨a, ds, rfl, w, r⟩ := h
    exact ⟨ds, r, fun W2 s => by simp only [seqD]; rw [s _ _ w]⟩
  | _ => cases e
def zipU (xs ys : List U) : List U := List.zipWith (fun a b => .tup [a, b]) xs ys
def zip3U : List U → List U → List U → List U
  | a :: as, b :: bs, c :: cs => .tup [a, b, c] :: zip3U as bs cs
  | _, _, _ => []
theorem reps_zip {sc : Sc} {Z : DW} : ∀ {us vs : List U} {ds es : List D}, Reps sc Z us ds → Reps sc Z vs es → Reps sc Z (zipU us vs) (zipD ds es)
  | [], _, _, _, h, _ => by rw [reps_nil.mp h]; simp [zipU, zipD, reps_nil]
  | u :: us, [], _, _, _, h => by rw [reps_nil.mp h]; simp [zipU, zipD, reps_nil]
  | u :: us, v :: vs, _, _, h, g => by
    obtain ⟨d, r, rfl, h1, h2⟩ := reps_cons.mp h
    obtain ⟨e, t, rfl, g1, g2⟩ := reps_cons.mp g
    exact reps_cons.mpr ⟨_, _, rfl, rep_tup (reps_cons.mpr ⟨_, _, rfl, h1, Reps.one g1⟩), reps_zip h2 g2⟩
theorem reps_zip3 {sc : Sc} {Z : DW} : ∀ {us vs ws : List U} {ds es fs : List D}, Reps sc Z us ds → Reps sc Z vs es → Reps sc Z ws fs → Reps sc Z (zip3U us vs ws) (zip3D ds es fs)
  | [], _, _, _, _, _, h, _, _ => by rw [reps_nil.mp h]; simp [zip3U, zip3D, reps_nil]
  | u :: us, [], _, _, _, _, h, g, _ => by
    obtain ⟨d, r, rfl, h1, h2⟩ := reps_cons.mp h
    rw [reps_nil.mp g]; simp [zip3U, zip3D, reps_nil]
  | u :: us, v :: vs, [], _, _, _, h, g, l => by
    obtain ⟨d, r, rfl, h1, h2⟩ := reps_cons.mp h
    obtain ⟨d, r, rfl, h1, h2⟩ := reps_cons.mp g
    rw [reps_nil.mp l]; simp [zip3U, zip3D, reps_nil]
  | u :: us, v :: vs, w :: ws, _, _, _, h, g, l => by
    obtain ⟨d, r, rfl, h1, h2⟩ := reps_cons.mp h
    obtain ⟨e, t, rfl, g1, g2⟩ := reps_cons.mp g
    obtain ⟨i, j, rfl, l1, l2⟩ := reps_cons.mp l
    exact reps_cons.mpr ⟨_, _, rfl, rep_tup (reps_cons.mpr ⟨_, _, rfl, h1, reps_cons.mpr ⟨_, _, rfl, g1, Reps.one l1⟩⟩), reps_zip3 h2 g2 l2⟩
@[simp] def viZip2 (r : VA) : VI := fun e Q => r e fun us => match us with
  | [x, y] => ∃ xs ys, seqU x = some xs ∧ seqU y = some ys ∧ Q (zipU xs ys)
  | _ => False
theorem si_zip2V (a : SAv r r') : SIt (fZip2 r) (viZip2 r') := fun B sc Z W δ e Qv R st hv k =>
  a B sc Z W δ e _ _ st hv fun us ds Z1 W1 g1 r1 q1 => by
    split at q1
    · obtain ⟨xs, ys, hx, hy, q⟩ := q1
      obtain ⟨d, t, rfl, h1, h2⟩ := reps_cons.mp r1
      obtain ⟨d2, t, rfl, h3, h4⟩ := reps_cons.mp h2
      cases reps_nil.mp h4
      obtain ⟨d3, r3, k3⟩ := h1.seq (W := W1) hx
      obtain ⟨d4, r4, k4⟩ := h3.seq (W := W1) hy
      exact ⟨d, d2, d3, d4, rfl, k3 W1 g1.w, k4 W1 g1.w, k _ _ _ Z1 W1 g1 (reps_zip r3 r4) (fun W2 s => ⟨k3 W2 s, k4 W2 s⟩) q⟩
    · exact q1.elim
@[simp] def viZip3 (r : VA) : VI := fun e Q => r e fun us => match us with
  | [x, y, z] => ∃ xs ys zs, seqU x = some xs ∧ seqU y = some ys ∧ seqU z = some zs ∧ Q (zip3U xs ys zs)
  | _ => False
theorem si_zip3V (a : SAv r r') : SIt (fZip3 r) (viZip3 r') := fun B sc Z W δ e Qv R st hv k =>
  a B sc Z W δ e _ _ st hv fun us ds Z1 W1 g1 r1 q1 => by
    split at q1
    · obtain ⟨xs, ys, zs, hx, hy, hz, q⟩ := q1
      obtain ⟨d, t, rfl, h1, h2⟩ := reps_cons.mp r1
      obtain ⟨d2, t, rfl, h3, h4⟩ := reps_cons.mp h2
      obtain ⟨d5, t, rfl, h5, h6⟩ := reps_cons.mp h4
      cases reps_nil.mp h6
      obtain ⟨d3, r3, k3⟩ := h1.seq (W := W1) hx
      obtain ⟨d4, r4, k4⟩ := h3.seq (W := W1) hy
      obtain ⟨d6, r6, k6⟩ := h5.seq (W := W1) hz
      exact ⟨d, d2, d5, d3, d4, d6, rfl, k3 W1 g1.w, k4 W1 g1.w, k6 W1 g1.w, k _ _ _ Z1 W1 g1 (reps_zip3 r3 r4 r6) (fun W2 s => ⟨k3 W2 s, k4 W2 s, k6 W2 s⟩) q⟩
    · exact q1.elim
theorem enF_eq (k : Int) (xs : List D) : enF k xs = enD' k xs := by
  apply List.ext_getElem?
  intro i
  rw [enD'_get]
  by_cases h : i < xs.length
  · rw [enF_get (List.getElem?_eq_getElem h), List.getElem?_eq_getElem h]
    simp
  · rw [List.getElem?_eq_none (by rw [enF_len]; omega), List.getElem?_eq_none (by omega)]
    rfl
@[simp] def viEn1 (r : VA) : VI := fun e Q => r e fun us => match us with
  | [x] => ∃ xs, seqU x = some xs ∧ Q (enU 0 xs)
  | _ => False
theorem si_en1V (a : SAv r r') : SIt (fEn1 r) (viEn1 r') := fun B sc Z W δ e Qv R st hv k =>
  a B sc Z W δ e _ _ st hv fun us ds Z1 W1 g1 r1 q1 => by
    split at q1
    · obtain ⟨xs, hx, q⟩ := q1
      obtain ⟨d, t, rfl, h1, h2⟩ := reps_cons.mp r1
      cases reps_nil.mp h2
      obtain ⟨d3, r3, k3⟩ := h1.seq (W := W1) hx
      exact ⟨d, d3, rfl, k3 W1 g1.w, k _ _ _ Z1 W1 g1 (by rw [enF_eq]; exact r3.en 0) (fun W2 s => k3 W2 s) q⟩
    · exact q1.elim
@[simp] def viEn2 (r : VA) : VI := fun e Q => r e fun us => match us with
  | [x, .int n] => ∃ xs, seqU x = some xs ∧ -1000000 ≤ n ∧ n ≤ 1000000 ∧ Q (enU n xs)
  | _ => False
theorem si_en2V (a : SAv r r') : SIt (fEn2 r) (viEn2 r') := fun B sc Z W δ e Qv R st hv k =>
  a B sc Z W δ e _ _ st hv fun us ds Z1 W1 g1 r1 q1 => by
    split at q1
    · rename_i x n
      obtain ⟨xs, hx, b1, b2, q⟩ := q1
      obtain ⟨d, t, rfl, h1, h2⟩ := reps_cons.mp r1
      obtain ⟨d2, t, rfl, h3, h4⟩ := reps_cons.mp h2
      cases reps_nil.mp h4
      unfold Rep at h3
      subst h3
      obtain ⟨d3, r3, k3⟩ := h1.seq (W := W1) hx
      exact ⟨d, n, d3, rfl, b1, b2, k3 W1 g1.w, k _ _ _ Z1 W1 g1 (by rw [enF_eq]; exact r3.en n) (fun W2 s => k3 W2 s) q⟩
    · exact q1.elim
/-! o[i] op= e -/
@[simp] def getU (x i : U) : Option U := match x with
  | .lst us => match i with
    | .int k => if 0 ≤ k then us[k.toNat]? else none
    | _ => none
  | .dic ks us => (keyU i).bind fun k => valU ks us k
  | .dit ks us => (tkeyU i).bind fun k => valU ks us k
  | _ => none
theorem get_ok {B : Addr → Prop} {sc : Sc} {Z W : DW} {u i v : U} {a : Addr} {di : D} (rb : OwnR sc Z W a u) (ri : RepB B sc Z W i di) (hs : getU u i = some v) : ∃ d, Rep sc Z v d ∧ ∀ Q, Q d W → pGet (.ref a) di W Q := by
  unfold getU at hs
  cases u <;> try (cases hs; done)
  · obtain ⟨ds, w, r⟩ := rb
    cases i <;> try (cases hs; done)
    rename_i j
    simp only at hs
    split at hs
    · rename_i h0
      obtain ⟨d, e, rd⟩ := r.get hs
      rw [ri.int]
      exact ⟨d, rd, fun Q q => .inl ⟨ds, j, d, rfl, h0, w, e, q⟩⟩
    · cases hs
  · obtain ⟨kvs, w, e1, r⟩ := rb
    cases hk : keyU i with
    | none => rw [hk] at hs; cases hs
    | some kk =>
      rw [hk] at hs
      subst e1
      obtain ⟨d, e, rd⟩ := (valU_ok r).1 v hs
      exact ⟨d, rd, fun Q q => .inr (.inl ⟨kvs, kk, d, w, ri.key hk, e, q⟩)⟩
  · obtain ⟨kvs, w, e1, r⟩ := rb
    cases hk : tkeyU i with
    | none => rw [hk] at hs; cases hs
    | some kk =>
      rw [hk] at hs
      subst e1
      obtain ⟨d, e, rd⟩ := (valU_ok r).1 v hs
      exact ⟨d, rd, fun Q q => .inr (.inr ⟨kvs, kk, d, w, ri.tkey hk, e, q⟩)⟩
@[simp] def vAugI (k : Nat) (gi : VE) (h : Int → Int → Int) (gv : VE) : VS := fun D e => ∃ u, e[k]? = some (some (.own u)) ∧ gi e fun i => ∃ a, getU u i = some (.int a) ∧ gv e fun y => match y with
  | .int b => ∃ u2, setU u i (.int (h a b)) = some u2 ∧ D.nx (e.set k (some (.own u2)))
  | _ => False
theorem ss_augI {k : Nat} {h : Int → Int → Int} (a : SB g g') (b : SB f f') : SSt (sAugS (fVar k) g f (pII0 fun x y => .int (h x y))) (vAugI k g' h f') := fun B sc Z W δ e Dv D st l ⟨u, hu, hv⟩ => by
  obtain ⟨p, ep, rp, _⟩ := st.env k _ hu
  refine ⟨.ref p, ep, a B sc Z W δ e _ _ st hv fun i di Z1 W1 g1 r1 ⟨x, hx, q1⟩ => ?_⟩
  have st1 := st.gr g1
  obtain ⟨p1, ep1, rp1, _⟩ := st1.env k _ hu
  rw [ep] at ep1
  cases ep1
  obtain ⟨d, rd, hg⟩ := get_ok rp1 r1 hx
  unfold Rep at rd
  subst rd
  refine hg _ (b B sc Z1 W1 δ e _ _ st1 q1 fun y dy Z2 W2 g2 r2 q2 => ?_)
  cases y <;> try exact q2.elim
  obtain ⟨u2, hs, q3⟩ := q2
  rw [r2.int]
  exact set_ok (st1.gr g2) hu ep (r1.up g2) rep_int hs _ fun W' gs st' => l.nx δ _ Z2 W' (((g1.trans st.src g2).S st.bex).trans gs) st' q3
end
end VL
/-! Vl7: sorted, of tuples of ints. -/
namespace VL
open PySem PySem.Spec PyProof.Rows L2 DL A30
@[simp] def tupL (xs : List Int) : U := .tup (xs.map .int)
def gSort : VF := fun us Q => match us with
  | [.lst ys] => ∃ xs : List (List Int), ys = xs.map tupL ∧ (∀ x ∈ xs, x ≠ []) ∧ Q (.lst ((xs.mergeSort leL).map tupL))
  | _ => False
theorem reps_tupL {sc : Sc} {Z : DW} : ∀ (xs : List (List Int)), Reps sc Z (xs.map tupL) (xs.map tupI)
  | [] => reps_nil.mpr rfl
  | x :: xs => reps_cons.mpr ⟨_, _, rfl, rep_tup (Reps.ints x), reps_tupL xs⟩
theorem of_tupL {sc : Sc} {Z : DW} : ∀ {xs : List (List Int)} {ds : List D}, Reps sc Z (xs.map tupL) ds → ds = xs.map tupI
  | [], _, h => reps_nil.mp h
  | x :: xs, _, h => by
    obtain ⟨d, r, rfl, h1, h2⟩ := reps_cons.mp h
    obtain ⟨ds, rfl, h3⟩ := (show RepB (fun _ => False) sc Z Z (tupL x) d from .inl h1).tup
    rw [of_tupL h2, Reps.ints_iff h3]
    rfl
theorem bf_sort : BF bSortA gSort := fun B sc Z W us ds Qv Q ok r hv k => by
  unfold gSort at hv
  split at hv
  · obtain ⟨xs, rfl, h0, hv⟩ := hv
    obtain ⟨d, rfl, rd⟩ := r.c1
    obtain ⟨a, es, rfl, w, r⟩ := rd.lst ok.sub
    rw [of_tupL r] at w
    refine ⟨a, rfl, .inl ⟨xs, w, h0, fun p hp => ?_⟩⟩
    obtain ⟨g, n⟩ := newO (o := .lst ((xs.mergeSort leL).map tupI)) ok hp
    exact k (.lst _) _ Z _ g ⟨_, wup_same, reps_tupL _⟩ n hp hv
  · exact hv.elim
end VL
/-! Dl21: the greatest int of a tuple. -/
namespace DL
open PySem PySem.Spec PyProof.Rows PySem.W L2
section
variable {X : Cx}
def rMaxT (K : PySem.W.Frag) : List V → Hp → VK → Prop := fun vs H Q => ∃ (a : Addr) (ns : List Int), vs = [V.ref a] ∧ SqT K H a (ns.map V.int) ∧ 0 < ns.length ∧ ∀ m, m ∈ ns → (∀ y, y ∈ ns → y ≤ m) → Q (.int m) H
theorem fold_max : ∀ (ns : List Int) (n : Int), ns.foldl max n ∈ n :: ns ∧ ∀ y ∈ n :: ns, y ≤ ns.foldl max n
  | [], n => by simp
  | k :: ns, n => by
    obtain ⟨h1, h2⟩ := fold_max ns (max n k)
    refine ⟨?_, fun y hy => ?_⟩
    · rcases List.mem_cons.mp h1 with h | h
      · rw [List.foldl_cons, h]
        by_cases z : n ≤ k
        · rw [Int.max_eq_right z]; simp
        · rw [Int.max_eq_left (by omega)]; simp
      · rw [List.foldl_cons]; simp [h]
    · rw [List.foldl_cons]
      have hm := h2 (max n k) (by simp)
      rcases List.mem_cons.mp hy with h | h
      · omega
      · rcases List.mem_cons.mp h with h | h
        · omega
        · exact h2 y (by simp [h])
theorem reads_of_ints {h : Heap} : ∀ {vs : List Value} {ns : List Int}, IntsAre vs ns → ReadsAll h vs (ns.map PyData.int) []
  | _, _, .nil => .nil
  | _, _, .cons _ _ t => .cons (.int _ _) (reads_of_ints t)
theorem cr_maxT (hu : X.A.units + 65 < cLine) (hc : X.calm = true) : CallR X (.builtin "max") (rMaxT X.K) := by
  intro pins s σ H vs us Q I r h
  obtain ⟨a, ns, rfl, hs, hne, q⟩ := h
  obtain ⟨its, rv, ht, hz⟩ := I.tuple hs
  rw [Vals.ref1 r]
  cases ns with
  | nil => simp at hne
  | cons n ns =>
    have hfm := fold_max ns n
    refine max_tuple_data (vs := its.toArray) (x := .int n) (xs := ns.map .int) (I.ok.hd hc) ht (reads_of_ints rv.ints) ?_ ?_ fun i v h' tk bs hi rd hk => ?_
    · have hi : ∀ x ∈ PyData.int n :: ns.map .int, ∃ i : Int, x = .int i := fun x hx => by
        rcases List.mem_cons.mp hx with h | h
        · exact ⟨n, h⟩
        · obtain ⟨i, _, rfl⟩ := List.mem_map.mp h
          exact ⟨i, rfl⟩
      refine ⟨fun x hx y hy => ?_, fun x hx => ?_⟩
      · obtain ⟨i, rfl⟩ := hi x hx
        obtain ⟨j, rfl⟩ := hi y hy
        rfl
      · obtain ⟨i, rfl⟩ := hi x hx
        intro z
        cases z
    · have hd := depth_ints (n :: ns)
      rw [show PyData.depthAll (PyData.int n :: ns.map .int) = 0 from hd]
      exact by omega
    · rw [maxD_ints] at rd
      cases rd
      exact ⟨.int _, H, I.kept hk, ⟨_, rfl⟩, q _ hfm.1 hfm.2⟩
end
def rMaxA (K : PySem.W.Frag) : List V → Hp → VK → Prop := fun vs H Q => rMax K vs H Q ∨ rMaxT K vs H Q
theorem cr_maxA {X : Cx} (hu : X.A.units + 65 < cLine) (hc : X.calm = true) : CallR X (.builtin "max") (rMaxA X.K) := (cr_max hc).or (cr_maxT hu hc)
/-- of a list or a tuple of ints -/
def bMaxA : RD := fun ds W Q => ∃ (x : D) (ns : List Int), ds = [x] ∧ seqD W x = some (ns.map D.int) ∧ 0 < ns.length ∧ ∀ m, m ∈ ns → (∀ y, y ∈ ns → y ≤ m) → Q (.int m) W
theorem c_maxA {K : PySem.W.Frag} : CallD K (rMaxA K) bMaxA := fun H W vs ds Q Q' rl dv ⟨x, ns, e, hx, h0, q⟩ k => by
  subst e
  obtain ⟨v, rfl, hv⟩ := dv.c1
  obtain ⟨p, us, rfl, d, ⟨s, _⟩ | ⟨s, rfl⟩⟩ := seqD.ok rl hx hv
  · rw [d.ints] at s
    exact .inl ⟨p, ns, rfl, s, h0, fun m h1 h2 => k.at rl (q m h1 h2) rfl⟩
  · rw [d.ints] at s
    exact .inr ⟨p, ns, rfl, SqT.of s, h0, fun m h1 h2 => k.at rl (q m h1 h2) rfl⟩
end DL
/-! Vl8: the greatest of a list or a tuple. -/
namespace VL
open PySem PySem.Spec PyProof.Rows L2 DL A30
@[simp] def gMaxA : VF := fun us Q => match us with
  | [x] => ∃ xs, seqU x = some xs ∧ ∃ ns, intsU xs = some ns ∧ 0 < ns.length ∧ ∀ m, m ∈ ns → (∀ y, y ∈ ns → y ≤ m) → Q (.int m)
  | _ => False
theorem bv_maxA : BV bMaxA gMaxA := fun B sc Z W us ds Qv Q ok r hv k => by
  unfold gMaxA at hv
  split at hv
  · obtain ⟨xs, hx, ns, hn, h0, hv⟩ := hv
    obtain ⟨d, rfl, rd⟩ := r.c1
    obtain ⟨es, e, r⟩ := rd.seq ok.sub hx
    rw [intsU_ok hn] at r
    rw [r.ints_iff] at e
    exact ⟨d, ns, rfl, e, h0, fun m h1 h2 => k _ _ Z W ok.same rep_int (hv m h1 h2)⟩
  · exact hv.elim
end VL
/-! Vh: lots of lists that grow one beside the other. -/
namespace VL
open PySem PySem.Spec PyProof.Rows L2 DL A30
def Fre (e : VEnv) (δ : DL.Env) (p : Addr) : Prop := ∀ (j : Nat) (v : U), e[j]? = some (some (.own v)) → δ[j]? ≠ some (some (.ref p))
theorem set_own {e : VEnv} {i j : Nat} {x : Option VX} {v : U} (hx : ∀ v, x ≠ some (.own v)) (h : (e.set i x)[j]? = some (some (.own v))) : i ≠ j ∧ e[j]? = some (some (.own v)) := by
  by_cases z : i = j
  · subst z
    by_cases hl : i < e.length
    · rw [List.getElem?_set_self hl] at h; cases h; exact absurd rfl (hx v)
    · rw [List.getElem?_eq_none (by simp; omega)] at h; cases h
  · rw [List.getElem?_set_ne z] at h; exact ⟨z, h⟩
theorem Fre.set {e : VEnv} {δ : DL.Env} {p : Addr} {i : Nat} {x : Option VX} {d : Option D} (h : Fre e δ p) (hx : ∀ v, x ≠ some (.own v)) : Fre (e.set i x) (δ.set i d) p := fun j v q => by
  obtain ⟨z, q⟩ := set_own hx q
  rw [List.getElem?_set_ne z]; exact h j v q
theorem Fre.fgt {e : VEnv} {δ : DL.Env} {p : Addr} {i : Nat} (h : Fre e δ p) : Fre (e.set i none) δ p := fun j v q => by
  obtain ⟨z, q⟩ := set_own (by simp) q
  exact h j v q
theorem Fre.setO {e : VEnv} {δ : DL.Env} {p : Addr} {i : Nat} {u : U} {a : Addr} (h : Fre e δ p) (hp : a ≠ p) : Fre (e.set i (some (.own u))) (δ.set i (some (.ref a))) p := fun j v q z => by
  by_cases k : i = j
  · subst k
    by_cases hl : i < δ.length
    · rw [List.getElem?_set_self hl] at z; cases z; exact hp rfl
    · rw [List.getElem?_eq_none (by simp; omega)] at z; cases z
  · rw [List.getElem?_set_ne k] at q z
    exact h j v q z
/-- an address apart from all else -/
structure Apt (B : Addr → Prop) (sc : Sc) (Z : DW) (δ : DL.Env) (e : VEnv) (p : Addr) : Prop where
  z : Z p = none
  s : NoSrc sc p
  b : ¬ B p
  f : Fre e δ p
structure Grp (B : Addr → Prop) (sc : Sc) (Z W : DW) (δ : DL.Env) (e : VEnv) (p : Addr) (rs : List Addr) (uss : List (List Int)) : Prop where
  wp : W p = some (.lst (rs.map D.ref))
  ap : Apt B sc Z δ e p
  len : rs.length = uss.length
  nd : (p :: rs).Nodup
  all : ∀ (k : Nat) r us, rs[k]? = some r → uss[k]? = some us → W r = some (.lst (us.map D.int)) ∧ Apt B sc Z δ e r
section
variable {B : Addr → Prop} {sc : Sc} {Z W Z' W' : DW} {δ δ' : DL.Env} {e e' : VEnv} {p : Addr} {rs : List Addr} {uss : List (List Int)}
theorem Apt.gr {q : Addr} (g : Gr sc Z W Z' W') (h : Apt B sc Z δ e q) (w : W q ≠ none) : Apt B sc Z' δ e q := ⟨g.n q w h.z, h.s, h.b, h.f⟩
theorem Apt.env {q : Addr} (h : Apt B sc Z δ e q) (f : Fre e' δ' q) : Apt B sc Z δ' e' q := ⟨h.z, h.s, h.b, f⟩
theorem StE.apt (st : StE B sc Z W δ e) {q : Addr} (h : W q = none) : Apt B sc Z δ e q := by
  obtain ⟨a, b, c, d⟩ := st.out h
  exact ⟨a, b, c, d⟩
theorem Grp.gr (g : Gr sc Z W Z' W') (h : Grp B sc Z W δ e p rs uss) : Grp B sc Z' W' δ e p rs uss :=
  ⟨g.k _ _ h.ap.s h.wp, h.ap.gr g (by rw [h.wp]; simp), h.len, h.nd, fun k r us e1 e2 => by
    obtain ⟨w, a⟩ := h.all k r us e1 e2
    exact ⟨g.k _ _ a.s w, a.gr g (by rw [w]; simp)⟩⟩
theorem Grp.env' (h : Grp B sc Z W δ e p rs uss) (f : ∀ q, q = p ∨ q ∈ rs → Fre e δ q → Fre e' δ' q) : Grp B sc Z W δ' e' p rs uss :=
  ⟨h.wp, h.ap.env (f _ (.inl rfl) h.ap.f), h.len, h.nd, fun k r us e1 e2 => by
    obtain ⟨w, a⟩ := h.all k r us e1 e2
    exact ⟨w, a.env (f _ (.inr (List.mem_of_getElem? e1)) a.f)⟩⟩
theorem Grp.env (h : Grp B sc Z W δ e p rs uss) (f : ∀ q, Fre e δ q → Fre e' δ' q) : Grp B sc Z W δ' e' p rs uss := h.env' fun q _ => f q
theorem Grp.app (h : Grp B sc Z W δ e p rs uss) {k : Nat} {r : Addr} {us : List Int} (n : Int) (e1 : rs[k]? = some r) (e2 : uss[k]? = some us) : Grp B sc Z (DL.wup W r (.lst (us.map D.int ++ [.int n]))) δ e p rs (uss.set k (us ++ [n])) := by
  have hr : r ∈ rs := List.mem_of_getElem? e1
  have hpr : p ≠ r := fun z => by subst z; exact (List.nodup_cons.mp h.nd).1 hr
  refine ⟨by rw [wup_ne hpr]; exact h.wp, h.ap, by rw [List.length_set]; exact h.len, h.nd, fun m q vs q1 q2 => ?_⟩
  by_cases z : k = m
  · subst z
    rw [e1] at q1
    cases q1
    obtain ⟨hl, _⟩ := List.getElem?_eq_some_iff.mp e2
    rw [List.getElem?_set_self hl] at q2
    cases q2
    exact ⟨by rw [wup_same, List.map_append]; rfl, (h.all k r us e1 e2).2⟩
  · rw [List.getElem?_set_ne z] at q2
    obtain ⟨w, a⟩ := h.all m q vs q1 q2
    have : q ≠ r := fun y => by
      subst y
      obtain ⟨h1, g1⟩ := List.getElem?_eq_some_iff.mp e1
      obtain ⟨h2, g2⟩ := List.getElem?_eq_some_iff.mp q1
      have nd := (List.nodup_cons.mp h.nd).2
      exact z ((List.getElem_inj nd).mp (g1.trans g2.symm))
    exact ⟨by rw [wup_ne this]; exact w, a⟩
theorem StE.frz (st : StE B sc Z W δ e) {q : Addr} {o : DO} (a : Apt B sc Z δ e q) (w : W q = some o) : GrS B sc Z W (DL.wup Z q o) W ∧ StE B sc (DL.wup Z q o) W δ e := by
  refine ⟨⟨(Sub.refl _).new a.z, fun _ _ _ _ h => h, fun _ _ _ h => h, fun c bc hz => ?_⟩, st.len, Sub.put st.sub w, fun x y z => ?_, st.bex, fun j x hx => ?_, st.dis⟩
  · have : c ≠ q := fun z => by subst z; exact a.b bc
    rw [wup_ne this]; exact hz
  · obtain ⟨q1, q2, q3⟩ := st.src x y z
    obtain ⟨n1, n2⟩ := a.s x y z
    exact ⟨q1, by rw [wup_ne n1.symm]; exact q2, by rw [wup_ne n2.symm]; exact q3⟩
  · have h := st.env j x hx
    cases x with
    | val v => obtain ⟨d, e1, r1⟩ := h; exact ⟨d, e1, r1.up ((Sub.refl _).new a.z)⟩
    | own v =>
      obtain ⟨c, e1, r1, n1, s1, b1⟩ := h
      have : c ≠ q := fun z => by subst z; exact a.f j v hx e1
      exact ⟨c, e1, r1.up ((Sub.refl _).new a.z) (fun _ h => h), by rw [wup_ne this]; exact n1, s1, b1⟩
theorem frz_all : ∀ (rs : List Addr) (uss : List (List Int)) (Z : DW), StE B sc Z W δ e → rs.Nodup → rs.length = uss.length → (∀ (k : Nat) r us, rs[k]? = some r → uss[k]? = some us → W r = some (.lst (us.map D.int)) ∧ Apt B sc Z δ e r) →
    ∃ Z2, GrS B sc Z W Z2 W ∧ StE B sc Z2 W δ e ∧ Reps sc Z2 (uss.map fun us => U.lst (us.map U.int)) (rs.map D.ref) ∧ ∀ q, q ∉ rs → Z q = none → Z2 q = none
  | [], [], Z, st, _, _, _ => ⟨Z, GrS.refl, st, reps_nil.mpr rfl, fun _ _ h => h⟩
  | [], _ :: _, _, _, _, hl, _ => by cases hl
  | _ :: _, [], _, _, _, hl, _ => by cases hl
  | r :: rs, us :: uss, Z, st, nd, hl, ha => by
    obtain ⟨n1, n2⟩ := List.nodup_cons.mp nd
    obtain ⟨w, a⟩ := ha 0 r us rfl rfl
    obtain ⟨g, st2⟩ := st.frz a w
    obtain ⟨Z2, g2, st3, rr, k2⟩ := frz_all rs uss _ st2 n2 (by simpa using hl) fun k q vs e1 e2 => by
      obtain ⟨w2, a2⟩ := ha (k + 1) q vs (by simpa using e1) (by simpa using e2)
      have : q ≠ r := fun z => by subst z; exact n1 (List.mem_of_getElem? e1)
      exact ⟨w2, by rw [wup_ne this]; exact a2.z, a2.s, a2.b, a2.f⟩
    refine ⟨Z2, g.trans g2, st3, reps_cons.mpr ⟨_, _, rfl, ?_, rr⟩, fun q hq hz => ?_⟩
    · unfold Rep
      exact ⟨r, _, rfl, g2.z _ _ wup_same, Reps.ints us⟩
    · rw [List.mem_cons, not_or] at hq
      exact k2 q hq.2 (by rw [wup_ne hq.1]; exact hz)
theorem Grp.fin (st : StE B sc Z W δ e) (h : Grp B sc Z W δ e p rs uss) : ∃ Z2, GrS B sc Z W Z2 W ∧ StE B sc Z2 W δ e ∧ Rep sc Z2 (.lst (uss.map fun us => U.lst (us.map U.int))) (.ref p) := by
  obtain ⟨n1, n2⟩ := List.nodup_cons.mp h.nd
  obtain ⟨Z2, g, st2, rr, k2⟩ := frz_all rs uss Z st n2 h.len h.all
  obtain ⟨g3, st3⟩ := st2.frz ⟨k2 p n1 h.ap.z, h.ap.s, h.ap.b, h.ap.f⟩ h.wp
  refine ⟨_, g.trans g3, st3, ?_⟩
  unfold Rep
  exact ⟨p, _, rfl, wup_same, rr.up g3.z⟩
theorem StE.skip (st : StE B sc Z W δ e) {j : Nat} {x : Option D} (h : e[j]? = some none) : StE B sc Z W (δ.set j x) e := by
  have := st.wipe1 (i := j) (x := x)
  have he : e.set j none = e := by
    apply List.ext_getElem?
    intro k
    by_cases z : j = k
    · subst z
      rw [h, List.getElem?_set_self]
      exact (List.getElem?_eq_some_iff.mp h).1
    · rw [List.getElem?_set_ne z]
  rwa [he] at this
/-- the loop -/
def vGl (j : Nat) (gidx : VE) (e : VEnv) (N : List (List Int) → Prop) : List Int → List (List Int) → Prop
  | [], uss => N uss
  | n :: ns, uss => gidx (e.set j (some (.val (.int n)))) fun x => match x with
    | .int m => 0 ≤ m ∧ m < uss.length ∧ (uss.getD m.toNat []).length < 1000 ∧ vGl j gidx e N ns (uss.set m.toNat (uss.getD m.toNat [] ++ [n]))
    | _ => False
theorem grp_loop {i j : Nat} {fidx : FE} {gidx : VE} {keep : DW → Prop} {E : DE} {N : List (List Int) → Prop} {Z0 W0 Zs : DW} (hidx : SB fidx gidx) (hij : i ≠ j) (hj : e[j]? = some none) (hk : ∀ W2, Sub Zs W2 → keep W2)
    (k : ∀ uss' Z' W' δ', GrS B sc Z0 W0 Z' W' → StE B sc Z' W' δ' e → Grp B sc Z' W' δ' e p rs uss' → δ'[i]? = some (some (.ref p)) → N uss' → E.nx δ' W') : ∀ (ns : List Int) (uss : List (List Int)) (Z W : DW) (δ : DL.Env), GrS B sc Z0 W0 Z W → StE B sc Z W δ e → Grp B sc Z W δ e p rs uss → δ[i]? = some (some (.ref p)) → Sub Zs Z → vGl j gidx e N ns uss →
      loopD keep (gN j) (sDrop (fM isL mAppend (fBin pSub' (fVar i) fidx) (fCons (fVar j) fNil))) E (ns.map D.int) δ W
  | [], uss, Z, W, δ, g, st, h, hi, s, hv => ⟨hk W (s.trans st.sub), k uss Z W δ g st h hi hv⟩
  | n :: ns, uss, Z, W, δ, g, st, h, hi, s, hv => by
    have hjl : j < δ.length := by rw [← st.len]; exact (List.getElem?_eq_some_iff.mp hj).1
    have st2 : StE B sc Z W (δ.set j (some (.int n))) (e.set j (some (.val (.int n)))) := st.setV rep_int
    refine ⟨hk W (s.trans st.sub), ?_⟩
    show fM isL mAppend (fBin pSub' (fVar i) fidx) (fCons (fVar j) fNil) (δ.set j (some (.int n))) W _
    refine ⟨.ref p, by rw [List.getElem?_set_ne (Ne.symm hij)]; exact hi, ?_⟩
    refine hidx B sc Z W _ _ _ _ st2 hv fun x dx Z1 W1 g1 r1 q1 => ?_
    cases x <;> try exact q1.elim
    rename_i m
    obtain ⟨m0, m1, hl, q1⟩ := q1
    rw [r1.int]
    have h1 := h.gr g1
    have hm : m.toNat < rs.length := by rw [h.len]; omega
    have hm2 : m.toNat < uss.length := by omega
    have e1 : rs[m.toNat]? = some rs[m.toNat] := List.getElem?_eq_getElem hm
    have e2 : uss[m.toNat]? = some uss[m.toNat] := List.getElem?_eq_getElem hm2
    obtain ⟨w, a⟩ := h1.all _ _ _ e1 e2
    have hg : uss.getD m.toNat [] = uss[m.toNat] := by simp [List.getD, e2]
    rw [hg] at hl q1
    refine ⟨.ref rs[m.toNat], ?_, ⟨_, _, rfl, w⟩, .int n, by rw [List.getElem?_set_self hjl], ?_⟩
    · simp only [ixD]
      rw [h1.wp]
      have : ixN (rs.map D.ref).length m = some m.toNat := by unfold ixN; rw [List.length_map]; simp [m0]; omega
      show (ixN (rs.map D.ref).length m).bind (fun j => (rs.map D.ref)[j]?) = _
      rw [this]
      simp [e1]
    · refine ⟨_, _, _, rfl, rfl, w, ?_, ?_⟩
      · rw [List.length_map]; exact lt_line (by omega)
      · have sta : StE B sc Z1 W1 δ e := st.gr g1
        have ap2 : Apt B sc Z1 δ e rs[m.toNat] := a
        have stb := sta.put (o := .lst (uss[m.toNat].map D.int ++ [.int n])) ap2.z ap2.s ap2.f
        have stc := stb.skip (j := j) (x := some (.int n)) hj
        have hc := (h1.app n e1 e2).env (e' := e) (δ' := δ.set j (some (.int n))) fun q f => by
          have := f.set (i := j) (x := none) (d := some (.int n)) (by simp)
          have he : e.set j none = e := by
            apply List.ext_getElem?
            intro k
            by_cases z : j = k
            · subst z
              rw [hj, List.getElem?_set_self]
              exact (List.getElem?_eq_some_iff.mp hj).1
            · rw [List.getElem?_set_ne z]
          rwa [he] at this
        exact grp_loop hidx hij hj hk k ns _ Z1 _ _ ((g.trans (g1.S st.bex)).trans (GrS.put a.b a.s)) stc hc (by rw [List.getElem?_set_ne (Ne.symm hij)]; exact hi) (s.trans g1.z) q1
end
/-! ### how such lots begin -/
theorem grp_new2 {B : Addr → Prop} {sc : Sc} {Z W : DW} {δ : DL.Env} {e : VEnv} {Q : DK} (st : StE B sc Z W δ e) (k : ∀ p rs W', Gr sc Z W Z W' → StE B sc Z W' δ e → Grp B sc Z W' δ e p rs [[], []] → W p = none → Q (.ref p) W') : fLst (fCons (fLst fNil) (fCons (fLst fNil) fNil)) δ W Q := by
  refine ⟨le_line (n := 0) (by omega), fun a ha => ⟨le_line (n := 0) (by omega), fun b hb => ⟨le_line (n := 2) (by omega), fun p hp => ?_⟩⟩⟩
  have aa := st.apt ha
  have st1 := st.put (o := .lst []) aa.z aa.s aa.f
  have ab := st1.apt hb
  have st2 := st1.put (o := .lst []) ab.z ab.s ab.f
  have app := st2.apt hp
  have st3 := st2.put (o := .lst [D.ref a, D.ref b]) app.z app.s app.f
  have nab : a ≠ b := fun z => by subst z; rw [wup_same] at hb; cases hb
  have npb : p ≠ b := fun z => by subst z; rw [wup_same] at hp; cases hp
  have npa : p ≠ a := fun z => by subst z; rw [wup_ne nab, wup_same] at hp; cases hp
  have hbW : W b = none := by rw [wup_ne nab.symm] at hb; exact hb
  have hpW : W p = none := by rw [wup_ne npb, wup_ne npa] at hp; exact hp
  refine k p [a, b] _ ?_ st3 ⟨wup_same, app, rfl, by simp [nab, npb, npa], fun m r us e1 e2 => ?_⟩ hpW
  · exact Gr.of_sub st.sub ((((Sub.refl W).new ha).new hbW).new hpW)
  · match m, e1, e2 with
    | 0, e1, e2 =>
      simp at e1 e2
      subst e1 e2
      exact ⟨by rw [wup_ne npa.symm, wup_ne nab, wup_same]; rfl, aa⟩
    | 1, e1, e2 =>
      simp at e1 e2
      subst e1 e2
      exact ⟨by rw [wup_ne npb.symm, wup_same]; rfl, ab⟩
    | m + 2, e1, _ => simp at e1
theorem grp_new3 {B : Addr → Prop} {sc : Sc} {Z W : DW} {δ : DL.Env} {e : VEnv} {Q : DK} (st : StE B sc Z W δ e) (k : ∀ p rs W', Gr sc Z W Z W' → StE B sc Z W' δ e → Grp B sc Z W' δ e p rs [[], [], []] → W p = none → Q (.ref p) W') : fLst (fCons (fLst fNil) (fCons (fLst fNil) (fCons (fLst fNil) fNil))) δ W Q := by
  refine ⟨le_line (n := 0) (by omega), fun a ha => ⟨le_line (n := 0) (by omega), fun b hb => ⟨le_line (n := 0) (by omega), fun c hc => ⟨le_line (n := 3) (by omega), fun p hp => ?_⟩⟩⟩⟩
  have aa := st.apt ha
  have st1 := st.put (o := .lst []) aa.z aa.s aa.f
  have ab := st1.apt hb
  have st2 := st1.put (o := .lst []) ab.z ab.s ab.f
  have ac := st2.apt hc
  have st3 := st2.put (o := .lst []) ac.z ac.s ac.f
  have app := st3.apt hp
  have st4 := st3.put (o := .lst [D.ref a, D.ref b, D.ref c]) app.z app.s app.f
  have nab : a ≠ b := fun z => by subst z; rw [wup_same] at hb; cases hb
  have nbc : b ≠ c := fun z => by subst z; rw [wup_same] at hc; cases hc
  have nac : a ≠ c := fun z => by subst z; rw [wup_ne nab, wup_same] at hc; cases hc
  have npc : p ≠ c := fun z => by subst z; rw [wup_same] at hp; cases hp
  have npb : p ≠ b := fun z => by subst z; rw [wup_ne nbc, wup_same] at hp; cases hp
  have npa : p ≠ a := fun z => by subst z; rw [wup_ne nac, wup_ne nab, wup_same] at hp; cases hp
  have hbW : W b = none := by rw [wup_ne nab.symm] at hb; exact hb
  have hcW : W c = none := by rw [wup_ne nbc.symm, wup_ne nac.symm] at hc; exact hc
  have hpW : W p = none := by rw [wup_ne npc, wup_ne npb, wup_ne npa] at hp; exact hp
  refine k p [a, b, c] _ ?_ st4 ⟨wup_same, app, rfl, by simp [nab, nbc, nac, npb, npa, npc], fun m r us e1 e2 => ?_⟩ hpW
  · exact Gr.of_sub st.sub (((((Sub.refl W).new ha).new hbW).new hcW).new hpW)
  · match m, e1, e2 with
    | 0, e1, e2 =>
      simp at e1 e2
      subst e1 e2
      exact ⟨by rw [wup_ne npa.symm, wup_ne nac, wup_ne nab, wup_same]; rfl, aa⟩
    | 1, e1, e2 =>
      simp at e1 e2
      subst e1 e2
      exact ⟨by rw [wup_ne npb.symm, wup_ne nbc, wup_same]; rfl, ab⟩
    | 2, e1, e2 =>
      simp at e1 e2
      subst e1 e2
      exact ⟨by rw [wup_ne npc.symm, wup_same]; rfl, ac⟩
    | m + 3, e1, _ => simp at e1
section
variable {s : FS} {s' : VS} {fi : FI} {gi : VI} {fidx f fl : FE} {gidx f' fl' : VE}
abbrev appLots (i j : Nat) (fidx : FE) : FS := sDrop (fM isL mAppend (fBin pSub' (fVar i) fidx) (fCons (fVar j) fNil))
/-- the value of such lots -/
def lotsU (uss : List (List Int)) : U := .lst (uss.map fun us => .lst (us.map .int))
def vGrpFor (i j : Nat) (gi : VI) (gidx : VE) (s : VS) (e0 : VEnv) (D : VD) (uss : List (List Int)) : Prop :=
  e0[i]? = some none ∧ e0[j]? = some none ∧ gi e0 fun us => ∃ ns, us = ns.map U.int ∧ vGl j gidx e0 (fun uss => s D (e0.set i (some (.val (lotsU uss))))) ns uss
theorem grp_for {i j : Nat} (hij : i ≠ j) (hi : SIt fi gi) (hidx : SB fidx gidx) (hs : SSt s s') {B : Addr → Prop} {sc : Sc} {Z W : DW} {δ : DL.Env} {e0 : VEnv} {Dv : VD} {E : DE} {p : Addr} {rs : List Addr} {uss : List (List Int)} (st : StE B sc Z W δ e0) (h : Grp B sc Z W δ e0 p rs uss) (ep : δ[i]? = some (some (.ref p))) (l : LkD B sc Z W Dv E)
    (hv : vGrpFor i j gi gidx s' e0 Dv uss) : sSeq (sFor fi (gN j) (appLots i j fidx)) s E δ W := by
  obtain ⟨h1, h2, hv⟩ := hv
  refine hi B sc Z W δ e0 _ _ st hv fun us xs keep Z1 W1 g1 r1 hk ⟨ns, en, q1⟩ => ?_
  subst en
  rw [r1.ints_iff]
  refine grp_loop (Z0 := Z) (W0 := W) (Zs := Z1) hidx hij h2 hk (fun uss' Z2 W2 δ2 g2 st2 h3 ep2 q2 => ?_) ns uss Z1 W1 δ (g1.S st.bex) (st.gr g1) (h.gr g1) ep (Sub.refl _) q1
  obtain ⟨Z3, g3, st3, rr⟩ := h3.fin st2
  have hset : δ2.set i (some (.ref p)) = δ2 := by
    apply List.ext_getElem?
    intro k
    by_cases z : i = k
    · subst z
      rw [ep2, List.getElem?_set_self]
      exact (List.getElem?_eq_some_iff.mp ep2).1
    · rw [List.getElem?_set_ne z]
  have := st3.setV (i := i) rr
  rw [hset] at this
  exact hs B sc Z3 W2 δ2 _ Dv E this (l.gr (g2.trans g3)) q2
def vLots3 (i j : Nat) (gi : VI) (gidx : VE) (s : VS) : VS := fun D e => vGrpFor i j gi gidx s ((e.set i none).set j none) D [[], [], []]
theorem ss_lots3 {i j : Nat} (hi : SIt fi gi) (hidx : SB fidx gidx) (hs : SSt s s') (hij : i ≠ j := by decide) : SSt (sSeq (sAsg (fLst (fCons (fLst fNil) (fCons (fLst fNil) (fCons (fLst fNil) fNil)))) (gN i)) (sSeq (sFor fi (gN j) (appLots i j fidx)) s)) (vLots3 i j gi gidx s') := fun B sc Z W δ e Dv E st l hv => by
  show fLst (fCons (fLst fNil) (fCons (fLst fNil) (fCons (fLst fNil) fNil))) δ W (fun x W1 => sSeq (sFor fi (gN j) (appLots i j fidx)) s E (δ.set i (some x)) W1)
  exact grp_new3 st fun p rs W' g st2 h hp => by
    have st3 : StE B sc Z W' (δ.set i (some (.ref p))) ((e.set i none).set j none) := (st2.wipe1 (i := i)).fgt1
    have hil : i < δ.length := by
      have h1 := hv.1
      have := (List.getElem?_eq_some_iff.mp h1).1
      simp only [List.length_set] at this
      rw [← st.len]; exact this
    exact grp_for hij hi hidx hs st3 (h.env fun q f => (f.set (by simp)).fgt) (by rw [List.getElem?_set_self hil]) (l.gr (g.S st.bex)) hv
/-- two lots, made beside a value and a new list; another value ahead of the loop -/
def vLots2 (a i c m j : Nat) (f fl : VE) (gi : VI) (gidx : VE) (s : VS) : VS := fun D e => i < e.length ∧ f e fun x => fl (((e.set a (some (.val x))).set i none).set c (some (.own (.lst [])))) fun y => vGrpFor i j gi gidx s (((((e.set a (some (.val x))).set i none).set c (some (.own (.lst [])))).set m (some (.val y))).set j none) D [[], []]
theorem ss_lots2 {a i c m j : Nat} (hf : SV f f') (hl : SV fl fl') (hi : SIt fi gi) (hidx : SB fidx gidx) (hs : SSt s s') (hij : i ≠ j ∧ a ≠ i ∧ a ≠ c ∧ i ≠ c ∧ i ≠ m := by decide) :
    SSt (sSeq (sPar3 a i c (fCons f (fCons (fLst (fCons (fLst fNil) (fCons (fLst fNil) fNil))) (fCons (fLst fNil) fNil)))) (sSeq (sAsg fl (gN m)) (sSeq (sFor fi (gN j) (appLots i j fidx)) s))) (vLots2 a i c m j f' fl' gi gidx s') := fun B sc Z W δ e Dv E st l ⟨hil0, hv⟩ =>
  hf B sc Z W δ e _ _ st hv fun x dx Z1 W1 g1 r1 q1 => by
    have st1 := st.gr g1
    have hil : i < δ.length := by rw [← st.len]; exact hil0
    refine grp_new2 st1 fun p rs W2 g2 st2 h hp => ?_
    refine ⟨le_line (n := 0) (by omega), fun b hb => ⟨_, _, _, rfl, ?_⟩⟩
    have ab := st2.apt hb
    have st3 := st2.put (o := .lst []) ab.z ab.s ab.f
    have hpb : b ≠ p := fun z => by subst z; rw [h.wp] at hb; cases hb
    have g3 : Gr sc Z1 W2 Z1 (DL.wup W2 b (.lst [])) := Gr.of_sub st2.sub ((Sub.refl W2).new hb)
    have h3 := h.gr g3
    have hrb : ∀ r, r ∈ rs → b ≠ r := fun r hr z => by
      subst z
      obtain ⟨k, hk, ek⟩ := List.getElem_of_mem hr
      have hk2 : k < [([] : List Int), []].length := by rw [← h.len]; exact hk
      obtain ⟨w, _⟩ := h.all k b _ (by rw [List.getElem?_eq_getElem hk, ek]) (List.getElem?_eq_getElem hk2)
      rw [hb] at w; cases w
    have st4 : StE B sc Z1 (DL.wup W2 b (.lst [])) (((δ.set a (some dx)).set i (some (.ref p))).set c (some (.ref b))) (((e.set a (some (.val x))).set i none).set c (some (.own (.lst [])))) := by
      refine ((st3.setV (i := a) r1).wipe1 (i := i)).setO ⟨[], wup_same, reps_nil.mpr rfl⟩ ab.z ab.s ab.b fun k v hk q => ?_
      exact ((ab.f.set (i := a) (x := some (.val x)) (d := some dx) (by simp)).set (i := i) (x := none) (d := some (.ref p)) (by simp)) k v q
    refine hl B sc Z1 _ _ _ _ _ st4 q1 fun y dy Z5 W5 g5 r5 q5 => ?_
    have g25 := g3.trans st2.src g5
    have st5 := (st4.gr g5).setV (i := m) r5
    have h5 := h3.gr g5
    have hfin := h5.env' (e' := ((((e.set a (some (.val x))).set i none).set c (some (.own (.lst [])))).set m (some (.val y))).set j none) (δ' := (((δ.set a (some dx)).set i (some (.ref p))).set c (some (.ref b))).set m (some dy)) fun q hq fq => by
      have hbq : b ≠ q := fun z => by
        subst z
        rcases hq with hq | hq
        · exact hpb hq
        · exact hrb b hq rfl
      exact ((((fq.set (i := a) (x := some (.val x)) (d := some dx) (by simp)).set (i := i) (x := none) (d := some (.ref p)) (by simp)).setO (i := c) (u := .lst []) hbq).set (i := m) (x := some (.val y)) (d := some dy) (by simp)).fgt
    refine grp_for hij.1 hi hidx hs (st5.fgt1 (i := j)) hfin ?_ (l.gr (((g1.trans st.src g2).trans st.src (g3.trans st2.src g5)).S st.bex)) q5
    rw [List.getElem?_set_ne (Ne.symm hij.2.2.2.2), List.getElem?_set_ne (Ne.symm hij.2.2.2.1), List.getElem?_set_self (by rw [List.length_set]; exact hil)]
end
end VL
/-! Vm: what comprehensions and loops over values come to; laws' bodies. -/
namespace VL
open PySem PySem.Spec PyProof.Rows L2 DL A30
@[simp] def tupU (xs : List Int) : U := .tup (xs.map .int)
@[simp] def lstU (xs : List Int) : U := .lst (xs.map .int)
inductive AllP {α β : Type} (P : α → β → Prop) : List α → List β → Prop
  | nil : AllP P [] []
  | cons {a : α} {b : β} {as : List α} {bs : List β} : P a b → AllP P as bs → AllP P (a :: as) (b :: bs)
theorem AllP.len {α β : Type} {P : α → β → Prop} {as : List α} {bs : List β} (h : AllP P as bs) : bs.length = as.length := by
  induction h with
  | nil => rfl
  | cons _ _ ih => simp [ih]
theorem AllP.mono {α β : Type} {P Q : α → β → Prop} {as : List α} {bs : List β} (h : AllP P as bs) (k : ∀ a b, a ∈ as → P a b → Q a b) : AllP Q as bs := by
  induction h with
  | nil => exact .nil
  | cons h _ ih => exact .cons (k _ _ (by simp) h) (ih fun a b m p => k a b (by simp [m]) p)
theorem AllP.mem {α β : Type} {P : α → β → Prop} {as : List α} {bs : List β} (h : AllP P as bs) : ∀ b ∈ bs, ∃ a ∈ as, P a b := by
  induction h with
  | nil => simp
  | cons h _ ih =>
    intro b hb
    rcases List.mem_cons.mp hb with q | q
    · subst q; exact ⟨_, by simp, h⟩
    · obtain ⟨a, ha, p⟩ := ih b q; exact ⟨a, by simp [ha], p⟩
theorem AllP.eq_map {α β : Type} {g : α → β} {as : List α} {bs : List β} (h : AllP (fun a b => b = g a) as bs) : bs = as.map g := by
  induction h with
  | nil => rfl
  | cons h _ ih => rw [h, ih]; rfl
/-- values that code others -/
theorem AllP.dec {α β γ : Type} {P : α → γ → Prop} {c : γ → β} {as : List α} {bs : List β} (h : AllP (fun a b => ∃ g, b = c g ∧ P a g) as bs) : ∃ gs, bs = gs.map c ∧ AllP P as gs := by
  induction h with
  | nil => exact ⟨[], rfl, .nil⟩
  | cons h _ ih =>
    obtain ⟨g, rfl, p⟩ := h
    obtain ⟨gs, rfl, q⟩ := ih
    exact ⟨g :: gs, rfl, .cons p q⟩
section
variable {α : Type} {enc : α → U} {tg : VG} {tt : VT} {te : VE} {e : VEnv} {Q : U → Prop} {gi : VI} {vs : List Nat}
theorem vlc_rel {P : α → Option U → Prop} : ∀ (xs : List α) (acc : List U), (∀ x ∈ xs, ∀ N : Option U → Prop, (∀ o, P x o → N o) → tg (enc x) e fun e2 => tt e2 fun b => if b = true then te e2 fun y => N (some y) else N none) →
    acc.length + xs.length ≤ 1000000 → (∀ os, AllP P xs os → Q (.lst (acc ++ os.filterMap id))) → vlc tg tt te e Q (xs.map enc) acc
  | [], acc, _, _, q => by
    have := q [] .nil
    show Q (.lst acc)
    simpa using this
  | x :: xs, acc, h, hl, q => by
    simp only [List.length_cons] at hl
    refine h x (by simp) (fun o => match o with | some y => acc.length < 1000000 ∧ vlc tg tt te e Q (xs.map enc) (acc ++ [y]) | none => vlc tg tt te e Q (xs.map enc) acc) fun o ho => ?_
    cases o with
    | none => exact vlc_rel xs acc (fun y hy => h y (by simp [hy])) (by omega) fun os ho2 => by simpa using q (none :: os) (.cons ho ho2)
    | some y => exact ⟨by omega, vlc_rel xs _ (fun y hy => h y (by simp [hy])) (by simp; omega) fun os ho2 => by simpa using q (some y :: os) (.cons ho ho2)⟩
/-- each member gives some value -/
theorem vlc_any {P : α → U → Prop} (xs : List α) (acc : List U) (h : ∀ x ∈ xs, ∀ N : U → Prop, (∀ y, P x y → N y) → tg (enc x) e fun e2 => te e2 N) (hl : acc.length + xs.length ≤ 1000000) (q : ∀ ys, AllP P xs ys → Q (.lst (acc ++ ys))) : vlc tg vYes te e Q (xs.map enc) acc := by
  refine vlc_rel (P := fun x o => ∃ y, o = some y ∧ P x y) xs acc (fun x hx N hN => ?_) hl fun os ho => ?_
  · have := h x hx (fun y => N (some y)) fun y hy => hN _ ⟨y, rfl, hy⟩
    simpa [vYes] using this
  · obtain ⟨gs, rfl, p⟩ := ho.dec
    have : (gs.map some).filterMap id = gs := by simp [List.filterMap_map]
    rw [this]
    exact q gs p
theorem vlc_map {g : α → U} (xs : List α) (acc : List U) (h : ∀ x ∈ xs, ∀ N : U → Prop, N (g x) → tg (enc x) e fun e2 => te e2 N) (hl : acc.length + xs.length ≤ 1000000) (q : Q (.lst (acc ++ xs.map g))) : vlc tg vYes te e Q (xs.map enc) acc :=
  vlc_any (P := fun x y => y = g x) xs acc (fun x hx N hN => h x hx N (hN _ rfl)) hl fun ys hy => by rw [hy.eq_map]; exact q
theorem fm_if {β : Type} {g : α → β} {p : α → Bool} : ∀ xs : List α, (xs.map fun x => if p x then some (g x) else none).filterMap id = (xs.filter p).map g
  | [] => rfl
  | x :: xs => by
    have ih := fm_if (g := g) (p := p) xs
    rw [List.map_cons, List.filterMap_cons, List.filter_cons]
    cases p x <;> simp [ih]
theorem vlc_filter {g : α → U} {p : α → Bool} (xs : List α) (acc : List U) (h : ∀ x ∈ xs, ∀ N : Option U → Prop, N (if p x then some (g x) else none) → tg (enc x) e fun e2 => tt e2 fun b => if b = true then te e2 fun y => N (some y) else N none) (hl : acc.length + xs.length ≤ 1000000) (q : Q (.lst (acc ++ (xs.filter p).map g))) : vlc tg tt te e Q (xs.map enc) acc := by
  refine vlc_rel (P := fun x o => o = if p x then some (g x) else none) xs acc (fun x hx N hN => h x hx N (hN _ rfl)) hl fun os ho => ?_
  rw [ho.eq_map]
  rw [fm_if]; exact q
theorem vLc_any {P : α → U → Prop} (xs : List α) (hi : ∀ K : List U → Prop, K (xs.map enc) → gi e K) (h : ∀ x ∈ xs, ∀ N : U → Prop, (∀ y, P x y → N y) → tg (enc x) (wipeV e vs) fun e2 => te e2 N) (hl : xs.length ≤ 1000000) (q : ∀ ys, AllP P xs ys → Q (.lst ys)) : vLc gi tg vYes te vs e Q :=
  hi _ (vlc_any xs [] h (by simpa using hl) (by simpa using q))
theorem vLc_map {g : α → U} (xs : List α) (hi : ∀ K : List U → Prop, K (xs.map enc) → gi e K) (h : ∀ x ∈ xs, ∀ N : U → Prop, N (g x) → tg (enc x) (wipeV e vs) fun e2 => te e2 N) (hl : xs.length ≤ 1000000) (q : Q (.lst (xs.map g))) : vLc gi tg vYes te vs e Q :=
  hi _ (vlc_map xs [] h (by simpa using hl) (by simpa using q))
theorem vLc_filter {g : α → U} {p : α → Bool} (xs : List α) (hi : ∀ K : List U → Prop, K (xs.map enc) → gi e K) (h : ∀ x ∈ xs, ∀ N : Option U → Prop, N (if p x then some (g x) else none) → tg (enc x) (wipeV e vs) fun e2 => tt e2 fun b => if b = true then te e2 fun y => N (some y) else N none) (hl : xs.length ≤ 1000000) (q : Q (.lst ((xs.filter p).map g))) : vLc gi tg tt te vs e Q :=
  hi _ (vlc_filter xs [] h (by simpa using hl) (by simpa using q))
/-! loops -/
theorem vLoop_inv {body : VS} {D : VD} {xs : List α} (I : List α → VEnv → Prop) (hs : ∀ done x rest e (N : VEnv → Prop), xs = done ++ x :: rest → I done e → (∀ e', I (done ++ [x]) e' → N e') → tg (enc x) e fun e2 => body { nx := N, rt := D.rt, bk := D.nx, ct := N } e2)
    (he : ∀ e, I xs e → D.nx e) : ∀ (rest done : List α) e, xs = done ++ rest → I done e → vLoop tg body D (rest.map enc) e
  | [], done, e, q, h => he e (by rw [q, List.append_nil]; exact h)
  | x :: rest, done, e, q, h => hs done x rest e _ q h fun e' h' => vLoop_inv I hs he rest (done ++ [x]) e' (by rw [q, List.append_assoc]; rfl) h'
theorem vFor_inv {body : VS} {D : VD} {xs : List α} (I : List α → VEnv → Prop) (hi : ∀ K : List U → Prop, K (xs.map enc) → gi e K) (h0 : I [] e) (hs : ∀ done x rest e (N : VEnv → Prop), xs = done ++ x :: rest → I done e → (∀ e', I (done ++ [x]) e' → N e') → tg (enc x) e fun e2 => body { nx := N, rt := D.rt, bk := D.nx, ct := N } e2)
    (he : ∀ e, I xs e → D.nx e) : vFor gi tg body D e := hi _ (vLoop_inv I hs he xs [] e rfl h0)
end
/-! ### the law's own def -/
def sp_law : SpD := fun ds W Q => ∃ x xs, ds = [x] ∧ seqD W x = some (List.map D.int xs) ∧ (∀ ys, x ≠ .tup ys) ∧ xs.length ≤ 64 ∧ ∀ W', Q (.bl true) W'
theorem len_law : ∀ ds W Q, sp_law ds W Q → ds.length = 1 := fun ds W Q ⟨x, xs, e, _⟩ => by rw [e]; rfl
def lawD : VD := { nx := fun _ => False, rt := fun u => u = .bl true }
theorem body_of_law {s : FS} {t : VS} {N : List Str} (h : SSt s t) (hN : 2 ≤ N.length) (hv : t lawD (none :: some (.val .src) :: List.replicate (N.length - 2) none)) : ∀ ds W Q, sp_law ds W Q → (sSeq (sAsg (fCall sp__law_open_cells (fCons (fVar 0) fNil)) (gN 1)) s) (RT Q) (startD N ds) W := fun ds W Q ⟨x, xs, e, hx, nt, hl, q⟩ => by
  subst e
  have e1 : startD N [x] = some x :: List.replicate (N.length - 1) none := rfl
  show fCall sp__law_open_cells (fCons (fVar 0) fNil) (startD N [x]) W (fun y W1 => s (RT Q) ((startD N [x]).set 1 (some y)) W1)
  refine ⟨x, rfl, x, xs, rfl, hx, nt, hl, fun a c W' sb sr => ?_⟩
  refine h (fun _ => False) (some (a, c)) (fun _ => none) W' _ _ lawD (RT Q) ⟨?_, fun _ _ q => (by cases q), fun s2 c2 q => (by cases q; exact ⟨sr, rfl, rfl⟩), fun _ f => f.elim, fun i y hy => ?_, fun i j u v b hi => ?_⟩ ⟨fun _ _ _ _ _ _ q => q.elim, fun u d Z2 W2 _ _ _ r hu => ?_, fun _ _ _ _ _ _ q => q.elim, fun _ _ _ _ _ _ q => q.elim⟩ hv
  · rw [e1]; simp; omega
  · match i, hy with
    | 0, hy => cases hy
    | 1, hy =>
      cases hy
      refine ⟨.ref a, ?_, by unfold Rep; exact ⟨a, c, rfl, rfl⟩⟩
      rw [e1, List.getElem?_set_self]
      simp; omega
    | i + 2, hy =>
      rw [List.getElem?_cons_succ, List.getElem?_cons_succ, List.getElem?_replicate] at hy
      split at hy <;> cases hy
  · match i, hi with
    | 0, hi => cases hi
    | 1, hi => cases hi
    | i + 2, hi =>
      rw [List.getElem?_cons_succ, List.getElem?_cons_succ, List.getElem?_replicate] at hi
      split at hi <;> cases hi
  · subst hu
    unfold Rep at r
    subst r
    exact ⟨W2, Sub.refl _, q W2⟩
end VL
/-! Vr: what is equal, what is within, what is shown. -/
namespace VL
open PySem PySem.Spec PyProof.Rows L2 DL A30
/-- a coding whose equality is Python's -/
structure Cod {α : Type} [DecidableEq α] (enc : α → U) (pd : α → PyData) (n : Nat) : Prop where
  hp : ∀ a, pyU (enc a) = some (pd a)
  lay : ∀ a, PyData.canLay0 (pd a) = true
  dep : ∀ a, PyData.depth (pd a) ≤ n
  eqv : ∀ a b, PyData.eqv (pd a) (pd b) = decide (a = b)
theorem pyUs_map {α : Type} {enc : α → U} {pd : α → PyData} (h : ∀ a, pyU (enc a) = some (pd a)) : ∀ xs : List α, pyUs (xs.map enc) = some (xs.map pd)
  | [] => by simp
  | x :: xs => by simp [h x, pyUs_map h xs]
section
variable {α β : Type} [DecidableEq α] [DecidableEq β] {enc : α → U} {pd : α → PyData} {n : Nat} {enb : β → U} {pb : β → PyData} {m : Nat}
theorem cod_int : Cod U.int PyData.int 0 := ⟨fun a => by simp, fun a => by simp [PyData.canLay0], fun a => by simp [PyData.depth], eqv_int⟩
theorem Cod.tup (c : Cod enc pd n) : Cod (fun xs : List α => U.tup (xs.map enc)) (fun xs => .tuple (xs.map pd)) (n + 1) :=
  ⟨fun a => by simp [pyUs_map c.hp a], fun a => by simp only [PyData.canLay0]; exact lay_map c.lay a, fun a => by simp only [PyData.depth]; have := dep_map c.dep a; omega, fun a b => by simp only [PyData.eqv]; exact eqvAll_map c.eqv a b⟩
theorem Cod.lst (c : Cod enc pd n) : Cod (fun xs : List α => U.lst (xs.map enc)) (fun xs => .list (xs.map pd)) (n + 1) :=
  ⟨fun a => by simp [pyUs_map c.hp a], fun a => by simp only [PyData.canLay0]; exact lay_map c.lay a, fun a => by simp only [PyData.depth]; have := dep_map c.dep a; omega, fun a b => by simp only [PyData.eqv]; exact eqvAll_map c.eqv a b⟩
theorem Cod.pair (c : Cod enc pd n) (d : Cod enb pb m) : Cod (fun x : α × β => U.tup [enc x.1, enb x.2]) (fun x => .tuple [pd x.1, pb x.2]) (max n m + 1) :=
  ⟨fun a => by simp [c.hp, d.hp], fun a => by simp [PyData.canLay0, PyData.canLayAll0, c.lay, d.lay], fun a => by
    simp only [PyData.depth, PyData.depthAll]; have := c.dep a.1; have := d.dep a.2; omega, fun a b => by
    simp only [PyData.eqv, PyData.eqvAll, c.eqv, d.eqv, Bool.and_true]
    rw [← Bool.decide_and, decide_eq_decide, Prod.ext_iff]⟩
theorem Cod.shaped (c : Cod enc pd n) (hn : n ≤ 60) (a : α) : SeqAt.shaped (pd a) = true := shaped_of (c.lay a) (Nat.le_trans (c.dep a) (by omega))
theorem Cod.eq (c : Cod enc pd n) (hn : n ≤ 60) {neg : Bool} {a b : α} {Q : U → Prop} (q : Q (.bl (if neg = true then !decide (a = b) else decide (a = b)))) : gEq neg (enc a) (enc b) Q :=
  ⟨pd a, pd b, c.hp a, c.hp b, c.shaped hn a, c.shaped hn b, by rw [c.eqv]; exact q⟩
theorem Cod.any (c : Cod enc pd n) (a : α) : ∀ xs : List α, (xs.map pd).any (fun z => PyData.eqv z (pd a)) = decide (a ∈ xs)
  | [] => by simp
  | x :: xs => by
    rw [List.map_cons, List.any_cons, c.any a xs, c.eqv]
    by_cases h : x = a
    · simp [h]
    · have : ¬ a = x := fun e => h e.symm
      simp [h, this]
theorem Cod.inL (c : Cod enc pd n) (hn : n ≤ 60) (a : α) (xs : List α) : inU (enc a) (.lst (xs.map enc)) = some (decide (a ∈ xs)) := by
  simp only [inU, c.hp, pyUs_map c.hp]
  rw [if_pos ⟨shaped_of (by simp only [PyData.canLay0]; exact lay_map c.lay xs) (by simp only [PyData.depth]; have := dep_map c.dep xs; omega), c.shaped hn a⟩, c.any]
theorem Cod.inT (c : Cod enc pd n) (hn : n ≤ 60) (a : α) (xs : List α) : inU (enc a) (.tup (xs.map enc)) = some (decide (a ∈ xs)) := by
  simp only [inU, c.hp, pyUs_map c.hp]
  rw [if_pos ⟨shaped_of (by simp only [PyData.canLay0]; exact lay_map c.lay xs) (by simp only [PyData.depth]; have := dep_map c.dep xs; omega), c.shaped hn a⟩, c.any]
end
/-! ints, lists of ints -/
@[simp] theorem gEq_int {neg : Bool} {i j : Int} {Q : U → Prop} : gEq neg (.int i) (.int j) Q = Q (.bl (if neg = true then !decide (i = j) else decide (i = j))) := by
  apply propext
  simp only [gEq, pyU, Option.some.injEq]
  constructor
  · rintro ⟨a, b, rfl, rfl, _, _, q⟩; rw [eqv_int] at q; exact q
  · intro q; exact ⟨_, _, rfl, rfl, shaped_int, shaped_int, by rw [eqv_int]; exact q⟩
def optU : Option Int → U
  | none => .non
  | some v => .int v
def pyOp : Option Int → PyData
  | none => .none
  | some v => .int v
theorem cod_opt : Cod optU pyOp 0 := ⟨fun a => by cases a <;> simp [optU, pyOp], fun a => by cases a <;> simp [pyOp, PyData.canLay0], fun a => by cases a <;> simp [pyOp, PyData.depth], fun a b => by
  cases a with
  | none => cases b <;> simp [pyOp, PyData.eqv]
  | some i => cases b with
    | none => simp [pyOp, PyData.eqv]
    | some j => show PyData.eqv (.int i) (.int j) = _; rw [eqv_int]; simp⟩
/-! what is shown -/
structure Shw (w d : Nat) (y : PyData) : Prop where
  s1 : y.showable = true
  s2 : y.hasDict = false
  s3 : y.depth ≤ d
  s4 : y.shown.length ≤ w
  s5 : PyData.strOk y.shown = true
  s6 : y.canLay0 = true
theorem strOk_cat (a b : Str) : PyData.strOk (a ++ b) = (PyData.strOk a && PyData.strOk b) := by
  show (a.cps ++ b.cps).all _ = _
  rw [Array.all_append]
  rfl
theorem shw_none : Shw 10 0 .none := ⟨by decide +kernel, by decide +kernel, by decide +kernel, by decide +kernel, by decide +kernel, by decide +kernel⟩
theorem shw_bool (b : Bool) : Shw 10 0 (.bool b) := by cases b <;> exact ⟨by decide +kernel, by decide +kernel, by decide +kernel, by decide +kernel, by decide +kernel, by decide +kernel⟩
theorem int_shown : ∀ t < 320, PyData.strOk (PyData.shown (.int (t : Nat))) = true ∧ (PyData.shown (.int (t : Nat))).length ≤ 10 ∧ PyData.strOk (PyData.shown (.int (-((t : Nat) : Int)))) = true ∧ (PyData.shown (.int (-((t : Nat) : Int)))).length ≤ 10 := by decide +kernel
theorem shw_int {i : Int} (h1 : -300 ≤ i) (h2 : i ≤ 300) : Shw 10 0 (.int i) := by
  obtain ⟨a1, a2, a3, a4⟩ := int_shown i.natAbs (by omega)
  have hl : i.natAbs.log2 < 1920 := Nat.lt_of_le_of_lt (Nat.log2_le_self _) (by omega)
  rcases Int.natAbs_eq i with e | e
  · exact ⟨by simp only [PyData.showable]; exact decide_eq_true hl, by simp [PyData.hasDict], by simp [PyData.depth], by rw [e]; exact a2, by rw [e]; exact a1, by simp [PyData.canLay0]⟩
  · exact ⟨by simp only [PyData.showable]; exact decide_eq_true hl, by simp [PyData.hasDict], by simp [PyData.depth], by rw [e]; exact a4, by rw [e]; exact a3, by simp [PyData.canLay0]⟩
theorem shw_all {w d : Nat} : ∀ {ys : List PyData}, (∀ y ∈ ys, Shw w d y) → PyData.showableAll ys = true ∧ PyData.hasDictAll ys = false ∧ PyData.depthAll ys ≤ d ∧ PyData.canLayAll0 ys = true ∧ ((PyData.shownAll ys).map (·.length)).sum ≤ ys.length * w ∧ (∀ t ∈ PyData.shownAll ys, PyData.strOk t = true) ∧ (PyData.shownAll ys).length = ys.length
  | [], _ => by simp [PyData.showableAll, PyData.hasDictAll, PyData.depthAll, PyData.canLayAll0, PyData.shownAll]
  | y :: ys, h => by
    obtain ⟨a1, a2, a3, a4, a5, a6, a7⟩ := shw_all (ys := ys) fun z hz => h z (by simp [hz])
    have b := h y (by simp)
    refine ⟨by simp [PyData.showableAll, a1, b.s1], by simp [PyData.hasDictAll, a2, b.s2], ?_, by simp [PyData.canLayAll0, a4, b.s6], ?_, ?_, by simp [PyData.shownAll, a7]⟩
    · have := b.s3
      simp only [PyData.depthAll]; omega
    · have := b.s4
      simp only [PyData.shownAll, List.map_cons, List.sum_cons, List.length_cons]
      rw [Nat.add_mul]; omega
    · intro t ht
      simp only [PyData.shownAll, List.mem_cons] at ht
      rcases ht with ht | ht
      · subst ht; exact b.s5
      · exact a6 t ht
theorem ok_textFrom : ∀ (ts : List Str) (k : Nat) (acc : Str), PyData.strOk acc = true → (∀ t ∈ ts, PyData.strOk t = true) → PyData.strOk (textFrom k acc ts) = true
  | [], _, _, h, _ => h
  | t :: ts, k, acc, h, ht => by
    refine ok_textFrom ts (k + 1) _ ?_ fun u hu => ht u (by simp [hu])
    have e2 : PyData.strOk (", " : Str) = true := by decide +kernel
    have e3 : PyData.strOk ("" : Str) = true := by decide +kernel
    rw [strOk_cat, strOk_cat, h, ht t (by simp)]
    split <;> simp [e2, e3]
theorem ok_join : ∀ (ts : List Str), (∀ t ∈ ts, PyData.strOk t = true) → PyData.strOk (Str.join ", " ts) = true
  | [], _ => by decide +kernel
  | [t], h => by show PyData.strOk t = true; exact h t (by simp)
  | t :: u :: ts, h => by
    have e2 : PyData.strOk (", " : Str) = true := by decide +kernel
    show PyData.strOk (t ++ ", " ++ Str.join ", " (u :: ts)) = true
    rw [strOk_cat, strOk_cat, h t (by simp), e2, ok_join (u :: ts) fun v hv => h v (by simp [hv])]
    rfl
theorem shw_tup {w d : Nat} {ys : List PyData} (h : ∀ y ∈ ys, Shw w d y) : Shw (ys.length * (w + 2) + 3) (d + 1) (.tuple ys) := by
  obtain ⟨a1, a2, a3, a4, a5, a6, a7⟩ := shw_all h
  have e1 : PyData.strOk ("(" : Str) = true := by decide +kernel
  have e3 : PyData.strOk ((",)" : String) : Str) = true := by decide +kernel
  have e4 : PyData.strOk (((")" : String)) : Str) = true := by decide +kernel
  refine ⟨by simp only [PyData.showable]; exact a1, by simp only [PyData.hasDict]; exact a2, by simp only [PyData.depth]; omega, ?_, ?_, by simp only [PyData.canLay0]; exact a4⟩
  · show (tupleText (PyData.shownAll ys)).length ≤ _
    have := tupleText_len_le (PyData.shownAll ys)
    rw [a7] at this
    rw [Nat.mul_add]; omega
  · show PyData.strOk (("(" : Str) ++ Str.join ", " (PyData.shownAll ys) ++ (if (PyData.shownAll ys).length == 1 then ",)" else ")" : String)) = true
    rw [strOk_cat, strOk_cat, e1, ok_join _ a6]
    split <;> simp [e3, e4]
theorem shw_lst {w d : Nat} {ys : List PyData} (h : ∀ y ∈ ys, Shw w d y) : Shw (ys.length * (w + 2) + 3) (d + 1) (.list ys) := by
  obtain ⟨a1, a2, a3, a4, a5, a6, a7⟩ := shw_all h
  have e1 : PyData.strOk ("[" : Str) = true := by decide +kernel
  have e4 : PyData.strOk (("]" : String) : Str) = true := by decide +kernel
  refine ⟨by simp only [PyData.showable]; exact a1, by simp only [PyData.hasDict]; exact a2, by simp only [PyData.depth]; omega, ?_, ?_, by simp only [PyData.canLay0]; exact a4⟩
  · show (listText (PyData.shownAll ys)).length ≤ _
    have := listText_len_le (PyData.shownAll ys)
    rw [a7] at this
    rw [Nat.mul_add]; omega
  · show PyData.strOk (textFrom 0 "[" (PyData.shownAll ys) ++ "]") = true
    rw [strOk_cat, ok_textFrom _ 0 _ e1 a6, e4]
    rfl
/-- small data -/
def Sm (w d : Nat) (u : U) : Prop := ∃ y, pyU u = some y ∧ Shw w d y
theorem Shw.up {w d w' d' : Nat} {y : PyData} (h : Shw w d y) (h1 : w ≤ w') (h2 : d ≤ d') : Shw w' d' y := ⟨h.s1, h.s2, Nat.le_trans h.s3 h2, Nat.le_trans h.s4 h1, h.s5, h.s6⟩
theorem Sm.up {w d w' d' : Nat} {u : U} (h : Sm w d u) (h1 : w ≤ w') (h2 : d ≤ d') : Sm w' d' u := let ⟨y, e, s⟩ := h; ⟨y, e, s.up h1 h2⟩
theorem sm_non : Sm 10 0 .non := ⟨_, by simp, shw_none⟩
theorem sm_bl (b : Bool) : Sm 10 0 (.bl b) := ⟨_, by simp, shw_bool b⟩
theorem sm_int {i : Int} (h1 : -300 ≤ i) (h2 : i ≤ 300) : Sm 10 0 (.int i) := ⟨_, by simp, shw_int h1 h2⟩
theorem sms {w d : Nat} : ∀ {us : List U}, (∀ u ∈ us, Sm w d u) → ∃ ys, pyUs us = some ys ∧ (∀ y ∈ ys, Shw w d y) ∧ ys.length = us.length
  | [], _ => ⟨[], by simp, by simp, rfl⟩
  | u :: us, h => by
    obtain ⟨y, e, s⟩ := h u (by simp)
    obtain ⟨ys, e2, s2, l2⟩ := sms (us := us) fun v hv => h v (by simp [hv])
    exact ⟨y :: ys, by simp [e, e2], fun z hz => by
      rcases List.mem_cons.mp hz with q | q
      · subst q; exact s
      · exact s2 z q, by simp [l2]⟩
theorem sm_tup {w d k : Nat} {us : List U} (h : ∀ u ∈ us, Sm w d u) (hk : us.length ≤ k) : Sm (k * (w + 2) + 3) (d + 1) (.tup us) := by
  obtain ⟨ys, e, s, l⟩ := sms h
  exact ⟨_, by simp [e], (shw_tup s).up (by rw [l]; have := Nat.mul_le_mul_right (w + 2) hk; omega) (Nat.le_refl _)⟩
theorem sm_lst {w d k : Nat} {us : List U} (h : ∀ u ∈ us, Sm w d u) (hk : us.length ≤ k) : Sm (k * (w + 2) + 3) (d + 1) (.lst us) := by
  obtain ⟨ys, e, s, l⟩ := sms h
  exact ⟨_, by simp [e], (shw_lst s).up (by rw [l]; have := Nat.mul_le_mul_right (w + 2) hk; omega) (Nat.le_refl _)⟩
def shU (u : U) : Str := match pyU u with | some y => y.shown | none => ""
theorem m_repr {w d : Nat} {u : U} {Q : U → Prop} (h : Sm w d u) (hw : w ≤ 1000000) (hd : d ≤ 60) (q : Q (.str (shU u))) : gRepr [u] Q := by
  obtain ⟨y, e, s⟩ := h
  refine ⟨y, e, s.s1, s.s2, Nat.le_trans s.s3 hd, Nat.le_trans s.s4 hw, ?_⟩
  unfold shU at q
  rw [e] at q
  exact q
/-- shown alike -/
theorem m_same {w d : Nat} {u : U} {neg : Bool} {Q : U → Prop} (h : Sm w d u) (q : Q (.bl (!neg))) : gEq neg (.str (shU u)) (.str (shU u)) Q := by
  obtain ⟨y, e, s⟩ := h
  have hs : SeqAt.shaped (.str (shU u)) = true := shaped_of (by simp only [PyData.canLay0]; unfold shU; rw [e]; exact s.s5) (by simp [PyData.depth])
  refine ⟨_, _, by simp, by simp, hs, hs, ?_⟩
  have : PyData.eqv (.str (shU u)) (.str (shU u)) = true := by simp [PyData.eqv]
  rw [this]
  cases neg <;> exact q
end VL
/-! Vd: readings of defs that many laws share. -/
namespace VL
open PySem PySem.Spec PyProof.Rows L2 DL A30
def f__law_strict_town : FS :=
    (sSeq (sPar3 2 3 4 (fCons (fBin pAdd (fC (.int 2)) (fCall (spOf vfPick) (fCons (fVar 0) (fCons (fB1 bMin2 (fCons (fC (.int 3)) (fCons (fBin pSub (fVar 1) (fC (.int 1))) fNil))) fNil)))) (fCons (fLst (fCons (fLst fNil) (fCons (fLst fNil) fNil))) (fCons (fLst fNil) fNil))))
    (sSeq (sAsg (fBin pAdd (fC (.int 4)) (fCall (spOf vfPick) (fCons (fVar 0) (fCons (fC (.int 3)) fNil)))) (gN 5))
    (sSeq (sFor (fRng1 (fCons (fVar 2) fNil)) (gN 6) (appLots 3 6 (fB1 bInt (fCons (fBin pEq (fCall (spOf vfPick) (fCons (fVar 0) (fCons (fC (.int 4)) fNil))) (fC (.int 0))) fNil))))
    (sSeq (sFor (fSeq (fLc (fSeq (fVar 3)) (gN 7) (fB (fBin pNe (fVar 7) (fLst fNil))) (fVar 7) [7])) (gN 7) (sSeq (sAsg (fTup (fCons (fLc (fSeq (fVar 7)) (gN 9) fYes (fTup (fCons (fVar 9) (fCons (fC .non) fNil))) [9]) (fCons (fBin pSub' (fVar 7) (fCall (spOf vfPick) (fCons (fVar 0) (fCons (fB1 bLen (fCons (fVar 7) fNil)) fNil)))) fNil))) (gTp 2 (gCn (gN 8) (gCn (gN 6) gNl))))
    (sSeq (sAsg (fLc (fRng1 (fCons (fVar 2) fNil)) (gN 9) (fB (fBin pNe (fVar 9) (fVar 6))) (fVar 9) [9]) (gN 10))
    (sSeq (sIf (fAndT (fB (fBin pEq (fCall (spOf vfPick) (fCons (fVar 0) (fCons (fC (.int 2)) fNil))) (fC (.int 0)))) (fB (fBin (pII0 fun i j => .bl (decide (i < j))) (fB1 bLen (fCons (fVar 8) fNil)) (fC (.int 4))))) (sDrop (fM isL mAppend (fVar 8) (fCons (fTup (fCons (fVar 6) (fCons (fBin pSub' (fVar 10) (fCall (spOf vfPick) (fCons (fVar 0) (fCons (fB1 bLen (fCons (fVar 10) fNil)) fNil)))) fNil))) fNil))) (fun D δ W => D.nx δ W))
    (sSeq (sAsg (fLst fNil) (gN 11))
    (sSeq (sFor (fRng1 (fCons (fB1 bLen (fCons (fVar 8) fNil)) fNil)) (gN 12) (sAsg (fBin pAdd (fVar 11) (fLc (fRng2 (fCons (fBin pAdd (fVar 12) (fC (.int 1))) (fCons (fB1 bLen (fCons (fVar 8) fNil)) fNil))) (gN 13) (fB (fBin (pII0 fun i j => .bl (decide (j < i))) (fCall (spOf vfPick) (fCons (fVar 0) (fCons (fC (.int 5)) fNil))) (fC (.int 0)))) (fTup (fCons (fVar 12) (fCons (fVar 13) (fCons (fC (.int 1)) (fCons (fC (.int 1)) fNil))))) [13])) (gN 11)))
    (sDrop (fM isL mAppend (fVar 4) (fCons (fTup (fCons (fB1 bTuple (fCons (fVar 8) fNil)) (fCons (fB1 bTuple (fCons (fVar 11) fNil)) (fCons (fVar 5) fNil)))) fNil)))))))))
    (sRet (fTup (fCons (fVar 2) (fCons (fB1 bTuple (fCons (fVar 4) fNil)) fNil))))))))
def v__law_strict_town : VS :=
    (vLots2 2 3 4 5 6 (vBin gAdd (vC (.int 2)) (vCall vfPick (vaC (vVar 0) (vaC (vB1 gMin2 (vaC (vC (.int 3)) (vaC (vBin gSub (vVar 1) (vC (.int 1))) vaN))) vaN)))) (vBin gAdd (vC (.int 4)) (vCall vfPick (vaC (vVar 0) (vaC (vC (.int 3)) vaN)))) (viRng1 (vaC (vVar 2) vaN)) (vB1 gInt (vaC (vBin (gEq false) (vCall vfPick (vaC (vVar 0) (vaC (vC (.int 4)) vaN))) (vC (.int 0))) vaN))
    (vSeq (vFgt [6, 7, 8, 10, 11, 12] (vFor (viSeq (vLc (viSeq (vVar 3)) (tN 7) (vB (vBin (gEq true) (vVar 7) (vLst vaN))) (vVar 7) [7])) (tN 7) (vEnd [6, 7, 8, 10, 11, 12] (vSeq (vPar 8 6 true false (vLc (viSeq (vVar 7)) (tN 9) vYes (vTup (vaC (vVar 9) (vaC (vC .non) vaN))) [9]) (vBin gIx (vVar 7) (vCall vfPick (vaC (vVar 0) (vaC (vB1 gLen (vaC (vVar 7) vaN)) vaN)))))
    (vSeq (vAsg (vLc (viRng1 (vaC (vVar 2) vaN)) (tN 9) (vB (vBin (gEq true) (vVar 9) (vVar 6))) (vVar 9) [9]) (tN 10))
    (vSeq (vIfS (vAndT (vB (vBin (gEq false) (vCall vfPick (vaC (vVar 0) (vaC (vC (.int 2)) vaN))) (vC (.int 0)))) (vB (vBin (gI2 fun i j => .bl (decide (i < j))) (vB1 gLen (vaC (vBor 8) vaN)) (vC (.int 4))))) (vApp 8 (vTup (vaC (vVar 6) (vaC (vBin gIx (vVar 10) (vCall vfPick (vaC (vVar 0) (vaC (vB1 gLen (vaC (vVar 10) vaN)) vaN)))) vaN)))) vNx)
    (vSeq (vAsg (vLst vaN) (tN 11))
    (vSeq (vFgt [12] (vFor (viRng1 (vaC (vB1 gLen (vaC (vBor 8) vaN)) vaN)) (tN 12) (vEnd [12] (vAsg (vBin gAdd (vVar 11) (vLc (viRng2 (vaC (vBin gAdd (vVar 12) (vC (.int 1))) (vaC (vB1 gLen (vaC (vBor 8) vaN)) vaN))) (tN 13) (vB (vBin (gI2 fun i j => .bl (decide (j < i))) (vCall vfPick (vaC (vVar 0) (vaC (vC (.int 5)) vaN))) (vC (.int 0)))) (vTup (vaC (vVar 12) (vaC (vVar 13) (vaC (vC (.int 1)) (vaC (vC (.int 1)) vaN))))) [13])) (tN 11)))))
    (vApp 4 (vTup (vaC (vB1 gTuple (vaC (vBor 8) vaN)) (vaC (vB1 gTuple (vaC (vVar 11) vaN)) (vaC (vVar 5) vaN)))))))))))))
    (vRet (vTup (vaC (vVar 2) (vaC (vB1 gTuple (vaC (vBor 4) vaN)) vaN))))))
theorem vs__law_strict_town : SSt f__law_strict_town v__law_strict_town :=
    (ss_lots2 (sv_bin ov_add (SV.b sv_int) (SV.b (sv_call (sa_c sv_var (sa_c (sv_b1 bv_min2 (sab_c (SV.b sv_int) (sab_c (SV.b (sv_bin ov_ii (SV.b sv_var) (SV.b sv_int))) sab_n))) sa_n))))) (sv_bin ov_add (SV.b sv_int) (SV.b (sv_call (sa_c sv_var (sa_c sv_int sa_n))))) (si_rng1V (sab_c (SV.b sv_var) sab_n)) (SV.b (sv_b1 bv_int (sab_c (SV.b (sv_bin ov_eq (SV.b (sv_call (sa_c sv_var (sa_c sv_int sa_n)))) (SV.b sv_int))) sab_n)))
    (ss_seq (ss_fgt (VL.ss_for (si_seqV (SF.v (sf_lc (si_seqV sv_var) sg_n (so_b (SV.b (sv_bin ov_ne (SV.b sv_var) (SV.b (SF.v (sf_lst sa_n)))))) sv_var))) sg_n (ss_end (ss_seq (VL.ss_parT (show SX true _ _ from (sf_lc (si_seqV sv_var) sg_n so_yes (sv_tup (sa_c sv_var (sa_c sv_non sa_n))))) (show SX false _ _ from (sv_bin ov_ix (SV.b sv_var) (SV.b (sv_call (sa_c sv_var (sa_c (sv_b1 bv_len (sab_c (SV.b sv_var) sab_n)) sa_n)))))))
    (ss_seq (ss_as (SF.v (sf_lc (si_rng1V (sab_c (SV.b sv_var) sab_n)) sg_n (so_b (SV.b (sv_bin ov_ne (SV.b sv_var) (SV.b sv_var)))) sv_var)) sg_n)
    (ss_seq (VL.ss_if (so_and (so_b (SV.b (sv_bin ov_eq (SV.b (sv_call (sa_c sv_var (sa_c sv_int sa_n)))) (SV.b sv_int)))) (so_b (SV.b (sv_bin ov_ib (SV.b (sv_b1 bv_len (sab_c sb_bor sab_n))) (SV.b sv_int))))) (ss_app (sv_tup (sa_c sv_var (sa_c (sv_bin ov_ix (SV.b sv_var) (SV.b (sv_call (sa_c sv_var (sa_c (sv_b1 bv_len (sab_c (SV.b sv_var) sab_n)) sa_n))))) sa_n)))) ss_nx)
    (ss_seq (ss_as (SF.v (sf_lst sa_n)) sg_n)
    (ss_seq (ss_fgt (VL.ss_for (si_rng1V (sab_c (SV.b (sv_b1 bv_len (sab_c sb_bor sab_n))) sab_n)) sg_n (ss_end (ss_as (sv_bin ov_add (SV.b sv_var) (SV.b (SF.v (sf_lc (si_rng2V (sab_c (SV.b (sv_bin ov_add (SV.b sv_var) (SV.b sv_int))) (sab_c (SV.b (sv_b1 bv_len (sab_c sb_bor sab_n))) sab_n))) sg_n (so_b (SV.b (sv_bin ov_ib (SV.b (sv_call (sa_c sv_var (sa_c sv_int sa_n)))) (SV.b sv_int)))) (sv_tup (sa_c sv_var (sa_c sv_var (sa_c sv_int (sa_c sv_int sa_n))))))))) sg_n))))
    (ss_app (sv_tup (sa_c (sv_b1 bv_tuple (sab_c sb_bor sab_n)) (sa_c (sv_b1 bv_tuple (sab_c (SV.b sv_var) sab_n)) (sa_c sv_var sa_n)))))))))))))
    (ss_rt (SV.b (sv_tup (sa_c sv_var (sa_c (sv_b1 bv_tuple (sab_c sb_bor sab_n)) sa_n)))))))
@[simp] def vf__law_strict_town : VF := fun us Q => match us with
  | [x0, x1] => v__law_strict_town (RTv Q) [some (.val x0), some (.val x1), none, none, none, none, none, none, none, none, none, none, none, none]
  | _ => False
theorem vo__law_strict_town : ∀ us Q, vf__law_strict_town us Q → vFn 2 14 v__law_strict_town us Q := fun us Q h => by
  unfold vf__law_strict_town at h
  split at h
  · exact ⟨rfl, h⟩
  · exact h.elim
def f__law_draw_crossing : FS :=
    (sSeq (sAsg (fLst fNil) (gN 4))
    (sSeq (sFor (fSeq (fVar 2)) (gN 5) (sSeq (sAsg (fBin pAdd (fLst (fCons (fC .non) fNil)) (fLc (fRng1 (fCons (fVar 1) fNil)) (gN 7) (fB (fBin pNe (fVar 7) (fVar 5))) (fVar 7) [7])) (gN 6))
    (sFor (fRng1 (fCons (fBin pAdd (fC (.int 1)) (fB1 bInt (fCons (fBin pEq (fCall (spOf vfPick) (fCons (fVar 0) (fCons (fC (.int 3)) fNil))) (fC (.int 0))) fNil))) fNil)) (gN 8) (sSeq (sAsg (fTup (fCons (fVar 5) (fCons (fBin pSub' (fVar 6) (fCall (spOf vfPick) (fCons (fVar 0) (fCons (fB1 bLen (fCons (fVar 6) fNil)) fNil)))) fNil))) (gN 9))
    (sIf (fB (fBin (pInA true) (fVar 9) (fVar 4))) (sDrop (fM isL mAppend (fVar 4) (fCons (fVar 9) fNil))) (fun D δ W => D.nx δ W))))))
    (sSeq (sPar 4 10 (fCons (fSl (fCall (spOf vfOrder) (fCons (fVar 0) (fCons (fVar 4) fNil))) fNoPart (fPart (fC (.int 4)))) (fCons (fLst fNil) fNil)))
    (sSeq (sFor (fRng1 (fCons (fB1 bLen (fCons (fVar 4) fNil)) fNil)) (gN 11) (sFor (fRng2 (fCons (fBin pAdd (fVar 11) (fC (.int 1))) (fCons (fB1 bLen (fCons (fVar 4) fNil)) fNil))) (gN 12) (sIf (fB (fBin pEq (fCall (spOf vfPick) (fCons (fVar 0) (fCons (fC (.int 2)) fNil))) (fC (.int 0)))) (sDrop (fM isL mAppend (fVar 10) (fCons (fTup (fCons (fVar 11) (fCons (fVar 12) (fCons (fCall (spOf vfPick) (fCons (fVar 0) (fCons (fC (.int 3)) fNil))) (fCons (fCall (spOf vfPick) (fCons (fVar 0) (fCons (fC (.int 3)) fNil))) fNil))))) fNil))) (fun D δ W => D.nx δ W))))
    (sRet (fTup (fCons (fB1 bTuple (fCons (fVar 4) fNil)) (fCons (fB1 bTuple (fCons (fVar 10) fNil)) (fCons (fVar 3) fNil)))))))))
def v__law_draw_crossing : VS :=
    (vSeq (vOwn 4 (vLst vaN))
    (vSeq (vFgt [5, 6, 8] (vFor (viSeq (vVar 2)) (tN 5) (vEnd [5, 6, 8] (vSeq (vAsg (vBin gAdd (vLst (vaC (vC .non) vaN)) (vLc (viRng1 (vaC (vVar 1) vaN)) (tN 7) (vB (vBin (gEq true) (vVar 7) (vVar 5))) (vVar 7) [7])) (tN 6))
    (vFgt [8, 9] (vFor (viRng1 (vaC (vBin gAdd (vC (.int 1)) (vB1 gInt (vaC (vBin (gEq false) (vCall vfPick (vaC (vVar 0) (vaC (vC (.int 3)) vaN))) (vC (.int 0))) vaN))) vaN)) (tN 8) (vEnd [8, 9] (vSeq (vAsg (vTup (vaC (vVar 5) (vaC (vBin gIx (vVar 6) (vCall vfPick (vaC (vVar 0) (vaC (vB1 gLen (vaC (vVar 6) vaN)) vaN)))) vaN))) (tN 9))
    (vIfS (vB (vBin (gIn true) (vVar 9) (vBor 4))) (vApp 4 (vVar 9)) vNx)))))))))
    (vSeq (vFrz 4 (vPar 4 10 false true (vSl (vCall vfOrder (vaC (vVar 0) (vaC (vVar 4) vaN))) voN (voS (vC (.int 4)))) (vLst vaN)))
    (vSeq (vFgt [11, 12] (vFor (viRng1 (vaC (vB1 gLen (vaC (vVar 4) vaN)) vaN)) (tN 11) (vEnd [11, 12] (vFgt [12] (vFor (viRng2 (vaC (vBin gAdd (vVar 11) (vC (.int 1))) (vaC (vB1 gLen (vaC (vVar 4) vaN)) vaN))) (tN 12) (vEnd [12] (vIfS (vB (vBin (gEq false) (vCall vfPick (vaC (vVar 0) (vaC (vC (.int 2)) vaN))) (vC (.int 0)))) (vApp 10 (vTup (vaC (vVar 11) (vaC (vVar 12) (vaC (vCall vfPick (vaC (vVar 0) (vaC (vC (.int 3)) vaN))) (vaC (vCall vfPick (vaC (vVar 0) (vaC (vC (.int 3)) vaN))) vaN)))))) vNx)))))))
    (vRet (vTup (vaC (vB1 gTuple (vaC (vVar 4) vaN)) (vaC (vB1 gTuple (vaC (vBor 10) vaN)) (vaC (vVar 3) vaN)))))))))
theorem vs__law_draw_crossing : SSt f__law_draw_crossing v__law_draw_crossing :=
    (ss_seq (ss_own (sf_lst sa_n))
    (ss_seq (ss_fgt (VL.ss_for (si_seqV sv_var) sg_n (ss_end (ss_seq (ss_as (sv_bin ov_add (SV.b (SF.v (sf_lst (sa_c sv_non sa_n)))) (SV.b (SF.v (sf_lc (si_rng1V (sab_c (SV.b sv_var) sab_n)) sg_n (so_b (SV.b (sv_bin ov_ne (SV.b sv_var) (SV.b sv_var)))) sv_var)))) sg_n)
    (ss_fgt (VL.ss_for (si_rng1V (sab_c (SV.b (sv_bin ov_add (SV.b sv_int) (SV.b (sv_b1 bv_int (sab_c (SV.b (sv_bin ov_eq (SV.b (sv_call (sa_c sv_var (sa_c sv_int sa_n)))) (SV.b sv_int))) sab_n))))) sab_n)) sg_n (ss_end (ss_seq (ss_as (sv_tup (sa_c sv_var (sa_c (sv_bin ov_ix (SV.b sv_var) (SV.b (sv_call (sa_c sv_var (sa_c (sv_b1 bv_len (sab_c (SV.b sv_var) sab_n)) sa_n))))) sa_n))) sg_n)
    (VL.ss_if (so_b (SV.b (sv_bin (ov_in true) (SV.b sv_var) sb_bor))) (ss_app sv_var) ss_nx)))))))))
    (ss_seq (ss_frz (VL.ss_par (show SX false _ _ from (sv_sl (SV.b (sv_call (sa_c sv_var (sa_c sv_var sa_n)))) so_n (so_s (SV.b sv_int)))) (show SX true _ _ from (sf_lst sa_n))))
    (ss_seq (ss_fgt (VL.ss_for (si_rng1V (sab_c (SV.b (sv_b1 bv_len (sab_c (SV.b sv_var) sab_n))) sab_n)) sg_n (ss_end (ss_fgt (VL.ss_for (si_rng2V (sab_c (SV.b (sv_bin ov_add (SV.b sv_var) (SV.b sv_int))) (sab_c (SV.b (sv_b1 bv_len (sab_c (SV.b sv_var) sab_n))) sab_n))) sg_n (ss_end (VL.ss_if (so_b (SV.b (sv_bin ov_eq (SV.b (sv_call (sa_c sv_var (sa_c sv_int sa_n)))) (SV.b sv_int)))) (ss_app (sv_tup (sa_c sv_var (sa_c sv_var (sa_c (sv_call (sa_c sv_var (sa_c sv_int sa_n))) (sa_c (sv_call (sa_c sv_var (sa_c sv_int sa_n))) sa_n)))))) ss_nx)))))))
    (ss_rt (SV.b (sv_tup (sa_c (sv_b1 bv_tuple (sab_c (SV.b sv_var) sab_n)) (sa_c (sv_b1 bv_tuple (sab_c sb_bor sab_n)) (sa_c sv_var sa_n))))))))))
@[simp] def vf__law_draw_crossing : VF := fun us Q => match us with
  | [x0, x1, x2, x3] => v__law_draw_crossing (RTv Q) [some (.val x0), some (.val x1), some (.val x2), some (.val x3), none, none, none, none, none, none, none, none, none]
  | _ => False
theorem vo__law_draw_crossing : ∀ us Q, vf__law_draw_crossing us Q → vFn 4 13 v__law_draw_crossing us Q := fun us Q h => by
  unfold vf__law_draw_crossing at h
  split at h
  · exact ⟨rfl, h⟩
  · exact h.elim
def f__law_draw_town : FS :=
    (sSeq (sIf (fAndT (fB (fBin (pII0 fun i j => .bl (decide (j < i))) (fVar 1) (fC (.int 1)))) (fB (fBin pEq (fCall (spOf vfPick) (fCons (fVar 0) (fCons (fC (.int 3)) fNil))) (fC (.int 0))))) (sRet (fCall (spOf vf__law_strict_town) (fCons (fVar 0) (fCons (fVar 1) fNil)))) (fun D δ W => D.nx δ W))
    (sSeq (sPar3 2 3 4 (fCons (fBin pAdd (fC (.int 1)) (fCall (spOf vfPick) (fCons (fVar 0) (fCons (fVar 1) fNil)))) (fCons (fBin pAdd (fC (.int 3)) (fCall (spOf vfPick) (fCons (fVar 0) (fCons (fC (.int 6)) fNil)))) (fCons (fLst fNil) fNil))))
    (sSeq (sAsg (fLst (fCons (fLst fNil) (fCons (fLst fNil) (fCons (fLst fNil) fNil)))) (gN 5))
    (sSeq (sFor (fRng1 (fCons (fVar 2) fNil)) (gN 6) (appLots 5 6 (fCall (spOf vfPick) (fCons (fVar 0) (fCons (fC (.int 3)) fNil)))))
    (sSeq (sFor (fSeq (fVar 5)) (gN 7) (sIf (fB (fBin pNe (fVar 7) (fLst fNil))) (sDrop (fM isL mAppend (fVar 4) (fCons (fCall (spOf vf__law_draw_crossing) (fCons (fVar 0) (fCons (fVar 2) (fCons (fVar 7) (fCons (fVar 3) fNil))))) fNil))) (fun D δ W => D.nx δ W)))
    (sRet (fTup (fCons (fVar 2) (fCons (fB1 bTuple (fCons (fVar 4) fNil)) fNil)))))))))
def v__law_draw_town : VS :=
    (vSeq (vIfS (vAndT (vB (vBin (gI2 fun i j => .bl (decide (j < i))) (vVar 1) (vC (.int 1)))) (vB (vBin (gEq false) (vCall vfPick (vaC (vVar 0) (vaC (vC (.int 3)) vaN))) (vC (.int 0))))) (vRet (vCall vf__law_strict_town (vaC (vVar 0) (vaC (vVar 1) vaN)))) vNx)
    (vSeq (vPar3 2 3 4 false false true (vBin gAdd (vC (.int 1)) (vCall vfPick (vaC (vVar 0) (vaC (vVar 1) vaN)))) (vBin gAdd (vC (.int 3)) (vCall vfPick (vaC (vVar 0) (vaC (vC (.int 6)) vaN)))) (vLst vaN))
    (vLots3 5 6 (viRng1 (vaC (vVar 2) vaN)) (vCall vfPick (vaC (vVar 0) (vaC (vC (.int 3)) vaN)))
    (vSeq (vFgt [7] (vFor (viSeq (vVar 5)) (tN 7) (vEnd [7] (vIfS (vB (vBin (gEq true) (vVar 7) (vLst vaN))) (vApp 4 (vCall vf__law_draw_crossing (vaC (vVar 0) (vaC (vVar 2) (vaC (vVar 7) (vaC (vVar 3) vaN)))))) vNx))))
    (vRet (vTup (vaC (vVar 2) (vaC (vB1 gTuple (vaC (vBor 4) vaN)) vaN))))))))
theorem vs__law_draw_town : SSt f__law_draw_town v__law_draw_town :=
    (ss_seq (VL.ss_if (so_and (so_b (SV.b (sv_bin ov_ib (SV.b sv_var) (SV.b sv_int)))) (so_b (SV.b (sv_bin ov_eq (SV.b (sv_call (sa_c sv_var (sa_c sv_int sa_n)))) (SV.b sv_int))))) (ss_rt (SV.b (sv_call (sa_c sv_var (sa_c sv_var sa_n))))) ss_nx)
    (ss_seq (VL.ss_par3 (show SX false _ _ from (sv_bin ov_add (SV.b sv_int) (SV.b (sv_call (sa_c sv_var (sa_c sv_var sa_n)))))) (show SX false _ _ from (sv_bin ov_add (SV.b sv_int) (SV.b (sv_call (sa_c sv_var (sa_c sv_int sa_n)))))) (show SX true _ _ from (sf_lst sa_n)))
    (ss_lots3 (si_rng1V (sab_c (SV.b sv_var) sab_n)) (SV.b (sv_call (sa_c sv_var (sa_c sv_int sa_n))))
    (ss_seq (ss_fgt (VL.ss_for (si_seqV sv_var) sg_n (ss_end (VL.ss_if (so_b (SV.b (sv_bin ov_ne (SV.b sv_var) (SV.b (SF.v (sf_lst sa_n)))))) (ss_app (sv_call (sa_c sv_var (sa_c sv_var (sa_c sv_var (sa_c sv_var sa_n)))))) ss_nx))))
    (ss_rt (SV.b (sv_tup (sa_c sv_var (sa_c (sv_b1 bv_tuple (sab_c sb_bor sab_n)) sa_n)))))))))
@[simp] def vf__law_draw_town : VF := fun us Q => match us with
  | [x0, x1] => v__law_draw_town (RTv Q) [some (.val x0), some (.val x1), none, none, none, none, none, none]
  | _ => False
theorem vo__law_draw_town : ∀ us Q, vf__law_draw_town us Q → vFn 2 8 v__law_draw_town us Q := fun us Q h => by
  unfold vf__law_draw_town at h
  split at h
  · exact ⟨rfl, h⟩
  · exact h.elim
end VL
/-! Wd: what is drawn. -/
namespace VL
open PySem PySem.Spec PyProof.Rows L2 DL A30
@[simp] theorem pick_eq {m : Int} {Q : U → Prop} : vfPick [.src, .int m] Q = (m ≤ 1000000 ∧ ∀ v, (m < 2 → v = 0) → (2 ≤ m → 0 ≤ v ∧ v < m) → Q (.int v)) := by
  apply propext
  constructor
  · rintro ⟨k, e, h, q⟩
    cases e
    exact ⟨h, q⟩
  · rintro ⟨h, q⟩
    exact ⟨m, rfl, h, q⟩
@[simp] theorem order_eq {xs : List U} {Q : U → Prop} : vfOrder [.src, .lst xs] Q = (xs.length ≤ 1000 ∧ ∀ ys, List.Perm ys xs → Q (.lst ys)) := by
  apply propext
  constructor
  · rintro ⟨k, e, h, q⟩
    cases e
    exact ⟨h, q⟩
  · rintro ⟨h, q⟩
    exact ⟨xs, rfl, h, q⟩
abbrev Mv := Int × Option Int
def encMv (m : Mv) : U := .tup [.int m.1, optU m.2]
theorem cod_mv : Cod encMv (fun m => .tuple [.int m.1, pyOp m.2]) 1 := cod_int.pair cod_opt
structure Crx where
  ms : List Mv
  cs : List (Int × Int × Int × Int)
  len : Int
def rowU (r : Int × Int × Int × Int) : U := .tup [.int r.1, .int r.2.1, .int r.2.2.1, .int r.2.2.2]
def Crx.enc (c : Crx) : U := .tup [.tup (c.ms.map encMv), .tup (c.cs.map rowU), .int c.len]
def MvOk (n : Int) (m : Mv) : Prop := 0 ≤ m.1 ∧ m.1 < n ∧ ∀ t, m.2 = some t → 0 ≤ t ∧ t < n ∧ t ≠ m.1
def RwOk (k : Nat) (r : Int × Int × Int × Int) : Prop := 0 ≤ r.1 ∧ r.1 < r.2.1 ∧ r.2.1 < k ∧ 0 ≤ r.2.2.1 ∧ r.2.2.1 ≤ 2 ∧ 0 ≤ r.2.2.2 ∧ r.2.2.2 ≤ 2
def rlt (r s : Int × Int × Int × Int) : Prop := r.1 < s.1 ∨ (r.1 = s.1 ∧ r.2.1 < s.2.1)
structure CrOk (n : Int) (c : Crx) : Prop where
  m1 : c.ms ≠ []
  m4 : c.ms.length ≤ 4
  nd : c.ms.Nodup
  mv : ∀ m ∈ c.ms, MvOk n m
  rw : ∀ r ∈ c.cs, RwOk c.ms.length r
  as : c.cs.Pairwise rlt
  l1 : 3 ≤ c.len
  l2 : c.len ≤ 8
def nU (k : Nat) : U := .int (k : Nat)
theorem rng0 (m : Nat) : rngU 0 m = (List.range m).map nU := by
  unfold rngU nU
  congr 1
  funext k
  simp
theorem rngL (lo : Int) (m : Nat) : rngU lo m = (List.range m).map fun k => U.int (lo + (k : Nat)) := rfl
/-- a turn of range -/
theorem range_at {k i : Nat} {done rest : List Nat} (h : List.range k = done ++ i :: rest) : done = List.range i ∧ i < k := by
  have h1 := congrArg (fun l => l[done.length]?) h
  simp at h1
  have hl := congrArg List.length h
  simp at hl
  rw [List.getElem?_range (by omega)] at h1
  simp at h1
  have h2 := congrArg (fun l => l.take done.length) h
  simp [List.take_range] at h2
  subst h1
  refine ⟨?_, by omega⟩
  conv => lhs; rw [← h2]
  rw [Nat.min_eq_left (by omega)]
/-- all ints below n but q -/
def others (n q : Int) : List Nat := (List.range n.toNat).filter fun k => !decide (((k : Nat) : Int) = q)
theorem others_len {n q : Int} : (others n q).length ≤ n.toNat := by
  have := List.length_filter_le (fun k : Nat => !decide (((k : Nat) : Int) = q)) (List.range n.toNat)
  simpa [others] using this
theorem others_mem {n q : Int} {k : Nat} : k ∈ others n q ↔ (k : Int) < n ∧ (k : Int) ≠ q := by
  simp [others]
/-- [one for one in range(n) if one != q] -/
theorem lc_others {i j o : Nat} {e : VEnv} {n q : Int} {Q : U → Prop} (hn : 0 ≤ n ∧ n ≤ 1000) (hi : (wipeV e [o])[i]? = some (some (.val (.int q)))) (hio : i ≠ o) (hol : o < e.length) (hj : e[j]? = some (some (.val (.int n)))) (qq : Q (.lst ((others n q).map nU))) :
    vLc (viRng1 (vaC (vVar j) vaN)) (tN o) (vB (vBin (gEq true) (vVar o) (vVar i))) (vVar o) [o] e Q := by
  refine vLc_filter (enc := nU) (g := nU) (p := fun k => !decide (((k : Nat) : Int) = q)) (List.range n.toNat) (fun K hK => ?_) (fun k hk N hN => ?_) (by simp; omega) qq
  · simp [hj, rng0]
    exact ⟨by omega, by omega, hK⟩
  · have h1 : ((wipeV e [o]).set o (some (.val (nU k))))[o]? = some (some (.val (nU k))) := List.getElem?_set_self (by simpa using hol)
    have h2 : ((wipeV e [o]).set o (some (.val (nU k))))[i]? = some (some (.val (.int q))) := by rw [List.getElem?_set_ne (Ne.symm hio)]; exact hi
    simp only [tN, vB, vBin, vVar, h1, h2, Option.some.injEq, VX.val.injEq, exists_eq_left']
    simp only [nU, gEq_int] at hN ⊢
    by_cases z : ((k : Nat) : Int) = q
    · simp [z] at hN ⊢; exact hN
    · simp [z] at hN ⊢; exact hN
theorem perm_map {α β : Type} {f : α → β} {ys zs : List β} (h : ys.Perm zs) : ∀ {L : List α}, zs = L.map f → ∃ L1 : List α, ys = L1.map f ∧ L1.Perm L := by
  induction h with
  | nil => intro L e; cases L with
    | nil => exact ⟨[], rfl, List.Perm.refl _⟩
    | cons => cases e
  | cons x _ ih => intro L e; cases L with
    | nil => cases e
    | cons a L =>
      simp at e
      obtain ⟨L1, e1, p⟩ := ih e.2
      exact ⟨a :: L1, by rw [e.1, e1]; rfl, p.cons a⟩
  | swap x y l => intro L e; cases L with
    | nil => cases e
    | cons a L => cases L with
      | nil => cases e
      | cons b L =>
        simp at e
        exact ⟨b :: a :: L, by rw [e.1, e.2.1, e.2.2]; rfl, List.Perm.swap a b L⟩
  | trans _ _ ih1 ih2 =>
    intro L e
    obtain ⟨L2, e2, p2⟩ := ih2 e
    obtain ⟨L1, e1, p1⟩ := ih1 e2
    exact ⟨L1, e1, p1.trans p2⟩
theorem cut_to (xs : List U) (k : Nat) : cutU xs none (some (k : Nat)) = xs.take k := by
  unfold cutU
  have e1 : HT.sIx xs.length 0 none = 0 := rfl
  have e2 : HT.sIx xs.length xs.length (some ((k : Nat) : Int)) = min k xs.length := HT.sIx_nat _ _ _
  rw [e1, e2]
  simp
theorem at_map {α : Type} {enc : α → U} {ys : List α} {v : Int} (h0 : 0 ≤ v) (h1 : v < ys.length) : ∃ y, ys[v.toNat]? = some y ∧ y ∈ ys ∧ atU (ys.map enc) v = some (enc y) := by
  have hj : v.toNat < ys.length := by omega
  refine ⟨ys[v.toNat], List.getElem?_eq_getElem hj, List.getElem_mem hj, ?_⟩
  have : ixN (ys.map enc).length v = some v.toNat := by unfold ixN; rw [List.length_map]; simp [h0, h1]
  unfold atU
  rw [this]
  simp [List.getElem?_eq_getElem hj]
theorem pick_ix {k : Nat} {v : Int} (h0 : 0 < k) (h1 : (k : Int) < 2 → v = 0) (h2 : 2 ≤ (k : Int) → 0 ≤ v ∧ v < k) : 0 ≤ v ∧ v < k := by
  by_cases h : (k : Int) < 2
  · have := h1 h; omega
  · exact h2 (by omega)
theorem m_draw_crossing {n l : Int} {qs : List Int} {Q : U → Prop} (hn : 1 ≤ n ∧ n ≤ 24) (hq0 : qs ≠ []) (hql : qs.length ≤ 24) (hq : ∀ q ∈ qs, 0 ≤ q ∧ q < n) (hl : 3 ≤ l ∧ l ≤ 8) (q : ∀ c, CrOk n c → c.len = l → (∀ m ∈ c.ms, m.1 ∈ qs) → Q c.enc) : vf__law_draw_crossing [.src, .int n, lstU qs, .int l] Q := by
  simp only [vf__law_draw_crossing, v__law_draw_crossing]
  simp only [vSeq, vOwn, vLst, vaN, vFgt, wipeV, List.length_nil, List.set_cons_succ, List.set_cons_zero]
  refine ⟨by omega, ?_⟩
  refine vFor_inv (enc := U.int) (xs := qs) (fun done e => ∃ L : List Mv, e = [some (.val .src), some (.val (.int n)), some (.val (lstU qs)), some (.val (.int l)), some (.own (.lst (L.map encMv))), none, none, none, none, none, none, none, none] ∧ L.Nodup ∧ (∀ m ∈ L, MvOk n m ∧ m.1 ∈ qs) ∧ (done ≠ [] → L ≠ []) ∧ L.length ≤ 2 * done.length) (fun K hK => by simpa using hK) ⟨[], rfl, by simp, by simp, by simp, by simp⟩ ?_ ?_
  · rintro done x rest e N eq ⟨L, rfl, nd, hL, h0, hlen⟩ hN
    have hx : x ∈ qs := by rw [eq]; simp
    have hdl : done.length < 24 := by have := congrArg List.length eq; simp at this; omega
    simp
    refine lc_others (n := n) (q := x) (by omega) rfl (by omega) (by simp) rfl ?_
    simp
    have hol := others_len (n := n) (q := x)
    refine ⟨by omega, ?_⟩
    generalize hV : (none :: (others n x).map fun k : Nat => some ((k : Nat) : Int) : List (Option Int)) = V
    have eV : U.non :: (others n x).map nU = V.map optU := by rw [← hV]; simp [optU, nU, Function.comp_def]
    have hV0 : V ≠ [] := by rw [← hV]; simp
    have hVl : V.length ≤ 25 := by rw [← hV]; simp; omega
    have hVm : ∀ t, some t ∈ V → 0 ≤ t ∧ t < n ∧ t ≠ x := fun t ht => by
      rw [← hV] at ht
      simp at ht
      obtain ⟨k, hk, rfl⟩ := ht
      have := others_mem.mp hk
      exact ⟨by omega, this.1, this.2⟩
    rw [eV]
    -- one way or two
    unfold vFor
    simp
    intro v v0 v1
    have hcc : (if v = 0 then (1 : Int) else 0) = 0 ∨ (if v = 0 then (1 : Int) else 0) = 1 := by split <;> simp
    generalize (if v = 0 then (1 : Int) else 0) = cc at hcc ⊢
    refine ⟨by omega, by omega, ?_⟩
    obtain ⟨cn, hcn, hc1, hc2⟩ : ∃ cn : Nat, (1 + cc).toNat = cn ∧ 1 ≤ cn ∧ cn ≤ 2 := ⟨_, rfl, by omega, by omega⟩
    rw [hcn, rng0]
    refine vLoop_inv (enc := nU) (xs := List.range cn) (fun dn e => ∃ L2 : List Mv, e = [some (.val .src), some (.val (.int n)), some (.val (lstU qs)), some (.val (.int l)), some (.own (.lst (L2.map encMv))), some (.val (.int x)), some (.val (.lst (V.map optU))), none, none, none, none, none, none] ∧ L2.Nodup ∧ (∀ m ∈ L2, MvOk n m ∧ m.1 ∈ qs) ∧ (done ≠ [] ∨ dn ≠ [] → L2 ≠ []) ∧ L2.length ≤ 2 * done.length + dn.length) ?_ ?_ (List.range cn) [] _ rfl ⟨L, rfl, nd, hL, fun h => h0 (h.resolve_right (by simp)), by simpa using hlen⟩
    · rintro dn k rs e2 N2 e3 ⟨L2, rfl, nd2, hL2, h02, hlen2⟩ hN2
      have hdn : dn.length < cn := by have := congrArg List.length e3; simp at this; omega
      simp
      refine ⟨by omega, fun w w1 w2 => ?_⟩
      obtain ⟨hw0, hw1⟩ := pick_ix (List.length_pos_iff.mpr hV0) w1 w2
      obtain ⟨t, _, ht, eat⟩ := at_map (enc := optU) hw0 hw1
      refine ⟨_, eat, ?_⟩
      have hin := cod_mv.inL (by omega) (x, t) L2
      have e1 : encMv (x, t) = .tup [.int x, optU t] := rfl
      rw [e1] at hin
      by_cases hm : (x, t) ∈ L2
      · refine .inr ⟨by rw [hin]; simp [hm], hN2 _ ⟨L2, rfl, nd2, hL2, (fun _ z => by rw [z] at hm; cases hm), by simp; omega⟩⟩
      · refine .inl ⟨by rw [hin]; simp [hm], by omega, hN2 _ ⟨L2 ++ [(x, t)], by simp [e1], by rw [List.nodup_append]; exact ⟨nd2, by simp, (fun a ha b hb z => by simp at hb; subst hb; subst z; exact hm ha)⟩, fun m hm2 => ?_, by simp, by simp; omega⟩⟩
        rcases List.mem_append.mp hm2 with hm2 | hm2
        · exact hL2 m hm2
        · simp at hm2
          subst hm2
          refine ⟨⟨(hq x hx).1, (hq x hx).2, fun t' ht' => ?_⟩, hx⟩
          simp only at ht'
          subst ht'
          exact hVm t' ht
    · rintro e2 ⟨L2, rfl, nd2, hL2, h02, hlen2⟩
      simp
      refine hN _ ⟨L2, rfl, nd2, hL2, fun _ => h02 (.inr (by intro z; have := congrArg List.length z; simp at this; omega)), by simp at hlen2 ⊢; omega⟩
  · rintro e ⟨L, rfl, nd, hL, h0, hlen⟩
    simp
    refine ⟨by omega, fun ys hp => ?_⟩
    obtain ⟨L1, rfl, hp1⟩ := perm_map hp rfl
    have hcut : cutU (L1.map encMv) none (some 4) = (L1.take 4).map encMv := by
      rw [show ((4 : Int)) = ((4 : Nat) : Int) from rfl, cut_to, List.map_take]
    rw [hcut]
    have hL10 : L1 ≠ [] := fun z => by subst z; exact h0 hq0 (List.nil_perm.mp hp1)
    generalize hms : L1.take 4 = ms
    have hms1 : ms ≠ [] := by rw [← hms]; simp [hL10]
    have hms4 : ms.length ≤ 4 := by rw [← hms]; simp; omega
    have hmsn : ms.Nodup := by rw [← hms]; exact (hp1.nodup_iff.mpr nd).sublist (List.take_sublist 4 L1)
    have hmsm : ∀ m ∈ ms, MvOk n m ∧ m.1 ∈ qs := fun m hm => hL m (hp1.mem_iff.mp (List.mem_of_mem_take (by rw [hms]; exact hm)))
    refine vFor_inv (enc := nU) (xs := List.range ms.length) (fun done e => ∃ cs : List (Int × Int × Int × Int), e = [some (.val .src), some (.val (.int n)), some (.val (lstU qs)), some (.val (.int l)), some (.val (.lst (ms.map encMv))), none, none, none, none, none, some (.own (.lst (cs.map rowU))), none, none] ∧ (∀ r ∈ cs, RwOk ms.length r ∧ r.1 < done.length) ∧ cs.Pairwise rlt ∧ cs.length ≤ 4 * done.length) (fun K hK => ?_) ⟨[], rfl, by simp, by simp, by simp⟩ ?_ ?_
    · simp [rng0]
      exact ⟨by omega, hK⟩
    · rintro done i rest e N eq ⟨cs, rfl, hrw, has, hcl⟩ hN
      obtain ⟨hd, hi⟩ := range_at eq
      have hdl : done.length = i := by rw [hd]; simp
      simp [nU]
      unfold vFor
      simp
      refine ⟨⟨by omega, by omega, by omega⟩, ?_⟩
      rw [rngL]
      refine vLoop_inv (enc := fun k : Nat => U.int ((i : Int) + 1 + (k : Nat))) (xs := List.range ((ms.length : Int) - ((i : Int) + 1)).toNat) (fun dn e => ∃ cs : List (Int × Int × Int × Int), e = [some (.val .src), some (.val (.int n)), some (.val (lstU qs)), some (.val (.int l)), some (.val (.lst (ms.map encMv))), none, none, none, none, none, some (.own (.lst (cs.map rowU))), some (.val (.int i)), none] ∧ (∀ r ∈ cs, RwOk ms.length r ∧ (r.1 < i ∨ (r.1 = i ∧ r.2.1 < (i : Int) + 1 + dn.length))) ∧ cs.Pairwise rlt ∧ cs.length ≤ 4 * done.length + dn.length) ?_ ?_ _ [] _ rfl ⟨cs, rfl, fun r hr => ⟨(hrw r hr).1, .inl (by have := (hrw r hr).2; omega)⟩, has, by simpa using hcl⟩
      · rintro dn k rs e2 N2 e3 ⟨cs2, rfl, hrw2, has2, hcl2⟩ hN2
        obtain ⟨hd2, hi2⟩ := range_at e3
        have hdl2 : dn.length = k := by rw [hd2]; simp
        simp
        intro v v0 v1
        have hk : (i : Int) + 1 + k < ms.length := by omega
        split
        · refine ⟨by omega, fun a a0 a1 b b0 b1 => hN2 _ ⟨cs2 ++ [((i : Int), (i : Int) + 1 + k, a, b)], by simp [rowU], fun r hr => ?_, ?_, by simp; omega⟩⟩
          · rcases List.mem_append.mp hr with hr | hr
            · obtain ⟨h1, h2⟩ := hrw2 r hr
              exact ⟨h1, by simp; omega⟩
            · simp at hr
              subst hr
              exact ⟨⟨by simp only; omega, by simp only; omega, by simp only; omega, by simp only; omega, by simp only; omega, by simp only; omega, by simp only; omega⟩, by simp; omega⟩
          · rw [List.pairwise_append]
            refine ⟨has2, by simp, fun r hr t ht => ?_⟩
            simp at ht
            subst ht
            have := (hrw2 r hr).2
            unfold rlt
            simp only
            omega
        · refine hN2 _ ⟨cs2, by simp, fun r hr => ?_, has2, by simp; omega⟩
          obtain ⟨h1, h2⟩ := hrw2 r hr
          exact ⟨h1, by simp; omega⟩
      · rintro e2 ⟨cs2, rfl, hrw2, has2, hcl2⟩
        simp
        refine hN _ ⟨cs2, rfl, fun r hr => ⟨(hrw2 r hr).1, ?_⟩, has2, ?_⟩
        · have := (hrw2 r hr).2; simp; omega
        · simp at hcl2 ⊢; omega
    · rintro e ⟨cs, rfl, hrw, has, hcl⟩
      simp
      exact q ⟨ms, cs, l⟩ ⟨hms1, hms4, hmsn, fun m hm => (hmsm m hm).1, fun r hr => (hrw r hr).1, has, hl.1, hl.2⟩ rfl fun m hm => (hmsm m hm).2
structure TownOk (most n : Int) (xs : List Crx) : Prop where
  n1 : 1 ≤ n
  n2 : n ≤ most
  x1 : xs ≠ []
  x3 : xs.length ≤ 3
  cr : ∀ x ∈ xs, CrOk n x
  ln : ∃ l, ∀ x ∈ xs, x.len = l
  qs : xs.Pairwise fun x y => ∀ a ∈ x.ms, ∀ b ∈ y.ms, a.1 ≠ b.1
def townU (n : Int) (xs : List Crx) : U := .tup [.int n, .tup (xs.map Crx.enc)]
/-- lots: each int below n in just one -/
structure LotOk (n : Nat) (uss : List (List Int)) : Prop where
  mem : ∀ us ∈ uss, us.Nodup ∧ us.length ≤ n ∧ ∀ q ∈ us, 0 ≤ q ∧ q < n
  dis : uss.Pairwise fun a b => ∀ q ∈ a, q ∉ b
  all : ∀ q : Int, 0 ≤ q → q < n → ∃ us ∈ uss, q ∈ us
theorem gl_ok' {j : Nat} {gidx : VE} {e : VEnv} {N : List (List Int) → Prop} {k n : Nat} (hk : 0 < k) (hn : n ≤ 100) (hg : ∀ q (K : U → Prop), (∀ m, 0 ≤ m → m < (k : Int) → K (.int m)) → gidx (e.set j (some (.val (.int q)))) K) (hN : ∀ uss, uss.length = k → LotOk n uss → N uss) :
    ∀ (rest done : List Nat) (uss : List (List Int)), List.range n = done ++ rest → uss.length = k → LotOk done.length uss → vGl j gidx e N (rest.map fun k : Nat => (k : Int)) uss
  | [], done, uss, h, hl, ho => by
    rw [List.append_nil] at h
    have := congrArg List.length h
    simp at this
    exact hN uss hl (by rw [this]; exact ho)
  | x :: rest, done, uss, h, hl, ho => by
    obtain ⟨hd, hx⟩ := range_at h
    have hdl : done.length = x := by rw [hd]; simp
    refine hg x _ fun m m0 m1 => ?_
    have hm : m.toNat < uss.length := by omega
    have e2 : uss[m.toNat]? = some uss[m.toNat] := List.getElem?_eq_getElem hm
    have hgd : uss.getD m.toNat [] = uss[m.toNat] := by simp [List.getD, e2]
    show 0 ≤ m ∧ m < (uss.length : Int) ∧ (uss.getD m.toNat []).length < 1000 ∧ vGl j gidx e N (rest.map fun k : Nat => (k : Int)) (uss.set m.toNat (uss.getD m.toNat [] ++ [(x : Int)]))
    rw [hgd]
    have hmem := ho.mem _ (List.getElem_mem hm)
    refine ⟨m0, by omega, by omega, gl_ok' hk hn hg hN rest (done ++ [x]) _ (by rw [h, List.append_assoc]; rfl) (by rw [List.length_set]; exact hl) ⟨fun us hu => ?_, ?_, fun q h0 h1 => ?_⟩⟩
    · rcases List.mem_or_eq_of_mem_set hu with hu | hu
      · obtain ⟨a1, a2, a3⟩ := ho.mem us hu
        refine ⟨a1, by simp; omega, fun q hq => ?_⟩
        have := a3 q hq
        simp; omega
      · subst hu
        obtain ⟨a1, a2, a3⟩ := hmem
        refine ⟨?_, by simp; omega, fun q hq => ?_⟩
        · rw [List.nodup_append]
          refine ⟨a1, by simp, fun a ha b hb z => ?_⟩
          simp at hb
          have := a3 a ha
          omega
        · simp at hq ⊢
          rcases hq with hq | hq
          · have := a3 q hq; omega
          · omega
    · rw [List.pairwise_iff_getElem]
      intro i j' hi hj hij q hq hq2
      rw [List.length_set] at hi hj
      have hp := List.pairwise_iff_getElem.mp ho.dis i j' hi hj hij
      have hmi := ho.mem _ (List.getElem_mem hi)
      have hmj := ho.mem _ (List.getElem_mem hj)
      rw [List.getElem_set] at hq hq2
      by_cases z1 : m.toNat = i
      · have z2 : ¬ m.toNat = j' := by omega
        rw [if_pos z1] at hq
        rw [if_neg z2] at hq2
        subst z1
        rcases List.mem_append.mp hq with hq | hq
        · exact hp q hq hq2
        · simp at hq
          have := hmj.2.2 q hq2
          omega
      · rw [if_neg z1] at hq
        by_cases z2 : m.toNat = j'
        · rw [if_pos z2] at hq2
          subst z2
          rcases List.mem_append.mp hq2 with hq2 | hq2
          · exact hp q hq hq2
          · simp at hq2
            have := hmi.2.2 q hq
            omega
        · rw [if_neg z2] at hq2
          exact hp q hq hq2
    · by_cases hqx : q = x
      · have hm2 : m.toNat < (uss.set m.toNat (uss[m.toNat] ++ [(x : Int)])).length := by rw [List.length_set]; exact hm
        refine ⟨_, List.getElem_mem hm2, ?_⟩
        rw [List.getElem_set_self]
        simp [hqx]
      · obtain ⟨us, hu, hqu⟩ := ho.all q h0 (by simp at h1; omega)
        obtain ⟨i, hi, rfl⟩ := List.getElem_of_mem hu
        have hi2 : i < (uss.set m.toNat (uss[m.toNat] ++ [(x : Int)])).length := by rw [List.length_set]; exact hi
        refine ⟨_, List.getElem_mem hi2, ?_⟩
        rw [List.getElem_set]
        split
        · rename_i z; subst z; simp [hqu]
        · exact hqu
theorem some_of {α β : Type} {g : α → β} {xs : List α} {os : List (Option β)} (h : AllP (fun x o => o = none ∨ o = some (g x)) xs os) : ∃ ys, List.Sublist ys xs ∧ os.filterMap id = ys.map g := by
  induction h with
  | nil => exact ⟨[], List.Sublist.refl _, rfl⟩
  | @cons a b as bs h _ ih =>
    obtain ⟨ys, s, e⟩ := ih
    rcases h with h | h
    · subst h; exact ⟨ys, s.cons a, by simpa using e⟩
    · subst h; exact ⟨a :: ys, s.cons₂ a, by simpa using e⟩
theorem AllP.snoc {α β : Type} {P : α → β → Prop} {as : List α} {bs : List β} {a : α} {b : β} (h : AllP P as bs) (p : P a b) : AllP P (as ++ [a]) (bs ++ [b]) := by
  induction h with
  | nil => exact .cons p .nil
  | cons h _ ih => exact .cons h ih
def v_pairs : VS := (vSeq (vAsg (vLst vaN) (tN 11))
    (vSeq (vFgt [12] (vFor (viRng1 (vaC (vB1 gLen (vaC (vBor 8) vaN)) vaN)) (tN 12) (vEnd [12] (vAsg (vBin gAdd (vVar 11) (vLc (viRng2 (vaC (vBin gAdd (vVar 12) (vC (.int 1))) (vaC (vB1 gLen (vaC (vBor 8) vaN)) vaN))) (tN 13) (vB (vBin (gI2 fun i j => .bl (decide (j < i))) (vCall vfPick (vaC (vVar 0) (vaC (vC (.int 5)) vaN))) (vC (.int 0)))) (vTup (vaC (vVar 12) (vaC (vVar 13) (vaC (vC (.int 1)) (vaC (vC (.int 1)) vaN))))) [13])) (tN 11)))))
    (vApp 4 (vTup (vaC (vB1 gTuple (vaC (vBor 8) vaN)) (vaC (vB1 gTuple (vaC (vVar 11) vaN)) (vaC (vVar 5) vaN)))))))
theorem vLc_rel {α : Type} {enc : α → U} {tg : VG} {tt : VT} {te : VE} {e : VEnv} {Q : U → Prop} {gi : VI} {vs : List Nat} {P : α → Option U → Prop} (xs : List α) (hi : ∀ K : List U → Prop, K (xs.map enc) → gi e K) (h : ∀ x ∈ xs, ∀ N : Option U → Prop, (∀ o, P x o → N o) → tg (enc x) (wipeV e vs) fun e2 => tt e2 fun b => if b = true then te e2 fun y => N (some y) else N none) (hl : xs.length ≤ 1000000) (q : ∀ os, AllP P xs os → Q (.lst (os.filterMap id))) : vLc gi tg tt te vs e Q :=
  hi _ (vlc_rel xs [] h (by simpa using hl) (by simpa using q))
theorem m_pairs {D : VD} {m n len : Int} {lots x us y : U} (cs : List Crx) (ms : List Mv) (hml : ms.length ≤ 4) (hcl : cs.length ≤ 100) (hN : ∀ (rows : List (Int × Int × Int × Int)) p, (∀ r ∈ rows, RwOk ms.length r) → rows.Pairwise rlt → D.nx [some (.val .src), some (.val (.int m)), some (.val (.int n)), some (.val lots), some (.own (.lst ((cs ++ [(⟨ms, rows, len⟩ : Crx)]).map Crx.enc))), some (.val (.int len)), some (.val x), some (.val us), some (.own (.lst (ms.map encMv))), none, some (.val y), some (.val p), none, none]) :
    v_pairs D [some (.val .src), some (.val (.int m)), some (.val (.int n)), some (.val lots), some (.own (.lst (cs.map Crx.enc))), some (.val (.int len)), some (.val x), some (.val us), some (.own (.lst (ms.map encMv))), none, some (.val y), none, none, none] := by
  unfold v_pairs
  simp
  refine vFor_inv (enc := nU) (xs := List.range ms.length) (fun done e => ∃ rs : List (Int × Int × Int × Int), e = [some (.val .src), some (.val (.int m)), some (.val (.int n)), some (.val lots), some (.own (.lst (cs.map Crx.enc))), some (.val (.int len)), some (.val x), some (.val us), some (.own (.lst (ms.map encMv))), none, some (.val y), some (.val (.lst (rs.map rowU))), none, none] ∧ (∀ r ∈ rs, RwOk ms.length r ∧ r.1 < done.length) ∧ rs.Pairwise rlt ∧ rs.length ≤ 4 * done.length) (fun K hK => ?_) ⟨[], rfl, by simp, by simp, by simp⟩ ?_ ?_
  · simp [rng0]
    exact ⟨by omega, hK⟩
  · rintro done i rest e N eq ⟨rs, rfl, hrw, has, hcl2⟩ hN2
    obtain ⟨hd, hi⟩ := range_at eq
    have hdl : done.length = i := by rw [hd]; simp
    simp [nU]
    have hfin : ∀ os, AllP (fun (k : Nat) (o : Option U) => o = none ∨ o = some (rowU ((i : Int), (i : Int) + 1 + k, 1, 1))) (List.range ((ms.length : Int) - ((i : Int) + 1)).toNat) os → ∃ ks : List Nat, ks.Sublist (List.range ((ms.length : Int) - ((i : Int) + 1)).toNat) ∧ os.filterMap id = (ks.map fun k : Nat => (((i : Int), (i : Int) + 1 + (k : Int), (1 : Int), (1 : Int)) : Int × Int × Int × Int)).map rowU := fun os ho => by
      obtain ⟨ks, s, e⟩ := some_of (g := fun k : Nat => rowU ((i : Int), (i : Int) + 1 + k, 1, 1)) ho
      exact ⟨ks, s, by rw [e]; simp [Function.comp_def]⟩
    refine vLc_rel (enc := fun k : Nat => U.int ((i : Int) + 1 + (k : Nat))) (P := fun (k : Nat) (o : Option U) => o = none ∨ o = some (rowU ((i : Int), (i : Int) + 1 + k, 1, 1))) (List.range ((ms.length : Int) - ((i : Int) + 1)).toNat) (fun K hK => ?_) (fun k hk N hN => ?_) (by simp; omega) (fun os ho => ?_)
    · simp
      exact ⟨⟨by omega, by omega, by omega⟩, hK⟩
    · simp
      intro v v0 v1
      split
      · exact hN _ (.inr rfl)
      · exact hN _ (.inl rfl)
    · obtain ⟨ks, s, e1⟩ := hfin os ho
      rw [e1]
      have hkl := s.length_le
      simp at hkl
      simp only [gAdd, ← List.map_append]
      refine ⟨by simp; omega, ?_⟩
      refine hN2 _ ⟨rs ++ ks.map fun k : Nat => (((i : Int), (i : Int) + 1 + (k : Int), (1 : Int), (1 : Int)) : Int × Int × Int × Int), rfl, fun r hr => ?_, ?_, by simp; omega⟩
      · rcases List.mem_append.mp hr with hr | hr
        · obtain ⟨h1, h2⟩ := hrw r hr
          exact ⟨h1, by simp; omega⟩
        · simp only [List.mem_map] at hr
          obtain ⟨k, hk, rfl⟩ := hr
          have := s.subset hk
          simp at this
          exact ⟨⟨by simp only; omega, by simp only; omega, by simp only; omega, by simp only; omega, by simp only; omega, by simp only; omega, by simp only; omega⟩, by simp; omega⟩
      · rw [List.pairwise_append]
        refine ⟨has, ?_, fun r hr t ht => ?_⟩
        · rw [List.pairwise_map]
          refine (List.pairwise_lt_range.sublist s).imp fun {a b} hab => .inr ⟨rfl, ?_⟩
          simp only
          omega
        · simp only [List.mem_map] at ht
          obtain ⟨k, hk, rfl⟩ := ht
          have := (hrw r hr).2
          unfold rlt
          simp only
          omega
  · rintro e ⟨rs, rfl, hrw, has, hcl2⟩
    simp
    refine ⟨by omega, ?_⟩
    simpa [Crx.enc] using hN rs _ (fun r hr => (hrw r hr).1) has
theorem AllP.pw {α β : Type} {P : α → β → Prop} {R : α → α → Prop} {S : β → β → Prop} {as : List α} {bs : List β} (h : AllP P as bs) (hr : as.Pairwise R) (k : ∀ a a' b b', R a a' → P a b → P a' b' → S b b') : bs.Pairwise S := by
  induction h with
  | nil => exact .nil
  | cons p h ih =>
    rw [List.pairwise_cons] at hr ⊢
    refine ⟨fun b hb => ?_, ih hr.2⟩
    obtain ⟨a, ha, q⟩ := h.mem b hb
    exact k _ _ _ _ (hr.1 a ha) p q
theorem m_strict_town {m : Int} {Q : U → Prop} (hm : 2 ≤ m ∧ m ≤ 24) (q : ∀ n xs, TownOk m n xs → Q (townU n xs)) : vf__law_strict_town [.src, .int m] Q := by
  simp only [vf__law_strict_town, v__law_strict_town]
  simp [vLots2]
  refine ⟨by omega, fun v v0 v1 l l0 l1 => ?_⟩
  have hv : 0 ≤ v ∧ v < min 3 (m - 1) := by
    by_cases h : min 3 (m - 1) < 2
    · have := v0 h; omega
    · exact v1 (by omega)
  generalize hn : 2 + v = n
  generalize hlen : 4 + l = len
  refine ⟨by simp, by simp, ?_⟩
  simp
  refine ⟨by omega, by omega, (List.range n.toNat).map (fun k : Nat => (k : Int)), by simp [rng0, nU, Function.comp_def], ?_⟩
  refine gl_ok' (n := n.toNat) (k := 2) (by omega) (by omega) (fun q K hK => ?_) (fun uss hl2 ho => ?_) (List.range n.toNat) [] [[], []] rfl rfl ⟨by simp, by simp, fun q h0 h1 => by simp at h1; omega⟩
  · simp
    intro w w0 w1
    split
    · exact hK 1 (by omega) (by omega)
    · exact hK 0 (by omega) (by omega)
  · refine vFor_inv (enc := lstU) (xs := uss.filter fun us => !decide (us = [])) (fun done e => ∃ cs : List Crx, e = [some (.val .src), some (.val (.int m)), some (.val (.int n)), some (.val (lotsU uss)), some (.own (.lst (cs.map Crx.enc))), some (.val (.int len)), none, none, none, none, none, none, none, none] ∧ AllP (fun us c => CrOk n c ∧ c.len = len ∧ ∀ a ∈ c.ms, a.1 ∈ us) done cs) (fun K hK => ?_) ⟨[], rfl, .nil⟩ ?_ ?_
    · simp
      refine vLc_filter (enc := lstU) (g := lstU) (p := fun us => !decide (us = [])) uss (fun K hK => by simp [lotsU]; exact hK) (fun us hu N hN => ?_) (by omega) (by simpa using hK)
      simp
      refine (cod_int.lst).eq (a := us) (b := []) (by omega) ?_
      by_cases z : us = [] <;> simp [z] at hN ⊢ <;> exact hN
    · rintro done us rest e N eq ⟨cs, rfl, hcs⟩ hN
      have hu0 : us ∈ uss.filter fun us => !decide (us = []) := by rw [eq]; simp
      simp at hu0
      obtain ⟨hu, hu0⟩ := hu0
      obtain ⟨und, ul, uq⟩ := ho.mem us hu
      have hdl : done.length < 2 := by
        have h1 := congrArg List.length eq
        have h2 := List.length_filter_le (fun us : List Int => !decide (us = [])) uss
        simp at h1
        omega
      have hul : 0 < us.length := List.length_pos_iff.mpr hu0
      have hcl := hcs.len
      rw [← v_pairs]
      simp
      refine vLc_map (enc := U.int) (g := fun x => encMv (x, none)) us (fun K hK => by simpa using hK) (fun x hx N hN => by simpa [encMv, optU] using hN) (by omega) ?_
      simp
      refine ⟨by omega, fun w w0 w1 => ?_⟩
      obtain ⟨hw0, hw1⟩ := pick_ix hul w0 w1
      obtain ⟨x, hx1, hx2, eat⟩ := at_map (enc := U.int) hw0 hw1
      refine ⟨_, eat, ?_⟩
      have hxn := uq x hx2
      refine lc_others (n := n) (q := x) (by omega) rfl (by omega) (by simp) rfl ?_
      have hol := others_len (n := n) (q := x)
      have hxs : ∀ ms : List Mv, ms ≠ [] → ms.length ≤ 4 → ms.Nodup → (∀ a ∈ ms, MvOk n a ∧ a.1 ∈ us) → ∀ rows : List (Int × Int × Int × Int), (∀ r ∈ rows, RwOk ms.length r) → rows.Pairwise rlt → CrOk n ⟨ms, rows, len⟩ := fun ms h1 h2 h3 h4 rows h5 h6 => ⟨h1, h2, h3, fun a ha => (h4 a ha).1, h5, h6, by simp only; omega, by simp only; omega⟩
      have hmv : ∀ a ∈ us.map fun y => ((y, none) : Mv), MvOk n a ∧ a.1 ∈ us := fun a ha => by
        simp at ha
        obtain ⟨y, hy, rfl⟩ := ha
        have := uq y hy
        exact ⟨⟨by simp only; omega, by simp only; omega, by simp⟩, hy⟩
      have hno : ∀ a ∈ us.map fun y => ((y, none) : Mv), a.2 = none := fun a ha => by
        simp at ha
        obtain ⟨y, hy, rfl⟩ := ha
        rfl
      have hnd : (us.map fun y => ((y, none) : Mv)).Nodup := by
        exact List.Pairwise.map _ (fun a b h z => h (by simpa using z)) und
      have hol0 : others n x ≠ [] := fun z => by
        have h1 : (if x = 0 then 1 else 0 : Nat) ∈ others n x := others_mem.mpr (by split <;> constructor <;> omega)
        rw [z] at h1
        cases h1
      have hpl : us.map (fun x => encMv (x, none)) = (us.map fun y => ((y, none) : Mv)).map encMv := by simp [Function.comp_def]
      simp
      intro v2 v20 v21
      rw [hpl]
      have hms0 : (us.map fun y => ((y, none) : Mv)) ≠ [] := by simpa using hu0
      have hmsl : (us.map fun y => ((y, none) : Mv)).length = us.length := by simp
      generalize (us.map fun y => ((y, none) : Mv)) = ms at hmv hnd hms0 hmsl hno ⊢
      split
      · split
        · refine ⟨by omega, by omega, fun v3 v30 v31 => ?_⟩
          obtain ⟨hv0, hv1⟩ := pick_ix (List.length_pos_iff.mpr hol0) v30 v31
          obtain ⟨z, hz1, hz2, eat2⟩ := at_map (enc := nU) hv0 hv1
          have hz := others_mem.mp hz2
          refine ⟨_, eat2, ?_⟩
          have e1 : ms.map encMv ++ [U.tup [U.int x, nU z]] = (ms ++ [((x, some (z : Int)) : Mv)]).map encMv := by simp [encMv, optU, nU]
          rw [e1]
          have hm2 : ∀ a ∈ ms ++ [((x, some (z : Int)) : Mv)], MvOk n a ∧ a.1 ∈ us := fun a ha => by
            rcases List.mem_append.mp ha with ha | ha
            · exact hmv a ha
            · simp at ha
              subst ha
              exact ⟨⟨by simp only; omega, by simp only; omega, fun t ht => by simp at ht; subst ht; omega⟩, hx2⟩
          have hnd2 : (ms ++ [((x, some (z : Int)) : Mv)]).Nodup := by
            rw [List.nodup_append]
            refine ⟨hnd, by simp, fun a ha b hb zz => ?_⟩
            simp at hb
            subst hb
            subst zz
            have := hno _ ha
            simp at this
          exact m_pairs cs _ (by simp; omega) (by omega) fun rows p h1 h2 => hN _ ⟨_, rfl, hcs.snoc ⟨hxs _ (by simp) (by simp; omega) hnd2 hm2 rows h1 h2, rfl, fun a ha => (hm2 a ha).2⟩⟩
        · exact m_pairs cs ms (by omega) (by omega) fun rows p h1 h2 => hN _ ⟨_, rfl, hcs.snoc ⟨hxs ms hms0 (by omega) hnd hmv rows h1 h2, rfl, fun a ha => (hmv a ha).2⟩⟩
      · exact m_pairs cs ms (by omega) (by omega) fun rows p h1 h2 => hN _ ⟨_, rfl, hcs.snoc ⟨hxs ms hms0 (by omega) hnd hmv rows h1 h2, rfl, fun a ha => (hmv a ha).2⟩⟩
    · rintro e ⟨cs, rfl, hcs⟩
      simp
      have hcl := hcs.len
      have hfl := List.length_filter_le (fun us : List Int => !decide (us = [])) uss
      refine q n cs ⟨by omega, by omega, fun z => ?_, by omega, fun c hc => ?_, ⟨len, fun c hc => ?_⟩, ?_⟩
      · subst z
        obtain ⟨us, hu, hq0⟩ := ho.all 0 (by omega) (by omega)
        have : us ∈ uss.filter fun us => !decide (us = []) := by
          simp
          exact ⟨hu, fun z => by subst z; cases hq0⟩
        have := List.length_pos_of_mem this
        simp at hcl
        omega
      · obtain ⟨us, _, p⟩ := hcs.mem c hc
        exact p.1
      · obtain ⟨us, _, p⟩ := hcs.mem c hc
        exact p.2.1
      · exact hcs.pw (List.Pairwise.filter _ ho.dis) fun us us' c c' hd p p' a ha b hb z => hd a.1 (p.2.2 a ha) (by rw [z]; exact p'.2.2 b hb)
def v_town : VS := (vSeq (vFgt [7] (vFor (viSeq (vVar 5)) (tN 7) (vEnd [7] (vIfS (vB (vBin (gEq true) (vVar 7) (vLst vaN))) (vApp 4 (vCall vf__law_draw_crossing (vaC (vVar 0) (vaC (vVar 2) (vaC (vVar 7) (vaC (vVar 3) vaN)))))) vNx))))
    (vRet (vTup (vaC (vVar 2) (vaC (vB1 gTuple (vaC (vBor 4) vaN)) vaN)))))
theorem m_town {D : VD} {m n l : Int} (hm : 1 ≤ m ∧ m ≤ 24) (hn : 1 ≤ n ∧ n ≤ m) (hl : 3 ≤ l ∧ l ≤ 8) (q : ∀ n xs, TownOk m n xs → D.rt (townU n xs)) :
    vGrpFor 5 6 (viRng1 (vaC (vVar 2) vaN)) (vCall vfPick (vaC (vVar 0) (vaC (vC (U.int 3)) vaN))) v_town [some (.val .src), some (.val (.int m)), some (.val (.int n)), some (.val (.int l)), some (.own (.lst [])), none, none, none] D [[], [], []] := by
  refine ⟨by simp, by simp, ?_⟩
  simp
  refine ⟨by omega, by omega, (List.range n.toNat).map (fun k : Nat => (k : Int)), by simp [rng0, nU, Function.comp_def], ?_⟩
  refine gl_ok' (n := n.toNat) (k := 3) (by omega) (by omega) (fun q K hK => ?_) (fun uss hl2 ho => ?_) (List.range n.toNat) [] [[], [], []] rfl rfl ⟨by simp, by simp, fun q h0 h1 => by simp at h1; omega⟩
  · simp
    intro w w0 w1
    exact hK w w0 (by simpa using w1)
  · unfold v_town
    simp [-vf__law_draw_crossing]
    refine vFor_inv (enc := lstU) (xs := uss) (fun done e => ∃ cs : List Crx, e = [some (.val .src), some (.val (.int m)), some (.val (.int n)), some (.val (.int l)), some (.own (.lst (cs.map Crx.enc))), some (.val (lotsU uss)), none, none] ∧ AllP (fun us c => CrOk n c ∧ c.len = l ∧ ∀ a ∈ c.ms, a.1 ∈ us) (done.filter fun us => !decide (us = [])) cs) (fun K hK => ?_) ⟨[], rfl, .nil⟩ ?_ ?_
    · simp [lotsU]; exact hK
    · rintro done us rest e N eq ⟨cs, rfl, hcs⟩ hN
      have hu : us ∈ uss := by rw [eq]; simp
      obtain ⟨und, ul, uq⟩ := ho.mem us hu
      have hdl : done.length < 3 := by have := congrArg List.length eq; simp at this; omega
      have hcl := hcs.len
      have hfl := List.length_filter_le (fun us : List Int => !decide (us = [])) done
      simp [-vf__law_draw_crossing]
      refine (cod_int.lst).eq (a := us) (b := []) (by omega) ?_
      by_cases z : us = []
      · simp [z]
        refine hN _ ⟨cs, rfl, ?_⟩
        rw [z, List.filter_append]
        simpa using hcs
      · simp [z, -vf__law_draw_crossing]
        refine ⟨by omega, ?_⟩
        refine m_draw_crossing (n := n) (qs := us) (by omega) z (by omega) (fun q hq => by have := uq q hq; omega) hl fun c hc hcl2 hcm => ?_
        refine hN _ ⟨cs ++ [c], by simp, ?_⟩
        rw [List.filter_append, show [us].filter (fun us : List Int => !decide (us = [])) = [us] from by simp [z]]
        exact hcs.snoc ⟨hc, hcl2, hcm⟩
    · rintro e ⟨cs, rfl, hcs⟩
      simp
      have hcl := hcs.len
      have hfl := List.length_filter_le (fun us : List Int => !decide (us = [])) uss
      refine q n cs ⟨by omega, by omega, fun z => ?_, by omega, fun c hc => ?_, ⟨l, fun c hc => ?_⟩, ?_⟩
      · subst z
        obtain ⟨us, hu, hq0⟩ := ho.all 0 (by omega) (by omega)
        have : us ∈ uss.filter fun us => !decide (us = []) := by
          simp
          exact ⟨hu, fun z => by subst z; cases hq0⟩
        have := List.length_pos_of_mem this
        simp at hcl
        omega
      · obtain ⟨us, _, p⟩ := hcs.mem c hc
        exact p.1
      · obtain ⟨us, _, p⟩ := hcs.mem c hc
        exact p.2.1
      · exact hcs.pw (List.Pairwise.filter _ ho.dis) fun us us' c c' hd p p' a ha b hb z => hd a.1 (p.2.2 a ha) (by rw [z]; exact p'.2.2 b hb)
theorem m_draw_town {m : Int} {Q : U → Prop} (hm : 1 ≤ m ∧ m ≤ 24) (q : ∀ n xs, TownOk m n xs → Q (townU n xs)) : vf__law_draw_town [.src, .int m] Q := by
  simp only [vf__law_draw_town, v__law_draw_town]
  rw [← v_town]
  simp [vLots3, -vf__law_strict_town]
  have fin : ∀ v, (m < 2 → v = 0) → (2 ≤ m → 0 ≤ v ∧ v < m) → 1 ≤ 1 + v ∧ 1 + v ≤ m := fun v h0 h1 => by
    by_cases h : m < 2
    · have := h0 h; omega
    · have := h1 (by omega); omega
  split
  · intro v v0 v1
    split
    · exact m_strict_town (by omega) q
    · exact ⟨by omega, fun v h0 h1 l l0 l1 => m_town hm (fin v h0 h1) (by omega) q⟩
  · exact ⟨by omega, fun v h0 h1 l l0 l1 => m_town hm (fin v h0 h1) (by omega) q⟩
end VL
/-! Dl22: tuples from behind. -/
namespace DL
open PySem PySem.Spec PyProof.Rows HT L2
def dnK : Option Int → Nat | none => 0 | some _ => 1
section
variable {prog : Program} {w : World} {A : Around} {E : Value → Shared → Prop} {s : Shared}
theorem sliceApplied_dn {sl : Addr} {vu vs : Value} {hi : Option Int} {n : Nat} {Q : Int × Int × Nat → Shared → Prop} (hs : s.heap.IsSliceOf sl .none vu vs) (pu : IsPart vu hi) (ps : IsPart vs (some (-1)))
    (hh : hi = none ∨ hi = some 0) (h : Q ((n : Int) - 1, -1, n - dnK hi) s) : wpAny (model prog w) A (Builtin.Slice.sliceApplied (.ref sl) (pure (n : Int))) Q E s := by
  obtain ⟨os, hos, hcs, hds⟩ := id hs
  unfold Builtin.Slice.sliceApplied Builtin.Slice.sliceFields
  refine wpAny_bind (wpAny_bind (wpAny_field hos hds (x := .none) rfl (wpAny_bind (wpAny_field hos hds (x := vu) rfl (wpAny_bind (wpAny_field hos hds (x := vs) rfl (wpAny_pure ?_)))))))
  refine wpAny_bind (slicePart_ ps ?_)
  show wpAny _ _ (if ((-1 : Int) == 0) = true then _ else _) _ _ s
  rw [if_neg (by decide)]
  refine wpAny_bind (slicePart_ .none (wpAny_bind (slicePart_ pu (wpAny_bind (wpAny_pure ?_)))))
  show wpAny _ _ (match Builtin.Slice.sliceAdjust none hi (-1) (n : Int) with | (lo, hi) => pure (lo, (-1 : Int), Builtin.Slice.slicePlaces lo hi (-1))) _ _ s
  have e : ∃ b, Builtin.Slice.sliceAdjust none hi (-1) (n : Int) = ((n : Int) - 1, b) ∧ Builtin.Slice.slicePlaces ((n : Int) - 1) b (-1) = n - dnK hi := by
    rcases hh with rfl | rfl
    · refine ⟨-1, rfl, ?_⟩
      show _ = n - 0
      unfold Builtin.Slice.slicePlaces
      rw [if_neg (by decide), show (- -1 : Int) = 1 by decide, Int.ediv_one]
      split <;> omega
    · refine ⟨min 0 ((n : Int) - 1), rfl, ?_⟩
      show _ = n - 1
      unfold Builtin.Slice.slicePlaces
      rw [if_neg (by decide), show (- -1 : Int) = 1 by decide, Int.ediv_one]
      by_cases hn : n = 0
      · subst hn; rfl
      · rw [show min (0 : Int) ((n : Int) - 1) = 0 by omega]
        split <;> omega
  obtain ⟨b, e1, e2⟩ := e
  rw [e1]
  show wpAny _ _ (pure ((n : Int) - 1, (-1 : Int), Builtin.Slice.slicePlaces ((n : Int) - 1) b (-1))) _ _ s
  rw [e2]
  exact wpAny_pure h
theorem pick_dn (xs : Array Value) (d : Nat) : ((List.range (xs.size - d)).filterMap fun (m : Nat) => xs[(((xs.size : Int) - 1) + (m : Int) * (-1)).toNat]?).toArray = ((xs.toList.drop d).reverse).toArray := by
  congr 1
  have h := pick_run xs d (xs.size - d)
  have e : (List.range (xs.size - d)).map (fun m => xs.size - 1 - m) = ((List.range (xs.size - d)).map (d + ·)).reverse := by
    apply List.ext_getElem
    · simp
    · intro i h1 h2
      simp at h1
      simp
      omega
  have e2 : (fun (m : Nat) => xs[(((xs.size : Int) - 1) + (m : Int) * (-1)).toNat]?) = (fun x => xs[x]?) ∘ fun m => xs.size - 1 - m := by
    funext m
    have : (((xs.size : Int) - 1) + (m : Int) * (-1)).toNat = xs.size - 1 - m := by omega
    show xs[(((xs.size : Int) - 1) + (m : Int) * (-1)).toNat]? = xs[xs.size - 1 - m]?
    rw [this]
  rw [e2, ← List.filterMap_map, e, List.filterMap_reverse, h]
  congr 1
  rw [List.take_of_length_le]
  simp
theorem getItem_tuple_dn {t sl : Addr} {items : Array Value} {vu vs : Value} {hi : Option Int} {Q : Value → Shared → Prop} (ht : IsTup s.heap t items) (hs : s.heap.IsSliceOf sl .none vu vs) (pu : IsPart vu hi) (ps : IsPart vs (some (-1)))
    (hh : hi = none ∨ hi = some 0)
    (h : Q (.ref s.heap.objs.size) { s with heap := s.heap.push { cls := .type "tuple", data := .seq ((items.toList.drop (dnK hi)).reverse).toArray } })
    (hsz : items.size ≤ sizeLine) : wpAny (model prog w) A (getItem (.ref t) (.ref sl)) Q E s := by
  have htake : sizeOk (.seq ((items.toList.drop (dnK hi)).reverse).toArray) := by
    show ((items.toList.drop (dnK hi)).reverse).toArray.size ≤ sizeLine
    rw [List.size_toArray, List.length_reverse, List.length_drop, Array.length_toList]
    omega
  obtain ⟨os, hos, hcs, hds⟩ := id hs
  have hTs : s.TypeIs (.ref sl) "slice" := ⟨os, hos, hcs⟩
  unfold getItem
  try with_reducible refine wpAny_holding ?_
  first | refine wpAny_bind (wpAny_pure ?_) | skip
  refine wpAny_bind (wpAny_sequenceKey ht.typeIs (by decide) ?_)
  refine wpAny_bind (wpAny_callSpecial?_slot (name := Str.ofString "__getitem__") ht.typeIs PyProof.Rows.slot_tuple_getitem
    (wpAny_call_entry PyProof.Rows.slot_tuple_getitem ht.typeIs entry_tuple_getitem ?_ (args_tuple_getitem _ _)))
  show wpAny _ _ (Builtin.Tuple.tupleItemsOf (.ref t) >>= _) _ _ s
  refine wpAny_bind (tupleItemsOf_ ht ?_)
  refine wpAny_bind (wpAny_typeOf hTs ?_)
  rw [if_pos (by decide)]
  refine wpAny_bind (sliceApplied_dn hs pu ps hh ?_)
  have hno : ¬ (((((items.size : Int) - 1)) == 0 && (-1 : Int) == 1 && (items.size - dnK hi) == items.size) = true) := by
    intro q
    rw [Bool.and_eq_true, Bool.and_eq_true] at q
    exact absurd (eq_of_beq q.1.2) (by decide)
  show wpAny _ _ (if ((((items.size : Int) - 1)) == 0 && (-1 : Int) == 1 && (items.size - dnK hi) == items.size) = true then _ else _) _ _ s
  rw [if_neg hno, pick_dn]
  first
    | exact wpAny_bind (m := Builtin.Tuple.tupleExact _) (wpAny_newObj_type (wpAny_pure ⟨_, rfl, wpAny_pure h⟩) htake)
    | exact wpAny_bind (m := Builtin.Tuple.tupleExact _) (wpAny_newObj_type (wpAny_bind (wpAny_pure (wpAny_pure ⟨_, rfl, wpAny_pure h⟩))) htake)
    | exact wpAny_bind (wpAny_bind (m := Builtin.Tuple.tupleExact _) (wpAny_newObj_type (wpAny_pure (wpAny_pure ⟨_, rfl, wpAny_pure h⟩)) htake))
    | exact wpAny_bind (wpAny_bind (m := Builtin.Tuple.tupleExact _) (wpAny_newObj_type (wpAny_pure ⟨_, rfl, wpAny_pure h⟩) htake))
end
section
variable {X : Cx} {e : Expr} {te : TE} {pos p2 : Pos}
def tRevT (K : PySem.W.Frag) (d : Nat) (te : TE) : TE := fun σ H Q => te σ H fun x H1 => ∃ a xs, x = .ref a ∧ SqT K H1 a xs ∧ ∀ p, H1 p = none → Q (.ref p) (upd H1 p (.tup (xs.drop d).reverse))
theorem pe_revTo {hi : Option Expr} {o : Option Int} {k : Nat} {p1 p2 p3 : Pos} (ho : o = none ∨ o = some 0) (hp : ∀ pins s σ H, Inv X pins σ H s → wpAny (model X.prog X.w) X.A (evalPart hi X.env) (fun u s' => ∃ H', Inv X pins σ H' s' ∧ IsPart u o ∧ H' = H) X.xe s) (he : PE X e te) :
    PE X (.Subscript e (.Slice none hi (some (.UnaryOp .USub (.Constant (.int 1) k p1) p2)) p3) pos) (tRevT X.K (dnK o) te) := by
  refine ⟨fun pins s σ H Q I h => ?_⟩
  refine Subscript_ (thn (he.run pins s σ H _ I h) fun v s1 ⟨x, H1, I1, r1, q1⟩ => ?_)
  obtain ⟨a, xs, ex, hx, q⟩ := q1
  subst ex
  cases r1
  have hst : PO X (some (.UnaryOp .USub (.Constant (.int 1) k p1) p2)) (tPart (tUn (rU fun i => .int (-i)) (tC (.int 1)))) := po_some (pe_un un_neg pe_int)
  refine wpAny_Slice (thn (po_none.run pins s1 σ H1 (fun o H2 => o = none ∧ H2 = H1) I1 ⟨rfl, rfl⟩) fun vl s2 ⟨l, H2, I2, pl, el, e2⟩ => ?_)
  subst el e2
  cases pl
  refine thn (hp pins s2 σ H2 I2) fun vu s3 ⟨H3, I3, pu, e3⟩ => ?_
  subst e3
  refine thn (hst.run pins s3 σ H3 (fun o H4 => o = some (-1) ∧ H4 = H3) I3 ⟨1, rfl, -1, rfl, rfl, rfl⟩) fun vs s4 ⟨o', H4, I4, ps, eo, e4⟩ => ?_
  subst eo e4
  have I5 : Inv X pins σ H4 { s4 with heap := s4.heap.push { cls := .type "slice", data := .fields #[.none, vu, vs] } } := I4.kept (t' := s4.toks) fun b ob q => Heap.get?_push_of_some _ q
  obtain ⟨its, r, ht, hz⟩ := I5.tuple hx
  show wpAny (model X.prog X.w) X.A (subscriptTail e (.Slice none hi (some (.UnaryOp .USub (.Constant (.int 1) k p1) p2)) p3) (.ref a) (.ref s4.heap.objs.size)) (EP X pins σ Q) X.xe { s4 with heap := s4.heap.push { cls := .type "slice", data := .fields #[.none, vu, vs] } }
  refine tail_any (ops := [.ref a, .ref s4.heap.objs.size]) ht.typeIs PyProof.Rows.slot_tuple_getitem.lookup ?_ (by with_unfolding_all rfl)
  have hlen : its.toArray.size = xs.length := by rw [List.size_toArray]; exact r.length.symm
  refine getItem_tuple_dn ht (Heap.IsSliceOf.new _ .none vu vs) pu ps ho ?_ (by rw [hlen]; exact hz)
  refine ⟨.ref _, _, I5.laid (t' := s4.toks) (o := .tup (xs.drop (dnK o)).reverse) (fun b ob q => Heap.get?_push_of_some _ q) (Nat.le_refl _) ?_, rfl, q _ (I5.hok.fresh (Nat.le_refl _))⟩
  exact ⟨by rw [List.length_reverse, List.length_drop]; omega, _, (r.drop (dnK o)).reverse, IsTup.new _ _⟩
theorem pe_revT {k : Nat} {p1 p2 p3 : Pos} (he : PE X e te) : PE X (.Subscript e (.Slice none none (some (.UnaryOp .USub (.Constant (.int 1) k p1) p2)) p3) pos) (tRevT X.K 0 te) :=
  pe_revTo (o := none) (.inl rfl) (fun pins s σ H I => thn (po_none.run pins s σ H (fun o H2 => o = none ∧ H2 = H) I ⟨rfl, rfl⟩) fun u s' ⟨o, H', I', p, eo, e⟩ => ⟨H', I', by rw [← eo]; exact p, e⟩) he
theorem pe_revT1 {k k0 : Nat} {p0 p1 p2 p3 : Pos} (he : PE X e te) : PE X (.Subscript e (.Slice none (some (.Constant (.int 0) k0 p0)) (some (.UnaryOp .USub (.Constant (.int 1) k p1) p2)) p3) pos) (tRevT X.K 1 te) :=
  pe_revTo (o := some 0) (.inr rfl) (fun pins s σ H I => thn ((po_some pe_int).run pins s σ H (fun o H2 => o = some 0 ∧ H2 = H) I ⟨0, rfl, rfl, rfl⟩) fun u s' ⟨o, H', I', p, eo, e⟩ => ⟨H', I', by rw [← eo]; exact p, e⟩) he
variable {f : FE}
/-- ds[d:], from behind: a tuple -/
def fRevT (d : Nat) (f : FE) : FE := fun δ W Q => f δ W fun x W1 => ∃ xs, x = .tup xs ∧ Q (.tup (xs.drop d).reverse) W1
theorem DVs.dropR {K : PySem.W.Frag} {H : Hp} {ds : List D} {vs : List V} (d : Nat) (h : DVs K H ds vs) : DVs K H (ds.drop d).reverse (vs.drop d).reverse := (DVs.drop d h).reverse
theorem se_revTo {d : Nat} {h : FE} : ∀ σ H Q, tE X.K (fRevT d h) σ H Q → tRevT X.K d (tE X.K h) σ H Q := fun σ H Q ⟨δ, W, Q', er, rl, hh, k⟩ => ⟨δ, W, _, er, rl, hh, fun v dx H1 W1 e1 r1 v1 ⟨xs, hx, q⟩ => by
  subst hx
  obtain ⟨a, us, rfl, s, dv⟩ := v1
  exact ⟨a, us, rfl, SqT.of s, fun p hp => newT r1 hp (dv.dropR d) q (k.ext e1)⟩⟩
theorem se_revT {e : Expr} {h : FE} {k : Nat} {p1 p2 p3 pos : Pos} (he : SE X e h) : SE X (.Subscript e (.Slice none none (some (.UnaryOp .USub (.Constant (.int 1) k p1) p2)) p3) pos) (fRevT 0 h) := PEimp (pe_revT he) se_revTo
theorem se_revT1 {e : Expr} {h : FE} {k k0 : Nat} {p0 p1 p2 p3 pos : Pos} (he : SE X e h) : SE X (.Subscript e (.Slice none (some (.Constant (.int 0) k0 p0)) (some (.UnaryOp .USub (.Constant (.int 1) k p1) p2)) p3) pos) (fRevT 1 h) := PEimp (pe_revT1 he) se_revTo
end
end DL
namespace VL
open PySem PySem.Spec PyProof.Rows L2 DL A30
@[simp] def vRevT (d : Nat) (f : VE) : VE := fun e Q => f e fun x => match x with
  | .tup xs => Q (.tup (xs.drop d).reverse)
  | _ => False
theorem sv_revT {d : Nat} {f : FE} {f' : VE} (a : SB f f') : SV (fRevT d f) (vRevT d f') := fun B sc Z W δ e Qv Q st hv k =>
  a B sc Z W δ e _ _ st hv fun x dx Z1 W1 g1 r1 q1 => by
    cases x <;> try exact q1.elim
    obtain ⟨ds, rfl, r⟩ := r1.tup
    exact ⟨ds, rfl, k _ _ Z1 W1 g1 (rep_tup (r.drop d).rev) q1⟩
end VL
/-! Dl23: the sum of a list or a tuple of ints. -/
namespace DL
open PySem PySem.Spec PyProof.Rows PySem.W L2
section
variable {X : Cx}
def rSumT (K : PySem.W.Frag) : List V → Hp → VK → Prop := fun vs H Q => ∃ (a : Addr) (ns : List Int), vs = [V.ref a] ∧ SqT K H a (ns.map V.int) ∧ Q (.int ns.sum) H
theorem cr_sumT (hc : X.calm = true) : CallR X (.builtin "sum") (rSumT X.K) := by
  intro pins s σ H vs us Q I r h
  obtain ⟨a, ns, rfl, hs, q⟩ := h
  obtain ⟨its, rv, ht, hz⟩ := I.tuple hs
  rw [Vals.ref1 r]
  have hi := rv.ints
  have hl : s.heap.IsTuple a its.toArray := by
    obtain ⟨o, e, c, n, d⟩ := ht
    exact ⟨o, e, c, n, d⟩
  obtain ⟨xs, e⟩ := hi.allInts.items
  have hn : numsOf (intItems xs).toList = ns := by rw [← e]; exact hi.numsOf
  rw [nums_intItems] at hn
  rw [e] at hl
  refine ktm_sumG (I.ok.hd hc) hl fun h' tk t' hk => ?_
  rw [preSum_eq, List.take_of_length_le (by simp), hn]
  exact ⟨.int _, H, I.kept hk, ⟨_, rfl⟩, q⟩
end
def rSumA (K : PySem.W.Frag) : List V → Hp → VK → Prop := fun vs H Q => rSum K vs H Q ∨ rSumT K vs H Q
theorem cr_sumA {X : Cx} (hc : X.calm = true) : CallR X (.builtin "sum") (rSumA X.K) := (cr_sum hc).or (cr_sumT hc)
/-- of a list or a tuple of ints -/
def bSumA : RD := fun ds W Q => ∃ (x : D) (ns : List Int), ds = [x] ∧ seqD W x = some (ns.map D.int) ∧ Q (.int ns.sum) W
theorem c_sumA {K : PySem.W.Frag} : CallD K (rSumA K) bSumA := fun H W vs ds Q Q' rl dv ⟨x, ns, e, hx, q⟩ k => by
  subst e
  obtain ⟨v, rfl, hv⟩ := dv.c1
  obtain ⟨p, us, rfl, d, ⟨s, _⟩ | ⟨s, rfl⟩⟩ := seqD.ok rl hx hv
  · rw [d.ints] at s
    exact .inl ⟨p, ns, rfl, s, k.at rl q rfl⟩
  · rw [d.ints] at s
    exact .inr ⟨p, ns, rfl, SqT.of s, k.at rl q rfl⟩
end DL
namespace VL
open PySem PySem.Spec PyProof.Rows L2 DL A30
@[simp] def gSumA : VF := fun us Q => match us with
  | [x] => ∃ xs, seqU x = some xs ∧ ∃ ns, intsU xs = some ns ∧ Q (.int ns.sum)
  | _ => False
theorem bv_sumA : BV bSumA gSumA := fun B sc Z W us ds Qv Q ok r hv k => by
  unfold gSumA at hv
  split at hv
  · obtain ⟨xs, hx, ns, hn, hv⟩ := hv
    obtain ⟨d, rfl, rd⟩ := r.c1
    obtain ⟨es, e, r⟩ := rd.seq ok.sub hx
    rw [intsU_ok hn] at r
    rw [r.ints_iff] at e
    exact ⟨d, ns, rfl, e, k _ _ Z W ok.same rep_int hv⟩
  · exact hv.elim
end VL
/-! Dl24: name = [.. for .. for ..] on one line, the name a local. -/
namespace DL
open PySem PySem.Spec PyProof.Rows L2
variable {X : Cx} {f : FE} {pos : Pos}
theorem ss_setLc2 (i : Nat) {y : Str} {py : Pos} {elt tg iter tg1 iter1 : Expr} {ifs ifs1 : List Expr} {scope : Scope} {own : List (Str × Nat)} {spos : Pos} {fi fi1 : FI} {gg gg1 : FG} {tt tt1 : FT} {is is1 : List Nat} (vs1 : List Nat) (hc : X.calm = true) (hN : X.N.Nodup) (hi : SI X tg iter fi) (ok : BlkOk X.N X.env.scope scope own)
    (hg : ∀ (s : Shared) (H : Hp) (C : Addr) (cl : List (Str × Addr)) (fp : List Addr), SC (X.blk s H scope (compEnvC scope cl C X.env) fp) tg is gg) (ht : ∀ (s : Shared) (H : Hp) (C : Addr) (cl : List (Str × Addr)) (fp : List Addr), SPs (X.blk s H scope (compEnvC scope cl C X.env) fp) ifs tt)
    (hi1 : ∀ (s : Shared) (H : Hp) (C : Addr) (cl : List (Str × Addr)) (fp : List Addr), SI (X.blk s H scope (compEnvC scope cl C X.env) fp) tg1 iter1 fi1)
    (hg1 : ∀ (s : Shared) (H : Hp) (C : Addr) (cl : List (Str × Addr)) (fp : List Addr), SC (X.blk s H scope (compEnvC scope cl C X.env) fp) tg1 is1 gg1) (ht1 : ∀ (s : Shared) (H : Hp) (C : Addr) (cl : List (Str × Addr)) (fp : List Addr), SPs (X.blk s H scope (compEnvC scope cl C X.env) fp) ifs1 tt1)
    (he : ∀ (s : Shared) (H : Hp) (C : Addr) (cl : List (Str × Addr)) (fp : List Addr), SE (X.blk s H scope (compEnvC scope cl C X.env) fp) elt f) (hy : X.N[i]? = some y := by rfl) (hyl : X.env.scope.names.lookup y = some .local := by rfl)
    (hsw : swapsWith (.ListComp elt [⟨tg, iter, ifs, 0⟩, ⟨tg1, iter1, ifs1, 0⟩] scope pos) (some (.Name y py)) spos.line X.env = pure true := by exact sw_true rfl rfl rfl (by decide +kernel))
    (hsub : ∀ i ∈ is, i ∈ own.map (·.2) := by decide) (hsub1 : ∀ i ∈ is1, i ∈ vs1 := by decide) (hv : ∀ i ∈ vs1, i ∈ own.map (·.2) := by decide)
    (hs : ∀ x, foldedSetIterable iter X.env x = pure x := by intro _; rfl) (hs1 : ∀ env x, foldedSetIterable iter1 env x = pure x := by intro _ _; rfl) :
    SS X (.Assign [.Name y py] (.ListComp elt [⟨tg, iter, ifs, 0⟩, ⟨tg1, iter1, ifs1, 0⟩] scope pos) spos) (sAsg (fLc2 fi gg tt fi1 gg1 tt1 f (own.map (·.2)) vs1) (gN i)) :=
  PSimp (ps_setLc2 hc hN hy hyl hsw hi ok hv hg ht hi1 hg1 ht1 he hs hs1) fun Dn σ H h => by
    obtain ⟨δ, W, D', er, rl, h, k⟩ := h
    exact tE_lc2 hsub hsub1 σ H _ ⟨δ, W, _, er, rl, h, fun v d H' W' e' r' v' q => k.nx _ _ H' W' e' ((er.ext e').set v') r' q⟩
end DL
/-! Dl25: dicts: displays, update; tuple(range(n)); l.pop(0). -/
namespace DL
open PySem PySem.Spec PyProof.Rows PySem.W L2
section
variable {X : Cx}
def rUpd : V → List V → Hp → VK → Prop := fun x vs H Q => ∃ (a b : Addr) (kvs more : List (Key × V)), x = .ref a ∧ vs = [.ref b] ∧ a ≠ b ∧ H a = some (.dK kvs) ∧ H b = some (.dK more) ∧ kvs.length + more.length ≤ sizeLine ∧ Q .non (upd H a (.dK (mergeK kvs more)))
theorem mt_upd : MtR X "dict.update" rUpd := by
  intro pins s σ H x vs v us Q I rx rv h
  obtain ⟨a, b, kvs, more, rfl, rfl, hab, e, e2, hl, q⟩ := h
  obtain rfl : v = Value.ref a := rx
  rw [Vals.ref1 rv]
  obtain ⟨z, hd, vs1, rel, dd⟩ := dk_of I.hok e
  obtain ⟨z2, hd2, vs2, rel2, dd2⟩ := dk_of I.hok e2
  refine call_meetsIn PySem.F.slot_dict_update dd.typeIs PySem.F.entry_dict_update (PySem.F.args_dict_update_2 _ _) (meets_dict_update (mixKind X.prog X.w) a b hab hd2) ⟨vs1, vs2, dd, dd2, by rw [← rel.length, ← rel2.length]; exact hl, fun h' dd' _ hs => ?_⟩
  have he : ∃ q, h'.get? a = some q := let ⟨q, _, _, hq, _⟩ := dd'; ⟨q, hq⟩
  have hz : (mergeK kvs more).length ≤ sizeLine := Nat.le_trans (length_mergeK more kvs) hl
  exact ⟨.non, _, d_write (t' := s.toks) I (by rw [e]; exact True.intro) hs he (dk_new hz hd (KV.merge rel2 rel) dd'), rfl, q⟩
def isDK : D → DW → Prop := fun d W => ∃ a kvs, d = .ref a ∧ W a = some (.dic kvs)
theorem ty_dict {K : PySem.W.Frag} : TyD K "dict" isDK := fun H W x d rl dv ⟨a, kvs, e, w⟩ => by
  subst e
  cases dv
  obtain ⟨ws, s, _⟩ := rl _ _ w
  exact .inr (.inr (.inl ⟨rfl, .inl ⟨ws, s⟩⟩))
def mUpd : MD := fun d ds W Q => ∃ a b kvs more, d = .ref a ∧ ds = [.ref b] ∧ a ≠ b ∧ W a = some (.dic kvs) ∧ W b = some (.dic more) ∧ kvs.length + more.length ≤ sizeLine ∧ Q .non (wup W a (.dic (mergeD kvs more)))
theorem m_upd {K : PySem.W.Frag} : MthD K rUpd mUpd := fun H W x d vs ds Q Q' rl dv dvs ⟨a, b, kvs, more, e1, e2, hab, w, w2, hl, q⟩ k => by
  subst e1; subst e2
  cases dv
  obtain ⟨v, rfl, hv⟩ := dvs.c1
  cases hv
  obtain ⟨us, s, d⟩ := rl _ _ w
  obtain ⟨us2, s2, d2⟩ := rl _ _ w2
  refine ⟨a, b, us, us2, rfl, rfl, hab, s, s2, by rw [d.len, d2.len]; exact hl, ?_⟩
  have e2 : Ext K H (upd H a (.dK (mergeK us us2))) := Ext.put s trivial
  have hd2 : HasO K (upd H a (.dK (mergeK us us2))) a (.dic (mergeD kvs more)) := ⟨_, upd_same, DKV.merge (DKV.ext e2 d2) (DKV.ext e2 d)⟩
  exact k _ .non _ _ e2 (rl.wput s trivial hd2) rfl q
variable {a : Expr} {f : FE} {pos : Pos}
def fTupR1 (f : FE) : FE := fun δ W Q => f δ W fun x W1 => ∃ n, x = .int n ∧ RgOk 0 n ∧ Q (.tup (rngD 0 n.toNat)) W1
theorem se_tupR1 {p1 p2 pos' : Pos} (hc : X.calm = true) (hm : X.mg "tuple" = none) (hm2 : X.mg "range" = none) (ha : SE X a f) (hg : Gl X "tuple" := by rfl) (hg2 : Gl X "range" := by rfl) (na : starEach [a] X.env = (false, eval a X.env) :: starEach [] X.env := by rfl)
    (na2 : starEach [.Call (.Name "range" p2) [a] [] pos'] X.env = (false, eval (.Call (.Name "range" p2) [a] [] pos') X.env) :: starEach [] X.env := by rfl) : SE X (.Call (.Name "tuple" p1) [.Call (.Name "range" p2) [a] [] pos'] [] pos) (fTupR1 f) :=
  PEimp (pe_tupRg hc hg hm (prg_1 hg2 hm2 ha na) na2) fun σ H Q ⟨δ, W, Q', er, rl, h, k⟩ => ⟨δ, W, _, er, rl, h, fun v d H1 W1 e1 r1 v1 ⟨n, ed, ok, q⟩ => by
    subst ed
    cases v1
    refine ⟨n, rfl, ok, fun p hp => newT r1 hp ?_ q (k.ext e1)⟩
    have := DVs.rng (K := X.K) (H := H1) 0 (List.range n.toNat)
    unfold rngD rgV
    rw [Int.sub_zero]
    exact this⟩
end
end DL
namespace VL
open PySem PySem.Spec PyProof.Rows L2 DL A30
section
variable {f g h : FE} {f' g' h' : VE}
@[simp] def vTupR1 (f : VE) : VE := fun e Q => f e fun x => match x with
  | .int n => -1000000 ≤ n ∧ n ≤ 1000000 ∧ Q (.tup (rngU 0 n.toNat))
  | _ => False
theorem sv_tupR1 (a : SB f f') : SV (fTupR1 f) (vTupR1 f') := fun B sc Z W δ e Qv Q st hv k =>
  a B sc Z W δ e _ _ st hv fun x dx Z1 W1 g1 r1 q1 => by
    cases x <;> try exact q1.elim
    rename_i n
    obtain ⟨h1, h2, q1⟩ := q1
    rw [r1.int]
    exact ⟨_, rfl, ⟨by omega, by omega, by omega, by omega, by omega⟩, k _ _ Z1 W1 g1 (rep_tup (reps_rng _ _)) q1⟩
/-! dicts -/
@[simp] def vDnew : VE := fun _ Q => Q (.dic [] [])
theorem sf_dnew : SF fDnew vDnew := fun B sc Z W δ e Qv Q st hv k p hp => by
  obtain ⟨g2, n2⟩ := newO (o := .dic []) st.ok hp
  exact k (.dic [] []) p Z _ g2 ⟨[], wup_same, rfl, reps_nil.mpr rfl⟩ n2 hp hv
@[simp] def vDisp1 (f g : VE) : VE := fun e Q => f e fun x => g e fun y => ∃ k, keyU x = some k ∧ Q (.dic [k] [y])
theorem sf_disp1 (a : SB f f') (b : SV g g') : SF (fDisp [(f, g)]) (vDisp1 f' g') := fun B sc Z W δ e Qv Q st hv k p hp => by
  obtain ⟨zp, ns, nb, ne⟩ := st.out hp
  obtain ⟨g0, n0⟩ := newO (o := .dic []) st.ok hp
  refine a B sc Z _ δ e _ _ (st.gr g0) hv fun x dx Z1 W1 g1 r1 q1 => ?_
  have g01 := g0.trans st.src g1
  refine b B sc Z1 W1 δ e _ _ (st.gr g01) q1 fun y dy Z2 W2 g2 r2 ⟨kk, hk, q2⟩ => ?_
  have g12 := g1.trans (st.gr g0).src g2
  have g02 := g0.trans st.src g12
  have w2 : W2 p = some (.dic []) := g12.k p _ ns wup_same
  have hz2 : Z2 p = none := g12.n p (by rw [wup_same]; simp) n0
  have hkd : keyD dx = some kk := (r1.up g2).key hk
  refine ⟨w2, [(kk, dy)], by simp [keysOf, hkd], by simp, ?_⟩
  exact k (.dic [kk] [y]) p Z2 _ (g02.put hp hz2 ns) ⟨[(kk, dy)], by rw [wup_same]; rfl, rfl, Reps.one r2⟩ hz2 hp q2
def mgU (ks : List Key) (us : List U) : List Key → List U → List Key × List U
  | k :: ks2, u :: us2 => mgU (putKs ks k) (putVs ks us k u) ks2 us2
  | _, _ => (ks, us)
theorem putKs_nodup {ks : List Key} {q : Key} (h : ks.Nodup) : (putKs ks q).Nodup := by
  unfold putKs
  split
  · exact h
  · rename_i hq
    rw [List.nodup_append]
    exact ⟨h, by simp, fun a ha b hb e => by simp at hb; subst hb; subst e; exact hq ha⟩
theorem mergeD_ok {sc : Sc} {Z : DW} : ∀ {more : List (Key × D)} {us2 : List U} {kvs : List (Key × D)} {us : List U}, (kvs.map (·.1)).Nodup → Reps sc Z us (kvs.map (·.2)) → Reps sc Z us2 (more.map (·.2)) →
    (mergeD kvs more).map (·.1) = (mgU (kvs.map (·.1)) us (more.map (·.1)) us2).1 ∧ Reps sc Z (mgU (kvs.map (·.1)) us (more.map (·.1)) us2).2 ((mergeD kvs more).map (·.2))
  | [], us2, kvs, us, nd, h, h2 => by
    cases us2 with
    | nil => exact ⟨rfl, h⟩
    | cons => have := h2.length; simp at this
  | (k, d) :: more, us2, kvs, us, nd, h, h2 => by
    cases us2 with
    | nil => have := h2.length; simp at this
    | cons u us2 =>
      obtain ⟨d', r, e, h3, h4⟩ := reps_cons.mp h2
      simp only [List.map_cons, List.cons.injEq] at e
      obtain ⟨rfl, rfl⟩ := e
      obtain ⟨p1, p2⟩ := putD_ok (q := k) h3 nd h
      have ih := mergeD_ok (kvs := putD kvs k d) (us := putVs (kvs.map (·.1)) us k u) (by rw [p1]; exact putKs_nodup nd) p2 h4
      rw [p1] at ih
      exact ih
@[simp] def vUpd (i : Nat) (f : VE) : VS := fun D e => ∃ ks us, e[i]? = some (some (.own (.dic ks us))) ∧ f e fun y => match y with
  | .dic ks2 us2 => ks.Nodup ∧ ks.length + ks2.length ≤ 1000000 ∧ D.nx (e.set i (some (.own (.dic (mgU ks us ks2 us2).1 (mgU ks us ks2 us2).2))))
  | _ => False
theorem ss_updD {i : Nat} (a : SV f f') : SSt (sDrop (fM isDK mUpd (fVar i) (fCons f fNil))) (vUpd i f') := fun B sc Z W δ e Dv D st l ⟨ks, us, hu, hv⟩ => by
  obtain ⟨p, ep, ⟨kvs, w, ek, r⟩, n, s, nb⟩ := st.env i _ hu
  refine ⟨.ref p, ep, ⟨p, kvs, rfl, w⟩, ?_⟩
  refine a B sc Z W δ e _ _ st hv fun y dy Z1 W1 g1 r1 q => ?_
  cases y <;> try exact q.elim
  rename_i ks2 us2
  obtain ⟨nd, hl, q⟩ := q
  have st1 := st.gr g1
  obtain ⟨p1, ep1, ⟨kvs1, w1, ek1, rr⟩, n1, s1, b1⟩ := st1.env i _ hu
  rw [ep] at ep1
  cases ep1
  unfold Rep at r1
  obtain ⟨b, more, rfl, wz, em, rm⟩ := r1
  have hpb : p ≠ b := fun e => by subst e; rw [n1] at wz; cases wz
  subst ek1 em
  obtain ⟨m1, m2⟩ := mergeD_ok nd rr rm
  have hc := st1.ch (i := i) (a := p) (o := .dic (mergeD kvs1 more)) (u2 := .dic _ _) hu ep ⟨_, wup_same, m1, m2⟩
  exact ⟨p, b, kvs1, more, rfl, rfl, hpb, w1, g1.w _ _ wz, by simp only [List.length_map] at hl; exact le_line hl, l.nx _ _ Z1 _ ((g1.S st.bex).trans hc.1) hc.2 q⟩
/-- l.pop(0), l not empty -/
@[simp] def vPop0 (k : Nat) (t : VG) : VS := fun D e => ∃ us u, e[k]? = some (some (.own (.lst (u :: us)))) ∧ t u (e.set k (some (.own (.lst us)))) D.nx
theorem ss_pop0 {k : Nat} {gg : FG} {t : VG} (b : SGt gg t) : SSt (sAsg (fM isL mPopAt (fVar k) (fCons (fC (.int 0)) fNil)) gg) (vPop0 k t) := fun B sc Z W δ e Dv D st l ⟨us, u, hu, hv⟩ => by
  obtain ⟨p, ep, ⟨ds, w, r⟩, n, s, nb⟩ := st.env k _ hu
  refine ⟨.ref p, ep, ⟨p, ds, rfl, w⟩, ?_⟩
  obtain ⟨d, ds', rfl, rd, r2⟩ := reps_cons.mp r
  have hc := st.ch (i := k) (a := p) (o := .lst ds') (u2 := .lst us) hu ep ⟨_, wup_same, r2⟩
  refine ⟨p, d :: ds', 0, 0, d, rfl, rfl, w, by omega, by omega, ?_, rfl, ?_⟩
  · unfold seqIndex?
    simp
  · exact b B sc Z _ δ _ u d _ _ hc.2 rd hv fun δ' e' st' q => l.nx δ' e' Z _ hc.1 st' q
end
/-- a def that is never called here -/
def vfNever : VF := fun _ _ => False
theorem fn_never {P : Program} {w : World} {K : PySem.W.Frag} {mg : Str → Option Value} {base : Heap} {k : Nat} {fa : Addr} {fd : FuncData} {ps : List Str} : FnG P w K mg base k fa fd ps (toSp K (spOf vfNever)) :=
  ⟨fun _ _ _ _ ⟨_, _, _, _, _, ⟨_, _, _, _, _, _, _, h, _⟩, _⟩ => h.elim, fun _ _ _ _ _ _ _ _ _ _ _ _ _ ⟨_, _, _, _, _, ⟨_, _, _, _, _, _, _, h, _⟩, _⟩ => h.elim⟩
end VL
/-! Dl26: sorted, of ints. -/
namespace VL
open PySem PySem.Spec PyProof.Rows PySem.W L2 DL A30
def leI (a b : Int) : Bool := decide (a ≤ b)
theorem le_encI : dataLe false PyData.int = leI := by
  funext a b
  show (!PySem.W.dataLt (.int b) (.int a)) = _
  have : PySem.W.dataLt (.int b) (.int a) = decide (b < a) := PySem.W.dataLt_int b a
  rw [this]
  unfold leI
  by_cases h : b < a
  · have : ¬ a ≤ b := by omega
    simp [h, this]
  · have : a ≤ b := by omega
    simp [h, this]
def gSortI : VF := fun us Q => match us with
  | [.lst ys] => ∃ ns, intsU ys = some ns ∧ Q (.lst ((ns.mergeSort leI).map .int))
  | _ => False
theorem bf_sortI : BF bSortG gSortI := fun B sc Z W us ds Qv Q ok r hv k => by
  unfold gSortI at hv
  split at hv
  · obtain ⟨ns, hn, hv⟩ := hv
    obtain ⟨d, rfl, rd⟩ := r.c1
    obtain ⟨a, es, rfl, w, r⟩ := rd.lst ok.sub
    rw [intsU_ok hn] at r
    rw [r.ints_iff] at w
    refine ⟨a, Int, PyData.int, D.int, ns, rfl, w, fun b _ => ?_, ?_, ?_, fun b _ => by simp [PyData.depth], fun p hp => ?_⟩
    · exact .int b
    · exact AllAlike.of fun x y => rfl
    · exact .inr fun d hd => by
        obtain ⟨x, _, rfl⟩ := List.mem_map.mp hd
        exact ⟨fun e => (by cases e), fun xs e => (by cases e)⟩
    · rw [le_encI]
      obtain ⟨g, n⟩ := newO (o := .lst ((ns.mergeSort leI).map D.int)) ok hp
      exact k (.lst _) _ Z _ g ⟨_, wup_same, Reps.ints _⟩ n hp hv
  · exact hv.elim
end VL
namespace VL
open PySem PySem.Spec PyProof.Rows L2 DL A30
def f_all_offsets : FS :=
    (sSeq (sAsg (fLst (fCons (fTup fNil) fNil)) (gN 3))
    (sSeq (sFor (fRng1 (fCons (fVar 0) fNil)) (gN 4) (sSeq (sAsg (fIf (fB (fBin (pInA false) (fVar 4) (fVar 1))) (fLstR1 (fVar 2)) (fLst (fCons (fC (.int 0)) fNil))) (gN 5))
    (sAsg (fLc2 (fSeq (fVar 3)) (gN 6) fYes (fSeq (fVar 5)) (gN 7) fYes (fBin pAdd (fVar 6) (fTup (fCons (fVar 7) fNil))) [6, 7] [7]) (gN 3))))
    (sRet (fVar 3))))
def v_all_offsets : VS :=
    (vSeq (vAsg (vLst (vaC (vTup vaN) vaN)) (tN 3))
    (vSeq (vFgt [4, 5] (vFor (viRng1 (vaC (vVar 0) vaN)) (tN 4) (vEnd [4, 5] (vSeq (vAsg (vIf (vB (vBin (gIn false) (vVar 4) (vVar 1))) (vLstR1 (vVar 2)) (vLst (vaC (vC (.int 0)) vaN))) (tN 5))
    (vAsg (vLc2 (viSeq (vVar 3)) (tN 6) vYes (viSeq (vVar 5)) (tN 7) vYes (vBin gAdd (vVar 6) (vTup (vaC (vVar 7) vaN))) [6, 7] [7]) (tN 3))))))
    (vRet (vVar 3))))
theorem vs_all_offsets : SSt f_all_offsets v_all_offsets :=
    (ss_seq (ss_as (SF.v (sf_lst (sa_c (sv_tup sa_n) sa_n))) sg_n)
    (ss_seq (ss_fgt (VL.ss_for (si_rng1V (sab_c (SV.b sv_var) sab_n)) sg_n (ss_end (ss_seq (ss_as (sv_if (so_b (SV.b (sv_bin (ov_in false) (SV.b sv_var) (SV.b sv_var)))) (SF.v (sf_lstR1 (SV.b sv_var))) (SF.v (sf_lst (sa_c sv_int sa_n)))) sg_n)
    (ss_as (SF.v (sf_lc2 (si_seqV sv_var) sg_n so_yes (si_seqV sv_var) sg_n so_yes (sv_bin ov_add (SV.b sv_var) (SV.b (sv_tup (sa_c sv_var sa_n)))))) sg_n)))))
    (ss_rt (SV.b sv_var))))
@[simp] def vf_all_offsets : VF := fun us Q => match us with
  | [x0, x1, x2] => v_all_offsets (RTv Q) [some (.val x0), some (.val x1), some (.val x2), none, none, none, none, none]
  | _ => False
theorem vo_all_offsets : ∀ us Q, vf_all_offsets us Q → vFn 3 8 v_all_offsets us Q := fun us Q h => by
  unfold vf_all_offsets at h
  split at h
  · exact ⟨rfl, h⟩
  · exact h.elim
def f_arrivals : FS :=
    (sSeq (sAsg (fVar 1) (gN 2))
    (sSeq (sAsg (fLst fNil) (gN 3))
    (sSeq (sFor (fSeq (fVar 0)) (gTp 2 (gCn (gN 4) (gCn (gN 5) gNl))) (sSeq (sAug 2 (fVar 5) (pII0 fun i j => .int (i + j)))
    (sDrop (fM isL mAppend (fVar 3) (fCons (fVar 2) fNil)))))
    (sRet (fB1 bTuple (fCons (fVar 3) fNil))))))
def v_arrivals : VS :=
    (vSeq (vAsg (vVar 1) (tN 2))
    (vSeq (vOwn 3 (vLst vaN))
    (vSeq (vFgt [4, 5] (vFor (viSeq (vVar 0)) (tTp 2 (tCn (tN 4) (tCn (tN 5) tNl))) (vEnd [4, 5] (vSeq (vAug 2 (fun i j => i + j) (vVar 5))
    (vApp 3 (vVar 2))))))
    (vRet (vB1 gTuple (vaC (vBor 3) vaN))))))
theorem vs_arrivals : SSt f_arrivals v_arrivals :=
    (ss_seq (ss_as sv_var sg_n)
    (ss_seq (ss_own (sf_lst sa_n))
    (ss_seq (ss_fgt (VL.ss_for (si_seqV sv_var) (sg_tp (sg_cn sg_n (sg_cn sg_n sg_nl))) (ss_end (ss_seq (VL.ss_aug (h := (fun i j => i + j)) (SV.b sv_var))
    (ss_app sv_var)))))
    (ss_rt (SV.b (sv_b1 bv_tuple (sab_c sb_bor sab_n)))))))
@[simp] def vf_arrivals : VF := fun us Q => match us with
  | [x0, x1] => v_arrivals (RTv Q) [some (.val x0), some (.val x1), none, none, none, none]
  | _ => False
theorem vo_arrivals : ∀ us Q, vf_arrivals us Q → vFn 2 6 v_arrivals us Q := fun us Q h => by
  unfold vf_arrivals at h
  split at h
  · exact ⟨rfl, h⟩
  · exact h.elim
def f_band_bound : FS :=
    (sRet (fB1 bMin (fCons (fLc (fSeq (fVar 0)) (gTp 2 (gCn (gN 1) (gCn (gN 2) gNl))) fYes (fVar 2) [1, 2]) fNil)))
def v_band_bound : VS :=
    (vRet (vB1 gMinL (vaC (vLc (viSeq (vVar 0)) (tTp 2 (tCn (tN 1) (tCn (tN 2) tNl))) vYes (vVar 2) [1, 2]) vaN)))
theorem vs_band_bound : SSt f_band_bound v_band_bound :=
    (ss_rt (SV.b (sv_b1 bv_min (sab_c (SV.b (SF.v (sf_lc (si_seqV sv_var) (sg_tp (sg_cn sg_n (sg_cn sg_n sg_nl))) so_yes sv_var))) sab_n))))
@[simp] def vf_band_bound : VF := fun us Q => match us with
  | [x0] => v_band_bound (RTv Q) [some (.val x0), none, none]
  | _ => False
theorem vo_band_bound : ∀ us Q, vf_band_bound us Q → vFn 1 3 v_band_bound us Q := fun us Q h => by
  unfold vf_band_bound at h
  split at h
  · exact ⟨rfl, h⟩
  · exact h.elim
def f_back_line : FS :=
    (sSeq (sAsg (fBin pAdd (fLst (fCons (fC (.int 0)) fNil)) (fLc (fSeq (fRevT 1 (fVar 0))) (gTp 2 (gCn (gN 2) (gCn (gN 3) gNl))) fYes (fVar 3) [2, 3])) (gN 1))
    (sRet (fB1 bTuple (fCons (fLc (fZip2 (fCons (fRevT 0 (fVar 0)) (fCons (fVar 1) fNil))) (gTp 2 (gCn (gTp 2 (gCn (gN 4) (gCn (gN 2) gNl))) (gCn (gN 3) gNl))) fYes (fTup (fCons (fVar 4) (fCons (fVar 3) fNil))) [3, 4, 2]) fNil))))
def v_back_line : VS :=
    (vSeq (vAsg (vBin gAdd (vLst (vaC (vC (.int 0)) vaN)) (vLc (viSeq (vRevT 1 (vVar 0))) (tTp 2 (tCn (tN 2) (tCn (tN 3) tNl))) vYes (vVar 3) [2, 3])) (tN 1))
    (vRet (vB1 gTuple (vaC (vLc (viZip2 (vaC (vRevT 0 (vVar 0)) (vaC (vVar 1) vaN))) (tTp 2 (tCn (tTp 2 (tCn (tN 4) (tCn (tN 2) tNl))) (tCn (tN 3) tNl))) vYes (vTup (vaC (vVar 4) (vaC (vVar 3) vaN))) [3, 4, 2]) vaN))))
theorem vs_back_line : SSt f_back_line v_back_line :=
    (ss_seq (ss_as (sv_bin ov_add (SV.b (SF.v (sf_lst (sa_c sv_int sa_n)))) (SV.b (SF.v (sf_lc (si_seqV (sv_revT (SV.b sv_var))) (sg_tp (sg_cn sg_n (sg_cn sg_n sg_nl))) so_yes sv_var)))) sg_n)
    (ss_rt (SV.b (sv_b1 bv_tuple (sab_c (SV.b (SF.v (sf_lc (si_zip2V (sa_c (sv_revT (SV.b sv_var)) (sa_c sv_var sa_n))) (sg_tp (sg_cn (sg_tp (sg_cn sg_n (sg_cn sg_n sg_nl))) (sg_cn sg_n sg_nl))) so_yes (sv_tup (sa_c sv_var (sa_c sv_var sa_n)))))) sab_n)))))
@[simp] def vf_back_line : VF := fun us Q => match us with
  | [x0] => v_back_line (RTv Q) [some (.val x0), none, none, none, none]
  | _ => False
theorem vo_back_line : ∀ us Q, vf_back_line us Q → vFn 1 5 v_back_line us Q := fun us Q h => by
  unfold vf_back_line at h
  split at h
  · exact ⟨rfl, h⟩
  · exact h.elim
def f__law_rest : FS :=
    (sRet (fBin pMod (fB1 bInt (fCons (fVar 0) fNil)) (fVar 1)))
def v__law_rest : VS :=
    (vRet (vBin gMod (vB1 gInt (vaC (vVar 0) vaN)) (vVar 1)))
theorem vs__law_rest : SSt f__law_rest v__law_rest :=
    (ss_rt (SV.b (sv_bin ov_ic (SV.b (sv_b1 bv_int (sab_c (SV.b sv_var) sab_n))) (SV.b sv_var))))
@[simp] def vf__law_rest : VF := fun us Q => match us with
  | [x0, x1] => v__law_rest (RTv Q) [some (.val x0), some (.val x1)]
  | _ => False
theorem vo__law_rest : ∀ us Q, vf__law_rest us Q → vFn 2 2 v__law_rest us Q := fun us Q h => by
  unfold vf__law_rest at h
  split at h
  · exact ⟨rfl, h⟩
  · exact h.elim
def f__law_rows_below : FS :=
    (sSeq (sAsg (fLst (fCons (fTup fNil) fNil)) (gN 2))
    (sSeq (sFor (fRng1 (fCons (fVar 0) fNil)) (gN 3) (sSeq (sAsg (fLst fNil) (gN 4))
    (sSeq (sFor (fSeq (fVar 2)) (gN 5) (sAsg (fBin pAdd (fVar 4) (fLc (fRng1 (fCons (fVar 1) fNil)) (gN 6) fYes (fBin pAdd (fVar 5) (fTup (fCons (fVar 6) fNil))) [6])) (gN 4)))
    (sAsg (fVar 4) (gN 2)))))
    (sRet (fVar 2))))
def v__law_rows_below : VS :=
    (vSeq (vAsg (vLst (vaC (vTup vaN) vaN)) (tN 2))
    (vSeq (vFgt [3, 4, 5] (vFor (viRng1 (vaC (vVar 0) vaN)) (tN 3) (vEnd [3, 4, 5] (vSeq (vAsg (vLst vaN) (tN 4))
    (vSeq (vFgt [5] (vFor (viSeq (vVar 2)) (tN 5) (vEnd [5] (vAsg (vBin gAdd (vVar 4) (vLc (viRng1 (vaC (vVar 1) vaN)) (tN 6) vYes (vBin gAdd (vVar 5) (vTup (vaC (vVar 6) vaN))) [6])) (tN 4)))))
    (vAsg (vVar 4) (tN 2)))))))
    (vRet (vVar 2))))
theorem vs__law_rows_below : SSt f__law_rows_below v__law_rows_below :=
    (ss_seq (ss_as (SF.v (sf_lst (sa_c (sv_tup sa_n) sa_n))) sg_n)
    (ss_seq (ss_fgt (VL.ss_for (si_rng1V (sab_c (SV.b sv_var) sab_n)) sg_n (ss_end (ss_seq (ss_as (SF.v (sf_lst sa_n)) sg_n)
    (ss_seq (ss_fgt (VL.ss_for (si_seqV sv_var) sg_n (ss_end (ss_as (sv_bin ov_add (SV.b sv_var) (SV.b (SF.v (sf_lc (si_rng1V (sab_c (SV.b sv_var) sab_n)) sg_n so_yes (sv_bin ov_add (SV.b sv_var) (SV.b (sv_tup (sa_c sv_var sa_n)))))))) sg_n))))
    (ss_as sv_var sg_n))))))
    (ss_rt (SV.b sv_var))))
@[simp] def vf__law_rows_below : VF := fun us Q => match us with
  | [x0, x1] => v__law_rows_below (RTv Q) [some (.val x0), some (.val x1), none, none, none, none, none]
  | _ => False
theorem vo__law_rows_below : ∀ us Q, vf__law_rows_below us Q → vFn 2 7 v__law_rows_below us Q := fun us Q h => by
  unfold vf__law_rows_below at h
  split at h
  · exact ⟨rfl, h⟩
  · exact h.elim
def f__law_line_ticks : FS :=
    (sSeq (sPar 2 3 (fCons (fLst fNil) (fCons (fVar 1) fNil)))
    (sSeq (sFor (fSeq (fVar 0)) (gTp 2 (gCn (gN 4) (gCn (gN 5) gNl))) (sSeq (sAsg (fBin pAdd (fVar 3) (fVar 5)) (gN 3))
    (sDrop (fM isL mAppend (fVar 2) (fCons (fVar 3) fNil)))))
    (sRet (fVar 2))))
def v__law_line_ticks : VS :=
    (vSeq (vPar 2 3 true false (vLst vaN) (vVar 1))
    (vSeq (vFgt [4, 5] (vFor (viSeq (vVar 0)) (tTp 2 (tCn (tN 4) (tCn (tN 5) tNl))) (vEnd [4, 5] (vSeq (vAsg (vBin gAdd (vVar 3) (vVar 5)) (tN 3))
    (vApp 2 (vVar 3))))))
    (vRet (vBor 2))))
theorem vs__law_line_ticks : SSt f__law_line_ticks v__law_line_ticks :=
    (ss_seq (VL.ss_par (show SX true _ _ from (sf_lst sa_n)) (show SX false _ _ from sv_var))
    (ss_seq (ss_fgt (VL.ss_for (si_seqV sv_var) (sg_tp (sg_cn sg_n (sg_cn sg_n sg_nl))) (ss_end (ss_seq (ss_as (sv_bin ov_add (SV.b sv_var) (SV.b sv_var)) sg_n)
    (ss_app sv_var)))))
    (ss_rt sb_bor)))
@[simp] def vf__law_line_ticks : VF := fun us Q => match us with
  | [x0, x1] => v__law_line_ticks (RTv Q) [some (.val x0), some (.val x1), none, none, none, none]
  | _ => False
theorem vo__law_line_ticks : ∀ us Q, vf__law_line_ticks us Q → vFn 2 6 v__law_line_ticks us Q := fun us Q h => by
  unfold vf__law_line_ticks at h
  split at h
  · exact ⟨rfl, h⟩
  · exact h.elim
def f__law_back_line : FS :=
    (sSeq (sAsg (fLst (fCons (fTup (fCons (fBin pSub' (fBin pSub' (fVar 0) (fNeg (fC (.int 1)))) (fC (.int 0))) (fCons (fC (.int 0)) fNil))) fNil)) (gN 1))
    (sSeq (sFor (fRng3 (fCons (fBin pSub (fB1 bLen (fCons (fVar 0) fNil)) (fC (.int 1))) (fCons (fC (.int 0)) (fCons (fBin pSub (fC (.int 0)) (fC (.int 1))) fNil)))) (gN 2) (sDrop (fM isL mAppend (fVar 1) (fCons (fTup (fCons (fBin pSub' (fBin pSub' (fVar 0) (fBin pSub (fVar 2) (fC (.int 1)))) (fC (.int 0))) (fCons (fBin pSub' (fBin pSub' (fVar 0) (fVar 2)) (fC (.int 1))) fNil))) fNil))))
    (sRet (fB1 bTuple (fCons (fVar 1) fNil)))))
def v__law_back_line : VS :=
    (vSeq (vOwn 1 (vLst (vaC (vTup (vaC (vBin gIx (vBin gIx (vVar 0) (vNeg (vC (.int 1)))) (vC (.int 0))) (vaC (vC (.int 0)) vaN))) vaN)))
    (vSeq (vFgt [2] (vFor (viRng3 (vaC (vBin gSub (vB1 gLen (vaC (vVar 0) vaN)) (vC (.int 1))) (vaC (vC (.int 0)) (vaC (vBin gSub (vC (.int 0)) (vC (.int 1))) vaN)))) (tN 2) (vEnd [2] (vApp 1 (vTup (vaC (vBin gIx (vBin gIx (vVar 0) (vBin gSub (vVar 2) (vC (.int 1)))) (vC (.int 0))) (vaC (vBin gIx (vBin gIx (vVar 0) (vVar 2)) (vC (.int 1))) vaN)))))))
    (vRet (vB1 gTuple (vaC (vBor 1) vaN)))))
theorem vs__law_back_line : SSt f__law_back_line v__law_back_line :=
    (ss_seq (ss_own (sf_lst (sa_c (sv_tup (sa_c (sv_bin ov_ix (SV.b (sv_bin ov_ix (SV.b sv_var) (SV.b (sv_neg (SV.b sv_int))))) (SV.b sv_int)) (sa_c sv_int sa_n))) sa_n)))
    (ss_seq (ss_fgt (VL.ss_for (si_rng3V (sab_c (SV.b (sv_bin ov_ii (SV.b (sv_b1 bv_len (sab_c (SV.b sv_var) sab_n))) (SV.b sv_int))) (sab_c (SV.b sv_int) (sab_c (SV.b (sv_bin ov_ii (SV.b sv_int) (SV.b sv_int))) sab_n)))) sg_n (ss_end (ss_app (sv_tup (sa_c (sv_bin ov_ix (SV.b (sv_bin ov_ix (SV.b sv_var) (SV.b (sv_bin ov_ii (SV.b sv_var) (SV.b sv_int))))) (SV.b sv_int)) (sa_c (sv_bin ov_ix (SV.b (sv_bin ov_ix (SV.b sv_var) (SV.b sv_var))) (SV.b sv_int)) sa_n)))))))
    (ss_rt (SV.b (sv_b1 bv_tuple (sab_c sb_bor sab_n))))))
@[simp] def vf__law_back_line : VF := fun us Q => match us with
  | [x0] => v__law_back_line (RTv Q) [some (.val x0), none, none]
  | _ => False
theorem vo__law_back_line : ∀ us Q, vf__law_back_line us Q → vFn 1 3 v__law_back_line us Q := fun us Q h => by
  unfold vf__law_back_line at h
  split at h
  · exact ⟨rfl, h⟩
  · exact h.elim
def f_passes : FS :=
    (sRet (fB1 bAll (fCons (fLc (fZip3 (fCons (fVar 0) (fCons (fVar 1) (fCons (fCall (spOf vf_arrivals) (fCons (fVar 0) (fCons (fVar 4) fNil))) fNil)))) (gTp 3 (gCn (gTp 2 (gCn (gN 5) (gCn (gN 6) gNl))) (gCn (gTp 2 (gCn (gN 7) (gCn (gN 8) gNl))) (gCn (gN 9) gNl)))) fYes (fBin (pII0 fun i j => .bl (decide (i < j))) (fBin pMod (fBin pSub (fBin pSub (fVar 9) (fBin pSub' (fVar 3) (fVar 5))) (fVar 7)) (fVar 2)) (fVar 8)) [9, 5, 6, 7, 8]) fNil)))
def v_passes : VS :=
    (vRet (vB1 gAll (vaC (vLc (viZip3 (vaC (vVar 0) (vaC (vVar 1) (vaC (vCall vf_arrivals (vaC (vVar 0) (vaC (vVar 4) vaN))) vaN)))) (tTp 3 (tCn (tTp 2 (tCn (tN 5) (tCn (tN 6) tNl))) (tCn (tTp 2 (tCn (tN 7) (tCn (tN 8) tNl))) (tCn (tN 9) tNl)))) vYes (vBin (gI2 fun i j => .bl (decide (i < j))) (vBin gMod (vBin gSub (vBin gSub (vVar 9) (vBin gIx (vVar 3) (vVar 5))) (vVar 7)) (vVar 2)) (vVar 8)) [9, 5, 6, 7, 8]) vaN)))
theorem vs_passes : SSt f_passes v_passes :=
    (ss_rt (SV.b (sv_b1 bv_all (sab_c (SV.b (SF.v (sf_lc (si_zip3V (sa_c sv_var (sa_c sv_var (sa_c (sv_call (sa_c sv_var (sa_c sv_var sa_n))) sa_n)))) (sg_tp (sg_cn (sg_tp (sg_cn sg_n (sg_cn sg_n sg_nl))) (sg_cn (sg_tp (sg_cn sg_n (sg_cn sg_n sg_nl))) (sg_cn sg_n sg_nl)))) so_yes (sv_bin ov_ib (SV.b (sv_bin ov_ic (SV.b (sv_bin ov_ii (SV.b (sv_bin ov_ii (SV.b sv_var) (SV.b (sv_bin ov_ix (SV.b sv_var) (SV.b sv_var))))) (SV.b sv_var))) (SV.b sv_var))) (SV.b sv_var))))) sab_n))))
@[simp] def vf_passes : VF := fun us Q => match us with
  | [x0, x1, x2, x3, x4] => v_passes (RTv Q) [some (.val x0), some (.val x1), some (.val x2), some (.val x3), some (.val x4), none, none, none, none, none]
  | _ => False
theorem vo_passes : ∀ us Q, vf_passes us Q → vFn 5 10 v_passes us Q := fun us Q h => by
  unfold vf_passes at h
  split at h
  · exact ⟨rfl, h⟩
  · exact h.elim
def f_offsets_of_line : FS :=
    (sSeq (sAsg (fBin pSub' (fBin pSub' (fVar 2) (fC (.int 0))) (fC (.int 0))) (gN 4))
    (sSeq (sAsg (fBin pMul (fLst (fCons (fC (.int 0)) fNil)) (fVar 0)) (gN 5))
    (sSeq (sFor (fEn1 (fCons (fCall (spOf vf_arrivals) (fCons (fVar 1) (fCons (fVar 4) fNil))) fNil)) (gTp 2 (gCn (gN 6) (gCn (gN 7) gNl))) (sAsg (fBin pMod (fBin pSub (fVar 7) (fBin pSub' (fBin pSub' (fVar 2) (fVar 6)) (fC (.int 0)))) (fVar 3)) (gSb (fVar 5) (fBin pSub' (fBin pSub' (fVar 1) (fVar 6)) (fC (.int 0))) pSet)))
    (sRet (fB1 bTuple (fCons (fVar 5) fNil))))))
def v_offsets_of_line : VS :=
    (vSeq (vAsg (vBin gIx (vBin gIx (vVar 2) (vC (.int 0))) (vC (.int 0))) (tN 4))
    (vSeq (vOwn 5 (vBin gRepL (vLst (vaC (vC (.int 0)) vaN)) (vVar 0)))
    (vSeq (vFgt [6, 7] (vFor (viEn1 (vaC (vCall vf_arrivals (vaC (vVar 1) (vaC (vVar 4) vaN))) vaN)) (tTp 2 (tCn (tN 6) (tCn (tN 7) tNl))) (vEnd [6, 7] (vSet 5 (vBin gIx (vBin gIx (vVar 1) (vVar 6)) (vC (.int 0))) (vBin gMod (vBin gSub (vVar 7) (vBin gIx (vBin gIx (vVar 2) (vVar 6)) (vC (.int 0)))) (vVar 3))))))
    (vRet (vB1 gTuple (vaC (vBor 5) vaN))))))
theorem vs_offsets_of_line : SSt f_offsets_of_line v_offsets_of_line :=
    (ss_seq (ss_as (sv_bin ov_ix (SV.b (sv_bin ov_ix (SV.b sv_var) (SV.b sv_int))) (SV.b sv_int)) sg_n)
    (ss_seq (ss_own (sf_bin of_rep (SV.b (SF.v (sf_lst (sa_c sv_int sa_n)))) (SV.b sv_var)))
    (ss_seq (ss_fgt (VL.ss_for (si_en1V (sa_c (sv_call (sa_c sv_var (sa_c sv_var sa_n))) sa_n)) (sg_tp (sg_cn sg_n (sg_cn sg_n sg_nl))) (ss_end (ss_setI (SV.b (sv_bin ov_ix (SV.b (sv_bin ov_ix (SV.b sv_var) (SV.b sv_var))) (SV.b sv_int))) (sv_bin ov_ic (SV.b (sv_bin ov_ii (SV.b sv_var) (SV.b (sv_bin ov_ix (SV.b (sv_bin ov_ix (SV.b sv_var) (SV.b sv_var))) (SV.b sv_int))))) (SV.b sv_var))))))
    (ss_rt (SV.b (sv_b1 bv_tuple (sab_c sb_bor sab_n)))))))
@[simp] def vf_offsets_of_line : VF := fun us Q => match us with
  | [x0, x1, x2, x3] => v_offsets_of_line (RTv Q) [some (.val x0), some (.val x1), some (.val x2), some (.val x3), none, none, none, none]
  | _ => False
theorem vo_offsets_of_line : ∀ us Q, vf_offsets_of_line us Q → vFn 4 8 v_offsets_of_line us Q := fun us Q h => by
  unfold vf_offsets_of_line at h
  split at h
  · exact ⟨rfl, h⟩
  · exact h.elim
def f_offsets_to_try : FS :=
    (sRet (fCall (spOf vf_all_offsets) (fCons (fVar 0) (fCons (fLc (fSeq (fSl (fVar 1) (fPart (fC (.int 1))) fNoPart)) (gTp 2 (gCn (gN 3) (gCn (gN 4) gNl))) fYes (fVar 3) [3, 4]) (fCons (fVar 2) fNil)))))
def v_offsets_to_try : VS :=
    (vRet (vCall vf_all_offsets (vaC (vVar 0) (vaC (vLc (viSeq (vSl (vVar 1) (voS (vC (.int 1))) voN)) (tTp 2 (tCn (tN 3) (tCn (tN 4) tNl))) vYes (vVar 3) [3, 4]) (vaC (vVar 2) vaN)))))
theorem vs_offsets_to_try : SSt f_offsets_to_try v_offsets_to_try :=
    (ss_rt (SV.b (sv_call (sa_c sv_var (sa_c (SF.v (sf_lc (si_seqV (sv_sl (SV.b sv_var) (so_s (SV.b sv_int)) so_n)) (sg_tp (sg_cn sg_n (sg_cn sg_n sg_nl))) so_yes sv_var)) (sa_c sv_var sa_n))))))
@[simp] def vf_offsets_to_try : VF := fun us Q => match us with
  | [x0, x1, x2] => v_offsets_to_try (RTv Q) [some (.val x0), some (.val x1), some (.val x2), none, none]
  | _ => False
theorem vo_offsets_to_try : ∀ us Q, vf_offsets_to_try us Q → vFn 3 5 v_offsets_to_try us Q := fun us Q h => by
  unfold vf_offsets_to_try at h
  split at h
  · exact ⟨rfl, h⟩
  · exact h.elim
def f__law_band : FS :=
    (sSeq (sAsg (fLst fNil) (gN 4))
    (sSeq (sFor (fRng1 (fCons (fVar 2) fNil)) (gN 5) (sSeq (sAsg (fC (.bl true)) (gN 6))
    (sSeq (sFor (fZip3 (fCons (fVar 0) (fCons (fVar 1) (fCons (fCall (spOf vf__law_line_ticks) (fCons (fVar 0) (fCons (fVar 5) fNil))) fNil)))) (gTp 3 (gCn (gN 7) (gCn (gN 8) (gCn (gN 9) gNl)))) (sAsg (fAndV (fVar 6) (fBin (pII0 fun i j => .bl (decide (i < j))) (fCall (spOf vf__law_rest) (fCons (fBin pSub (fBin pSub (fVar 9) (fBin pSub' (fVar 3) (fBin pSub' (fVar 7) (fC (.int 0))))) (fBin pSub' (fVar 8) (fC (.int 0)))) (fCons (fVar 2) fNil))) (fBin pSub' (fVar 8) (fC (.int 1))))) (gN 6)))
    (sAsg (fBin pAdd (fVar 4) (fBin pMul (fLst (fCons (fVar 5) fNil)) (fB1 bInt (fCons (fVar 6) fNil)))) (gN 4)))))
    (sRet (fB1 bTuple (fCons (fVar 4) fNil)))))
def v__law_band : VS :=
    (vSeq (vAsg (vLst vaN) (tN 4))
    (vSeq (vFgt [5, 6, 7, 8, 9] (vFor (viRng1 (vaC (vVar 2) vaN)) (tN 5) (vEnd [5, 6, 7, 8, 9] (vSeq (vAsg (vC (.bl true)) (tN 6))
    (vSeq (vFgt [7, 8, 9] (vFor (viZip3 (vaC (vVar 0) (vaC (vVar 1) (vaC (vCall vf__law_line_ticks (vaC (vVar 0) (vaC (vVar 5) vaN))) vaN)))) (tTp 3 (tCn (tN 7) (tCn (tN 8) (tCn (tN 9) tNl)))) (vEnd [7, 8, 9] (vAsg (vAndV (vVar 6) (vBin (gI2 fun i j => .bl (decide (i < j))) (vCall vf__law_rest (vaC (vBin gSub (vBin gSub (vVar 9) (vBin gIx (vVar 3) (vBin gIx (vVar 7) (vC (.int 0))))) (vBin gIx (vVar 8) (vC (.int 0)))) (vaC (vVar 2) vaN))) (vBin gIx (vVar 8) (vC (.int 1))))) (tN 6)))))
    (vAsg (vBin gAdd (vVar 4) (vBin gMul (vLst (vaC (vVar 5) vaN)) (vB1 gInt (vaC (vVar 6) vaN)))) (tN 4)))))))
    (vRet (vB1 gTuple (vaC (vVar 4) vaN)))))
theorem vs__law_band : SSt f__law_band v__law_band :=
    (ss_seq (ss_as (SF.v (sf_lst sa_n)) sg_n)
    (ss_seq (ss_fgt (VL.ss_for (si_rng1V (sab_c (SV.b sv_var) sab_n)) sg_n (ss_end (ss_seq (ss_as sv_bl sg_n)
    (ss_seq (ss_fgt (VL.ss_for (si_zip3V (sa_c sv_var (sa_c sv_var (sa_c (sv_call (sa_c sv_var (sa_c sv_var sa_n))) sa_n)))) (sg_tp (sg_cn sg_n (sg_cn sg_n (sg_cn sg_n sg_nl)))) (ss_end (ss_as (sv_and (SV.b sv_var) (sv_bin ov_ib (SV.b (sv_call (sa_c (sv_bin ov_ii (SV.b (sv_bin ov_ii (SV.b sv_var) (SV.b (sv_bin ov_ix (SV.b sv_var) (SV.b (sv_bin ov_ix (SV.b sv_var) (SV.b sv_int))))))) (SV.b (sv_bin ov_ix (SV.b sv_var) (SV.b sv_int)))) (sa_c sv_var sa_n)))) (SV.b (sv_bin ov_ix (SV.b sv_var) (SV.b sv_int))))) sg_n))))
    (ss_as (sv_bin ov_add (SV.b sv_var) (SV.b (sv_bin ov_mul (SV.b (SF.v (sf_lst (sa_c sv_var sa_n)))) (SV.b (sv_b1 bv_int (sab_c (SV.b sv_var) sab_n)))))) sg_n))))))
    (ss_rt (SV.b (sv_b1 bv_tuple (sab_c (SV.b sv_var) sab_n))))))
@[simp] def vf__law_band : VF := fun us Q => match us with
  | [x0, x1, x2, x3] => v__law_band (RTv Q) [some (.val x0), some (.val x1), some (.val x2), some (.val x3), none, none, none, none, none, none]
  | _ => False
theorem vo__law_band : ∀ us Q, vf__law_band us Q → vFn 4 10 v__law_band us Q := fun us Q h => by
  unfold vf__law_band at h
  split at h
  · exact ⟨rfl, h⟩
  · exact h.elim
def f__law_draw_greens : FS :=
    (sRet (fB1 bTuple (fCons (fLc (fRng1 (fCons (fVar 1) fNil)) (gN 3) fYes (fTup (fCons (fBin pSub (fCall (spOf vfPick) (fCons (fVar 0) (fCons (fBin pMul (fC (.int 4)) (fVar 2)) fNil))) (fBin pMul (fC (.int 2)) (fVar 2))) (fCons (fCall (spOf vfPick) (fCons (fVar 0) (fCons (fBin pAdd (fVar 2) (fC (.int 1))) fNil))) fNil))) [3]) fNil)))
def v__law_draw_greens : VS :=
    (vRet (vB1 gTuple (vaC (vLc (viRng1 (vaC (vVar 1) vaN)) (tN 3) vYes (vTup (vaC (vBin gSub (vCall vfPick (vaC (vVar 0) (vaC (vBin gMul (vC (.int 4)) (vVar 2)) vaN))) (vBin gMul (vC (.int 2)) (vVar 2))) (vaC (vCall vfPick (vaC (vVar 0) (vaC (vBin gAdd (vVar 2) (vC (.int 1))) vaN))) vaN))) [3]) vaN)))
theorem vs__law_draw_greens : SSt f__law_draw_greens v__law_draw_greens :=
    (ss_rt (SV.b (sv_b1 bv_tuple (sab_c (SV.b (SF.v (sf_lc (si_rng1V (sab_c (SV.b sv_var) sab_n)) sg_n so_yes (sv_tup (sa_c (sv_bin ov_ii (SV.b (sv_call (sa_c sv_var (sa_c (sv_bin ov_mul (SV.b sv_int) (SV.b sv_var)) sa_n)))) (SV.b (sv_bin ov_mul (SV.b sv_int) (SV.b sv_var)))) (sa_c (sv_call (sa_c sv_var (sa_c (sv_bin ov_add (SV.b sv_var) (SV.b sv_int)) sa_n))) sa_n)))))) sab_n))))
@[simp] def vf__law_draw_greens : VF := fun us Q => match us with
  | [x0, x1, x2] => v__law_draw_greens (RTv Q) [some (.val x0), some (.val x1), some (.val x2), none]
  | _ => False
theorem vo__law_draw_greens : ∀ us Q, vf__law_draw_greens us Q → vFn 3 4 v__law_draw_greens us Q := fun us Q h => by
  unfold vf__law_draw_greens at h
  split at h
  · exact ⟨rfl, h⟩
  · exact h.elim
def f__law_line_offsets : FS :=
    (sSeq (sAsg (fLst fNil) (gN 3))
    (sSeq (sFor (fSeq (fCall (spOf vf__law_rows_below) (fCons (fBin pSub (fB1 bLen (fCons (fVar 1) fNil)) (fC (.int 1))) (fCons (fVar 2) fNil)))) (gN 4) (sSeq (sAsg (fBin pMul (fLst (fCons (fC (.int 0)) fNil)) (fVar 0)) (gN 5))
    (sSeq (sFor (fZip2 (fCons (fSl (fVar 1) (fPart (fC (.int 1))) fNoPart) (fCons (fVar 4) fNil))) (gTp 2 (gCn (gN 6) (gCn (gN 7) gNl))) (sAsg (fVar 7) (gSb (fVar 5) (fBin pSub' (fVar 6) (fC (.int 0))) pSet)))
    (sDrop (fM isL mAppend (fVar 3) (fCons (fB1 bTuple (fCons (fVar 5) fNil)) fNil))))))
    (sRet (fB1 bSortA (fCons (fVar 3) fNil)))))
def v__law_line_offsets : VS :=
    (vSeq (vOwn 3 (vLst vaN))
    (vSeq (vFgt [4, 5, 6, 7] (vFor (viSeq (vCall vf__law_rows_below (vaC (vBin gSub (vB1 gLen (vaC (vVar 1) vaN)) (vC (.int 1))) (vaC (vVar 2) vaN)))) (tN 4) (vEnd [4, 5, 6, 7] (vSeq (vOwn 5 (vBin gRepL (vLst (vaC (vC (.int 0)) vaN)) (vVar 0)))
    (vSeq (vFgt [6, 7] (vFor (viZip2 (vaC (vSl (vVar 1) (voS (vC (.int 1))) voN) (vaC (vVar 4) vaN))) (tTp 2 (tCn (tN 6) (tCn (tN 7) tNl))) (vEnd [6, 7] (vSet 5 (vBin gIx (vVar 6) (vC (.int 0))) (vVar 7)))))
    (vApp 3 (vB1 gTuple (vaC (vBor 5) vaN))))))))
    (vRet (vB1 gSort (vaC (vBor 3) vaN)))))
theorem vs__law_line_offsets : SSt f__law_line_offsets v__law_line_offsets :=
    (ss_seq (ss_own (sf_lst sa_n))
    (ss_seq (ss_fgt (VL.ss_for (si_seqV (sv_call (sa_c (sv_bin ov_ii (SV.b (sv_b1 bv_len (sab_c (SV.b sv_var) sab_n))) (SV.b sv_int)) (sa_c sv_var sa_n)))) sg_n (ss_end (ss_seq (ss_own (sf_bin of_rep (SV.b (SF.v (sf_lst (sa_c sv_int sa_n)))) (SV.b sv_var)))
    (ss_seq (ss_fgt (VL.ss_for (si_zip2V (sa_c (sv_sl (SV.b sv_var) (so_s (SV.b sv_int)) so_n) (sa_c sv_var sa_n))) (sg_tp (sg_cn sg_n (sg_cn sg_n sg_nl))) (ss_end (ss_setI (SV.b (sv_bin ov_ix (SV.b sv_var) (SV.b sv_int))) sv_var))))
    (ss_app (sv_b1 bv_tuple (sab_c sb_bor sab_n))))))))
    (ss_rt (SV.b (SF.v (sf_b1 bf_sort (sab_c sb_bor sab_n)))))))
@[simp] def vf__law_line_offsets : VF := fun us Q => match us with
  | [x0, x1, x2] => v__law_line_offsets (RTv Q) [some (.val x0), some (.val x1), some (.val x2), none, none, none, none, none]
  | _ => False
theorem vo__law_line_offsets : ∀ us Q, vf__law_line_offsets us Q → vFn 3 8 v__law_line_offsets us Q := fun us Q h => by
  unfold vf__law_line_offsets at h
  split at h
  · exact ⟨rfl, h⟩
  · exact h.elim
def f_band : FS :=
    (sRet (fB1 bTuple (fCons (fLc (fRng1 (fCons (fVar 2) fNil)) (gN 4) (fB (fCall (spOf vf_passes) (fCons (fVar 0) (fCons (fVar 1) (fCons (fVar 2) (fCons (fVar 3) (fCons (fVar 4) fNil))))))) (fVar 4) [4]) fNil)))
def v_band : VS :=
    (vRet (vB1 gTuple (vaC (vLc (viRng1 (vaC (vVar 2) vaN)) (tN 4) (vB (vCall vf_passes (vaC (vVar 0) (vaC (vVar 1) (vaC (vVar 2) (vaC (vVar 3) (vaC (vVar 4) vaN))))))) (vVar 4) [4]) vaN)))
theorem vs_band : SSt f_band v_band :=
    (ss_rt (SV.b (sv_b1 bv_tuple (sab_c (SV.b (SF.v (sf_lc (si_rng1V (sab_c (SV.b sv_var) sab_n)) sg_n (so_b (SV.b (sv_call (sa_c sv_var (sa_c sv_var (sa_c sv_var (sa_c sv_var (sa_c sv_var sa_n)))))))) sv_var))) sab_n))))
@[simp] def vf_band : VF := fun us Q => match us with
  | [x0, x1, x2, x3] => v_band (RTv Q) [some (.val x0), some (.val x1), some (.val x2), some (.val x3), none]
  | _ => False
theorem vo_band : ∀ us Q, vf_band us Q → vFn 4 5 v_band us Q := fun us Q h => by
  unfold vf_band at h
  split at h
  · exact ⟨rfl, h⟩
  · exact h.elim
def f__law_draw_line : FS :=
    (sSeq (sAsg (fSl (fCall (spOf vfOrder) (fCons (fVar 0) (fCons (fLstR1 (fVar 1)) fNil))) fNoPart (fPart (fBin pAdd (fC (.int 1)) (fCall (spOf vfPick) (fCons (fVar 0) (fCons (fVar 1) fNil)))))) (gN 2))
    (sRet (fB1 bTuple (fCons (fLc (fEn1 (fCons (fVar 2) fNil)) (gTp 2 (gCn (gN 3) (gCn (gN 4) gNl))) fYes (fTup (fCons (fVar 4) (fCons (fIf (fB (fBin pEq (fVar 3) (fC (.int 0)))) (fC (.int 0)) (fCall (spOf vfPick) (fCons (fVar 0) (fCons (fC (.int 30)) fNil)))) fNil))) [3, 4]) fNil))))
def v__law_draw_line : VS :=
    (vSeq (vAsg (vSl (vCall vfOrder (vaC (vVar 0) (vaC (vLstR1 (vVar 1)) vaN))) voN (voS (vBin gAdd (vC (.int 1)) (vCall vfPick (vaC (vVar 0) (vaC (vVar 1) vaN)))))) (tN 2))
    (vRet (vB1 gTuple (vaC (vLc (viEn1 (vaC (vVar 2) vaN)) (tTp 2 (tCn (tN 3) (tCn (tN 4) tNl))) vYes (vTup (vaC (vVar 4) (vaC (vIf (vB (vBin (gEq false) (vVar 3) (vC (.int 0)))) (vC (.int 0)) (vCall vfPick (vaC (vVar 0) (vaC (vC (.int 30)) vaN)))) vaN))) [3, 4]) vaN))))
theorem vs__law_draw_line : SSt f__law_draw_line v__law_draw_line :=
    (ss_seq (ss_as (sv_sl (SV.b (sv_call (sa_c sv_var (sa_c (SF.v (sf_lstR1 (SV.b sv_var))) sa_n)))) so_n (so_s (SV.b (sv_bin ov_add (SV.b sv_int) (SV.b (sv_call (sa_c sv_var (sa_c sv_var sa_n)))))))) sg_n)
    (ss_rt (SV.b (sv_b1 bv_tuple (sab_c (SV.b (SF.v (sf_lc (si_en1V (sa_c sv_var sa_n)) (sg_tp (sg_cn sg_n (sg_cn sg_n sg_nl))) so_yes (sv_tup (sa_c sv_var (sa_c (sv_if (so_b (SV.b (sv_bin ov_eq (SV.b sv_var) (SV.b sv_int)))) sv_int (sv_call (sa_c sv_var (sa_c sv_int sa_n)))) sa_n)))))) sab_n)))))
@[simp] def vf__law_draw_line : VF := fun us Q => match us with
  | [x0, x1] => v__law_draw_line (RTv Q) [some (.val x0), some (.val x1), none, none, none]
  | _ => False
theorem vo__law_draw_line : ∀ us Q, vf__law_draw_line us Q → vFn 2 5 v__law_draw_line us Q := fun us Q h => by
  unfold vf__law_draw_line at h
  split at h
  · exact ⟨rfl, h⟩
  · exact h.elim
def f_both_bands : FS :=
    (sRet (fTup (fCons (fB1 bLen (fCons (fCall (spOf vf_band) (fCons (fVar 0) (fCons (fVar 1) (fCons (fVar 3) (fCons (fVar 4) fNil))))) fNil)) (fCons (fB1 bLen (fCons (fCall (spOf vf_band) (fCons (fCall (spOf vf_back_line) (fCons (fVar 0) fNil)) (fCons (fVar 2) (fCons (fVar 3) (fCons (fVar 4) fNil))))) fNil)) fNil))))
def v_both_bands : VS :=
    (vRet (vTup (vaC (vB1 gLen (vaC (vCall vf_band (vaC (vVar 0) (vaC (vVar 1) (vaC (vVar 3) (vaC (vVar 4) vaN))))) vaN)) (vaC (vB1 gLen (vaC (vCall vf_band (vaC (vCall vf_back_line (vaC (vVar 0) vaN)) (vaC (vVar 2) (vaC (vVar 3) (vaC (vVar 4) vaN))))) vaN)) vaN))))
theorem vs_both_bands : SSt f_both_bands v_both_bands :=
    (ss_rt (SV.b (sv_tup (sa_c (sv_b1 bv_len (sab_c (SV.b (sv_call (sa_c sv_var (sa_c sv_var (sa_c sv_var (sa_c sv_var sa_n)))))) sab_n)) (sa_c (sv_b1 bv_len (sab_c (SV.b (sv_call (sa_c (sv_call (sa_c sv_var sa_n)) (sa_c sv_var (sa_c sv_var (sa_c sv_var sa_n)))))) sab_n)) sa_n)))))
@[simp] def vf_both_bands : VF := fun us Q => match us with
  | [x0, x1, x2, x3, x4] => v_both_bands (RTv Q) [some (.val x0), some (.val x1), some (.val x2), some (.val x3), some (.val x4)]
  | _ => False
theorem vo_both_bands : ∀ us Q, vf_both_bands us Q → vFn 5 5 v_both_bands us Q := fun us Q h => by
  unfold vf_both_bands at h
  split at h
  · exact ⟨rfl, h⟩
  · exact h.elim
def f_best_both : FS :=
    (sSeq (sAsg (fC .non) (gN 5))
    (sSeq (sFor (fSeq (fCall (spOf vf_offsets_to_try) (fCons (fVar 0) (fCons (fVar 1) (fCons (fVar 4) fNil))))) (gN 6) (sSeq (sAsg (fB1 bSumA (fCons (fCall (spOf vf_both_bands) (fCons (fVar 1) (fCons (fVar 2) (fCons (fVar 3) (fCons (fVar 4) (fCons (fVar 6) fNil)))))) fNil)) (gN 7))
    (sIf (fOrT (fB (fBin pIsN (fVar 5) (fC .non))) (fB (fBin (pII0 fun i j => .bl (decide (j < i))) (fVar 7) (fBin pSub' (fVar 5) (fC (.int 0)))))) (sAsg (fTup (fCons (fVar 7) (fCons (fVar 6) fNil))) (gN 5)) (fun D δ W => D.nx δ W))))
    (sRet (fVar 5))))
def v_best_both : VS :=
    (vSeq (vAsg (vC .non) (tN 5))
    (vSeq (vFgt [6, 7] (vFor (viSeq (vCall vf_offsets_to_try (vaC (vVar 0) (vaC (vVar 1) (vaC (vVar 4) vaN))))) (tN 6) (vEnd [6, 7] (vSeq (vAsg (vB1 gSumA (vaC (vCall vf_both_bands (vaC (vVar 1) (vaC (vVar 2) (vaC (vVar 3) (vaC (vVar 4) (vaC (vVar 6) vaN)))))) vaN)) (tN 7))
    (vIfS (vOrT (vB (vBin (gIsN false) (vVar 5) (vC .non))) (vB (vBin (gI2 fun i j => .bl (decide (j < i))) (vVar 7) (vBin gIx (vVar 5) (vC (.int 0)))))) (vAsg (vTup (vaC (vVar 7) (vaC (vVar 6) vaN))) (tN 5)) vNx)))))
    (vRet (vVar 5))))
theorem vs_best_both : SSt f_best_both v_best_both :=
    (ss_seq (ss_as sv_non sg_n)
    (ss_seq (ss_fgt (VL.ss_for (si_seqV (sv_call (sa_c sv_var (sa_c sv_var (sa_c sv_var sa_n))))) sg_n (ss_end (ss_seq (ss_as (sv_b1 bv_sumA (sab_c (SV.b (sv_call (sa_c sv_var (sa_c sv_var (sa_c sv_var (sa_c sv_var (sa_c sv_var sa_n))))))) sab_n)) sg_n)
    (VL.ss_if (so_or (so_b (SV.b (sv_bin ov_isN (SV.b sv_var) (SV.b sv_non)))) (so_b (SV.b (sv_bin ov_ib (SV.b sv_var) (SV.b (sv_bin ov_ix (SV.b sv_var) (SV.b sv_int))))))) (ss_as (sv_tup (sa_c sv_var (sa_c sv_var sa_n))) sg_n) ss_nx)))))
    (ss_rt (SV.b sv_var))))
@[simp] def vf_best_both : VF := fun us Q => match us with
  | [x0, x1, x2, x3, x4] => v_best_both (RTv Q) [some (.val x0), some (.val x1), some (.val x2), some (.val x3), some (.val x4), none, none, none]
  | _ => False
theorem vo_best_both : ∀ us Q, vf_best_both us Q → vFn 5 8 v_best_both us Q := fun us Q h => by
  unfold vf_best_both at h
  split at h
  · exact ⟨rfl, h⟩
  · exact h.elim
def f_full_both : FS :=
    (sSeq (sAsg (fBin pAdd (fB1 bMaxA (fCons (fLc (fSeq (fVar 0)) (gTp 2 (gCn (gN 5) (gCn (gN 6) gNl))) fYes (fVar 5) [5, 6]) fNil)) (fC (.int 1))) (gN 4))
    (sSeq (sAsg (fTup (fCons (fCall (spOf vf_band_bound) (fCons (fVar 1) fNil)) (fCons (fCall (spOf vf_band_bound) (fCons (fVar 2) fNil)) fNil))) (gN 7))
    (sSeq (sFor (fSeq (fCall (spOf vf_offsets_to_try) (fCons (fVar 4) (fCons (fVar 0) (fCons (fVar 3) fNil))))) (gN 8) (sIf (fB (fBin pEq (fCall (spOf vf_both_bands) (fCons (fVar 0) (fCons (fVar 1) (fCons (fVar 2) (fCons (fVar 3) (fCons (fVar 8) fNil)))))) (fVar 7))) (sRet (fC (.bl true))) (fun D δ W => D.nx δ W)))
    (sRet (fC (.bl false))))))
def v_full_both : VS :=
    (vSeq (vAsg (vBin gAdd (vB1 gMaxA (vaC (vLc (viSeq (vVar 0)) (tTp 2 (tCn (tN 5) (tCn (tN 6) tNl))) vYes (vVar 5) [5, 6]) vaN)) (vC (.int 1))) (tN 4))
    (vSeq (vAsg (vTup (vaC (vCall vf_band_bound (vaC (vVar 1) vaN)) (vaC (vCall vf_band_bound (vaC (vVar 2) vaN)) vaN))) (tN 7))
    (vSeq (vFgt [8] (vFor (viSeq (vCall vf_offsets_to_try (vaC (vVar 4) (vaC (vVar 0) (vaC (vVar 3) vaN))))) (tN 8) (vEnd [8] (vIfS (vB (vBin (gEq false) (vCall vf_both_bands (vaC (vVar 0) (vaC (vVar 1) (vaC (vVar 2) (vaC (vVar 3) (vaC (vVar 8) vaN)))))) (vVar 7))) (vRet (vC (.bl true))) vNx))))
    (vRet (vC (.bl false))))))
theorem vs_full_both : SSt f_full_both v_full_both :=
    (ss_seq (ss_as (sv_bin ov_add (SV.b (sv_b1 bv_maxA (sab_c (SV.b (SF.v (sf_lc (si_seqV sv_var) (sg_tp (sg_cn sg_n (sg_cn sg_n sg_nl))) so_yes sv_var))) sab_n))) (SV.b sv_int)) sg_n)
    (ss_seq (ss_as (sv_tup (sa_c (sv_call (sa_c sv_var sa_n)) (sa_c (sv_call (sa_c sv_var sa_n)) sa_n))) sg_n)
    (ss_seq (ss_fgt (VL.ss_for (si_seqV (sv_call (sa_c sv_var (sa_c sv_var (sa_c sv_var sa_n))))) sg_n (ss_end (VL.ss_if (so_b (SV.b (sv_bin ov_eq (SV.b (sv_call (sa_c sv_var (sa_c sv_var (sa_c sv_var (sa_c sv_var (sa_c sv_var sa_n))))))) (SV.b sv_var)))) (ss_rt (SV.b sv_bl)) ss_nx))))
    (ss_rt (SV.b sv_bl)))))
@[simp] def vf_full_both : VF := fun us Q => match us with
  | [x0, x1, x2, x3] => v_full_both (RTv Q) [some (.val x0), some (.val x1), some (.val x2), some (.val x3), none, none, none, none, none]
  | _ => False
theorem vo_full_both : ∀ us Q, vf_full_both us Q → vFn 4 9 v_full_both us Q := fun us Q h => by
  unfold vf_full_both at h
  split at h
  · exact ⟨rfl, h⟩
  · exact h.elim
end VL
/-! Wb: lines, ticks, bands. -/
namespace KB
open PySem PySem.Spec PyProof.Rows L2 DL VL A30
theorem zipU_map {α β : Type} {f : α → U} {g : β → U} : ∀ (as : List α) (bs : List β), zipU (as.map f) (bs.map g) = (as.zip bs).map fun p => .tup [f p.1, g p.2]
  | a :: as, b :: bs => by have := zipU_map (f := f) (g := g) as bs; unfold zipU at this; simp [zipU, this]
  | [], _ => by simp [zipU]
  | _ :: _, [] => by simp [zipU]
theorem zip3U_map {α β γ : Type} {f : α → U} {g : β → U} {h : γ → U} : ∀ (as : List α) (bs : List β) (cs : List γ), zip3U (as.map f) (bs.map g) (cs.map h) = (as.zip (bs.zip cs)).map fun p => .tup [f p.1, g p.2.1, h p.2.2]
  | a :: as, b :: bs, c :: cs => by have := zip3U_map (f := f) (g := g) (h := h) as bs cs; simp [zip3U, this]
  | [], _, _ => by simp [zip3U]
  | _ :: _, [], _ => by simp [zip3U]
  | _ :: _, _ :: _, [] => by simp [zip3U]
def gz (l : List Int) (i : Int) : Int := l.getD i.toNat 0
theorem gz_some {l : List Int} {i : Int} (h0 : 0 ≤ i) (h1 : i < l.length) : l[i.toNat]? = some (gz l i) := by
  rw [gz, List.getD_eq_getElem?_getD, List.getElem?_eq_getElem (by omega)]
  rfl
@[simp] theorem at2_0 {a b : U} : atU [a, b] 0 = some a := rfl
@[simp] theorem at2_1 {a b : U} : atU [a, b] 1 = some b := rfl
@[simp] theorem at1_0 {a : U} {l : List U} : atU (a :: l) 0 = some a := by
  unfold atU ixN
  simp
theorem at_z {l : List Int} {i : Int} (h0 : 0 ≤ i) (h1 : i < l.length) : atU (l.map U.int) i = some (.int (gz l i)) := by
  obtain ⟨y, e, _, e2⟩ := at_map (enc := U.int) h0 h1
  rw [gz_some h0 h1] at e
  rw [e2, ← Option.some.inj e]
abbrev Pr := Int × Int
def prU (p : Pr) : U := .tup [.int p.1, .int p.2]
def prsU (l : List Pr) : U := .tup (l.map prU)
def tks : List Pr → Int → List Int
  | [], _ => []
  | p :: l, s => (s + p.2) :: tks l (s + p.2)
def lastT (l : List Pr) (s : Int) : Int := s + (l.map (·.2)).sum
theorem tks_snoc : ∀ (l : List Pr) (p : Pr) (s : Int), tks (l ++ [p]) s = tks l s ++ [lastT l s + p.2]
  | [], p, s => by simp [tks, lastT]
  | a :: l, p, s => by
    have := tks_snoc l p (s + a.2)
    simp only [List.cons_append, tks, this, lastT, List.map_cons, List.sum_cons]
    congr 3
    omega
theorem lastT_snoc (l : List Pr) (p : Pr) (s : Int) : lastT (l ++ [p]) s = lastT l s + p.2 := by
  simp [lastT]; omega
theorem tks_len : ∀ (l : List Pr) (s : Int), (tks l s).length = l.length
  | [], s => rfl
  | a :: l, s => by simp [tks, tks_len l]
theorem m_arrivals {l : List Pr} {s : Int} {Q : U → Prop} (hl : l.length ≤ 1000) (q : Q (tupU (tks l s))) : vf_arrivals [prsU l, .int s] Q := by
  simp [v_arrivals]
  refine vFor_inv (enc := prU) (xs := l) (fun done e => e = [some (.val (prsU l)), some (.val (.int s)), some (.val (.int (lastT done s))), some (.own (lstU (tks done s))), none, none]) (fun K hK => by simp [prsU]; exact hK) ?_ ?_ ?_
  · simp [lastT, tks]
  · rintro done x rest e N eq rfl hN
    have hd : done.length ≤ 1000 := by
      have := congrArg List.length eq
      simp at this; omega
    simp [prU, tks_len]
    refine ⟨by omega, ?_⟩
    refine hN _ ?_
    simp [tks_snoc, lastT_snoc]
  · rintro e rfl
    simpa using q
theorem m_law_ticks {l : List Pr} {s : Int} {Q : U → Prop} (hl : l.length ≤ 1000) (q : Q (lstU (tks l s))) : vf__law_line_ticks [prsU l, .int s] Q := by
  simp [v__law_line_ticks]
  refine vFor_inv (enc := prU) (xs := l) (fun done e => e = [some (.val (prsU l)), some (.val (.int s)), some (.own (lstU (tks done s))), some (.val (.int (lastT done s))), none, none]) (fun K hK => by simp [prsU]; exact hK) ?_ ?_ ?_
  · simp [lastT, tks]
  · rintro done x rest e N eq rfl hN
    have hd : done.length ≤ 1000 := by
      have := congrArg List.length eq
      simp at this; omega
    simp [prU, tks_len]
    refine ⟨by omega, ?_⟩
    refine hN _ ?_
    simp [tks_snoc, lastT_snoc]
  · rintro e rfl
    simpa using q
abbrev Tr := Pr × Pr × Int
def onB (L : Int) (offs : List Int) (x : Tr) : Bool := decide ((x.2.2 - gz offs x.1.1 - x.2.1.1) % L < x.2.1.2)
def trs (l g : List Pr) (s : Int) : List Tr := l.zip (g.zip (tks l s))
def passB (l g : List Pr) (L : Int) (offs : List Int) (s : Int) : Bool := (trs l g s).all (onB L offs)
def trU (x : Tr) : U := .tup [prU x.1, prU x.2.1, .int x.2.2]
theorem trs_zip {l g : List Pr} {s : Int} : zip3U (l.map prU) (g.map prU) ((tks l s).map U.int) = (trs l g s).map trU := zip3U_map _ _ _
def In (m : Nat) (l : List Pr) : Prop := ∀ p ∈ l, 0 ≤ p.1 ∧ p.1 < (m : Int)
theorem trs_mem {l g : List Pr} {s : Int} {x : Tr} (h : x ∈ trs l g s) : x.1 ∈ l := (List.of_mem_zip h).1
theorem trs_le {l g : List Pr} {s : Int} : (trs l g s).length ≤ l.length := by simp [trs]; omega
theorem m_passes {m : Nat} {l g : List Pr} {L s : Int} {offs : List Int} {Q : U → Prop} (hl : l.length ≤ 1000) (hm : offs.length = m) (hi : In m l) (hL : 0 < L) (q : Q (.bl (passB l g L offs s))) : vf_passes [prsU l, prsU g, .int L, tupU offs, .int s] Q := by
  simp [v_passes, -vf_arrivals]
  refine vLc_map (enc := trU) (g := fun x => .bl (onB L offs x)) (trs l g s) (fun K hK => ?_) (fun x hx N hN => ?_) ?_ ?_
  · simp [prsU, -vf_arrivals]
    refine m_arrivals hl ?_
    simp [trs_zip]
    exact hK
  · obtain ⟨h0, h1⟩ := hi _ (trs_mem hx)
    simp [trU, prU]
    rw [at_z h0 (by omega)]
    simp [hL]
    exact hN
  · have := trs_le (l := l) (g := g) (s := s); omega
  · simp
    refine ⟨(trs l g s).map (onB L offs), by rw [← blsU_map, List.map_map]; rfl, ?_⟩
    simpa [passB, List.all_map] using q
def bandN (l g : List Pr) (L : Nat) (offs : List Int) : List Nat := (List.range L).filter fun s => passB l g L offs (s : Nat)
def bandU (l g : List Pr) (L : Nat) (offs : List Int) : U := .tup ((bandN l g L offs).map nU)
theorem m_band {m L : Nat} {l g : List Pr} {offs : List Int} {Q : U → Prop} (hl : l.length ≤ 1000) (hm : offs.length = m) (hi : In m l) (hL : 0 < L ∧ L ≤ 1000) (q : Q (bandU l g L offs)) : vf_band [prsU l, prsU g, .int (L : Nat), tupU offs] Q := by
  simp [VL.v_band, -vf_passes]
  refine vLc_filter (enc := nU) (g := nU) (p := fun s => passB l g L offs (s : Nat)) (List.range L) (fun K hK => ?_) (fun x hx N hN => ?_) (by simp; omega) ?_
  · simp [rng0]
    exact ⟨by omega, hK⟩
  · simp [-vf_passes, nU]
    refine m_passes hl hm hi (by omega) ?_
    cases h : passB l g L offs (x : Nat) <;> simpa [h, nU] using hN
  · simp
    exact q
theorem m_law_rest {n L : Int} {Q : U → Prop} (hL : 0 < L) (q : Q (.int (n % L))) : vf__law_rest [.int n, .int L] Q := by
  simp [v__law_rest]
  exact ⟨hL, q⟩
theorem m_law_band {m L : Nat} {l g : List Pr} {offs : List Int} {Q : U → Prop} (hl : l.length ≤ 1000) (hm : offs.length = m) (hi : In m l) (hL : 0 < L ∧ L ≤ 1000) (q : Q (bandU l g L offs)) : vf__law_band [prsU l, prsU g, .int (L : Nat), tupU offs] Q := by
  simp [v__law_band, -vf__law_rest, -vf__law_line_ticks]
  refine vFor_inv (enc := nU) (xs := List.range L) (fun done e => e = [some (.val (prsU l)), some (.val (prsU g)), some (.val (.int (L : Nat))), some (.val (tupU offs)), some (.val (.lst ((done.filter fun s => passB l g L offs (s : Nat)).map nU))), none, none, none, none, none]) (fun K hK => ?_) (by simp) ?_ ?_
  · simp [rng0]
    exact ⟨by omega, hK⟩
  · rintro done x rest e N eq rfl hN
    have hd : done.length ≤ 1000 := by
      have := congrArg List.length eq
      simp at this; omega
    simp [-vf__law_rest, -vf__law_line_ticks]
    refine vFor_inv (enc := trU) (xs := trs l g (x : Nat)) (fun dn e => e = [some (.val (prsU l)), some (.val (prsU g)), some (.val (.int (L : Nat))), some (.val (tupU offs)), some (.val (.lst ((done.filter fun s => passB l g L offs (s : Nat)).map nU))), some (.val (nU x)), some (.val (.bl (dn.all (onB L offs)))), none, none, none]) (fun K hK => ?_) (by simp) ?_ ?_
    · simp [nU, prsU, -vf__law_line_ticks]
      refine m_law_ticks hl ?_
      simp [trs_zip]
      exact hK
    · rintro dn y rst e M eq2 rfl hM
      obtain ⟨h0, h1⟩ := hi y.1 (trs_mem (l := l) (g := g) (s := (x : Nat)) (by rw [eq2]; simp))
      simp [trU, prU, -vf__law_rest]
      rcases Bool.eq_false_or_eq_true (dn.all (onB L offs)) with hb | hb
      · simp [hb, -vf__law_rest]
        rw [at_z h0 (by omega)]
        simp [-vf__law_rest]
        refine m_law_rest (by omega) ?_
        refine hM _ ?_
        simp [hb, onB]
      · simp [hb]
        refine hM _ ?_
        simp [hb]
    · rintro e rfl
      rw [show (trs l g (x : Nat)).all (onB L offs) = passB l g L offs (x : Nat) from rfl]
      have hfl := List.length_filter_le (fun s => passB l g L offs (s : Nat)) done
      cases hp : passB l g L offs (x : Nat)
      · simp
        refine ⟨by omega, hN _ ?_⟩
        simp [List.filter_append, hp]
      · simp
        refine ⟨by omega, hN _ ?_⟩
        simp [List.filter_append, hp]
  · rintro e rfl
    simp
    exact q
end KB
/-! Wb2: offsets, back lines, rows below. -/
namespace KB
open PySem PySem.Spec PyProof.Rows L2 DL VL A30
section
variable {α β : Type} {enc : α → U} {en1 : α → β → U} {tg tg1 : VG} {te : VE} {Q : U → Prop} {gi gi1 : VI} {vs vs1 : List Nat}
theorem vlcI_map {e : VEnv} {N : List U → Prop} {enb : β → U} {g : β → U} : ∀ (ys : List β) (acc : List U), (∀ y ∈ ys, ∀ M : U → Prop, M (g y) → tg (enb y) e fun e2 => te e2 M) → acc.length + ys.length ≤ 1000000 → N (acc ++ ys.map g) → vlcI tg vYes te e N (ys.map enb) acc
  | [], acc, _, _, q => by simpa [vlcI] using q
  | y :: ys, acc, h, hl, q => by
    simp only [List.length_cons] at hl
    have := h y (by simp) (fun z => acc.length < 1000000 ∧ vlcI tg vYes te e N (ys.map enb) (acc ++ [z])) ⟨by omega, vlcI_map ys _ (fun z hz => h z (by simp [hz])) (by simp; omega) (by simpa using q)⟩
    simpa [vlcI, vYes] using this
theorem vlcO_map {e : VEnv} {ys : α → List β} {g : α → β → U} : ∀ (xs : List α) (acc : List U),
    (∀ x ∈ xs, ∀ (N : List U → Prop) (ac : List U), ac.length + (ys x).length ≤ 1000000 → N (ac ++ (ys x).map (g x)) → tg (enc x) e fun e2 => gi1 e2 fun us => vlcI tg1 vYes te (wipeV e2 vs1) N us ac) →
    acc.length + (xs.flatMap ys).length ≤ 1000000 → Q (.lst (acc ++ xs.flatMap fun x => (ys x).map (g x))) → vlcO tg vYes gi1 tg1 vYes te vs1 e Q (xs.map enc) acc
  | [], acc, _, _, q => by simpa [vlcO] using q
  | x :: xs, acc, h, hl, q => by
    simp only [List.flatMap_cons, List.length_append] at hl
    have hl2 : (acc ++ (ys x).map (g x)).length + (xs.flatMap ys).length ≤ 1000000 := by simp only [List.length_append, List.length_map]; omega
    have := h x (by simp) (vlcO tg vYes gi1 tg1 vYes te vs1 e Q (xs.map enc)) acc (by omega) (vlcO_map xs _ (fun z hz => h z (by simp [hz])) hl2 (by simpa using q))
    simpa [vlcO, vYes] using this
theorem vLc2_map {e : VEnv} {ys : α → List β} {g : α → β → U} (xs : List α) (hi : ∀ K : List U → Prop, K (xs.map enc) → gi e K)
    (h : ∀ x ∈ xs, ∀ (N : List U → Prop) (ac : List U), ac.length + (ys x).length ≤ 1000000 → N (ac ++ (ys x).map (g x)) → tg (enc x) (wipeV e vs) fun e2 => gi1 e2 fun us => vlcI tg1 vYes te (wipeV e2 vs1) N us ac)
    (hl : (xs.flatMap ys).length ≤ 1000000) (q : Q (.lst (xs.flatMap fun x => (ys x).map (g x)))) : vLc2 gi tg vYes gi1 tg1 vYes te vs vs1 e Q :=
  hi _ (vlcO_map xs [] h (by simpa using hl) (by simpa using q))
end
/-- all rows with the k-th number out of tk k -/
def prodF (tk : Nat → List Int) : Nat → List (List Int)
  | 0 => [[]]
  | k + 1 => (prodF tk k).flatMap fun o => (tk k).map fun t => o ++ [t]
def rngI (L : Nat) : List Int := (List.range L).map fun (k : Nat) => (k : Int)
theorem rngI_len {L : Nat} : (rngI L).length = L := by simp [rngI]
theorem rngI_mem {L : Nat} {t : Int} : t ∈ rngI L ↔ 0 ≤ t ∧ t < L := by
  simp only [rngI, List.mem_map, List.mem_range]
  constructor
  · rintro ⟨k, h, rfl⟩; omega
  · rintro ⟨h1, h2⟩; exact ⟨t.toNat, by omega, by omega⟩
theorem rng0I (m : Nat) : rngU 0 m = (rngI m).map U.int := by
  rw [rng0]; simp [rngI, nU, Function.comp_def]
theorem prod_len {tk : Nat → List Int} {B : Nat} (h : ∀ k, (tk k).length ≤ B) : ∀ m, (prodF tk m).length ≤ B ^ m
  | 0 => by simp [prodF]
  | m + 1 => by
    have ih := prod_len h m
    simp only [prodF, List.length_flatMap, List.length_map]
    have : ∀ (l : List (List Int)), (l.map fun _ => (tk m).length).sum ≤ l.length * B := by
      intro l
      induction l with
      | nil => simp
      | cons a l ih => simp only [List.map_cons, List.sum_cons, List.length_cons, Nat.add_mul]; have := h m; omega
    refine Nat.le_trans (this _) ?_
    rw [Nat.pow_succ]
    exact Nat.mul_le_mul_right _ ih
theorem prod_each {tk : Nat → List Int} : ∀ {m : Nat} {x : List Int}, x ∈ prodF tk m → x.length = m
  | 0, x, h => by simp [prodF] at h; simp [h]
  | m + 1, x, h => by
    simp only [prodF, List.mem_flatMap, List.mem_map] at h
    obtain ⟨o, ho, t, _, rfl⟩ := h
    simp [prod_each ho]
def freeK (free : List Int) (L : Nat) (c : Nat) : List Int := if (c : Int) ∈ free then rngI L else [0]
theorem freeK_len {free : List Int} {L : Nat} (h : 1 ≤ L) (c : Nat) : (freeK free L c).length ≤ L := by
  unfold freeK; split
  · rw [rngI_len]; omega
  · simpa using h
def allF (m : Nat) (free : List Int) (L : Nat) : List (List Int) := prodF (freeK free L) m
theorem pow_le6 {L m k : Nat} (h : 1 ≤ L) (hk : k ≤ m) (hp : L ^ m ≤ 1000000) : L ^ k ≤ 1000000 := Nat.le_trans (Nat.pow_le_pow_right h hk) hp
theorem m_all_offsets {m L : Nat} {free : List Int} {Q : U → Prop} (hm : m ≤ 1000) (hL : 1 ≤ L ∧ L ≤ 1000) (hp : L ^ m ≤ 1000000) (q : Q (.lst ((allF m free L).map tupU))) : vf_all_offsets [.int (m : Nat), lstU free, .int (L : Nat)] Q := by
  simp [v_all_offsets]
  refine vFor_inv (enc := nU) (xs := List.range m) (fun done e => e = [some (.val (.int (m : Nat))), some (.val (lstU free)), some (.val (.int (L : Nat))), some (.val (.lst ((allF done.length free L).map tupU))), none, none, none, none]) (fun K hK => ?_) ?_ ?_ ?_
  · simp [rng0]
    exact ⟨by omega, hK⟩
  · simp [allF, prodF]
  · rintro done x rest e N eq rfl hN
    obtain ⟨hd, hx⟩ := range_at eq
    have hdl : done.length = x := by rw [hd]; simp
    have hin : inU (nU x) (lstU free) = some (decide ((x : Int) ∈ free)) := cod_int.inL (by omega) (x : Int) free
    rw [hdl]
    have hN2 : ∀ e', e' = [some (.val (.int (m : Nat))), some (.val (lstU free)), some (.val (.int (L : Nat))), some (.val (.lst ((allF (x + 1) free L).map tupU))), none, none, none, none] → N e' := by
      intro e' h; refine hN e' ?_; rw [h]; simp [hdl]
    have fin : ∀ tl : List Int, tl = freeK free L x → ∀ K : VEnv → Prop, (K [some (.val (.int (m : Nat))), some (.val (lstU free)), some (.val (.int (L : Nat))), some (.val (.lst ((allF (x + 1) free L).map tupU))), some (.val (nU x)), some (.val (.lst (tl.map U.int))), none, none]) →
        vLc2 (viSeq (vVar 3)) (tN 6) vYes (viSeq (vVar 5)) (tN 7) vYes (vBin gAdd (vVar 6) (vTup (vaC (vVar 7) vaN))) [6, 7] [7] [some (.val (.int (m : Nat))), some (.val (lstU free)), some (.val (.int (L : Nat))), some (.val (.lst ((allF x free L).map tupU))), some (.val (nU x)), some (.val (.lst (tl.map U.int))), none, none]
          fun u => K [some (.val (.int (m : Nat))), some (.val (lstU free)), some (.val (.int (L : Nat))), some (.val u), some (.val (nU x)), some (.val (.lst (tl.map U.int))), none, none] := by
      intro tl htl K hK
      have hlen : ((allF x free L).flatMap fun _ => tl).length ≤ 1000000 := by
        have h1 := prod_len (tk := freeK free L) (freeK_len hL.1) (x + 1)
        have h2 := pow_le6 hL.1 (show x + 1 ≤ m by omega) hp
        have h3 : ((allF x free L).flatMap fun _ => tl).length = (prodF (freeK free L) (x + 1)).length := by
          simp only [prodF, List.length_flatMap, List.length_map, htl]; rfl
        omega
      refine vLc2_map (enc := tupU) (ys := fun _ => tl) (g := fun o t => tupU (o ++ [t])) (allF x free L) (fun K hK => by simp; exact hK) (fun o ho M ac hac hM => ?_) hlen ?_
      · simp
        refine vlcI_map (enb := U.int) (g := fun t => tupU (o ++ [t])) tl ac (fun t ht P hP => ?_) hac hM
        have := prod_each ho
        simp
        exact ⟨by omega, by simpa using hP⟩
      · have : ((allF x free L).flatMap fun o => tl.map fun t => tupU (o ++ [t])) = (allF (x + 1) free L).map tupU := by
          simp only [allF, prodF, List.map_flatMap, List.map_map, htl]
          rfl
        rw [this]
        exact hK
    by_cases hf : (x : Int) ∈ free
    · simp [-gIn]
      refine ⟨_, hin, ?_⟩
      simp [hf]
      refine ⟨by omega, ?_⟩
      have h2 : rngU 0 L = (freeK free L x).map U.int := by rw [rng0I]; simp [freeK, hf]
      rw [h2]
      refine fin _ rfl (fun e => N (wipeV e [4, 5])) ?_
      exact hN2 _ rfl
    · simp [-gIn]
      refine ⟨_, hin, ?_⟩
      simp [hf]
      have h2 : [U.int 0] = (freeK free L x).map U.int := by simp [freeK, hf]
      rw [h2]
      refine fin _ rfl (fun e => N (wipeV e [4, 5])) ?_
      exact hN2 _ rfl
  · rintro e rfl
    simpa using q
end KB
/-! Wb3: rows below, offsets of lines, back lines. -/
namespace KB
open PySem PySem.Spec PyProof.Rows L2 DL VL A30
def rowsF (k L : Nat) : List (List Int) := prodF (fun _ => rngI L) k
theorem rowsF_len {k L : Nat} : (rowsF k L).length ≤ L ^ k := prod_len (fun _ => by rw [rngI_len]; exact Nat.le_refl _) k
theorem m_rows_below {k L : Nat} {Q : U → Prop} (hk : k ≤ 1000) (hL : 1 ≤ L ∧ L ≤ 1000) (hp : L ^ k ≤ 1000000) (q : Q (.lst ((rowsF k L).map tupU))) : vf__law_rows_below [.int (k : Nat), .int (L : Nat)] Q := by
  simp [v__law_rows_below]
  refine vFor_inv (enc := nU) (xs := List.range k) (fun done e => e = [some (.val (.int (k : Nat))), some (.val (.int (L : Nat))), some (.val (.lst ((rowsF done.length L).map tupU))), none, none, none, none]) (fun K hK => ?_) ?_ ?_ ?_
  · simp [rng0]
    exact ⟨by omega, hK⟩
  · simp [rowsF, prodF]
  · rintro done x rest e N eq rfl hN
    obtain ⟨hd, hx⟩ := range_at eq
    have hdl : done.length = x := by rw [hd]; simp
    rw [hdl]
    have hN2 : ∀ e', e' = [some (.val (.int (k : Nat))), some (.val (.int (L : Nat))), some (.val (.lst ((rowsF (x + 1) L).map tupU))), none, none, none, none] → N e' := by
      intro e' h; refine hN e' ?_; rw [h]; simp [hdl]
    simp
    refine vFor_inv (enc := tupU) (xs := rowsF x L) (fun dn e => e = [some (.val (.int (k : Nat))), some (.val (.int (L : Nat))), some (.val (.lst ((rowsF x L).map tupU))), some (.val (nU x)), some (.val (.lst ((dn.flatMap fun o => (rngI L).map fun t => o ++ [t]).map tupU))), none, none]) (fun K hK => by simp; exact hK) (by simp) ?_ ?_
    · rintro dn o rst e M eq2 rfl hM
      have ho : o.length = x := prod_each (show o ∈ prodF _ x by rw [show prodF (fun _ => rngI L) x = rowsF x L from rfl, eq2]; simp)
      have h1 := rowsF_len (k := x + 1) (L := L)
      have h2 := pow_le6 hL.1 (show x + 1 ≤ k by omega) hp
      have h3 : (dn.flatMap fun o => (rngI L).map fun t => o ++ [t]).length + L ≤ (rowsF (x + 1) L).length := by
        have : rowsF (x + 1) L = (rowsF x L).flatMap fun o => (rngI L).map fun t => o ++ [t] := rfl
        rw [this, eq2]
        simp [List.flatMap_append, rngI_len]
      simp
      refine vLc_map (enc := U.int) (g := fun t => tupU (o ++ [t])) (rngI L) (fun K hK => ?_) (fun t ht P hP => ?_) (by rw [rngI_len]; omega) ?_
      · simp [rng0I]
        exact ⟨by omega, hK⟩
      · simp
        exact ⟨by omega, by simpa using hP⟩
      · simp at h3
        simp [rngI_len]
        refine ⟨by rw [rngI_len] at h3; omega, ?_⟩
        refine hM _ ?_
        simp [List.flatMap_append]
    · rintro e rfl
      simp
      refine hN2 _ ?_
      simp [rowsF, prodF]
  · rintro e rfl
    simpa using q
def crs (l : List Pr) : List Int := l.map (·.1)
theorem cut_from1 (xs : List U) : cutU xs (some 1) none = xs.drop 1 := by
  unfold cutU
  cases xs with
  | nil => simp
  | cons x xs =>
    have h1 : HT.sIx (x :: xs).length 0 (some 1) = 1 := by
      have := HT.sIx_nat (x :: xs).length 0 1
      rw [show ((1 : Nat) : Int) = 1 from rfl] at this
      rw [this]; simp
    rw [h1, HT.sIx_none]
    simp
theorem m_offsets_to_try {m L : Nat} {l : List Pr} {Q : U → Prop} (hl : l.length ≤ 1000) (hm : m ≤ 1000) (hL : 1 ≤ L ∧ L ≤ 1000) (hp : L ^ m ≤ 1000000) (q : Q (.lst ((allF m (crs (l.drop 1)) L).map tupU))) : vf_offsets_to_try [.int (m : Nat), prsU l, .int (L : Nat)] Q := by
  simp [v_offsets_to_try, prsU, -vf_all_offsets]
  refine vLc_map (enc := prU) (g := fun p => .int p.1) (l.drop 1) (fun K hK => ?_) (fun p hpp N hN => ?_) (by simp; omega) ?_
  · simp [cut_from1]
    simpa using hK
  · simp [prU]
    exact hN
  · have : ((l.drop 1).map fun p => U.int p.1) = (crs (l.drop 1)).map U.int := by simp [crs, Function.comp_def]
    rw [this]
    exact m_all_offsets hm hL hp q
/-! stores -/
def sz (l : List Int) (i v : Int) : List Int := l.set i.toNat v
theorem sz_len {l : List Int} {i v : Int} : (sz l i v).length = l.length := by simp [sz]
theorem gz_sz {l : List Int} {i j v : Int} (h0 : 0 ≤ i) (h1 : i < l.length) (hj : 0 ≤ j) : gz (sz l i v) j = if j = i then v else gz l j := by
  unfold gz sz
  rw [List.getD_eq_getElem?_getD, List.getElem?_set]
  by_cases z : j = i
  · subst z
    have : j.toNat < l.length := by omega
    simp [this]
  · have : ¬ i.toNat = j.toNat := by omega
    simp [z, this]
theorem set_z {l : List Int} {i v : Int} (h0 : 0 ≤ i) (h1 : i < l.length) : setU (.lst (l.map U.int)) (.int i) (.int v) = some (.lst ((sz l i v).map U.int)) := by
  have : ixN l.length i = some i.toNat := by
    unfold ixN
    rw [if_pos h0, if_pos h1]
  simp [setU, sz, this, List.map_set]
def putA (ps : List Pr) (o : List Int) : List Int := ps.foldl (fun o p => sz o p.1 p.2) o
theorem putA_len : ∀ (ps : List Pr) (o : List Int), (putA ps o).length = o.length
  | [], o => rfl
  | p :: ps, o => by show (putA ps (sz o p.1 p.2)).length = _; rw [putA_len ps, sz_len]
theorem putA_out : ∀ (ps : List Pr) (o : List Int) {m : Nat} {j : Int}, o.length = m → In m ps → 0 ≤ j → j ∉ crs ps → gz (putA ps o) j = gz o j
  | [], o, m, j, _, _, _, _ => rfl
  | p :: ps, o, m, j, h, hi, hj, hn => by
    simp only [crs, List.map_cons, List.mem_cons, not_or] at hn
    have hp := hi p (by simp)
    show gz (putA ps (sz o p.1 p.2)) j = _
    rw [putA_out ps _ (by rw [sz_len]; exact h) (fun q hq => hi q (by simp [hq])) hj hn.2, gz_sz hp.1 (by omega) hj, if_neg hn.1]
theorem putA_in : ∀ (ps : List Pr) (o : List Int) {m : Nat} {p : Pr}, o.length = m → In m ps → (crs ps).Nodup → p ∈ ps → gz (putA ps o) p.1 = p.2
  | [], o, m, p, _, _, _, h => by cases h
  | a :: ps, o, m, p, h, hi, hn, hp => by
    have hn' : a.1 ∉ crs ps ∧ (crs ps).Nodup := by simpa [crs] using hn
    have ha := hi a (by simp)
    have hi' : In m ps := fun q hq => hi q (by simp [hq])
    show gz (putA ps (sz o a.1 a.2)) p.1 = _
    rcases List.mem_cons.mp hp with e | e
    · subst e
      rw [putA_out ps _ (by rw [sz_len]; exact h) hi' ha.1 hn'.1, gz_sz ha.1 (by omega) ha.1, if_pos rfl]
    · exact putA_in ps _ (by rw [sz_len]; exact h) hi' hn'.2 e
theorem putA_snoc (ps : List Pr) (p : Pr) (o : List Int) : putA (ps ++ [p]) o = sz (putA ps o) p.1 p.2 := by simp [putA]
def zeros (m : Nat) : List Int := List.replicate m 0
theorem gz_zeros {m : Nat} {j : Int} : gz (zeros m) j = 0 := by
  unfold gz zeros
  rw [List.getD_eq_getElem?_getD, List.getElem?_replicate]
  split <;> rfl
/-- offsets of one row -/
def offR (m : Nat) (l : List Pr) (row : List Int) : List Int := putA (((l.drop 1).zip row).map fun p => (p.1.1, p.2)) (zeros m)
theorem zeros_U (m : Nat) : List.replicate m (U.int 0) = (zeros m).map U.int := by simp [zeros]
theorem m_law_line_offsets {m L : Nat} {l : List Pr} {Q : U → Prop} (hl : 1 ≤ l.length ∧ l.length ≤ 1000) (hm : 1 ≤ m ∧ m ≤ 1000) (hi : In m l) (hL : 1 ≤ L ∧ L ≤ 1000) (hp : L ^ (l.length - 1) ≤ 1000000)
    (q : Q (.lst ((((rowsF (l.length - 1) L).map (offR m l)).mergeSort leL).map tupU))) : vf__law_line_offsets [.int (m : Nat), prsU l, .int (L : Nat)] Q := by
  have h1 := rowsF_len (k := l.length - 1) (L := L)
  simp [v__law_line_offsets, -vf__law_rows_below]
  refine vFor_inv (enc := tupU) (xs := rowsF (l.length - 1) L) (fun done e => e = [some (.val (.int (m : Nat))), some (.val (prsU l)), some (.val (.int (L : Nat))), some (.own (.lst ((done.map (offR m l)).map tupU))), none, none, none, none]) (fun K hK => ?_) (by simp) ?_ ?_
  · simp [prsU, -vf__law_rows_below]
    have e : ((l.length : Int) - 1) = ((l.length - 1 : Nat) : Int) := by omega
    rw [e]
    refine m_rows_below (by omega) hL hp ?_
    simp
    exact hK
  · rintro done row rest e N eq rfl hN
    have hd : done.length ≤ 1000000 - 1 := by
      have := congrArg List.length eq
      simp at this; omega
    simp
    refine ⟨by omega, by omega, ?_⟩
    rw [zeros_U]
    refine vFor_inv (enc := fun p : Pr × Int => .tup [prU p.1, .int p.2]) (xs := (l.drop 1).zip row) (fun dn e => e = [some (.val (.int (m : Nat))), some (.val (prsU l)), some (.val (.int (L : Nat))), some (.own (.lst ((done.map (offR m l)).map tupU))), some (.val (tupU row)), some (.own (lstU (putA (dn.map fun p => (p.1.1, p.2)) (zeros m)))), none, none]) (fun K hK => ?_) (by simp [putA]) ?_ ?_
    · simp [prsU, cut_from1]
      have e := zipU_map (f := prU) (g := U.int) (l.drop 1) row
      simp only [List.map_drop] at e
      rw [List.drop_one] at e
      simpa [e] using hK
    · rintro dn p rst e M eq2 rfl hM
      have hpm : p.1 ∈ l := List.mem_of_mem_drop (List.of_mem_zip (show p ∈ (l.drop 1).zip row by rw [eq2]; simp)).1
      obtain ⟨h0, h2⟩ := hi _ hpm
      simp [prU]
      rw [set_z h0 (by rw [putA_len]; simp [zeros]; omega)]
      refine ⟨_, rfl, ?_⟩
      refine hM _ ?_
      simp [putA_snoc]
    · rintro e rfl
      simp
      refine ⟨by omega, ?_⟩
      refine hN _ ?_
      simp [offR]
  · rintro e rfl
    simp
    refine ⟨(rowsF (l.length - 1) L).map (offR m l), by simp [tupL, Function.comp_def], fun x hx => ?_, ?_⟩
    · obtain ⟨row, _, rfl⟩ := List.mem_map.mp hx
      intro z
      have := congrArg List.length z
      rw [offR, putA_len] at this
      simp [zeros] at this
      omega
    · exact q
end KB
/-! Wb4: back lines, offsets of a line, best ones, draws. -/
namespace KB
open PySem PySem.Spec PyProof.Rows L2 DL VL A30
def lD (l : List Pr) (k : Nat) : Pr := l.getD k (0, 0)
theorem lD_at {l : List Pr} {k : Nat} (h : k < l.length) : l[k]? = some (lD l k) := by
  rw [lD, List.getD_eq_getElem?_getD, List.getElem?_eq_getElem h]; rfl
theorem at_l {l : List Pr} {k : Nat} (h : k < l.length) : atU (l.map prU) (k : Nat) = some (prU (lD l k)) := by
  obtain ⟨y, h1, _, h2⟩ := at_map (enc := prU) (ys := l) (v := (k : Int)) (by omega) (by omega)
  rw [Int.toNat_natCast, lD_at h] at h1
  rw [h2, ← Option.some.inj h1]
theorem lD_mem {l : List Pr} {k : Nat} (h : k < l.length) : lD l k ∈ l := List.mem_of_getElem? (lD_at h)
/-- place k of the line back -/
def bkK (l : List Pr) (k : Nat) : Pr := ((lD l (l.length - 1 - k)).1, if k = 0 then 0 else (lD l (l.length - k)).2)
def backL (l : List Pr) : List Pr := (List.range l.length).map (bkK l)
theorem backL_len {l : List Pr} : (backL l).length = l.length := by simp [backL]
theorem m_back_line {l : List Pr} {Q : U → Prop} (hl : 1 ≤ l.length ∧ l.length ≤ 1000) (q : Q (prsU (backL l))) : vf_back_line [prsU l] Q := by
  simp [v_back_line, prsU]
  refine vLc_map (enc := prU) (g := fun p => .int p.2) (l.drop 1).reverse (fun K hK => ?_) (fun p hpp N hN => ?_) (by simp; omega) ?_
  · simpa using hK
  · simp [prU]; exact hN
  · simp
    refine ⟨by omega, ?_⟩
    have e : U.int 0 :: (List.map (fun p : Pr => U.int p.2) l).tail.reverse = (0 :: (l.drop 1).reverse.map (·.2)).map U.int := by simp [Function.comp_def]
    rw [e]
    refine vLc_map (enc := fun p : Pr × Int => .tup [prU p.1, .int p.2]) (g := fun p => prU (p.1.1, p.2)) (l.reverse.zip (0 :: (l.drop 1).reverse.map (·.2))) (fun K hK => ?_) (fun p hpp N hN => ?_) (by simp; omega) ?_
    · simp
      have e2 := zipU_map (f := prU) (g := U.int) l.reverse (0 :: (l.drop 1).reverse.map (·.2))
      simp at e2
      simpa [e2] using hK
    · simp [prU]
      simpa [prU] using hN
    · simp
      have e3 : (l.reverse.zip (0 :: (l.drop 1).reverse.map (·.2))).map (fun p => prU (p.1.1, p.2)) = (backL l).map prU := by
        rw [backL, List.map_map]
        apply List.ext_getElem?
        intro k
        by_cases hk : k < l.length
        · have h1 : l.reverse[k]? = some (lD l (l.length - 1 - k)) := by
            rw [List.getElem?_reverse hk, lD_at (by omega)]
          have h2 : (0 :: (l.drop 1).reverse.map (·.2))[k]? = some (if k = 0 then 0 else (lD l (l.length - k)).2) := by
            cases k with
            | zero => simp
            | succ k =>
              rw [List.getElem?_cons_succ, List.getElem?_map, List.getElem?_reverse (by simp; omega), List.getElem?_drop, lD_at (by simp; omega)]
              simp
              congr 2
              omega
          have h3 : (l.reverse.zip (0 :: (l.drop 1).reverse.map (·.2)))[k]? = some (lD l (l.length - 1 - k), if k = 0 then 0 else (lD l (l.length - k)).2) := List.getElem?_zip_eq_some.mpr ⟨h1, h2⟩
          rw [List.getElem?_map, List.getElem?_map, List.getElem?_range hk, h3]
          rfl
        · rw [List.getElem?_eq_none (by simp; omega), List.getElem?_eq_none (by simp; omega)]
      simp at e3
      rw [e3]
      simpa [prsU] using q
theorem m_law_back_line {l : List Pr} {Q : U → Prop} (hl : 1 ≤ l.length ∧ l.length ≤ 1000) (q : Q (prsU (backL l))) : vf__law_back_line [prsU l] Q := by
  have hrg : ∀ K : List U → Prop, K ((List.range (l.length - 1)).map fun k => U.int (((l.length : Int) - 1) + (k : Nat) * (-1))) → viRng3 (vaC (vBin gSub (vB1 gLen (vaC (vVar 0) vaN)) (VL.vC (.int 1))) (vaC (VL.vC (.int 0)) (vaC (vBin gSub (VL.vC (.int 0)) (VL.vC (.int 1))) vaN))) [some (.val (prsU l)), some (.own (.lst [prU (bkK l 0)])), none] K := by
    intro K hK
    simp [prsU]
    have e : ((l.length : Int) - 1 - 0).toNat = l.length - 1 := by omega
    have r := L2.RgC.neg (i := (l.length : Int) - 1) (j := 0) (by omega) (by omega) (by omega) (by omega)
    rw [e] at r
    exact ⟨l.length - 1, r, by simpa using hK⟩
  have h0 : atU (l.map prU) (-1) = some (prU (lD l (l.length - 1))) := by
    have hx : ixN (l.map prU).length (-1) = some (l.length - 1) := by
      unfold ixN
      rw [if_neg (by omega), if_pos (by simp; omega)]
      simp
      omega
    unfold atU
    rw [hx]
    simp [lD_at (show l.length - 1 < l.length by omega)]
  simp [v__law_back_line]
  rw [show prsU l = .tup (l.map prU) from rfl]
  simp
  rw [h0]
  simp [prU]
  refine vFor_inv (enc := fun k : Nat => U.int (((l.length : Int) - 1) + (k : Nat) * (-1))) (xs := List.range (l.length - 1)) (fun done e => e = [some (.val (prsU l)), some (.own (.lst ((List.range (done.length + 1)).map fun k => prU (bkK l k)))), none]) ?_ ?_ ?_ ?_
  · intro K hK
    have := hrg K hK
    simpa [prU, bkK, prsU] using this
  · simp [prU, bkK, prsU]
  · rintro done x rest e N eq rfl hN
    obtain ⟨hd, hx⟩ := range_at eq
    have hdl : done.length = x := by rw [hd]; simp
    have e1 : ((l.length : Int) - 1 + (x : Int) * (-1)) = ((l.length - (x + 1) : Nat) : Int) := by omega
    have e2 : ((l.length : Int) - 1 + (x : Int) * (-1)) - 1 = ((l.length - 1 - (x + 1) : Nat) : Int) := by omega
    simp [hdl]
    refine ⟨by omega, ?_⟩
    have e1' : ((l.length : Int) - 1 + -(x : Int)) = ((l.length - (x + 1) : Nat) : Int) := by omega
    have e2' : ((l.length : Int) - 1 + -(x : Int)) - 1 = ((l.length - 1 - (x + 1) : Nat) : Int) := by omega
    rw [show prsU l = .tup (l.map prU) from rfl]
    simp
    rw [e2', e1', at_l (by omega), at_l (by omega)]
    simp [prU]
    refine hN _ ?_
    simp [hdl, prsU, List.range_succ (n := x + 1), prU, bkK]
  · rintro e rfl
    have : l.length - 1 + 1 = l.length := by omega
    simp [this]
    simpa [backL, prsU, Function.comp_def] using q
end KB
/-! Wb5: least greens, offsets of a line, both bands, draws. -/
namespace KB
open PySem PySem.Spec PyProof.Rows L2 DL VL A30
theorem enU_at : ∀ (us : List U) (k : Nat), enU (k : Nat) us = (us.zipIdx k).map fun p => .tup [.int (p.2 : Nat), p.1]
  | [], k => rfl
  | u :: us, k => by
    have := enU_at us (k + 1)
    simp [enU, List.zipIdx_cons]
    simpa using this
theorem enU_map {α : Type} {f : α → U} {d : α} (xs : List α) : enU 0 (xs.map f) = (List.range xs.length).map fun k => .tup [nU k, f (xs.getD k d)] := by
  have h := enU_at (xs.map f) 0
  rw [show ((0 : Nat) : Int) = 0 from rfl] at h
  rw [h]
  apply List.ext_getElem?
  intro k
  by_cases hk : k < xs.length
  · rw [List.getElem?_map, List.getElem?_map, List.getElem?_range hk, List.getElem?_zipIdx, List.getElem?_map, List.getElem?_eq_getElem hk]
    simp [nU, List.getD_eq_getElem?_getD, List.getElem?_eq_getElem hk]
  · rw [List.getElem?_eq_none (by simp; omega), List.getElem?_eq_none (by simp; omega)]
def mn : List Int → Int
  | [] => 0
  | a :: l => l.foldl min a
theorem fold_min : ∀ (l : List Int) (a : Int), l.foldl min a ∈ a :: l ∧ ∀ y ∈ a :: l, l.foldl min a ≤ y
  | [], a => by simp
  | b :: l, a => by
    obtain ⟨h1, h2⟩ := fold_min l (min a b)
    rw [List.foldl_cons]
    refine ⟨?_, fun y hy => ?_⟩
    · rcases List.mem_cons.mp h1 with h | h
      · rw [h]
        by_cases z : a ≤ b
        · rw [Int.min_eq_left z]; simp
        · rw [Int.min_eq_right (by omega)]; simp
      · simp [h]
    · have h3 := h2 (min a b) (by simp)
      rcases List.mem_cons.mp hy with h | h
      · omega
      · rcases List.mem_cons.mp h with h | h
        · omega
        · exact h2 y (by simp [h])
theorem mn_mem {l : List Int} (h : l ≠ []) : mn l ∈ l := by
  cases l with
  | nil => cases h rfl
  | cons a l => exact (fold_min l a).1
theorem mn_le {l : List Int} {y : Int} (h : y ∈ l) : mn l ≤ y := by
  cases l with
  | nil => cases h
  | cons a l => exact (fold_min l a).2 y h
theorem mn_uniq {l : List Int} {m : Int} (h : m ∈ l) (h2 : ∀ y ∈ l, m ≤ y) : m = mn l := by
  have h3 := mn_le h
  have h4 := h2 _ (mn_mem (fun z => by subst z; cases h))
  omega
def lens (g : List Pr) : List Int := g.map (·.2)
theorem m_minL {g : List Pr} {Q : U → Prop} (hg : g ≠ []) (q : Q (.int (mn (lens g)))) : gMinL [.lst (g.map fun p => U.int p.2)] Q := by
  simp
  refine ⟨lens g, by rw [← intsU_map, lens, List.map_map]; rfl, ?_, fun m h1 h2 => ?_⟩
  · simp [lens]; exact List.length_pos_iff.mpr hg
  · rw [mn_uniq h1 h2]; exact q
theorem m_band_bound {g : List Pr} {Q : U → Prop} (hg : g ≠ []) (hl : g.length ≤ 1000) (q : Q (.int (mn (lens g)))) : vf_band_bound [prsU g] Q := by
  simp [v_band_bound, -gMinL]
  refine vLc_map (enc := prU) (g := fun p => .int p.2) g (fun K hK => by simp [prsU]; exact hK) (fun p hpp N hN => by simp [prU]; exact hN) (by omega) ?_
  exact m_minL hg q
/-- what offsets of a line are put -/
def tolds (l g : List Pr) (L : Int) : List Pr := (List.range l.length).map fun k => ((lD l k).1, ((tks l (lD g 0).1).getD k 0 - (lD g k).1) % L)
def told (m : Nat) (l g : List Pr) (L : Int) : List Int := putA (tolds l g L) (zeros m)
theorem told_len {m : Nat} {l g : List Pr} {L : Int} : (told m l g L).length = m := by rw [told, putA_len]; simp [zeros]
theorem m_offsets_of_line {m : Nat} {l g : List Pr} {L : Int} {Q : U → Prop} (hl : 1 ≤ l.length ∧ l.length ≤ 1000) (hm : m ≤ 1000) (hg : g.length = l.length) (hi : In m l) (hL : 0 < L) (q : Q (tupU (told m l g L))) : vf_offsets_of_line [.int (m : Nat), prsU l, prsU g, .int L] Q := by
  simp [v_offsets_of_line, -vf_arrivals]
  rw [show prsU g = .tup (g.map prU) from rfl]
  simp [-vf_arrivals]
  refine ⟨prU (lD g 0), by simpa using at_l (l := g) (k := 0) (by omega), ?_⟩
  simp [prU, -vf_arrivals]
  refine ⟨by omega, by omega, ?_⟩
  rw [zeros_U]
  refine vFor_inv (enc := fun k : Nat => .tup [nU k, .int ((tks l (lD g 0).1).getD k 0)]) (xs := List.range l.length) (fun done e => e = [some (.val (.int (m : Nat))), some (.val (prsU l)), some (.val (.tup (g.map prU))), some (.val (.int L)), some (.val (.int (lD g 0).1)), some (.own (lstU (putA ((tolds l g L).take done.length) (zeros m)))), none, none]) (fun K hK => ?_) (by simp [putA, prU]) ?_ ?_
  · simp [-vf_arrivals]
    refine m_arrivals (by omega) ?_
    have e := enU_map (f := U.int) (d := 0) (tks l (lD g 0).1)
    rw [tks_len] at e
    simp at e ⊢
    rw [e]
    exact hK
  · rintro done k rest e N eq rfl hN
    obtain ⟨hd, hk⟩ := range_at eq
    have hdl : done.length = k := by rw [hd]; simp
    have hkl : k < (tolds l g L).length := by simp [tolds]; exact hk
    obtain ⟨h0, h1⟩ := hi _ (lD_mem hk)
    have hN2 : ∀ e', e' = [some (.val (.int (m : Nat))), some (.val (prsU l)), some (.val (.tup (g.map prU))), some (.val (.int L)), some (.val (.int (lD g 0).1)), some (.own (lstU (putA ((tolds l g L).take (k + 1)) (zeros m)))), none, none] → N e' := by
      intro e' h; refine hN e' ?_; rw [h]; simp [hdl]
    rw [hdl]
    rw [show prsU l = .tup (l.map prU) from rfl] at hN2 ⊢
    simp [nU]
    rw [at_l (by omega), at_l hk]
    simp [prU]
    refine ⟨hL, ?_⟩
    rw [set_z h0 (by rw [putA_len]; simp [zeros]; omega)]
    refine ⟨_, rfl, ?_⟩
    refine hN2 _ ?_
    rw [List.take_succ, List.getElem?_eq_getElem hkl]
    simp only [Option.toList_some, putA_snoc]
    simp [tolds, prU]
  · rintro e rfl
    simp
    have : (tolds l g L).take l.length = tolds l g L := List.take_of_length_le (by simp [tolds])
    simpa [this, told] using q
end KB
/-! Wb6: both bands, the best offsets, full ones, draws. -/
namespace KB
open PySem PySem.Spec PyProof.Rows L2 DL VL A30
theorem In.back {m : Nat} {l : List Pr} (h : In m l) : In m (backL l) := fun p hp => by
  simp only [backL, List.mem_map, List.mem_range] at hp
  obtain ⟨k, hk, rfl⟩ := hp
  have := h (lD l (l.length - 1 - k)) (lD_mem (by omega))
  simpa [bkK] using this
theorem vFor_find {α β : Type} {enc : α → U} {tg : VG} {e : VEnv} {gi : VI} {body : VS} {D : VD} {xs : List α} (r : α → Option β) (I : List α → VEnv → Prop) (hi : ∀ K : List U → Prop, K (xs.map enc) → gi e K) (h0 : I [] e)
    (hs : ∀ done x rest e (N : VEnv → Prop), xs = done ++ x :: rest → I done e → (∀ b, r x = some b → xs.findSome? r = some b) → (r x = none → ∀ e', I (done ++ [x]) e' → N e') → tg (enc x) e fun e2 => body { nx := N, rt := D.rt, bk := D.nx, ct := N } e2)
    (he : xs.findSome? r = none → ∀ e, I xs e → D.nx e) : vFor gi tg body D e := by
  refine vFor_inv (enc := enc) (xs := xs) (fun done e => I done e ∧ done.findSome? r = none) hi ⟨h0, rfl⟩ ?_ fun e h => he h.2 e h.1
  rintro done x rest e N eq ⟨h1, h2⟩ hN
  refine hs done x rest e N eq h1 (fun b hb => ?_) fun hn e' h' => hN e' ⟨h', ?_⟩
  · rw [eq, List.findSome?_append, h2, List.findSome?_cons, hb]; rfl
  · rw [List.findSome?_append, h2, List.findSome?_cons, hn]; rfl
def bb (l g b : List Pr) (L : Nat) (offs : List Int) : Int × Int := (((bandN l g L offs).length : Nat), ((bandN (backL l) b L offs).length : Nat))
theorem m_both_bands {m L : Nat} {l g b : List Pr} {offs : List Int} {Q : U → Prop} (hl : 1 ≤ l.length ∧ l.length ≤ 1000) (hm : offs.length = m) (hi : In m l) (hL : 0 < L ∧ L ≤ 1000) (q : Q (prU (bb l g b L offs))) : vf_both_bands [prsU l, prsU g, prsU b, .int (L : Nat), tupU offs] Q := by
  simp [v_both_bands, -vf_band, -vf_back_line]
  refine m_band (by omega) hm hi hL ?_
  simp [bandU, -vf_band, -vf_back_line]
  refine m_back_line hl ?_
  refine m_band (by rw [backL_len]; omega) hm hi.back hL ?_
  simp [bandU]
  exact q
abbrev Bst := Option (Int × List Int)
def bstU : Bst → U
  | none => .non
  | some p => .tup [.int p.1, tupU p.2]
def bstS (w : List Int → Int) (o : Bst) (x : List Int) : Bst := match o with
  | none => some (w x, x)
  | some p => if p.1 < w x then some (w x, x) else some p
def bstF (w : List Int → Int) (xs : List (List Int)) : Bst := xs.foldl (bstS w) none
theorem bstF_snoc (w : List Int → Int) (xs : List (List Int)) (x : List Int) : bstF w (xs ++ [x]) = bstS w (bstF w xs) x := by simp [bstF]
def sumB (l g b : List Pr) (L : Nat) (o : List Int) : Int := (bb l g b L o).1 + (bb l g b L o).2
theorem gSumA_pr {p : Int × Int} {Q : U → Prop} (q : Q (.int (p.1 + p.2))) : gSumA [prU p] Q := by
  simp [prU]
  exact ⟨[p.1, p.2], by simp [intsU], by simpa using q⟩
theorem allF_each {m : Nat} {free : List Int} {L : Nat} {o : List Int} (h : o ∈ allF m free L) : o.length = m := prod_each h
theorem m_best_both {m L : Nat} {l g b : List Pr} {Q : U → Prop} (hl : 1 ≤ l.length ∧ l.length ≤ 1000) (hm : m ≤ 1000) (hi : In m l) (hL : 0 < L ∧ L ≤ 1000) (hp : L ^ m ≤ 1000000) (q : Q (bstU (bstF (sumB l g b L) (allF m (crs (l.drop 1)) L)))) : vf_best_both [.int (m : Nat), prsU l, prsU g, prsU b, .int (L : Nat)] Q := by
  simp [v_best_both, -vf_offsets_to_try, -vf_both_bands, -gSumA]
  refine vFor_inv (enc := tupU) (xs := allF m (crs (l.drop 1)) L) (fun done e => e = [some (.val (.int (m : Nat))), some (.val (prsU l)), some (.val (prsU g)), some (.val (prsU b)), some (.val (.int (L : Nat))), some (.val (bstU (bstF (sumB l g b L) done))), none, none]) (fun K hK => ?_) (by simp [bstF, bstU]) ?_ ?_
  · simp [-vf_offsets_to_try]
    refine m_offsets_to_try (by omega) hm (by omega) hp ?_
    simpa using hK
  · rintro done o rest e N eq rfl hN
    have ho : o.length = m := allF_each (show o ∈ allF m (crs (l.drop 1)) L by rw [eq]; simp)
    simp [-vf_both_bands, -gSumA]
    refine m_both_bands hl ho hi hL ?_
    refine gSumA_pr ?_
    have hs : (bb l g b L o).1 + (bb l g b L o).2 = sumB l g b L o := rfl
    rw [hs]
    rw [bstF_snoc] at hN
    cases hb : bstF (sumB l g b L) done with
    | none =>
      rw [hb] at hN
      simp [bstU, U.isN]
      refine hN _ ?_
      simp [bstS, bstU]
    | some p =>
      rw [hb] at hN
      simp [bstU, U.isN]
      by_cases hlt : p.1 < sumB l g b L o
      · simp [hlt]
        refine hN _ ?_
        simp [bstS, bstU, hlt]
      · simp [hlt]
        refine hN _ ?_
        simp [bstS, bstU, hlt]
  · rintro e rfl
    simpa using q
def mx : List Int → Int
  | [] => 0
  | a :: l => l.foldl max a
theorem mx_mem {l : List Int} (h : l ≠ []) : mx l ∈ l := by
  cases l with
  | nil => cases h rfl
  | cons a l => exact (DL.fold_max l a).1
theorem mx_ge {l : List Int} {y : Int} (h : y ∈ l) : y ≤ mx l := by
  cases l with
  | nil => cases h
  | cons a l => exact (DL.fold_max l a).2 y h
theorem mx_uniq {l : List Int} {m : Int} (h : m ∈ l) (h2 : ∀ y ∈ l, y ≤ m) : m = mx l := by
  have h3 := mx_ge h
  have h4 := h2 _ (mx_mem (fun z => by subst z; cases h))
  omega
def topC (l : List Pr) : Nat := (mx (crs l) + 1).toNat
def fullB (l g b : List Pr) (L : Nat) : Bool := (allF (topC l) (crs (l.drop 1)) L).any fun o => decide (bb l g b L o = (mn (lens g), mn (lens b)))
theorem m_full_both {m L : Nat} {l g b : List Pr} {Q : U → Prop} (hl : 1 ≤ l.length ∧ l.length ≤ 1000) (hg : g.length = l.length) (hb : b.length = l.length) (hm : m ≤ 1000) (hi : In m l) (hL : 0 < L ∧ L ≤ 1000) (hp : L ^ m ≤ 1000000) (q : Q (.bl (fullB l g b L))) : vf_full_both [prsU l, prsU g, prsU b, .int (L : Nat)] Q := by
  have hne : crs l ≠ [] := fun z => by have := congrArg List.length z; simp [crs] at this; subst this; simp at hl
  have hmx := mx_mem hne
  obtain ⟨p0, hp0, e0⟩ := List.mem_map.mp hmx
  obtain ⟨h0, h1⟩ := hi p0 hp0
  have htc : ((topC l : Nat) : Int) = mx (crs l) + 1 := by unfold topC; omega
  have hit : In (topC l) l := fun p hp => by
    have := mx_ge (l := crs l) (List.mem_map.mpr ⟨p, hp, rfl⟩)
    exact ⟨(hi p hp).1, by omega⟩
  simp [v_full_both, -vf_offsets_to_try, -vf_both_bands, -vf_band_bound]
  refine vLc_map (enc := prU) (g := fun p => .int p.1) l (fun K hK => by simp [prsU]; exact hK) (fun p hpp N hN => by simp [prU]; exact hN) (by omega) ?_
  refine ⟨_, rfl, crs l, by rw [← intsU_map, crs, List.map_map]; rfl, by simp [crs]; omega, fun M hM1 hM2 => ?_⟩
  rw [mx_uniq hM1 hM2]
  refine m_band_bound (fun z => by subst z; simp at hg; omega) (by omega) ?_
  refine m_band_bound (fun z => by subst z; simp at hb; omega) (by omega) ?_
  rw [← htc]
  have hpt : L ^ topC l ≤ 1000000 := pow_le6 (by omega) (show topC l ≤ m by omega) hp
  refine vFor_find (enc := tupU) (xs := allF (topC l) (crs (l.drop 1)) L) (fun o => if bb l g b L o = (mn (lens g), mn (lens b)) then some () else none) (fun done e => e = [some (.val (prsU l)), some (.val (prsU g)), some (.val (prsU b)), some (.val (.int (L : Nat))), some (.val (.int (topC l : Nat))), none, none, some (.val (prU (mn (lens g), mn (lens b)))), none]) (fun K hK => ?_) (by simp [prU]) ?_ ?_
  · simp [-vf_offsets_to_try]
    refine m_offsets_to_try (by omega) (by omega) (by omega) hpt ?_
    simpa using hK
  · rintro done o rest e N eq rfl hr hN
    have ho : o.length = topC l := allF_each (show o ∈ allF (topC l) (crs (l.drop 1)) L by rw [eq]; simp)
    simp [-vf_both_bands]
    refine m_both_bands hl ho hit hL ?_
    refine (cod_int.pair cod_int).eq (neg := false) (a := bb l g b L o) (b := (mn (lens g), mn (lens b))) (by decide) ?_
    by_cases h : bb l g b L o = (mn (lens g), mn (lens b))
    · rw [decide_eq_true h]
      simp
      have := hr () (by simp [h])
      have e2 : fullB l g b L = true := by
        unfold fullB
        rw [List.any_eq_true]
        obtain ⟨x, hx, hx2⟩ := List.exists_of_findSome?_eq_some this
        refine ⟨x, hx, ?_⟩
        split at hx2
        · rename_i hh; exact decide_eq_true hh
        · cases hx2
      rw [e2] at q
      exact q
    · rw [decide_eq_false h]
      simp
      refine hN (by simp [h]) _ ?_
      simp
  · rintro hr e rfl
    simp
    have e2 : fullB l g b L = false := by
      unfold fullB
      rw [List.any_eq_false]
      intro x hx hx2
      have := List.findSome?_eq_none_iff.mp hr x hx
      rw [if_pos (of_decide_eq_true hx2)] at this
      cases this
    rw [e2] at q
    exact q
/-! draws -/
structure LnOk (m : Nat) (l : List Pr) : Prop where
  ne : 1 ≤ l.length
  le : l.length ≤ m
  inn : In m l
  nd : (crs l).Nodup
  z : (lD l 0).2 = 0
  t : ∀ p ∈ l, 0 ≤ p.2 ∧ p.2 < 30
theorem m_draw_line {m : Nat} {Q : U → Prop} (hm : 1 ≤ m ∧ m ≤ 1000) (q : ∀ l, LnOk m l → Q (prsU l)) : vf__law_draw_line [.src, .int (m : Nat)] Q := by
  simp [v__law_draw_line]
  refine ⟨by omega, by simp [rngU]; omega, fun ys hys => ⟨by omega, fun v hv1 hv2 => ?_⟩⟩
  have hv : 0 ≤ v ∧ v < m := by
    by_cases h : (m : Int) < 2
    · have := hv1 h; omega
    · exact hv2 (by omega)
  rw [rng0I] at hys
  obtain ⟨zs, rfl, hz⟩ := perm_map hys rfl
  have hzl : zs.length = m := by have := hz.length_eq; rw [rngI_len] at this; exact this
  have hc : cutU (zs.map U.int) none (some (1 + v)) = (zs.take (v.toNat + 1)).map U.int := by
    have e : (1 + v) = ((v.toNat + 1 : Nat) : Int) := by omega
    rw [e, cut_to, List.map_take]
  rw [hc]
  have hcl : (zs.take (v.toNat + 1)).length = v.toNat + 1 := by simp; omega
  have hnd : (zs.take (v.toNat + 1)).Nodup := by
    have h1 : (rngI m).Nodup := by
      unfold rngI
      rw [List.nodup_iff_pairwise_ne, List.pairwise_map]
      exact List.pairwise_lt_range.imp fun h => by omega
    exact (hz.nodup_iff.mpr h1).sublist (List.take_sublist _ _)
  generalize hcs : zs.take (v.toNat + 1) = cs at *
  have hcm : ∀ c ∈ cs, 0 ≤ c ∧ c < (m : Int) := fun c hc => by
    have h1 := List.mem_of_mem_take (by rw [hcs]; exact hc : c ∈ zs.take (v.toNat + 1))
    exact rngI_mem.mp (hz.mem_iff.mp h1)
  refine vLc_any (enc := fun k : Nat => .tup [nU k, .int (cs.getD k 0)]) (P := fun k y => ∃ t : Int, y = prU (cs.getD k 0, t) ∧ (k = 0 → t = 0) ∧ 0 ≤ t ∧ t < 30) (List.range cs.length) (fun K hK => ?_) (fun k hk N hN => ?_) (by simp; omega) (fun us hus => ?_)
  · simp
    have e := enU_map (f := U.int) (d := 0) cs
    rw [e]
    exact hK
  · simp [nU]
    by_cases z : k = 0
    · simp [z]
      refine hN _ ⟨0, ?_, by simp, by simp, by simp⟩
      simp [prU, z]
    · have : ¬ (k : Int) = 0 := by omega
      simp [this, z]
      intro v' h1 h2
      refine hN _ ⟨v', ?_, fun h => absurd h z, h1, h2⟩
      simp [prU]
  · have hus2 : AllP (fun k y => ∃ p : Pr, y = prU p ∧ (p.1 = cs.getD k 0 ∧ (k = 0 → p.2 = 0) ∧ 0 ≤ p.2 ∧ p.2 < 30)) (List.range cs.length) us := hus.mono fun k y _ ⟨t, e, h⟩ => ⟨(cs.getD k 0, t), e, rfl, h⟩
    obtain ⟨l, rfl, hl⟩ := hus2.dec
    simp
    have hll : l.length = cs.length := by have := hl.len; simpa using this
    have hcr : crs l = cs := by
      have h3 : AllP (fun k p => p = cs.getD k 0) (List.range cs.length) (crs l) := by
        unfold crs
        clear q hcs hll hus hus2
        generalize List.range cs.length = ks at hl
        induction hl with
        | nil => exact .nil
        | cons h _ ih => exact .cons h.1 ih
      rw [h3.eq_map]
      apply List.ext_getElem?
      intro i
      by_cases hi : i < cs.length
      · simp [hi, List.getD_eq_getElem?_getD]
      · rw [List.getElem?_eq_none (by simp; omega), List.getElem?_eq_none (by omega)]
    refine q l ⟨by omega, by omega, fun p hp => ?_, by rw [hcr]; exact hnd, ?_, fun p hp => ?_⟩
    · exact hcm _ (by rw [← hcr]; exact List.mem_map.mpr ⟨p, hp, rfl⟩)
    · have hr : List.range cs.length = 0 :: (List.range (cs.length - 1)).map (· + 1) := by
        rw [← List.range_succ_eq_map, show cs.length - 1 + 1 = cs.length by omega]
      rw [hr] at hl
      cases hl with
      | cons h _ => exact h.2.1 rfl
    · obtain ⟨_, _, h⟩ := hl.mem p hp
      exact h.2.2
structure GrOk (k L : Nat) (g : List Pr) : Prop where
  len : g.length = k
  b : ∀ p ∈ g, 0 ≤ p.2 ∧ p.2 ≤ (L : Int)
theorem m_draw_greens {k L : Nat} {Q : U → Prop} (hk : k ≤ 1000) (hL : 1 ≤ L ∧ L ≤ 1000) (q : ∀ g, GrOk k L g → Q (prsU g)) : vf__law_draw_greens [.src, .int (k : Nat), .int (L : Nat)] Q := by
  simp [v__law_draw_greens]
  refine vLc_any (enc := nU) (P := fun _ y => ∃ p : Pr, y = prU p ∧ (0 ≤ p.2 ∧ p.2 ≤ (L : Int))) (List.range k) (fun K hK => ?_) (fun j hj N hN => ?_) (by simp; omega) (fun us hus => ?_)
  · simp [rng0]
    exact ⟨by omega, hK⟩
  · simp [nU]
    have c4 : CMul 4 (L : Int) ∨ CMulW 4 (L : Int) := .inl (by unfold CMul; omega)
    have c2 : CMul 2 (L : Int) ∨ CMulW 2 (L : Int) := .inl (by unfold CMul; omega)
    refine ⟨c4, by omega, fun v h1 h2 => ⟨c2, by omega, fun w h3 h4 => ?_⟩⟩
    refine hN _ ⟨(v - 2 * L, w), rfl, ?_⟩
    show 0 ≤ w ∧ w ≤ (L : Int)
    have := h4 (by omega)
    omega
  · obtain ⟨g, rfl, hg⟩ := hus.dec
    simp
    refine q g ⟨by have := hg.len; simpa using this, fun p hp => ?_⟩
    obtain ⟨_, _, h⟩ := hg.mem p hp
    exact h
end KB
/-! Wb7: all offsets in order. -/
namespace KB
open PySem PySem.Spec PyProof.Rows L2 DL VL A30
theorem lt_snoc1 : ∀ (o : List Int) {t t' : Int}, t < t' → o ++ [t] < o ++ [t']
  | [], _, _, h => List.cons_lt_cons_iff.mpr (.inl h)
  | a :: o, _, _, h => List.cons_lt_cons_iff.mpr (.inr ⟨rfl, lt_snoc1 o h⟩)
theorem lt_snoc2 : ∀ {o o' : List Int} {t t' : Int}, o.length = o'.length → o < o' → o ++ [t] < o' ++ [t']
  | [], [], _, _, _, h => absurd h (List.lt_irrefl _)
  | a :: o, b :: o', _, _, e, h => by
    rcases List.cons_lt_cons_iff.mp h with h2 | ⟨h2, h3⟩
    · exact List.cons_lt_cons_iff.mpr (.inl h2)
    · exact List.cons_lt_cons_iff.mpr (.inr ⟨h2, lt_snoc2 (by simpa using e) h3⟩)
theorem prod_lt {tk : Nat → List Int} (h : ∀ k, (tk k).Pairwise (· < ·)) : ∀ m, (prodF tk m).Pairwise (· < ·)
  | 0 => by simp [prodF]
  | m + 1 => by
    unfold prodF
    rw [List.pairwise_flatMap]
    refine ⟨fun o ho => ?_, ?_⟩
    · rw [List.pairwise_map]
      exact (h m).imp fun z => lt_snoc1 o z
    · refine (prod_lt h m).imp_of_mem fun {o o'} h1 h2 z x hx y hy => ?_
      obtain ⟨t, _, rfl⟩ := List.mem_map.mp hx
      obtain ⟨t', _, rfl⟩ := List.mem_map.mp hy
      exact lt_snoc2 (by rw [prod_each h1, prod_each h2]) z
theorem getD_snoc {o : List Int} {t : Int} {c : Nat} : (o ++ [t]).getD c 0 = if c = o.length then t else o.getD c 0 := by
  simp only [List.getD_eq_getElem?_getD]
  by_cases h : c < o.length
  · rw [List.getElem?_append_left h, if_neg (by omega)]
  · by_cases h2 : c = o.length
    · subst h2; simp
    · rw [if_neg h2, List.getElem?_append_right (by omega), List.getElem?_eq_none (by simp; omega), List.getElem?_eq_none (by omega)]
theorem prod_mem {tk : Nat → List Int} : ∀ {m : Nat} {x : List Int}, x ∈ prodF tk m ↔ x.length = m ∧ ∀ c, c < m → x.getD c 0 ∈ tk c
  | 0, x => by
    simp [prodF]
  | m + 1, x => by
    unfold prodF
    rw [List.mem_flatMap]
    constructor
    · rintro ⟨o, ho, hx⟩
      obtain ⟨t, ht, rfl⟩ := List.mem_map.mp hx
      obtain ⟨h1, h2⟩ := prod_mem.mp ho
      refine ⟨by simp [h1], fun c hc => ?_⟩
      rw [getD_snoc, h1]
      by_cases z : c = m
      · subst z; simpa using ht
      · rw [if_neg z]; exact h2 c (by omega)
    · rintro ⟨h1, h2⟩
      have e : x = x.take m ++ [x.getD m 0] := by
        have h3 : x[m]? = some (x.getD m 0) := by rw [List.getD_eq_getElem?_getD, List.getElem?_eq_getElem (by omega)]; rfl
        have h4 := List.take_succ (l := x) (i := m)
        rw [h3, List.take_of_length_le (by omega)] at h4
        exact h4
      have hl : (x.take m).length = m := by simp; omega
      refine ⟨x.take m, prod_mem.mpr ⟨hl, fun c hc => ?_⟩, List.mem_map.mpr ⟨x.getD m 0, h2 m (by omega), e.symm⟩⟩
      have := h2 c (by omega)
      rw [e, getD_snoc, hl, if_neg (by omega)] at this
      exact this
theorem rngI_lt {L : Nat} : (rngI L).Pairwise (· < ·) := by
  unfold rngI
  rw [List.pairwise_map]
  exact List.pairwise_lt_range.imp fun h => by omega
theorem freeK_lt {free : List Int} {L c : Nat} : (freeK free L c).Pairwise (· < ·) := by
  unfold freeK
  split
  · exact rngI_lt
  · simp
theorem allF_lt {m : Nat} {free : List Int} {L : Nat} : (allF m free L).Pairwise (· < ·) := prod_lt (fun _ => freeK_lt) m
theorem gz_nat {l : List Int} {c : Nat} : gz l (c : Nat) = l.getD c 0 := by simp [gz]
theorem allF_mem {m : Nat} {free : List Int} {L : Nat} {x : List Int} : x ∈ allF m free L ↔ x.length = m ∧ ∀ c : Int, 0 ≤ c → c < m → (c ∈ free → 0 ≤ gz x c ∧ gz x c < L) ∧ (c ∉ free → gz x c = 0) := by
  unfold allF
  rw [prod_mem]
  refine and_congr_right fun _ => ⟨fun h c h0 h1 => ?_, fun h c hc => ?_⟩
  · have := h c.toNat (by omega)
    have e : ((c.toNat : Nat) : Int) = c := by omega
    unfold freeK at this
    rw [e] at this
    refine ⟨fun z => ?_, fun z => ?_⟩
    · rw [if_pos z] at this
      exact rngI_mem.mp this
    · rw [if_neg z] at this
      exact List.mem_singleton.mp this
  · obtain ⟨h1, h2⟩ := h c (by omega) (by omega)
    unfold freeK
    rw [gz_nat] at h1 h2
    split
    · rename_i z; exact rngI_mem.mpr (h1 z)
    · rename_i z; simpa using h2 z
theorem rowsF_mem {k L : Nat} {x : List Int} : x ∈ rowsF k L ↔ x.length = k ∧ ∀ t ∈ x, 0 ≤ t ∧ t < (L : Int) := by
  unfold rowsF
  rw [prod_mem]
  refine and_congr_right fun hl => ⟨fun h t ht => ?_, fun h c hc => ?_⟩
  · obtain ⟨i, hi, rfl⟩ := List.getElem_of_mem ht
    have := rngI_mem.mp (h i (by omega))
    rw [List.getD_eq_getElem?_getD, List.getElem?_eq_getElem hi] at this
    exact this
  · rw [List.getD_eq_getElem?_getD, List.getElem?_eq_getElem (by omega)]
    exact rngI_mem.mpr (h _ (List.getElem_mem _))
theorem ext_z {n : Nat} {l l' : List Int} (h : l.length = n) (h' : l'.length = n) (e : ∀ q : Int, 0 ≤ q → q < n → gz l q = gz l' q) : l = l' := by
  apply List.ext_getElem?
  intro i
  by_cases hi : i < n
  · have h1 := gz_some (l := l) (i := i) (by omega) (by omega)
    have h2 := gz_some (l := l') (i := i) (by omega) (by omega)
    rw [Int.toNat_natCast] at h1 h2
    rw [h1, h2, e i (by omega) (by omega)]
  · rw [List.getElem?_eq_none (by omega), List.getElem?_eq_none (by omega)]
/-- what a row puts -/
def puts (d : List Pr) (row : List Int) : List Pr := (d.zip row).map fun p => (p.1.1, p.2)
theorem puts_crs : ∀ {d : List Pr} {row : List Int}, row.length = d.length → crs (puts d row) = crs d
  | [], _, _ => by simp [puts, crs]
  | a :: d, [], h => by simp at h
  | a :: d, t :: row, h => by
    have := puts_crs (d := d) (row := row) (by simpa using h)
    simp only [puts, crs, List.zip_cons_cons, List.map_cons] at this ⊢
    rw [this]
theorem puts_val {d : List Pr} {row : List Int} {p : Pr} (h : p ∈ puts d row) : p.2 ∈ row := by
  obtain ⟨q, hq, rfl⟩ := List.mem_map.mp h
  exact (List.of_mem_zip hq).2
theorem In.drop {m : Nat} {l : List Pr} (h : In m l) (k : Nat) : In m (l.drop k) := fun p hp => h p (List.mem_of_mem_drop hp)
theorem In.of_crs {m : Nat} {l l' : List Pr} (h : In m l) (e : crs l' = crs l) : In m l' := fun p hp => by
  have : p.1 ∈ crs l := by rw [← e]; exact List.mem_map.mpr ⟨p, hp, rfl⟩
  obtain ⟨q, hq, e2⟩ := List.mem_map.mp this
  rw [← e2]; exact h q hq
section
variable {m L : Nat} {d : List Pr} {row : List Int}
theorem off_in (hi : In m d) (hn : (crs d).Nodup) (hr : row.length = d.length) {p : Pr} (hp : p ∈ puts d row) : gz (putA (puts d row) (zeros m)) p.1 = p.2 :=
  putA_in _ _ (by simp [zeros]) (hi.of_crs (puts_crs hr)) (by rw [puts_crs hr]; exact hn) hp
theorem off_out (hi : In m d) (hr : row.length = d.length) {c : Int} (h0 : 0 ≤ c) (h : c ∉ crs d) : gz (putA (puts d row) (zeros m)) c = 0 := by
  rw [putA_out _ _ (m := m) (by simp [zeros]) (hi.of_crs (puts_crs hr)) h0 (by rw [puts_crs hr]; exact h), gz_zeros]
theorem off_back (hi : In m d) (hn : (crs d).Nodup) (hr : row.length = d.length) : (crs d).map (gz (putA (puts d row) (zeros m))) = row := by
  have h : ∀ (ps : List Pr), (∀ p ∈ ps, p ∈ puts d row) → (crs ps).map (gz (putA (puts d row) (zeros m))) = ps.map (·.2) := by
    intro ps hps
    simp only [crs, List.map_map]
    refine List.map_congr_left fun p hp => ?_
    exact off_in hi hn hr (hps p hp)
  rw [← puts_crs hr, h _ fun p hp => hp]
  clear h hn hi
  induction d generalizing row with
  | nil => simp at hr; simp [puts, hr]
  | cons a d ih =>
    cases row with
    | nil => simp at hr
    | cons t row =>
      have := ih (row := row) (by simpa using hr)
      simp only [puts, List.zip_cons_cons, List.map_cons] at this ⊢
      rw [this]
theorem off_mem (hi : In m d) (hn : (crs d).Nodup) (hr : row ∈ rowsF d.length L) : putA (puts d row) (zeros m) ∈ allF m (crs d) L := by
  obtain ⟨h1, h2⟩ := rowsF_mem.mp hr
  refine allF_mem.mpr ⟨by rw [putA_len]; simp [zeros], fun c h0 hc => ⟨fun z => ?_, fun z => off_out hi h1 h0 z⟩⟩
  rw [← puts_crs h1] at z
  obtain ⟨p, hp, rfl⟩ := List.mem_map.mp z
  rw [off_in hi hn h1 hp]
  exact h2 _ (puts_val hp)
theorem off_ex (hi : In m d) (hn : (crs d).Nodup) {x : List Int} (hx : x ∈ allF m (crs d) L) : ∃ row ∈ rowsF d.length L, putA (puts d row) (zeros m) = x := by
  obtain ⟨h1, h2⟩ := allF_mem.mp hx
  have hl : ((crs d).map (gz x)).length = d.length := by simp [crs]
  refine ⟨(crs d).map (gz x), rowsF_mem.mpr ⟨hl, fun t ht => ?_⟩, ?_⟩
  · obtain ⟨c, hc, rfl⟩ := List.mem_map.mp ht
    obtain ⟨p, hp, rfl⟩ := List.mem_map.mp hc
    obtain ⟨h3, h4⟩ := hi p hp
    exact (h2 p.1 h3 h4).1 hc
  · have hpe : puts d ((crs d).map (gz x)) = d.map fun p => (p.1, gz x p.1) := by
      clear hi hn hx h2 hl
      induction d with
      | nil => simp [puts]
      | cons a d ih => simp only [puts, crs, List.map_cons, List.zip_cons_cons] at ih ⊢; rw [ih]
    refine ext_z (n := m) (by rw [putA_len]; simp [zeros]) h1 fun c h0 hc => ?_
    by_cases z : c ∈ crs d
    · obtain ⟨p, hp, rfl⟩ := List.mem_map.mp z
      have := off_in (m := m) (p := (p.1, gz x p.1)) hi hn hl (by rw [hpe]; exact List.mem_map.mpr ⟨p, hp, rfl⟩)
      exact this
    · rw [off_out hi hl h0 z, (h2 c h0 hc).2 z]
end
theorem perm_of {α : Type} [DecidableEq α] {l l' : List α} (h : l.Nodup) (h' : l'.Nodup) (e : ∀ x, x ∈ l ↔ x ∈ l') : l.Perm l' := by
  rw [List.perm_iff_count]
  intro a
  rw [h.count, h'.count]
  simp only [e]
theorem nodup_of_lt {l : List (List Int)} (h : l.Pairwise (· < ·)) : l.Nodup := h.imp fun {a b} z e => by subst e; exact List.lt_irrefl _ z
theorem offs_sorted {m L : Nat} {l : List Pr} (hi : In m l) (hn : (crs l).Nodup) (hl : 1 ≤ l.length) : ((rowsF (l.length - 1) L).map (offR m l)).mergeSort leL = allF m (crs (l.drop 1)) L := by
  have hd : (l.drop 1).length = l.length - 1 := by simp
  have hi' : In m (l.drop 1) := hi.drop 1
  have hn' : (crs (l.drop 1)).Nodup := by
    have : crs (l.drop 1) = (crs l).drop 1 := by simp [crs, List.map_drop]
    rw [this]; exact hn.sublist (List.drop_sublist _ _)
  have ho : offR m l = fun row => putA (puts (l.drop 1) row) (zeros m) := rfl
  have nd : ((rowsF (l.length - 1) L).map (offR m l)).Nodup := by
    have h1 : (rowsF (l.length - 1) L).Pairwise (· < ·) := prod_lt (fun _ => rngI_lt) _
    rw [List.nodup_iff_pairwise_ne, List.pairwise_map]
    refine h1.imp_of_mem fun {a b} ha hb z e => ?_
    rw [← hd] at ha hb
    have e1 := off_back (m := m) hi' hn' (rowsF_mem.mp ha).1
    have e2 := off_back (m := m) hi' hn' (rowsF_mem.mp hb).1
    rw [ho] at e
    simp only at e
    rw [e] at e1
    rw [e1] at e2
    subst e2
    exact List.lt_irrefl _ z
  have pm : ((rowsF (l.length - 1) L).map (offR m l)).Perm (allF m (crs (l.drop 1)) L) := by
    refine perm_of nd (nodup_of_lt allF_lt) fun x => ⟨fun h => ?_, fun h => ?_⟩
    · obtain ⟨row, hr, rfl⟩ := List.mem_map.mp h
      rw [← hd] at hr
      exact off_mem hi' hn' hr
    · obtain ⟨row, hr, rfl⟩ := off_ex hi' hn' h
      rw [hd] at hr
      exact List.mem_map.mpr ⟨row, hr, rfl⟩
  refine List.Perm.eq_of_pairwise (le := fun a b : List Int => a ≤ b) (fun a b _ _ h1 h2 => List.le_antisymm h1 h2) ?_ (allF_lt.imp fun h => List.le_of_lt h) ((List.mergeSort_perm _ _).trans pm)
  have := List.pairwise_mergeSort (le := leL) (fun a b c h1 h2 => decide_eq_true (List.le_trans (of_decide_eq_true h1) (of_decide_eq_true h2))) (fun a b => by
    rcases List.le_total a b with h | h
    · simp [leL, h]
    · simp [leL, h]) ((rowsF (l.length - 1) L).map (offR m l))
  exact this.imp fun h => of_decide_eq_true h
end KB
/-! Wb8: how many starts. -/
namespace KB
open PySem PySem.Spec PyProof.Rows L2 DL VL A30
def cnt (P : Int → Bool) (L : Nat) : Nat := ((List.range L).filter fun s => P (s : Nat)).length
theorem cnt_shift1 {P : Int → Bool} {L : Nat} (h : ∀ x, P (x + L) = P x) : cnt (fun x => P (x + 1)) L = cnt P L := by
  have h1 : ((List.range (L + 1)).filter fun s : Nat => P (s : Nat)).length = cnt P L + (if P 0 then 1 else 0) := by
    rw [List.range_succ, List.filter_append, List.length_append]
    have := h 0
    rw [Int.zero_add] at this
    unfold cnt
    congr 1
    simp only [List.filter_cons, List.filter_nil, this]
    cases P 0 <;> rfl
  have h2 : ((List.range (L + 1)).filter fun s : Nat => P (s : Nat)).length = cnt (fun x => P (x + 1)) L + (if P 0 then 1 else 0) := by
    rw [List.range_succ_eq_map, List.filter_cons, List.filter_map, Function.comp_def]
    unfold cnt
    simp only [Int.natCast_succ]
    cases h0 : P ((0 : Nat) : Int) <;> simp at h0 <;> simp [h0]
  omega
theorem cnt_shift {P : Int → Bool} {L : Nat} (h : ∀ x, P (x + L) = P x) : ∀ c : Nat, cnt (fun x => P (x + c)) L = cnt P L
  | 0 => by simp
  | c + 1 => by
    rw [← cnt_shift h c, ← cnt_shift1 (P := fun x => P (x + c)) (fun x => by
      have := h (x + c)
      rw [show x + (L : Int) + c = x + c + L by omega]; exact this)]
    unfold cnt
    congr 2
    funext s
    show P ((s : Int) + ((c + 1 : Nat) : Int)) = P ((s : Int) + 1 + (c : Int))
    congr 1
    omega
theorem cnt_lt {g : Int} (h0 : 0 ≤ g) : ∀ {L : Nat}, ((List.range L).filter fun s => decide (((s : Nat) : Int) < g)).length = min L g.toNat
  | 0 => by simp
  | L + 1 => by
    rw [List.range_succ, List.filter_append, List.length_append, cnt_lt h0]
    by_cases z : (L : Int) < g
    · simp [List.filter_cons, z]; omega
    · simp [List.filter_cons, z]; omega
theorem mod_per {x c L : Int} : (x % L + c) % L = (x + c) % L := by
  rw [Int.emod_add_emod]
theorem cnt_mod {L : Nat} {c g : Int} (hL : 0 < L) (h0 : 0 ≤ g) (h1 : g ≤ L) : cnt (fun x => decide ((x + c) % (L : Int) < g)) L = g.toNat := by
  have hc : ∀ x : Int, (x + c) % (L : Int) = (x + ((c % L).toNat : Nat)) % (L : Int) := by
    intro x
    have : (((c % (L : Int)).toNat : Nat) : Int) = c % L := by have := Int.emod_nonneg c (show (L : Int) ≠ 0 by omega); omega
    rw [this, Int.add_emod_emod]
  have e : cnt (fun x => decide ((x + c) % (L : Int) < g)) L = cnt (fun x => decide ((x + ((c % L).toNat : Nat)) % (L : Int) < g)) L := by
    unfold cnt
    congr 2
    funext s
    simp only [hc]
  rw [e, cnt_shift (P := fun x => decide (x % (L : Int) < g)) (fun x => by simp) (c % L).toNat]
  have e2 : cnt (fun x => decide (x % (L : Int) < g)) L = ((List.range L).filter fun s => decide (((s : Nat) : Int) < g)).length := by
    unfold cnt
    congr 1
    refine List.filter_congr fun s hs => ?_
    have := List.mem_range.mp hs
    show decide (((s : Nat) : Int) % (L : Int) < g) = _
    rw [Int.emod_eq_of_lt (by omega) (by omega)]
  rw [e2, cnt_lt h0]
  omega
/-- ticks of the way, from 0 -/
def wayT (l : List Pr) (k : Nat) : Int := (tks l 0).getD k 0
theorem tks_add : ∀ (l : List Pr) (s c : Int), tks l (s + c) = (tks l c).map (s + ·)
  | [], _, _ => rfl
  | p :: l, s, c => by
    have := tks_add l s (c + p.2)
    simp only [tks, List.map_cons]
    rw [← this, Int.add_assoc]
theorem tks_at {l : List Pr} {s : Int} {k : Nat} (h : k < l.length) : (tks l s)[k]? = some (s + wayT l k) := by
  have h1 := tks_add l s 0
  rw [Int.add_zero] at h1
  have h2 : (tks l 0)[k]? = some (wayT l k) := by
    rw [wayT, List.getD_eq_getElem?_getD, List.getElem?_eq_getElem (by rw [tks_len]; exact h)]; rfl
  rw [h1, List.getElem?_map, h2]
  rfl
theorem way0 {l : List Pr} (h : 1 ≤ l.length) (hz : (lD l 0).2 = 0) : wayT l 0 = 0 := by
  cases l with
  | nil => simp at h
  | cons p l => simp [lD] at hz; simp [wayT, tks, hz]
section
variable {l g : List Pr} {offs : List Int} {s : Int} {L : Int}
theorem trs_at (hg : g.length = l.length) {k : Nat} (h : k < l.length) : (trs l g s)[k]? = some (lD l k, lD g k, s + wayT l k) := by
  unfold trs
  exact List.getElem?_zip_eq_some.mpr ⟨lD_at h, List.getElem?_zip_eq_some.mpr ⟨lD_at (by omega), tks_at h⟩⟩
theorem trs_len (hg : g.length = l.length) : (trs l g s).length = l.length := by
  simp [trs, tks_len, hg]
def phs (l g : List Pr) (offs : List Int) (k : Nat) : Int := wayT l k - gz offs (lD l k).1 - (lD g k).1
theorem passB_iff (hg : g.length = l.length) : passB l g L offs s = true ↔ ∀ k, k < l.length → (s + phs l g offs k) % L < (lD g k).2 := by
  unfold passB
  rw [List.all_eq_true]
  constructor
  · intro h k hk
    have := h _ (List.mem_of_getElem? (trs_at (s := s) hg hk))
    have := of_decide_eq_true this
    simp only at this
    rw [show s + phs l g offs k = s + wayT l k - gz offs (lD l k).1 - (lD g k).1 by unfold phs; omega]
    exact this
  · intro h x hx
    obtain ⟨k, hk, rfl⟩ := List.getElem_of_mem hx
    have hk2 : k < l.length := by rw [trs_len hg] at hk; exact hk
    have e := trs_at (s := s) hg hk2
    rw [List.getElem?_eq_getElem hk] at e
    rw [Option.some.inj e]
    refine decide_eq_true ?_
    have := h k hk2
    rw [show s + phs l g offs k = s + wayT l k - gz offs (lD l k).1 - (lD g k).1 by unfold phs; omega] at this
    exact this
theorem passB_mod (hg : g.length = l.length) : passB l g L offs (s % L) = passB l g L offs s := by
  rw [Bool.eq_iff_iff, passB_iff hg, passB_iff hg]
  simp only [mod_per]
end
theorem filter_le {α : Type} {p q : α → Bool} : ∀ {l : List α}, (∀ x ∈ l, p x = true → q x = true) → (l.filter p).length ≤ (l.filter q).length
  | [], _ => by simp
  | a :: l, h => by
    have ih := filter_le (l := l) fun x hx => h x (by simp [hx])
    have := h a (by simp)
    simp only [List.filter_cons]
    cases hp : p a
    · cases q a <;> simp <;> omega
    · rw [this hp]; simpa using ih
theorem filter_eq {α : Type} {p q : α → Bool} : ∀ {l : List α}, (∀ x ∈ l, p x = true → q x = true) → (l.filter p).length = (l.filter q).length → ∀ x ∈ l, q x = true → p x = true
  | [], _, _, x, hx, _ => by cases hx
  | a :: l, h, e, x, hx, hq => by
    have ih := filter_le (l := l) fun x hx => h x (by simp [hx])
    have ha := h a (by simp)
    simp only [List.filter_cons] at e
    cases hp : p a
    · cases hqa : q a
      · rw [hp, hqa] at e
        rcases List.mem_cons.mp hx with z | z
        · subst z; rw [hqa] at hq; cases hq
        · exact filter_eq (fun x hx => h x (by simp [hx])) (by simpa using e) x z hq
      · rw [hp, hqa] at e
        simp at e
        omega
    · rw [hp, ha hp] at e
      rcases List.mem_cons.mp hx with z | z
      · subst z; exact hp
      · exact filter_eq (fun x hx => h x (by simp [hx])) (by simpa using e) x z hq
section
variable {l g : List Pr} {offs : List Int} {L : Nat} {m : Nat}
/-- no greater band than any green -/
theorem band_le (hL : 0 < L) (hg : GrOk l.length L g) {k : Nat} (hk : k < l.length) : (((bandN l g L offs).length : Nat) : Int) ≤ (lD g k).2 := by
  obtain ⟨h0, h1⟩ := hg.b _ (lD_mem (l := g) (k := k) (by rw [hg.len]; exact hk))
  have h2 := filter_le (l := List.range L) (p := fun s => passB l g L offs (s : Nat)) (q := fun s => decide (((s : Nat) + phs l g offs k) % (L : Int) < (lD g k).2)) fun s _ hp => decide_eq_true ((passB_iff hg.len).mp hp k hk)
  have h3 := cnt_mod (c := phs l g offs k) hL h0 h1
  unfold cnt at h3
  rw [h3] at h2
  unfold bandN
  omega
theorem lens_ex (hg : g.length = l.length) (hl : 1 ≤ l.length) : ∃ k, k < l.length ∧ (lD g k).2 = mn (lens g) := by
  have hne : lens g ≠ [] := fun z => by have := congrArg List.length z; simp [lens] at this; subst this; simp at hg; omega
  obtain ⟨p, hp, e⟩ := List.mem_map.mp (mn_mem hne)
  obtain ⟨k, hk, rfl⟩ := List.getElem_of_mem hp
  refine ⟨k, by omega, ?_⟩
  have := lD_at hk
  rw [List.getElem?_eq_getElem hk] at this
  rw [← Option.some.inj this]
  exact e
theorem band_le_mn (hL : 0 < L) (hg : GrOk l.length L g) (hl : 1 ≤ l.length) : (((bandN l g L offs).length : Nat) : Int) ≤ mn (lens g) := by
  obtain ⟨k, hk, e⟩ := lens_ex hg.len hl
  rw [← e]
  exact band_le hL hg hk
theorem mn_bd (hg : GrOk l.length L g) (hl : 1 ≤ l.length) : 0 ≤ mn (lens g) ∧ mn (lens g) ≤ L := by
  obtain ⟨k, hk, e⟩ := lens_ex hg.len hl
  rw [← e]
  exact hg.b _ (lD_mem (by rw [hg.len]; exact hk))
theorem mn_lt (hg : g.length = l.length) (hl : 1 ≤ l.length) (x : Int) : (∀ k, k < l.length → x < (lD g k).2) ↔ x < mn (lens g) := by
  constructor
  · intro h
    obtain ⟨k, hk, e⟩ := lens_ex hg hl
    rw [← e]; exact h k hk
  · intro h k hk
    have : mn (lens g) ≤ (lD g k).2 := mn_le (List.mem_map.mpr ⟨_, lD_mem (by omega), rfl⟩)
    omega
/-- what is told of a line -/
theorem told_gz (hi : In m l) (hn : (crs l).Nodup) {k : Nat} (hk : k < l.length) : gz (told m l g L) (lD l k).1 = ((lD g 0).1 + wayT l k - (lD g k).1) % (L : Int) := by
  have hc : crs (tolds l g L) = crs l := by
    apply List.ext_getElem?
    intro i
    by_cases hi : i < l.length
    · simp [crs, tolds, hi, lD, List.getD_eq_getElem?_getD]
    · rw [List.getElem?_eq_none (by simp [crs, tolds]; omega), List.getElem?_eq_none (by simp [crs]; omega)]
  have hp : ((lD l k).1, ((tks l (lD g 0).1).getD k 0 - (lD g k).1) % (L : Int)) ∈ tolds l g L := List.mem_map.mpr ⟨k, by simpa using hk, rfl⟩
  have := putA_in (tolds l g L) (zeros m) (m := m) (by simp [zeros]) (hi.of_crs hc) (by rw [hc]; exact hn) hp
  simp only at this
  unfold told
  rw [this]
  rw [List.getD_eq_getElem?_getD, tks_at hk]
  rfl
theorem told_out (hi : In m l) (hn : (crs l).Nodup) {c : Int} (h0 : 0 ≤ c) (h : c ∉ crs l) : gz (told m l g L) c = 0 := by
  have hc : crs (tolds l g L) = crs l := by
    apply List.ext_getElem?
    intro i
    by_cases hi : i < l.length
    · simp [crs, tolds, hi, lD, List.getD_eq_getElem?_getD]
    · rw [List.getElem?_eq_none (by simp [crs, tolds]; omega), List.getElem?_eq_none (by simp [crs]; omega)]
  unfold told
  rw [putA_out _ _ (m := m) (by simp [zeros]) (hi.of_crs hc) h0 (by rw [hc]; exact h), gz_zeros]
theorem sub_mod {a x L : Int} : (a - x % L) % L = (a - x) % L := by
  rw [Int.sub_emod, Int.emod_emod, ← Int.sub_emod]
theorem told_pass (hi : In m l) (hn : (crs l).Nodup) (hg : g.length = l.length) (hl : 1 ≤ l.length) {s : Int} : passB l g L (told m l g L) s = decide ((s + -(lD g 0).1) % (L : Int) < mn (lens g)) := by
  rw [Bool.eq_iff_iff, passB_iff hg, decide_eq_true_iff, ← mn_lt hg hl]
  refine forall_congr' fun k => forall_congr' fun hk => ?_
  have e : (s + phs l g (told m l g L) k) % (L : Int) = (s + -(lD g 0).1) % (L : Int) := by
    unfold phs
    rw [told_gz hi hn hk]
    have := sub_mod (a := s + wayT l k - (lD g k).1) (x := (lD g 0).1 + wayT l k - (lD g k).1) (L := (L : Int))
    rw [show s + (wayT l k - ((lD g 0).1 + wayT l k - (lD g k).1) % (L : Int) - (lD g k).1) = s + wayT l k - (lD g k).1 - ((lD g 0).1 + wayT l k - (lD g k).1) % (L : Int) by omega, this]
    congr 1
    omega
  rw [e]
theorem told_band (hL : 0 < L) (hi : In m l) (hn : (crs l).Nodup) (hg : GrOk l.length L g) (hl : 1 ≤ l.length) : (((bandN l g L (told m l g L)).length : Nat) : Int) = mn (lens g) := by
  obtain ⟨h0, h1⟩ := mn_bd hg hl
  have h2 := cnt_mod (c := -(lD g 0).1) hL h0 h1
  unfold cnt at h2
  unfold bandN
  simp only [told_pass hi hn hg.len hl]
  rw [h2]
  omega
end
/-- bands see only what is on the line -/
theorem passB_congr {l g : List Pr} {L s : Int} {o o' : List Int} (h : ∀ p ∈ l, gz o p.1 = gz o' p.1) : passB l g L o s = passB l g L o' s := by
  unfold passB
  rw [Bool.eq_iff_iff, List.all_eq_true, List.all_eq_true]
  refine forall_congr' fun x => forall_congr' fun hx => ?_
  unfold onB
  rw [h _ (trs_mem hx)]
theorem bandN_congr {l g : List Pr} {L : Nat} {o o' : List Int} (h : ∀ p ∈ l, gz o p.1 = gz o' p.1) : bandN l g L o = bandN l g L o' := by
  unfold bandN
  refine List.filter_congr fun s _ => passB_congr h
theorem back_mem {l : List Pr} {p : Pr} (h : p ∈ backL l) : ∃ q ∈ l, q.1 = p.1 := by
  simp only [backL, List.mem_map, List.mem_range] at h
  obtain ⟨k, hk, rfl⟩ := h
  exact ⟨_, lD_mem (show l.length - 1 - k < l.length by omega), rfl⟩
theorem bb_congr {l g b : List Pr} {L : Nat} {o o' : List Int} (h : ∀ p ∈ l, gz o p.1 = gz o' p.1) : bb l g b L o = bb l g b L o' := by
  have h2 : bandN (backL l) b L o = bandN (backL l) b L o' := bandN_congr fun p hp => by
    obtain ⟨q, hq, e⟩ := back_mem hp
    rw [← e]
    exact h q hq
  unfold bb
  rw [bandN_congr h, h2]
theorem gz_app {o z : List Int} {c : Int} (h0 : 0 ≤ c) (h : c < o.length) : gz (o ++ z) c = gz o c := by
  unfold gz
  rw [List.getD_eq_getElem?_getD, List.getD_eq_getElem?_getD, List.getElem?_append_left (by omega)]
theorem gz_take {o : List Int} {t : Nat} {c : Int} (h0 : 0 ≤ c) (h : c < t) : gz (o.take t) c = gz o c := by
  unfold gz
  rw [List.getD_eq_getElem?_getD, List.getD_eq_getElem?_getD, List.getElem?_take, if_pos (by omega)]
/-- however many crossings stand beside the line -/
theorem fullB_eq {m L : Nat} {l g b : List Pr} (hL : 0 < L) (hl : 1 ≤ l.length) (hi : In m l) : fullB l g b L = (allF m (crs (l.drop 1)) L).any fun o => decide (bb l g b L o = (mn (lens g), mn (lens b))) := by
  have hne : crs l ≠ [] := fun z => by have := congrArg List.length z; simp [crs] at this; subst this; simp at hl
  obtain ⟨p0, hp0, e0⟩ := List.mem_map.mp (mx_mem hne)
  obtain ⟨h0, h1⟩ := hi p0 hp0
  have e1 : p0.1 = mx (crs l) := e0
  have htc : ((topC l : Nat) : Int) = mx (crs l) + 1 := by unfold topC; omega
  have hit : In (topC l) l := fun p hp => by
    have := mx_ge (l := crs l) (List.mem_map.mpr ⟨p, hp, rfl⟩)
    exact ⟨(hi p hp).1, by omega⟩
  have htm : topC l ≤ m := by omega
  have hfr : ∀ c ∈ crs (l.drop 1), c < (topC l : Int) := fun c hc => by
    obtain ⟨p, hp, rfl⟩ := List.mem_map.mp hc
    exact (hit p (List.mem_of_mem_drop hp)).2
  unfold fullB
  rw [Bool.eq_iff_iff, List.any_eq_true, List.any_eq_true]
  constructor
  · rintro ⟨o, ho, hb⟩
    obtain ⟨a1, a2⟩ := allF_mem.mp ho
    refine ⟨o ++ zeros (m - topC l), allF_mem.mpr ⟨by simp [a1, zeros]; omega, fun c c0 c1 => ?_⟩, ?_⟩
    · by_cases z : c < (topC l : Int)
      · rw [gz_app c0 (by omega)]; exact a2 c c0 z
      · refine ⟨fun y => absurd (hfr c y) z, fun _ => ?_⟩
        unfold gz zeros
        rw [List.getD_eq_getElem?_getD, List.getElem?_append_right (by omega), List.getElem?_replicate]
        split <;> rfl
    · rw [bb_congr (o' := o) fun p hp => gz_app (hit p hp).1 (by rw [a1]; exact (hit p hp).2)]
      exact hb
  · rintro ⟨o, ho, hb⟩
    obtain ⟨a1, a2⟩ := allF_mem.mp ho
    refine ⟨o.take (topC l), allF_mem.mpr ⟨by simp [a1]; omega, fun c c0 c1 => ?_⟩, ?_⟩
    · rw [gz_take c0 c1]; exact a2 c c0 (by omega)
    · rw [bb_congr (o' := o) fun p hp => gz_take (hit p hp).1 (hit p hp).2]
      exact hb
end KB
namespace VL
open PySem PySem.Spec PyProof.Rows L2 DL A30
def f_wish_of : FS :=
    (sRet (fTup (fCons (fVar 0) (fCons (fVar 2) (fCons (fBin pSub (fBin pAdd (fVar 1) (fVar 4)) (fVar 3)) fNil)))))
def v_wish_of : VS :=
    (vRet (vTup (vaC (vVar 0) (vaC (vVar 2) (vaC (vBin gSub (vBin gAdd (vVar 1) (vVar 4)) (vVar 3)) vaN)))))
theorem vs_wish_of : SSt f_wish_of v_wish_of :=
    (ss_rt (SV.b (sv_tup (sa_c sv_var (sa_c sv_var (sa_c (sv_bin ov_ii (SV.b (sv_bin ov_add (SV.b sv_var) (SV.b sv_var))) (SV.b sv_var)) sa_n))))))
@[simp] def vf_wish_of : VF := fun us Q => match us with
  | [x0, x1, x2, x3, x4] => v_wish_of (RTv Q) [some (.val x0), some (.val x1), some (.val x2), some (.val x3), some (.val x4)]
  | _ => False
theorem vo_wish_of : ∀ us Q, vf_wish_of us Q → vFn 5 5 v_wish_of us Q := fun us Q h => by
  unfold vf_wish_of at h
  split at h
  · exact ⟨rfl, h⟩
  · exact h.elim
def f_is_kept : FS :=
    (sSeq (sAsg (fVar 0) (gTp 3 (gCn (gN 3) (gCn (gN 4) (gCn (gN 5) gNl)))))
    (sRet (fBin pEq (fBin pMod (fBin pSub (fBin pSub (fBin pSub' (fVar 2) (fVar 4)) (fBin pSub' (fVar 2) (fVar 3))) (fVar 5)) (fVar 1)) (fC (.int 0)))))
def v_is_kept : VS :=
    (vSeq (vAsg (vVar 0) (tTp 3 (tCn (tN 3) (tCn (tN 4) (tCn (tN 5) tNl)))))
    (vRet (vBin (gEq false) (vBin gMod (vBin gSub (vBin gSub (vBin gIx (vVar 2) (vVar 4)) (vBin gIx (vVar 2) (vVar 3))) (vVar 5)) (vVar 1)) (vC (.int 0)))))
theorem vs_is_kept : SSt f_is_kept v_is_kept :=
    (ss_seq (ss_as sv_var (sg_tp (sg_cn sg_n (sg_cn sg_n (sg_cn sg_n sg_nl)))))
    (ss_rt (SV.b (sv_bin ov_eq (SV.b (sv_bin ov_ic (SV.b (sv_bin ov_ii (SV.b (sv_bin ov_ii (SV.b (sv_bin ov_ix (SV.b sv_var) (SV.b sv_var))) (SV.b (sv_bin ov_ix (SV.b sv_var) (SV.b sv_var))))) (SV.b sv_var))) (SV.b sv_var))) (SV.b sv_int)))))
@[simp] def vf_is_kept : VF := fun us Q => match us with
  | [x0, x1, x2] => v_is_kept (RTv Q) [some (.val x0), some (.val x1), some (.val x2), none, none, none]
  | _ => False
theorem vo_is_kept : ∀ us Q, vf_is_kept us Q → vFn 3 6 v_is_kept us Q := fun us Q h => by
  unfold vf_is_kept at h
  split at h
  · exact ⟨rfl, h⟩
  · exact h.elim
def f_begin_of : FS :=
    (sSeq (sAsg (fVar 1) (gTp 2 (gCn (gN 2) (gCn (gN 3) gNl))))
    (sRet (fBin pSub' (fBin pSub' (fVar 0) (fVar 2)) (fIf (fB (fBin pEq (fVar 3) (fC (.int 1)))) (fC (.int 0)) (fC (.int 1))))))
def v_begin_of : VS :=
    (vSeq (vAsg (vVar 1) (tTp 2 (tCn (tN 2) (tCn (tN 3) tNl))))
    (vRet (vBin gIx (vBin gIx (vVar 0) (vVar 2)) (vIf (vB (vBin (gEq false) (vVar 3) (vC (.int 1)))) (vC (.int 0)) (vC (.int 1))))))
theorem vs_begin_of : SSt f_begin_of v_begin_of :=
    (ss_seq (ss_as sv_var (sg_tp (sg_cn sg_n (sg_cn sg_n sg_nl))))
    (ss_rt (SV.b (sv_bin ov_ix (SV.b (sv_bin ov_ix (SV.b sv_var) (SV.b sv_var))) (SV.b (sv_if (so_b (SV.b (sv_bin ov_eq (SV.b sv_var) (SV.b sv_int)))) sv_int sv_int))))))
@[simp] def vf_begin_of : VF := fun us Q => match us with
  | [x0, x1] => v_begin_of (RTv Q) [some (.val x0), some (.val x1), none, none]
  | _ => False
theorem vo_begin_of : ∀ us Q, vf_begin_of us Q → vFn 2 4 v_begin_of us Q := fun us Q h => by
  unfold vf_begin_of at h
  split at h
  · exact ⟨rfl, h⟩
  · exact h.elim
def f_end_of : FS :=
    (sSeq (sAsg (fVar 1) (gTp 2 (gCn (gN 2) (gCn (gN 3) gNl))))
    (sRet (fBin pSub' (fBin pSub' (fVar 0) (fVar 2)) (fIf (fB (fBin pEq (fVar 3) (fC (.int 1)))) (fC (.int 1)) (fC (.int 0))))))
def v_end_of : VS :=
    (vSeq (vAsg (vVar 1) (tTp 2 (tCn (tN 2) (tCn (tN 3) tNl))))
    (vRet (vBin gIx (vBin gIx (vVar 0) (vVar 2)) (vIf (vB (vBin (gEq false) (vVar 3) (vC (.int 1)))) (vC (.int 1)) (vC (.int 0))))))
theorem vs_end_of : SSt f_end_of v_end_of :=
    (ss_seq (ss_as sv_var (sg_tp (sg_cn sg_n (sg_cn sg_n sg_nl))))
    (ss_rt (SV.b (sv_bin ov_ix (SV.b (sv_bin ov_ix (SV.b sv_var) (SV.b sv_var))) (SV.b (sv_if (so_b (SV.b (sv_bin ov_eq (SV.b sv_var) (SV.b sv_int)))) sv_int sv_int))))))
@[simp] def vf_end_of : VF := fun us Q => match us with
  | [x0, x1] => v_end_of (RTv Q) [some (.val x0), some (.val x1), none, none]
  | _ => False
theorem vo_end_of : ∀ us Q, vf_end_of us Q → vFn 2 4 v_end_of us Q := fun us Q h => by
  unfold vf_end_of at h
  split at h
  · exact ⟨rfl, h⟩
  · exact h.elim
def f_sum_of : FS :=
    (sRet (fB1 bSum (fCons (fLc (fSeq (fVar 1)) (gTp 2 (gCn (gN 2) (gCn (gN 3) gNl))) fYes (fBin pMul (fVar 3) (fBin pSub' (fBin pSub' (fVar 0) (fVar 2)) (fC (.int 2)))) [2, 3]) fNil)))
def v_sum_of : VS :=
    (vRet (vB1 gSum (vaC (vLc (viSeq (vVar 1)) (tTp 2 (tCn (tN 2) (tCn (tN 3) tNl))) vYes (vBin gMul (vVar 3) (vBin gIx (vBin gIx (vVar 0) (vVar 2)) (vC (.int 2)))) [2, 3]) vaN)))
theorem vs_sum_of : SSt f_sum_of v_sum_of :=
    (ss_rt (SV.b (sv_b1 bv_sum (sab_c (SV.b (SF.v (sf_lc (si_seqV sv_var) (sg_tp (sg_cn sg_n (sg_cn sg_n sg_nl))) so_yes (sv_bin ov_mul (SV.b sv_var) (SV.b (sv_bin ov_ix (SV.b (sv_bin ov_ix (SV.b sv_var) (SV.b sv_var))) (SV.b sv_int))))))) sab_n))))
@[simp] def vf_sum_of : VF := fun us Q => match us with
  | [x0, x1] => v_sum_of (RTv Q) [some (.val x0), some (.val x1), none, none]
  | _ => False
theorem vo_sum_of : ∀ us Q, vf_sum_of us Q → vFn 2 4 v_sum_of us Q := fun us Q h => by
  unfold vf_sum_of at h
  split at h
  · exact ⟨rfl, h⟩
  · exact h.elim
def f_turned_offsets : FS :=
    (sRet (fB1 bTuple (fCons (fLc (fSeq (fVar 0)) (gN 3) fYes (fBin pMod (fBin pAdd (fVar 3) (fVar 2)) (fVar 1)) [3]) fNil)))
def v_turned_offsets : VS :=
    (vRet (vB1 gTuple (vaC (vLc (viSeq (vVar 0)) (tN 3) vYes (vBin gMod (vBin gAdd (vVar 3) (vVar 2)) (vVar 1)) [3]) vaN)))
theorem vs_turned_offsets : SSt f_turned_offsets v_turned_offsets :=
    (ss_rt (SV.b (sv_b1 bv_tuple (sab_c (SV.b (SF.v (sf_lc (si_seqV sv_var) sg_n so_yes (sv_bin ov_ic (SV.b (sv_bin ov_add (SV.b sv_var) (SV.b sv_var))) (SV.b sv_var))))) sab_n))))
@[simp] def vf_turned_offsets : VF := fun us Q => match us with
  | [x0, x1, x2] => v_turned_offsets (RTv Q) [some (.val x0), some (.val x1), some (.val x2), none]
  | _ => False
theorem vo_turned_offsets : ∀ us Q, vf_turned_offsets us Q → vFn 3 4 v_turned_offsets us Q := fun us Q h => by
  unfold vf_turned_offsets at h
  split at h
  · exact ⟨rfl, h⟩
  · exact h.elim
def f_kept : FS :=
    (sRet (fB1 bTuple (fCons (fLc (fEn1 (fCons (fVar 0) fNil)) (gTp 2 (gCn (gN 3) (gCn (gN 4) gNl))) (fB (fCall (spOf vf_is_kept) (fCons (fVar 4) (fCons (fVar 1) (fCons (fVar 2) fNil))))) (fVar 3) [3, 4]) fNil)))
def v_kept : VS :=
    (vRet (vB1 gTuple (vaC (vLc (viEn1 (vaC (vVar 0) vaN)) (tTp 2 (tCn (tN 3) (tCn (tN 4) tNl))) (vB (vCall vf_is_kept (vaC (vVar 4) (vaC (vVar 1) (vaC (vVar 2) vaN))))) (vVar 3) [3, 4]) vaN)))
theorem vs_kept : SSt f_kept v_kept :=
    (ss_rt (SV.b (sv_b1 bv_tuple (sab_c (SV.b (SF.v (sf_lc (si_en1V (sa_c sv_var sa_n)) (sg_tp (sg_cn sg_n (sg_cn sg_n sg_nl))) (so_b (SV.b (sv_call (sa_c sv_var (sa_c sv_var (sa_c sv_var sa_n)))))) sv_var))) sab_n))))
@[simp] def vf_kept : VF := fun us Q => match us with
  | [x0, x1, x2] => v_kept (RTv Q) [some (.val x0), some (.val x1), some (.val x2), none, none]
  | _ => False
theorem vo_kept : ∀ us Q, vf_kept us Q → vFn 3 5 v_kept us Q := fun us Q h => by
  unfold vf_kept at h
  split at h
  · exact ⟨rfl, h⟩
  · exact h.elim
def f_ways_from : FS :=
    (sSeq (sAsg (fLc2 (fRng1 (fCons (fB1 bLen (fCons (fVar 0) fNil)) fNil)) (gN 3) fYes (fSeq (fTup (fCons (fC (.int 1)) (fCons (fNeg (fC (.int 1))) fNil)))) (gN 4) fYes (fTup (fCons (fVar 3) (fCons (fVar 4) fNil))) [3, 4] [4]) (gN 2))
    (sSeq (sAsg (fDisp [((fVar 1), (fTup fNil))]) (gN 5))
    (sSeq (sAsg (fLst (fCons (fVar 1) fNil)) (gN 6))
    (sSeq (sWhile (fTru (fVar 6)) (sSeq (sAsg (fM isL mPopAt (fVar 6) (fCons (fC (.int 0)) fNil)) (gN 7))
    (sFor (fSeq (fVar 2)) (gN 8) (sSeq (sAsg (fCall (spOf vf_end_of) (fCons (fVar 0) (fCons (fVar 8) fNil))) (gN 9))
    (sIf (fAndT (fB (fBin pEq (fCall (spOf vf_begin_of) (fCons (fVar 0) (fCons (fVar 8) fNil))) (fVar 7))) (fB (fBin (pInA true) (fVar 9) (fVar 5)))) (sSeq (sAsg (fBin pAdd (fBin pSub' (fVar 5) (fVar 7)) (fTup (fCons (fVar 8) fNil))) (gSb (fVar 5) (fVar 9) pSet))
    (sDrop (fM isL mAppend (fVar 6) (fCons (fVar 9) fNil)))) (fun D δ W => D.nx δ W))))))
    (sRet (fVar 5))))))
def v_ways_from : VS :=
    (vSeq (vAsg (vLc2 (viRng1 (vaC (vB1 gLen (vaC (vVar 0) vaN)) vaN)) (tN 3) vYes (viSeq (vTup (vaC (vC (.int 1)) (vaC (vNeg (vC (.int 1))) vaN)))) (tN 4) vYes (vTup (vaC (vVar 3) (vaC (vVar 4) vaN))) [3, 4] [4]) (tN 2))
    (vSeq (vOwn 5 (vDisp1 (vVar 1) (vTup vaN)))
    (vSeq (vOwn 6 (vLst (vaC (vVar 1) vaN)))
    (vSeq (vWhile (vTru (vBor 6)) (vSeq (vPop0 6 (tN 7))
    (vFgt [8, 9] (vFor (viSeq (vVar 2)) (tN 8) (vEnd [8, 9] (vSeq (vAsg (vCall vf_end_of (vaC (vVar 0) (vaC (vVar 8) vaN))) (tN 9))
    (vIfS (vAndT (vB (vBin (gEq false) (vCall vf_begin_of (vaC (vVar 0) (vaC (vVar 8) vaN))) (vVar 7))) (vB (vBin (gIn true) (vVar 9) (vBor 5)))) (vSeq (vSet 5 (vVar 9) (vBin gAdd (vBin gIx (vBor 5) (vVar 7)) (vTup (vaC (vVar 8) vaN))))
    (vApp 6 (vVar 9))) vNx)))))))
    (vRet (vBor 5))))))
theorem vs_ways_from : SSt f_ways_from v_ways_from :=
    (ss_seq (ss_as (SF.v (sf_lc2 (si_rng1V (sab_c (SV.b (sv_b1 bv_len (sab_c (SV.b sv_var) sab_n))) sab_n)) sg_n so_yes (si_seqV (sv_tup (sa_c sv_int (sa_c (sv_neg (SV.b sv_int)) sa_n)))) sg_n so_yes (sv_tup (sa_c sv_var (sa_c sv_var sa_n))))) sg_n)
    (ss_seq (ss_own (sf_disp1 (SV.b sv_var) (sv_tup sa_n)))
    (ss_seq (ss_own (sf_lst (sa_c sv_var sa_n)))
    (ss_seq (VL.ss_while (so_tru sb_bor) (ss_seq (ss_pop0 sg_n)
    (ss_fgt (VL.ss_for (si_seqV sv_var) sg_n (ss_end (ss_seq (ss_as (sv_call (sa_c sv_var (sa_c sv_var sa_n))) sg_n)
    (VL.ss_if (so_and (so_b (SV.b (sv_bin ov_eq (SV.b (sv_call (sa_c sv_var (sa_c sv_var sa_n)))) (SV.b sv_var)))) (so_b (SV.b (sv_bin (ov_in true) (SV.b sv_var) sb_bor)))) (ss_seq (ss_setI (SV.b sv_var) (sv_bin ov_add (SV.b (sv_bin ov_ix sb_bor (SV.b sv_var))) (SV.b (sv_tup (sa_c sv_var sa_n)))))
    (ss_app sv_var)) ss_nx)))))))
    (ss_rt sb_bor)))))
@[simp] def vf_ways_from : VF := fun us Q => match us with
  | [x0, x1] => v_ways_from (RTv Q) [some (.val x0), some (.val x1), none, none, none, none, none, none, none, none]
  | _ => False
theorem vo_ways_from : ∀ us Q, vf_ways_from us Q → vFn 2 10 v_ways_from us Q := fun us Q h => by
  unfold vf_ways_from at h
  split at h
  · exact ⟨rfl, h⟩
  · exact h.elim
def f_all_ways : FS :=
    (sSeq (sAsg fDnew (gN 2))
    (sSeq (sFor (fRng1 (fCons (fVar 0) fNil)) (gN 3) (sIf (fB (fBin (pInA true) (fVar 3) (fVar 2))) (sDrop (fM isDK mUpd (fVar 2) (fCons (fCall (spOf vf_ways_from) (fCons (fVar 1) (fCons (fVar 3) fNil))) fNil))) (fun D δ W => D.nx δ W)))
    (sRet (fVar 2))))
def v_all_ways : VS :=
    (vSeq (vOwn 2 vDnew)
    (vSeq (vFgt [3] (vFor (viRng1 (vaC (vVar 0) vaN)) (tN 3) (vEnd [3] (vIfS (vB (vBin (gIn true) (vVar 3) (vBor 2))) (vUpd 2 (vCall vf_ways_from (vaC (vVar 1) (vaC (vVar 3) vaN)))) vNx))))
    (vRet (vBor 2))))
theorem vs_all_ways : SSt f_all_ways v_all_ways :=
    (ss_seq (ss_own sf_dnew)
    (ss_seq (ss_fgt (VL.ss_for (si_rng1V (sab_c (SV.b sv_var) sab_n)) sg_n (ss_end (VL.ss_if (so_b (SV.b (sv_bin (ov_in true) (SV.b sv_var) sb_bor))) (ss_updD (sv_call (sa_c sv_var (sa_c sv_var sa_n)))) ss_nx))))
    (ss_rt sb_bor)))
@[simp] def vf_all_ways : VF := fun us Q => match us with
  | [x0, x1] => v_all_ways (RTv Q) [some (.val x0), some (.val x1), none, none]
  | _ => False
theorem vo_all_ways : ∀ us Q, vf_all_ways us Q → vFn 2 4 v_all_ways us Q := fun us Q h => by
  unfold vf_all_ways at h
  split at h
  · exact ⟨rfl, h⟩
  · exact h.elim
end VL
/-! Ww: wishes, steps, dicts of ways. -/
namespace KB
open PySem PySem.Spec PyProof.Rows L2 DL VL A30
abbrev Wi := Int × Int × Int
def wiU (w : Wi) : U := .tup [.int w.1, .int w.2.1, .int w.2.2]
def wisU (W : List Wi) : U := .tup (W.map wiU)
def wi (W : List Wi) (k : Int) : Wi := W.getD k.toNat (0, 0, 0)
@[simp] theorem at3_0 {a b c : U} : atU [a, b, c] 0 = some a := rfl
@[simp] theorem at3_1 {a b c : U} : atU [a, b, c] 1 = some b := rfl
@[simp] theorem at3_2 {a b c : U} : atU [a, b, c] 2 = some c := rfl
theorem wi_some {W : List Wi} {k : Int} (h0 : 0 ≤ k) (h1 : k < W.length) : W[k.toNat]? = some (wi W k) := by
  rw [wi, List.getD_eq_getElem?_getD, List.getElem?_eq_getElem (by omega)]
  rfl
theorem at_w {W : List Wi} {k : Int} (h0 : 0 ≤ k) (h1 : k < W.length) : atU (W.map wiU) k = some (wiU (wi W k)) := by
  obtain ⟨y, e, _, e2⟩ := at_map (enc := wiU) h0 h1
  rw [wi_some h0 h1] at e
  rw [e2, ← Option.some.inj e]
theorem wi_mem {W : List Wi} {k : Int} (h0 : 0 ≤ k) (h1 : k < W.length) : wi W k ∈ W := List.mem_of_getElem? (wi_some h0 h1)
def bgn (W : List Wi) (s : Pr) : Int := if s.2 = 1 then (wi W s.1).1 else (wi W s.1).2.1
def ndd (W : List Wi) (s : Pr) : Int := if s.2 = 1 then (wi W s.1).2.1 else (wi W s.1).1
def StOk (W : List Wi) (s : Pr) : Prop := 0 ≤ s.1 ∧ s.1 < W.length ∧ (s.2 = 1 ∨ s.2 = -1)
theorem m_begin_of {W : List Wi} {s : Pr} {Q : U → Prop} (h : StOk W s) (q : Q (.int (bgn W s))) : vf_begin_of [wisU W, prU s] Q := by
  simp [v_begin_of, prU, wisU]
  rw [at_w h.1 h.2.1]
  unfold bgn at q
  rcases h.2.2 with z | z
  · rw [if_pos z] at q; simp [z, wiU]; exact q
  · rw [if_neg (by omega)] at q; simp [z, wiU]; exact q
theorem m_end_of {W : List Wi} {s : Pr} {Q : U → Prop} (h : StOk W s) (q : Q (.int (ndd W s))) : vf_end_of [wisU W, prU s] Q := by
  simp [v_end_of, prU, wisU]
  rw [at_w h.1 h.2.1]
  unfold ndd at q
  rcases h.2.2 with z | z
  · rw [if_pos z] at q; simp [z, wiU]; exact q
  · rw [if_neg (by omega)] at q; simp [z, wiU]; exact q
def psum (W : List Wi) (p : List Pr) : Int := (p.map fun s => s.2 * (wi W s.1).2.2).sum
theorem m_sum_of {W : List Wi} {p : List Pr} {Q : U → Prop} (h : ∀ s ∈ p, StOk W s) (hl : p.length ≤ 1000000) (q : Q (.int (psum W p))) : vf_sum_of [wisU W, prsU p] Q := by
  simp [v_sum_of]
  refine vLc_map (enc := prU) (g := fun s => .int (s.2 * (wi W s.1).2.2)) p (fun K hK => by simp [prsU]; exact hK) (fun s hs N hN => ?_) hl ?_
  · have h1 := h s hs
    simp [prU, wisU]
    rw [at_w h1.1 h1.2.1]
    simp [wiU]
    refine ⟨.inl (by unfold CMul; have := h1.2.2; omega), hN⟩
  · simp only []
    refine ⟨p.map fun s : Pr => s.2 * (wi W s.1).2.2, by rw [← intsU_map, List.map_map]; rfl, ?_⟩
    exact q
theorem psum_snoc {W : List Wi} {p : List Pr} {s : Pr} : psum W (p ++ [s]) = psum W p + s.2 * (wi W s.1).2.2 := by simp [psum]
/-! dicts by ints -/
abbrev As := List (Int × List Pr)
def dU (A : As) : U := .dic (A.map fun x => .inl x.1) (A.map fun x => prsU x.2)
def look : As → Int → Option (List Pr)
  | [], _ => none
  | (k, v) :: A, c => if k = c then some v else look A c
def put : As → Int → List Pr → As
  | [], c, p => [(c, p)]
  | (k, v) :: A, c, p => if k = c then (k, p) :: A else (k, v) :: put A c p
def kys (A : As) : List Int := A.map (·.1)
theorem valU_look (c : Int) : ∀ (A : As), valU (A.map fun x => (Sum.inl x.1 : Key)) (A.map fun x => prsU x.2) (.inl c) = (look A c).map prsU
  | [] => rfl
  | (k, v) :: A => by
    simp only [List.map_cons, valU, look]
    by_cases z : k = c
    · simp [z]
    · have : ¬ (Sum.inl k : Key) = .inl c := fun e => z (Sum.inl.inj e)
      rw [if_neg this, if_neg z, valU_look c A]
theorem look_some {A : As} {c : Int} : (look A c).isSome = decide (c ∈ kys A) := by
  induction A with
  | nil => simp [look, kys]
  | cons x A ih =>
    obtain ⟨k, v⟩ := x
    simp only [look, kys, List.map_cons, List.mem_cons] at ih ⊢
    by_cases z : k = c
    · simp [z]
    · have : ¬ c = k := fun e => z e.symm
      simp only [z, this, false_or, ↓reduceIte]
      exact ih
theorem put_look {A : As} {c d : Int} {p : List Pr} : look (put A c p) d = if d = c then some p else look A d := by
  induction A with
  | nil =>
    simp only [put, look]
    by_cases z : c = d
    · simp [z]
    · have : ¬ d = c := fun e => z e.symm
      simp [z, this]
  | cons x A ih =>
    obtain ⟨k, v⟩ := x
    simp only [put]
    by_cases z : k = c
    · rw [if_pos z]
      simp only [look]
      by_cases y : k = d
      · have : d = c := by omega
        simp [y, this]
      · have : ¬ d = c := by omega
        simp [y, this]
    · rw [if_neg z]
      simp only [look]
      by_cases y : k = d
      · have : ¬ d = c := by omega
        simp [y, this]
      · simp only [y, ↓reduceIte]; exact ih
theorem put_kys {A : As} {c : Int} {p : List Pr} : kys (put A c p) = if c ∈ kys A then kys A else kys A ++ [c] := by
  induction A with
  | nil => simp [put, kys]
  | cons x A ih =>
    obtain ⟨k, v⟩ := x
    simp only [put]
    by_cases z : k = c
    · rw [if_pos z]; simp [kys, z]
    · rw [if_neg z]
      have y : ¬ c = k := fun e => z e.symm
      simp only [kys, List.map_cons, List.mem_cons, y, false_or] at ih ⊢
      rw [ih]
      by_cases w : c ∈ A.map (·.1) <;> simp [w]
theorem put_U {A : As} {c : Int} {p : List Pr} : putKs (A.map fun x => (Sum.inl x.1 : Key)) (.inl c) = (put A c p).map (fun x => .inl x.1) ∧ putVs (A.map fun x => (Sum.inl x.1 : Key)) (A.map fun x => prsU x.2) (.inl c) (prsU p) = (put A c p).map fun x => prsU x.2 := by
  constructor
  · have h1 : (put A c p).map (fun x => (Sum.inl x.1 : Key)) = (kys (put A c p)).map Sum.inl := by simp [kys, Function.comp_def]
    have h2 : A.map (fun x => (Sum.inl x.1 : Key)) = (kys A).map Sum.inl := by simp [kys, Function.comp_def]
    rw [h1, h2, put_kys]
    unfold putKs
    have h3 : ((Sum.inl c : Key) ∈ (kys A).map Sum.inl) ↔ c ∈ kys A := by simp
    by_cases z : c ∈ kys A
    · rw [if_pos (h3.mpr z), if_pos z]
    · rw [if_neg (fun y => z (h3.mp y)), if_neg z]; simp
  · induction A with
    | nil => simp [put, putVs]
    | cons x A ih =>
      obtain ⟨k, v⟩ := x
      simp only [List.map_cons, putVs, put]
      by_cases z : k = c
      · simp [z]
      · have : ¬ (Sum.inl k : Key) = .inl c := fun e => z (Sum.inl.inj e)
        simp only [this, z, ↓reduceIte, List.map_cons]
        rw [ih]
theorem set_d {A : As} {c : Int} {p : List Pr} (nd : (kys A).Nodup) (hl : A.length < 1000000) : setU (dU A) (.int c) (prsU p) = some (dU (put A c p)) := by
  have h2 : (A.map fun x => (Sum.inl x.1 : Key)).Nodup := by
    have e : A.map (fun x => (Sum.inl x.1 : Key)) = (kys A).map Sum.inl := by simp [kys, Function.comp_def]
    rw [e, List.nodup_iff_pairwise_ne, List.pairwise_map]
    exact nd.imp fun h e => h (Sum.inl.inj e)
  obtain ⟨e1, e2⟩ := put_U (A := A) (c := c) (p := p)
  simp only [dU, setU, keyU]
  rw [if_pos ⟨h2, by simpa using hl⟩, e1, e2]
theorem ix_d {A : As} {c : Int} {p : List Pr} (h : look A c = some p) : ixU (dU A) (.int c) = some (prsU p) := by
  simp only [dU, ixU, keyU, Option.bind_some]
  rw [valU_look, h]
  rfl
theorem in_d {A : As} {c : Int} : inU (.int c) (dU A) = some (decide (c ∈ kys A)) := by
  simp only [dU, inU, keyU]
  rw [valU_look, ← look_some]
  cases look A c <;> rfl
theorem put_len {A : As} {c : Int} {p : List Pr} : (put A c p).length ≤ A.length + 1 := by
  have h := congrArg List.length (put_kys (A := A) (c := c) (p := p))
  have e1 : (kys (put A c p)).length = (put A c p).length := by simp [kys]
  have e2 : (kys A).length = A.length := by simp [kys]
  by_cases z : c ∈ kys A
  · rw [if_pos z] at h; omega
  · rw [if_neg z] at h; simp at h; omega
theorem put_nodup {A : As} {c : Int} {p : List Pr} (nd : (kys A).Nodup) : (kys (put A c p)).Nodup := by
  rw [put_kys]
  split
  · exact nd
  · rename_i h
    rw [List.nodup_append]
    exact ⟨nd, by simp, fun a ha b hb e => by simp at hb; subst hb; subst e; exact h ha⟩
/-- one put on another -/
def mrg (G : As) : As → As
  | [] => G
  | (c, p) :: A => mrg (put G c p) A
theorem mgU_mrg : ∀ (A G : As), mgU (G.map fun x => .inl x.1) (G.map fun x => prsU x.2) (A.map fun x => .inl x.1) (A.map fun x => prsU x.2) = ((mrg G A).map (fun x => .inl x.1), (mrg G A).map fun x => prsU x.2)
  | [], G => rfl
  | (c, p) :: A, G => by
    obtain ⟨e1, e2⟩ := put_U (A := G) (c := c) (p := p)
    simp only [List.map_cons, mgU, mrg]
    rw [e1, e2]
    exact mgU_mrg A _
theorem mrg_len : ∀ (A G : As), (mrg G A).length ≤ G.length + A.length
  | [], G => by simp [mrg]
  | (c, p) :: A, G => by
    have h1 := mrg_len A (put G c p)
    have h2 := put_len (A := G) (c := c) (p := p)
    simp only [mrg, List.length_cons]
    omega
theorem mrg_nodup : ∀ (A G : As), (kys G).Nodup → (kys (mrg G A)).Nodup
  | [], G, h => h
  | (c, p) :: A, G, h => mrg_nodup A _ (put_nodup h)
theorem mrg_look : ∀ (A G : As) (d : Int), (kys A).Nodup → look (mrg G A) d = (look A d).or (look G d)
  | [], G, d, _ => by simp [mrg, look]
  | (c, p) :: A, G, d, nd => by
    have nd' : c ∉ kys A ∧ (kys A).Nodup := by simpa [kys] using nd
    simp only [mrg]
    rw [mrg_look A _ d nd'.2, put_look]
    simp only [look]
    by_cases z : c = d
    · subst z
      have : look A c = none := by
        have := look_some (A := A) (c := c)
        rw [decide_eq_false nd'.1] at this
        cases h : look A c with
        | none => rfl
        | some v => rw [h] at this; cases this
      simp [this]
    · have : ¬ d = c := fun e => z e.symm
      simp [z, this]
theorem look_kys {A : As} {c : Int} : c ∈ kys A ↔ ∃ p, look A c = some p := by
  have := look_some (A := A) (c := c)
  cases h : look A c with
  | none =>
    rw [h] at this
    have h2 : ¬ c ∈ kys A := fun z => by rw [decide_eq_true z] at this; cases this
    simp [h2]
  | some p =>
    rw [h] at this
    have h2 : c ∈ kys A := of_decide_eq_true this.symm
    simp [h2]
end KB
/-! Ww2: ways from a crossing. -/
namespace KB
open PySem PySem.Spec PyProof.Rows L2 DL VL A30
def free (m : Nat) (A : As) : Nat := ((List.range m).filter fun c => !decide (((c : Nat) : Int) ∈ kys A)).length
structure WOk (m : Nat) (W : List Wi) : Prop where
  r : ∀ w ∈ W, (0 ≤ w.1 ∧ w.1 < (m : Int)) ∧ 0 ≤ w.2.1 ∧ w.2.1 < (m : Int)
  l : W.length ≤ 100
def Pot (W : List Wi) (phi : Int → Int) : Prop := ∀ w ∈ W, phi w.2.1 - phi w.1 = w.2.2
structure PK (m : Nat) (W : List Wi) (phi : Int → Int) (f : Int) (A : As) : Prop where
  nd : (kys A).Nodup
  rg : ∀ c ∈ kys A, 0 ≤ c ∧ c < (m : Int)
  st : ∀ c p, look A c = some p → (∀ s ∈ p, StOk W s) ∧ psum W p = phi c - phi f ∧ p.length + free m A ≤ m
  ln : A.length + free m A ≤ m + 1
  f : f ∈ kys A
def Cl (W : List Wi) (A : As) (a : Int) : Prop := ∀ s, StOk W s → bgn W s = a → ndd W s ∈ kys A
section
variable {m : Nat} {W : List Wi} {phi : Int → Int} {f : Int}
theorem ndd_rg (h : WOk m W) {s : Pr} (hs : StOk W s) : 0 ≤ ndd W s ∧ ndd W s < (m : Int) := by
  have := h.r _ (wi_mem hs.1 hs.2.1)
  unfold ndd
  split
  · exact this.2
  · exact this.1
theorem step_pot (hp : Pot W phi) {s : Pr} (hs : StOk W s) : s.2 * (wi W s.1).2.2 = phi (ndd W s) - phi (bgn W s) := by
  have := hp _ (wi_mem hs.1 hs.2.1)
  unfold ndd bgn
  rcases hs.2.2 with z | z
  · simp [z]; omega
  · simp [z]; omega
theorem free_put {A : As} {c : Int} {p : List Pr} (h0 : 0 ≤ c) (h1 : c < (m : Int)) (h : c ∉ kys A) : free m (put A c p) < free m A := by
  have hk : kys (put A c p) = kys A ++ [c] := by rw [put_kys, if_neg h]
  have hsub : ∀ x ∈ List.range m, (!decide (((x : Nat) : Int) ∈ kys (put A c p))) = true → (!decide (((x : Nat) : Int) ∈ kys A)) = true := by
    intro x _ hx
    simp [hk] at hx ⊢
    exact hx.1
  have hle := filter_le hsub
  have hne : ((List.range m).filter fun x => !decide (((x : Nat) : Int) ∈ kys (put A c p))).length ≠ ((List.range m).filter fun x => !decide (((x : Nat) : Int) ∈ kys A)).length := by
    intro e
    have := filter_eq hsub e c.toNat (by simp; omega)
    have e2 : ((c.toNat : Nat) : Int) = c := by omega
    simp only [e2, hk] at this
    have h3 := this (by simp [h])
    simp at h3
  unfold free
  omega
theorem PK.add {A : As} (k : PK m W phi f A) (hw : WOk m W) (hp : Pot W phi) {s : Pr} (hs : StOk W s) {p : List Pr} (hl : look A (bgn W s) = some p) (hn : ndd W s ∉ kys A) : PK m W phi f (put A (ndd W s) (p ++ [s])) := by
  obtain ⟨r0, r1⟩ := ndd_rg hw hs
  have hf := free_put (p := p ++ [s]) r0 r1 hn
  obtain ⟨s1, s2, s3⟩ := k.st _ _ hl
  have hk : kys (put A (ndd W s) (p ++ [s])) = kys A ++ [ndd W s] := by rw [put_kys, if_neg hn]
  refine ⟨put_nodup k.nd, fun c hc => ?_, fun c q hq => ?_, ?_, by rw [hk]; simp [k.f]⟩
  · rw [hk, List.mem_append] at hc
    rcases hc with hc | hc
    · exact k.rg c hc
    · rw [List.mem_singleton.mp hc]; exact ⟨r0, r1⟩
  · rw [put_look] at hq
    by_cases z : c = ndd W s
    · rw [if_pos z] at hq
      cases hq
      refine ⟨fun t ht => ?_, ?_, by simp; omega⟩
      · rcases List.mem_append.mp ht with ht | ht
        · exact s1 t ht
        · rw [List.mem_singleton.mp ht]; exact hs
      · rw [psum_snoc, s2, step_pot hp hs, z]
        omega
    · rw [if_neg z] at hq
      obtain ⟨a, b, d⟩ := k.st c q hq
      exact ⟨a, b, by omega⟩
  · have := put_len (A := A) (c := ndd W s) (p := p ++ [s])
    have := k.ln
    omega
theorem Cl.put {A : As} {a c : Int} {p : List Pr} (h : Cl W A a) : Cl W (KB.put A c p) a := fun s hs e => by
  have := h s hs e
  rw [put_kys]
  split
  · exact this
  · simp [this]
def stL (n : Nat) : List Pr := (List.range n).flatMap fun w => [((w : Nat), 1), ((w : Nat), -1)]
theorem stL_mem {s : Pr} : s ∈ stL W.length ↔ StOk W s := by
  simp only [stL, List.mem_flatMap, List.mem_range, List.mem_cons, List.not_mem_nil, or_false]
  constructor
  · rintro ⟨w, hw, h | h⟩
    · subst h; exact ⟨by simp, by simpa using hw, .inl rfl⟩
    · subst h; exact ⟨by simp, by simpa using hw, .inr rfl⟩
  · rintro ⟨h0, h1, h2⟩
    refine ⟨s.1.toNat, by omega, ?_⟩
    have e : ((s.1.toNat : Nat) : Int) = s.1 := by omega
    rw [e]
    rcases h2 with h2 | h2
    · exact .inl (Prod.ext rfl h2)
    · exact .inr (Prod.ext rfl h2)
theorem stL_len {n : Nat} : (stL n).length = n * 2 := by
  unfold stL
  induction n with
  | zero => rfl
  | succ n ih => rw [List.range_succ, List.flatMap_append, List.length_append, ih]; simp; omega
structure WInv (m : Nat) (W : List Wi) (phi : Int → Int) (f : Int) (A : As) (ah : List Int) : Prop where
  k : PK m W phi f A
  s : ∀ a ∈ ah, a ∈ kys A
  c : ∀ a ∈ kys A, a ∉ ah → Cl W A a
structure IInv (m : Nat) (W : List Wi) (phi : Int → Int) (f : Int) (μ : Nat) (at_ : Int) (done : List Pr) (A : As) (ah : List Int) : Prop where
  k : PK m W phi f A
  a : at_ ∈ kys A
  s : ∀ a ∈ ah, a ∈ kys A
  c : ∀ a ∈ kys A, a ∉ ah → a = at_ ∨ Cl W A a
  d : ∀ s ∈ done, bgn W s = at_ → ndd W s ∈ kys A
  u : ah.length + 2 * free m A ≤ μ
theorem iinv_add {μ : Nat} {at_ : Int} {done : List Pr} {A : As} {ah : List Int} (h : IInv m W phi f μ at_ done A ah) (hw : WOk m W) (hp : Pot W phi) {s : Pr} (hs : StOk W s) {p : List Pr} (hb : bgn W s = at_) (hl : look A at_ = some p) (hn : ndd W s ∉ kys A) : IInv m W phi f μ at_ (done ++ [s]) (put A (ndd W s) (p ++ [s])) (ah ++ [ndd W s]) := by
  have hk : kys (put A (ndd W s) (p ++ [s])) = kys A ++ [ndd W s] := by rw [put_kys, if_neg hn]
  obtain ⟨r0, r1⟩ := ndd_rg hw hs
  have hf := free_put (p := p ++ [s]) r0 r1 hn
  refine ⟨h.k.add hw hp hs (by rw [hb]; exact hl) hn, by rw [hk]; simp [h.a], fun a ha => ?_, fun a ha hna => ?_, fun t ht e => ?_, by have := h.u; simp; omega⟩
  · rw [hk]
    rcases List.mem_append.mp ha with ha | ha
    · simp [h.s a ha]
    · simp [List.mem_singleton.mp ha]
  · rw [hk, List.mem_append] at ha
    rw [List.mem_append, not_or] at hna
    rcases ha with ha | ha
    · rcases h.c a ha hna.1 with z | z
      · exact .inl z
      · exact .inr z.put
    · exact absurd ha hna.2
  · rw [hk]
    rcases List.mem_append.mp ht with ht | ht
    · simp [h.d t ht e]
    · rw [List.mem_singleton.mp ht]; simp
theorem iinv_skip {μ : Nat} {at_ : Int} {done : List Pr} {A : As} {ah : List Int} (h : IInv m W phi f μ at_ done A ah) {s : Pr} (hn : bgn W s = at_ → ndd W s ∈ kys A) : IInv m W phi f μ at_ (done ++ [s]) A ah :=
  ⟨h.k, h.a, h.s, h.c, fun t ht e => by
    rcases List.mem_append.mp ht with ht | ht
    · exact h.d t ht e
    · rw [List.mem_singleton.mp ht] at e ⊢; exact hn e, h.u⟩
theorem iinv_start {A : As} {a : Int} {ah : List Int} (h : WInv m W phi f A (a :: ah)) : IInv m W phi f (ah.length + 2 * free m A) a [] A ah :=
  ⟨h.k, h.s a (by simp), fun b hb => h.s b (by simp [hb]), fun b hb hn => by
    by_cases z : b = a
    · exact .inl z
    · exact .inr (h.c b hb (by simp [z, hn])), by simp, Nat.le_refl _⟩
theorem iinv_end {μ : Nat} {a : Int} {A : As} {ah : List Int} (h : IInv m W phi f μ a (stL W.length) A ah) : WInv m W phi f A ah :=
  ⟨h.k, h.s, fun b hb hn => by
    rcases h.c b hb hn with z | z
    · intro s hs e
      exact h.d s (stL_mem.mpr hs) (by rw [e, z])
    · exact z⟩
theorem winv_first (h0 : 0 ≤ f) (h1 : f < (m : Int)) : WInv m W phi f [(f, [])] [f] := by
  have hf : free m [(f, [])] ≤ m := by
    unfold free
    have := List.length_filter_le (fun c : Nat => !decide (((c : Nat) : Int) ∈ kys [(f, ([] : List Pr))])) (List.range m)
    simpa using this
  refine ⟨⟨by simp [kys], fun c hc => by simp [kys] at hc; omega, fun c p hp => ?_, by simp; omega, by simp [kys]⟩, fun a ha => by simp at ha; simp [kys, ha], fun a ha hn => ?_⟩
  · simp [look] at hp
    obtain ⟨e, rfl⟩ := hp
    subst e
    refine ⟨by simp, by simp [psum], by simpa using hf⟩
  · simp [kys] at ha
    simp [ha] at hn
end
end KB
/-! Ww3: ways_from. -/
namespace KB
open PySem PySem.Spec PyProof.Rows L2 DL VL A30
theorem nxtS {s t : VS} {D : VD} {e : VEnv} (h : ∀ B : VEnv → Prop, (∀ e, t D e → B e) → s { D with nx := B } e) : vSeq s t D e := h _ fun _ h => h
theorem pm_len (n : Nat) : ((List.range n).flatMap fun _ => [(1 : Int), -1]).length = n * 2 := by
  induction n with
  | zero => rfl
  | succ n ih => rw [List.range_succ, List.flatMap_append, List.length_append, ih]; simp; omega
def stU (n : Nat) : U := .lst ((stL n).map prU)
theorem m_ways_from {m : Nat} {W : List Wi} {phi : Int → Int} {f : Int} {Q : U → Prop} (hw : WOk m W) (hp : Pot W phi) (hm : m ≤ 100) (h0 : 0 ≤ f) (h1 : f < (m : Int)) (q : ∀ A, PK m W phi f A → (∀ a ∈ kys A, Cl W A a) → Q (dU A)) : vf_ways_from [wisU W, .int f] Q := by
  have hwl := hw.l
  simp only [vf_ways_from, v_ways_from]
  refine nxtS fun B hB => ?_
  simp [wisU]
  refine vLc2_map (enc := nU) (ys := fun _ => [1, -1]) (g := fun w s => prU ((w : Nat), s)) (List.range W.length) (fun K hK => ?_) (fun w hw' N ac hac hN => ?_) (by rw [pm_len]; omega) ?_
  · simp [rng0]
    exact ⟨by omega, hK⟩
  · simp
    have := vlcI_map (N := N) (tg := tN 4) (te := vTup (vaC (vVar 3) (vaC (vVar 4) vaN))) (e := [some (.val (.tup (W.map wiU))), some (.val (.int f)), none, some (.val (nU w)), none, none, none, none, none, none]) (enb := U.int) (g := fun s : Int => prU ((w : Nat), s)) [1, -1] ac (fun y hy M hM => by simp [nU]; exact hM) hac hN
    simpa using this
  have hst : (List.range W.length).flatMap (fun w => [prU ((w : Nat), 1), prU ((w : Nat), -1)]) = (stL W.length).map prU := by simp [stL, List.map_flatMap]
  simp only [List.map_cons, List.map_nil]
  rw [hst]
  refine hB _ ?_
  clear hB
  refine nxtS fun B1 hB1 => ?_
  simp
  refine hB1 _ ?_
  clear hB1
  refine nxtS fun B2 hB2 => ?_
  simp
  refine hB2 _ ?_
  clear hB2
  refine nxtS fun B3 hB3 => ?_
  have key : ∀ (N : Nat) (A : As) (ah : List Int) (x7 : Option VX), N ≤ 1000 → WInv m W phi f A ah → ah.length + 2 * free m A < N → vWh (vTru (vBor 6))
      (vSeq (vPop0 6 (tN 7))
        (vFgt [8, 9] (vFor (viSeq (vVar 2)) (tN 8) (vEnd [8, 9] (vSeq (vAsg (vCall vf_end_of (vaC (vVar 0) (vaC (vVar 8) vaN))) (tN 9))
          (vIfS (vAndT (vB (vBin (gEq false) (vCall vf_begin_of (vaC (vVar 0) (vaC (vVar 8) vaN))) (vVar 7))) (vB (vBin (gIn true) (vVar 9) (vBor 5)))) (vSeq (vSet 5 (vVar 9) (vBin gAdd (vBin gIx (vBor 5) (vVar 7)) (vTup (vaC (vVar 8) vaN))))
            (vApp 6 (vVar 9))) vNx))))))
      { nx := B3, rt := Q } N [some (.val (wisU W)), some (.val (.int f)), some (.val (stU W.length)), none, none, some (.own (dU A)), some (.own (lstU ah)), x7, none, none] := by
    intro N
    induction N with
    | zero => intro A ah x7 _ _ h; omega
    | succ N ih =>
      intro A ah x7 hN1 hI hμ
      unfold vWh
      cases ah with
      | nil =>
        simp
        refine hB3 _ ?_
        simp
        refine q A hI.k fun a ha => hI.c a ha (by simp)
      | cons a ah =>
        have hIs := iinv_start hI
        generalize hμ0 : ah.length + 2 * free m A = μ0 at hIs
        simp only [vTru, vBor]
        refine ⟨lstU (a :: ah), .inl rfl, true, by simp, ?_⟩
        simp only [↓reduceIte]
        refine nxtS fun B4 hB4 => ?_
        simp only [vPop0, tN]
        refine ⟨ah.map .int, .int a, rfl, ?_⟩
        refine hB4 _ ?_
        clear hB4
        simp only [vFgt]
        refine vFor_inv (enc := prU) (xs := stL W.length) (fun done e => ∃ A' ah', IInv m W phi f μ0 a done A' ah' ∧ e = [some (.val (wisU W)), some (.val (.int f)), some (.val (stU W.length)), none, none, some (.own (dU A')), some (.own (lstU ah')), some (.val (.int a)), none, none]) (fun K hK => ?_) ⟨A, ah, hIs, by simp [wipeV]⟩ ?_ ?_
        · simp [stU, wipeV]
          exact hK
        · rintro done s rest e N' eq ⟨A', ah', hJ, rfl⟩ hN'
          have hs : StOk W s := stL_mem.mp (by rw [eq]; simp)
          simp [-vf_end_of, -vf_begin_of, -gIn]
          refine m_end_of hs ?_
          refine m_begin_of hs ?_
          have hal : ah'.length < 1000000 := by
            have := hJ.u
            simp at hμ
            omega
          by_cases hb : bgn W s = a
          · simp [hb, -gIn]
            refine ⟨_, in_d, ?_⟩
            by_cases hn : ndd W s ∈ kys A'
            · simp [hn]
              refine hN' _ ⟨A', ah', iinv_skip hJ fun _ => hn, by simp⟩
            · obtain ⟨p, hl⟩ := look_kys.mp hJ.a
              simp [hn]
              refine ⟨_, ix_d hl, ?_⟩
              have hpl := (hJ.k.st _ _ hl).2.2
              simp [prsU]
              refine ⟨by omega, ?_⟩
              have hsd := set_d (A := A') (c := ndd W s) (p := p ++ [s]) hJ.k.nd (by have := hJ.k.ln; omega)
              refine ⟨dU (put A' (ndd W s) (p ++ [s])), by simpa [prsU] using hsd, ?_⟩
              refine ⟨by simpa using hal, ?_⟩
              refine hN' _ ⟨_, _, iinv_add hJ hw hp hs hb hl hn, by simp⟩
          · simp [hb]
            refine hN' _ ⟨A', ah', iinv_skip hJ fun z => absurd z hb, by simp⟩
        · rintro e ⟨A', ah', hJ, rfl⟩
          have := iinv_end hJ
          refine ih A' ah' _ (by omega) this ?_
          have h2 := hJ.u
          simp at hμ
          omega
  have hfm : free m [(f, [])] ≤ m := by
    unfold free
    have := List.length_filter_le (fun c : Nat => !decide (((c : Nat) : Int) ∈ kys [(f, ([] : List Pr))])) (List.range m)
    simpa using this
  refine ⟨1 + 2 * free m [(f, [])] + 1, ?_⟩
  have := key (1 + 2 * free m [(f, [])] + 1) [(f, [])] [f] none (by have := hfm; omega) (winv_first h0 h1) (by simp)
  simpa [dU, prsU, stU, wisU] using this
end KB
namespace K43
open PySem PySem.Spec PyProof.Rows L2 DL VL A30

def topS (i : Nat) : Stmt := PySem.Challenge.pw_greenheld_k43_whole_green_waves.main.body.getD i (.Pass ⟨0, 0, 0, 0⟩)
theorem units65 {k : Nat} {A : Around} (hr : Room k A) : A.units + 65 < cLine := by have := hr.un; omega
abbrev s_wish_of : Stmt := topS 1
theorem sc_wish_of : FnScope ["one", "begin", "other", "late", "time"] ["one", "begin", "other", "late", "time"] (defScope s_wish_of) := ⟨rfl, rfl, rfl, by decide +kernel, rfl, by decide +kernel, by decide +kernel⟩
abbrev s_is_kept : Stmt := topS 2
theorem sc_is_kept : FnScope ["wish", "L", "offsets", "one", "other", "ticks"] ["wish", "L", "offsets"] (defScope s_is_kept) := ⟨rfl, rfl, rfl, by decide +kernel, rfl, by decide +kernel, by decide +kernel⟩
abbrev s_kept : Stmt := topS 3
theorem sc_kept : FnScope ["wishes", "L", "offsets", "w", "wish"] ["wishes", "L", "offsets"] (defScope s_kept) := ⟨rfl, rfl, rfl, by decide +kernel, rfl, by decide +kernel, by decide +kernel⟩
abbrev s_begin_of : Stmt := topS 4
theorem sc_begin_of : FnScope ["wishes", "step", "w", "sign"] ["wishes", "step"] (defScope s_begin_of) := ⟨rfl, rfl, rfl, by decide +kernel, rfl, by decide +kernel, by decide +kernel⟩
abbrev s_end_of : Stmt := topS 5
theorem sc_end_of : FnScope ["wishes", "step", "w", "sign"] ["wishes", "step"] (defScope s_end_of) := ⟨rfl, rfl, rfl, by decide +kernel, rfl, by decide +kernel, by decide +kernel⟩
abbrev s_sum_of : Stmt := topS 6
theorem sc_sum_of : FnScope ["wishes", "steps", "w", "sign"] ["wishes", "steps"] (defScope s_sum_of) := ⟨rfl, rfl, rfl, by decide +kernel, rfl, by decide +kernel, by decide +kernel⟩
abbrev s_ways_from : Stmt := topS 7
theorem sc_ways_from : FnScope ["wishes", "first", "steps", "w", "sign", "ways", "ahead", "at", "step", "end"] ["wishes", "first"] (defScope s_ways_from) := ⟨rfl, rfl, rfl, by decide +kernel, rfl, by decide +kernel, by decide +kernel⟩
abbrev s_all_ways : Stmt := topS 8
theorem sc_all_ways : FnScope ["m", "wishes", "ways", "crossing"] ["m", "wishes"] (defScope s_all_ways) := ⟨rfl, rfl, rfl, by decide +kernel, rfl, by decide +kernel, by decide +kernel⟩
abbrev s_ring_of : Stmt := topS 9
theorem sc_ring_of : FnScope ["w", "there", "back", "alike", "v", "sign"] ["w", "there", "back"] (defScope s_ring_of) := ⟨rfl, rfl, rfl, by decide +kernel, rfl, by decide +kernel, by decide +kernel⟩
abbrev s_offsets_for : Stmt := topS 10
theorem sc_offsets_for : FnScope ["m", "wishes", "L", "ways", "offsets", "crossing", "w", "wish"] ["m", "wishes", "L"] (defScope s_offsets_for) := ⟨rfl, rfl, rfl, by decide +kernel, rfl, by decide +kernel, by decide +kernel⟩
abbrev s_turned_offsets : Stmt := topS 11
theorem sc_turned_offsets : FnScope ["offsets", "L", "ticks", "offset"] ["offsets", "L", "ticks"] (defScope s_turned_offsets) := ⟨rfl, rfl, rfl, by decide +kernel, rfl, by decide +kernel, by decide +kernel⟩
abbrev s_arrivals : Stmt := topS 13
theorem sc_arrivals : FnScope ["line", "start", "at", "found", "_", "time"] ["line", "start"] (defScope s_arrivals) := ⟨rfl, rfl, rfl, by decide +kernel, rfl, by decide +kernel, by decide +kernel⟩
abbrev s_passes : Stmt := topS 14
theorem sc_passes : FnScope ["line", "greens", "L", "offsets", "start", "crossing", "_", "begin", "length", "at"] ["line", "greens", "L", "offsets", "start"] (defScope s_passes) := ⟨rfl, rfl, rfl, by decide +kernel, rfl, by decide +kernel, by decide +kernel⟩
abbrev s_band : Stmt := topS 15
theorem sc_band : FnScope ["line", "greens", "L", "offsets", "start"] ["line", "greens", "L", "offsets"] (defScope s_band) := ⟨rfl, rfl, rfl, by decide +kernel, rfl, by decide +kernel, by decide +kernel⟩
abbrev s_band_bound : Stmt := topS 16
theorem sc_band_bound : FnScope ["greens", "_", "length"] ["greens"] (defScope s_band_bound) := ⟨rfl, rfl, rfl, by decide +kernel, rfl, by decide +kernel, by decide +kernel⟩
abbrev s_offsets_of_line : Stmt := topS 17
theorem sc_offsets_of_line : FnScope ["m", "line", "greens", "L", "first", "offsets", "k", "at"] ["m", "line", "greens", "L"] (defScope s_offsets_of_line) := ⟨rfl, rfl, rfl, by decide +kernel, rfl, by decide +kernel, by decide +kernel⟩
abbrev s__law_open_cells : Stmt := topS 19
theorem sc__law_open_cells : FnScope ["script", "stirred", "cell", "cells"] ["script"] (defScope s__law_open_cells) := ⟨rfl, rfl, rfl, by decide +kernel, rfl, by decide +kernel, by decide +kernel⟩
abbrev s__law_pick : Stmt := topS 20
theorem sc__law_pick : FnScope ["source", "most", "cells", "others", "lap", "stirred"] ["source", "most"] (defScope s__law_pick) := ⟨rfl, rfl, rfl, by decide +kernel, rfl, by decide +kernel, by decide +kernel⟩
abbrev s__law_any_order : Stmt := topS 21
theorem sc__law_any_order : FnScope ["source", "things", "others", "lap"] ["source", "things"] (defScope s__law_any_order) := ⟨rfl, rfl, rfl, by decide +kernel, rfl, by decide +kernel, by decide +kernel⟩
abbrev s__law_rest : Stmt := topS 22
theorem sc__law_rest : FnScope ["number", "L"] ["number", "L"] (defScope s__law_rest) := ⟨rfl, rfl, rfl, by decide +kernel, rfl, by decide +kernel, by decide +kernel⟩
abbrev s__law_line_ticks : Stmt := topS 23
theorem sc__law_line_ticks : FnScope ["line", "start", "found", "tick", "crossing", "time"] ["line", "start"] (defScope s__law_line_ticks) := ⟨rfl, rfl, rfl, by decide +kernel, rfl, by decide +kernel, by decide +kernel⟩
abbrev s__law_band : Stmt := topS 24
theorem sc__law_band : FnScope ["line", "greens", "L", "offsets", "found", "start", "is_on", "one", "green", "tick"] ["line", "greens", "L", "offsets"] (defScope s__law_band) := ⟨rfl, rfl, rfl, by decide +kernel, rfl, by decide +kernel, by decide +kernel⟩
abbrev s__law_draw_line : Stmt := topS 25
theorem sc__law_draw_line : FnScope ["source", "m", "cells", "k", "cell"] ["source", "m"] (defScope s__law_draw_line) := ⟨rfl, rfl, rfl, by decide +kernel, rfl, by decide +kernel, by decide +kernel⟩
abbrev s__law_draw_greens : Stmt := topS 26
theorem sc__law_draw_greens : FnScope ["source", "many", "L", "lap"] ["source", "many", "L"] (defScope s__law_draw_greens) := ⟨rfl, rfl, rfl, by decide +kernel, rfl, by decide +kernel, by decide +kernel⟩
abbrev s_law : Stmt := topS 27
theorem sc_law : FnScope ["script", "source", "lap", "m", "L", "line", "greens", "least", "ticks", "green", "told", "wishes", "k", "one", "other", "word", "late", "turn", "there", "start", "go", "offsets", "c", "due"] ["script"] (defScope s_law) := ⟨rfl, rfl, rfl, by decide +kernel, rfl, by decide +kernel, by decide +kernel⟩
structure Tx (K : PySem.W.Frag) (mg : Str → Option Value) where
  a_wish_of : Addr
  d_wish_of : FuncData
  F_wish_of : Fun K "wish_of" "wish_of" s_wish_of a_wish_of d_wish_of
  g_wish_of : mg "wish_of" = some (.ref a_wish_of)
  b_wish_of : Binds K d_wish_of ["one", "begin", "other", "late", "time"] []
  a_is_kept : Addr
  d_is_kept : FuncData
  F_is_kept : Fun K "is_kept" "is_kept" s_is_kept a_is_kept d_is_kept
  g_is_kept : mg "is_kept" = some (.ref a_is_kept)
  b_is_kept : Binds K d_is_kept ["wish", "L", "offsets"] []
  a_kept : Addr
  d_kept : FuncData
  F_kept : Fun K "kept" "kept" s_kept a_kept d_kept
  g_kept : mg "kept" = some (.ref a_kept)
  b_kept : Binds K d_kept ["wishes", "L", "offsets"] []
  a_begin_of : Addr
  d_begin_of : FuncData
  F_begin_of : Fun K "begin_of" "begin_of" s_begin_of a_begin_of d_begin_of
  g_begin_of : mg "begin_of" = some (.ref a_begin_of)
  b_begin_of : Binds K d_begin_of ["wishes", "step"] []
  a_end_of : Addr
  d_end_of : FuncData
  F_end_of : Fun K "end_of" "end_of" s_end_of a_end_of d_end_of
  g_end_of : mg "end_of" = some (.ref a_end_of)
  b_end_of : Binds K d_end_of ["wishes", "step"] []
  a_sum_of : Addr
  d_sum_of : FuncData
  F_sum_of : Fun K "sum_of" "sum_of" s_sum_of a_sum_of d_sum_of
  g_sum_of : mg "sum_of" = some (.ref a_sum_of)
  b_sum_of : Binds K d_sum_of ["wishes", "steps"] []
  a_ways_from : Addr
  d_ways_from : FuncData
  F_ways_from : Fun K "ways_from" "ways_from" s_ways_from a_ways_from d_ways_from
  g_ways_from : mg "ways_from" = some (.ref a_ways_from)
  b_ways_from : Binds K d_ways_from ["wishes", "first"] []
  a_all_ways : Addr
  d_all_ways : FuncData
  F_all_ways : Fun K "all_ways" "all_ways" s_all_ways a_all_ways d_all_ways
  g_all_ways : mg "all_ways" = some (.ref a_all_ways)
  b_all_ways : Binds K d_all_ways ["m", "wishes"] []
  a_ring_of : Addr
  d_ring_of : FuncData
  F_ring_of : Fun K "ring_of" "ring_of" s_ring_of a_ring_of d_ring_of
  g_ring_of : mg "ring_of" = some (.ref a_ring_of)
  b_ring_of : Binds K d_ring_of ["w", "there", "back"] []
  a_offsets_for : Addr
  d_offsets_for : FuncData
  F_offsets_for : Fun K "offsets_for" "offsets_for" s_offsets_for a_offsets_for d_offsets_for
  g_offsets_for : mg "offsets_for" = some (.ref a_offsets_for)
  b_offsets_for : Binds K d_offsets_for ["m", "wishes", "L"] []
  a_turned_offsets : Addr
  d_turned_offsets : FuncData
  F_turned_offsets : Fun K "turned_offsets" "turned_offsets" s_turned_offsets a_turned_offsets d_turned_offsets
  g_turned_offsets : mg "turned_offsets" = some (.ref a_turned_offsets)
  b_turned_offsets : Binds K d_turned_offsets ["offsets", "L", "ticks"] []
  a_arrivals : Addr
  d_arrivals : FuncData
  F_arrivals : Fun K "arrivals" "arrivals" s_arrivals a_arrivals d_arrivals
  g_arrivals : mg "arrivals" = some (.ref a_arrivals)
  b_arrivals : Binds K d_arrivals ["line", "start"] []
  a_passes : Addr
  d_passes : FuncData
  F_passes : Fun K "passes" "passes" s_passes a_passes d_passes
  g_passes : mg "passes" = some (.ref a_passes)
  b_passes : Binds K d_passes ["line", "greens", "L", "offsets", "start"] []
  a_band : Addr
  d_band : FuncData
  F_band : Fun K "band" "band" s_band a_band d_band
  g_band : mg "band" = some (.ref a_band)
  b_band : Binds K d_band ["line", "greens", "L", "offsets"] []
  a_band_bound : Addr
  d_band_bound : FuncData
  F_band_bound : Fun K "band_bound" "band_bound" s_band_bound a_band_bound d_band_bound
  g_band_bound : mg "band_bound" = some (.ref a_band_bound)
  b_band_bound : Binds K d_band_bound ["greens"] []
  a_offsets_of_line : Addr
  d_offsets_of_line : FuncData
  F_offsets_of_line : Fun K "offsets_of_line" "offsets_of_line" s_offsets_of_line a_offsets_of_line d_offsets_of_line
  g_offsets_of_line : mg "offsets_of_line" = some (.ref a_offsets_of_line)
  b_offsets_of_line : Binds K d_offsets_of_line ["m", "line", "greens", "L"] []
  a__law_open_cells : Addr
  d__law_open_cells : FuncData
  F__law_open_cells : Fun K "_law_open_cells" "_law_open_cells" s__law_open_cells a__law_open_cells d__law_open_cells
  g__law_open_cells : mg "_law_open_cells" = some (.ref a__law_open_cells)
  b__law_open_cells : Binds K d__law_open_cells ["script"] []
  a__law_pick : Addr
  d__law_pick : FuncData
  F__law_pick : Fun K "_law_pick" "_law_pick" s__law_pick a__law_pick d__law_pick
  g__law_pick : mg "_law_pick" = some (.ref a__law_pick)
  b__law_pick : Binds K d__law_pick ["source", "most"] []
  a__law_any_order : Addr
  d__law_any_order : FuncData
  F__law_any_order : Fun K "_law_any_order" "_law_any_order" s__law_any_order a__law_any_order d__law_any_order
  g__law_any_order : mg "_law_any_order" = some (.ref a__law_any_order)
  b__law_any_order : Binds K d__law_any_order ["source", "things"] []
  a__law_rest : Addr
  d__law_rest : FuncData
  F__law_rest : Fun K "_law_rest" "_law_rest" s__law_rest a__law_rest d__law_rest
  g__law_rest : mg "_law_rest" = some (.ref a__law_rest)
  b__law_rest : Binds K d__law_rest ["number", "L"] []
  a__law_line_ticks : Addr
  d__law_line_ticks : FuncData
  F__law_line_ticks : Fun K "_law_line_ticks" "_law_line_ticks" s__law_line_ticks a__law_line_ticks d__law_line_ticks
  g__law_line_ticks : mg "_law_line_ticks" = some (.ref a__law_line_ticks)
  b__law_line_ticks : Binds K d__law_line_ticks ["line", "start"] []
  a__law_band : Addr
  d__law_band : FuncData
  F__law_band : Fun K "_law_band" "_law_band" s__law_band a__law_band d__law_band
  g__law_band : mg "_law_band" = some (.ref a__law_band)
  b__law_band : Binds K d__law_band ["line", "greens", "L", "offsets"] []
  a__law_draw_line : Addr
  d__law_draw_line : FuncData
  F__law_draw_line : Fun K "_law_draw_line" "_law_draw_line" s__law_draw_line a__law_draw_line d__law_draw_line
  g__law_draw_line : mg "_law_draw_line" = some (.ref a__law_draw_line)
  b__law_draw_line : Binds K d__law_draw_line ["source", "m"] []
  a__law_draw_greens : Addr
  d__law_draw_greens : FuncData
  F__law_draw_greens : Fun K "_law_draw_greens" "_law_draw_greens" s__law_draw_greens a__law_draw_greens d__law_draw_greens
  g__law_draw_greens : mg "_law_draw_greens" = some (.ref a__law_draw_greens)
  b__law_draw_greens : Binds K d__law_draw_greens ["source", "many", "L"] []
  a_law : Addr
  d_law : FuncData
  F_law : Fun K "law" "law" s_law a_law d_law
  g_law : mg "law" = some (.ref a_law)
  b_law : Binds K d_law ["script"] []
  z_abs : mg "abs" = none
  z_all : mg "all" = none
  z_enumerate : mg "enumerate" = none
  z_int : mg "int" = none
  z_len : mg "len" = none
  z_list : mg "list" = none
  z_min : mg "min" = none
  z_range : mg "range" = none
  z_repr : mg "repr" = none
  z_sorted : mg "sorted" = none
  z_sum : mg "sum" = none
  z_tuple : mg "tuple" = none
  z_zip : mg "zip" = none
end K43
namespace K43
open PySem PySem.Spec PyProof.Rows L2 DL VL A30 KB

def f_offsets_for : FS :=
    (sSeq (sAsg (fCall (spOf vf_all_ways) (fCons (fVar 0) (fCons (fVar 1) fNil))) (gN 3))
    (sSeq (sAsg (fB1 bTuple (fCons (fLc (fRng1 (fCons (fVar 0) fNil)) (gN 5) fYes (fBin pMod (fCall (spOf vf_sum_of) (fCons (fVar 1) (fCons (fBin pSub' (fVar 3) (fVar 5)) fNil))) (fVar 2)) [5]) fNil)) (gN 4))
    (sSeq (sFor (fEn1 (fCons (fVar 1) fNil)) (gTp 2 (gCn (gN 6) (gCn (gN 7) gNl))) (sIf (fNotT (fB (fCall (spOf vf_is_kept) (fCons (fVar 7) (fCons (fVar 2) (fCons (fVar 4) fNil)))))) (sRet (fTup (fCons (fC (.str "ring")) (fCons (fCall (spOf vfNever) (fCons (fVar 6) (fCons (fBin pSub' (fVar 3) (fBin pSub' (fVar 7) (fC (.int 0)))) (fCons (fBin pSub' (fVar 3) (fBin pSub' (fVar 7) (fC (.int 1)))) fNil)))) fNil)))) (fun D δ W => D.nx δ W)))
    (sRet (fTup (fCons (fC (.str "offsets")) (fCons (fVar 4) fNil)))))))
def v_offsets_for : VS :=
    (vSeq (vAsg (vCall vf_all_ways (vaC (vVar 0) (vaC (vVar 1) vaN))) (tN 3))
    (vSeq (vAsg (vB1 gTuple (vaC (vLc (viRng1 (vaC (vVar 0) vaN)) (tN 5) vYes (vBin gMod (vCall vf_sum_of (vaC (vVar 1) (vaC (vBin gIx (vVar 3) (vVar 5)) vaN))) (vVar 2)) [5]) vaN)) (tN 4))
    (vSeq (vFgt [6, 7] (vFor (viEn1 (vaC (vVar 1) vaN)) (tTp 2 (tCn (tN 6) (tCn (tN 7) tNl))) (vEnd [6, 7] (vIfS (vNotT (vB (vCall vf_is_kept (vaC (vVar 7) (vaC (vVar 2) (vaC (vVar 4) vaN)))))) (vRet (vTup (vaC (vC (.str "ring")) (vaC (vCall vfNever (vaC (vVar 6) (vaC (vBin gIx (vVar 3) (vBin gIx (vVar 7) (vC (.int 0)))) (vaC (vBin gIx (vVar 3) (vBin gIx (vVar 7) (vC (.int 1)))) vaN)))) vaN)))) vNx))))
    (vRet (vTup (vaC (vC (.str "offsets")) (vaC (vVar 4) vaN)))))))
theorem vs_offsets_for : SSt f_offsets_for v_offsets_for :=
    (ss_seq (ss_as (sv_call (sa_c sv_var (sa_c sv_var sa_n))) sg_n)
    (ss_seq (ss_as (sv_b1 bv_tuple (sab_c (SV.b (SF.v (sf_lc (si_rng1V (sab_c (SV.b sv_var) sab_n)) sg_n so_yes (sv_bin ov_ic (SV.b (sv_call (sa_c sv_var (sa_c (sv_bin ov_ix (SV.b sv_var) (SV.b sv_var)) sa_n)))) (SV.b sv_var))))) sab_n)) sg_n)
    (ss_seq (ss_fgt (VL.ss_for (si_en1V (sa_c sv_var sa_n)) (sg_tp (sg_cn sg_n (sg_cn sg_n sg_nl))) (ss_end (VL.ss_if (so_not (so_b (SV.b (sv_call (sa_c sv_var (sa_c sv_var (sa_c sv_var sa_n))))))) (ss_rt (SV.b (sv_tup (sa_c sv_str (sa_c (sv_call (sa_c sv_var (sa_c (sv_bin ov_ix (SV.b sv_var) (SV.b (sv_bin ov_ix (SV.b sv_var) (SV.b sv_int)))) (sa_c (sv_bin ov_ix (SV.b sv_var) (SV.b (sv_bin ov_ix (SV.b sv_var) (SV.b sv_int)))) sa_n)))) sa_n))))) ss_nx))))
    (ss_rt (SV.b (sv_tup (sa_c sv_str (sa_c sv_var sa_n))))))))
@[simp] def vf_offsets_for : VF := fun us Q => match us with
  | [x0, x1, x2] => v_offsets_for (RTv Q) [some (.val x0), some (.val x1), some (.val x2), none, none, none, none, none]
  | _ => False
theorem vo_offsets_for : ∀ us Q, vf_offsets_for us Q → vFn 3 8 v_offsets_for us Q := fun us Q h => by
  unfold vf_offsets_for at h
  split at h
  · exact ⟨rfl, h⟩
  · exact h.elim
def f_law : FS := (sSeq (sAsg (fCall sp__law_open_cells (fCons (fVar 0) fNil)) (gN 1))
    (sSeq (sFor (fRng1 (fCons (fC (.int 4)) fNil)) (gN 2) (sSeq (sAsg (fTup (fCons (fBin pAdd (fC (.int 2)) (fCall (spOf vfPick) (fCons (fVar 1) (fCons (fC (.int 4)) fNil)))) (fCons (fBin pAdd (fC (.int 2)) (fCall (spOf vfPick) (fCons (fVar 1) (fCons (fC (.int 9)) fNil)))) fNil))) (gTp 2 (gCn (gN 3) (gCn (gN 4) gNl))))
    (sSeq (sAsg (fCall (spOf vf__law_draw_line) (fCons (fVar 1) (fCons (fVar 3) fNil))) (gN 5))
    (sSeq (sAsg (fCall (spOf vf__law_draw_greens) (fCons (fVar 1) (fCons (fB1 bLen (fCons (fVar 5) fNil)) (fCons (fVar 4) fNil)))) (gN 6))
    (sSeq (sPar 7 8 (fCons (fB1 bMin (fCons (fLc (fSeq (fVar 6)) (gN 9) fYes (fBin pSub' (fVar 9) (fC (.int 1))) [9]) fNil)) (fCons (fCall (spOf vf__law_line_ticks) (fCons (fVar 5) (fCons (fC (.int 0)) fNil))) fNil)))
    (sSeq (sAsg (fCall (spOf vf_offsets_of_line) (fCons (fVar 3) (fCons (fVar 5) (fCons (fVar 6) (fCons (fVar 4) fNil))))) (gN 10))
    (sSeq (sIf (fOrT (fB (fBin pNe (fCall (spOf vf_band_bound) (fCons (fVar 6) fNil)) (fVar 7))) (fB (fBin pNe (fCall (spOf vf_arrivals) (fCons (fVar 5) (fCons (fC (.int 0)) fNil))) (fB1 bTuple (fCons (fVar 8) fNil))))) (sRet (fC (.bl false))) (fun D δ W => D.nx δ W))
    (sSeq (sIf (fB (fBin pNe (fCall (spOf vf_band) (fCons (fVar 5) (fCons (fVar 6) (fCons (fVar 4) (fCons (fVar 10) fNil))))) (fCall (spOf vf__law_band) (fCons (fVar 5) (fCons (fVar 6) (fCons (fVar 4) (fCons (fVar 10) fNil))))))) (sRet (fC (.bl false))) (fun D δ W => D.nx δ W))
    (sSeq (sIf (fB (fBin pNe (fB1 bLen (fCons (fCall (spOf vf__law_band) (fCons (fVar 5) (fCons (fVar 6) (fCons (fVar 4) (fCons (fVar 10) fNil))))) fNil)) (fVar 7))) (sRet (fC (.bl false))) (fun D δ W => D.nx δ W))
    (sSeq (sAsg (fLst fNil) (gN 11))
    (sSeq (sFor (fRng2 (fCons (fC (.int 1)) (fCons (fB1 bLen (fCons (fVar 5) fNil)) fNil))) (gN 12) (sSeq (sPar 13 14 (fCons (fBin pSub' (fBin pSub' (fVar 5) (fBin pSub (fVar 12) (fC (.int 1)))) (fC (.int 0))) (fCons (fBin pSub' (fBin pSub' (fVar 5) (fVar 12)) (fC (.int 0))) fNil)))
    (sSeq (sDrop (fM isL mAppend (fVar 11) (fCons (fCall (spOf vf_wish_of) (fCons (fVar 13) (fCons (fBin pSub' (fBin pSub' (fVar 6) (fBin pSub (fVar 12) (fC (.int 1)))) (fC (.int 0))) (fCons (fVar 14) (fCons (fBin pSub' (fBin pSub' (fVar 6) (fVar 12)) (fC (.int 0))) (fCons (fBin pSub' (fBin pSub' (fVar 5) (fVar 12)) (fC (.int 1))) fNil)))))) fNil)))
    (sIf (fB (fBin pNe (fBin pSub' (fVar 11) (fNeg (fC (.int 1)))) (fTup (fCons (fVar 13) (fCons (fVar 14) (fCons (fBin pSub (fBin pAdd (fBin pSub' (fBin pSub' (fVar 6) (fBin pSub (fVar 12) (fC (.int 1)))) (fC (.int 0))) (fBin pSub' (fBin pSub' (fVar 5) (fVar 12)) (fC (.int 1)))) (fBin pSub' (fBin pSub' (fVar 6) (fVar 12)) (fC (.int 0)))) fNil)))))) (sRet (fC (.bl false))) (fun D δ W => D.nx δ W)))))
    (sSeq (sAsg (fCall (spOf vf_offsets_for) (fCons (fVar 3) (fCons (fB1 bTuple (fCons (fVar 11) fNil)) (fCons (fVar 4) fNil)))) (gTp 2 (gCn (gN 15) (gCn (gN 16) gNl))))
    (sSeq (sIf (fOrT (fB (fBin pNe (fVar 15) (fC (.str "offsets")))) (fB (fBin pNe (fCall (spOf vf_kept) (fCons (fB1 bTuple (fCons (fVar 11) fNil)) (fCons (fVar 4) (fCons (fVar 10) fNil)))) (fTupR1 (fB1 bLen (fCons (fVar 11) fNil)))))) (sRet (fC (.bl false))) (fun D δ W => D.nx δ W))
    (sSeq (sIf (fOrT (fB (fBin pNe (fB1 bLen (fCons (fCall (spOf vf_band) (fCons (fVar 5) (fCons (fVar 6) (fCons (fVar 4) (fCons (fVar 16) fNil))))) fNil)) (fVar 7))) (fB (fBin pNe (fB1 bLen (fCons (fCall (spOf vf__law_band) (fCons (fVar 5) (fCons (fVar 6) (fCons (fVar 4) (fCons (fVar 16) fNil))))) fNil)) (fVar 7)))) (sRet (fC (.bl false))) (fun D δ W => D.nx δ W))
    (sSeq (sAsg (fBin pSub (fCall (spOf vfPick) (fCons (fVar 1) (fCons (fC (.int 60)) fNil))) (fC (.int 30))) (gN 17))
    (sSeq (sAsg (fCall (spOf vf_band) (fCons (fVar 5) (fCons (fVar 6) (fCons (fVar 4) (fCons (fCall (spOf vf_turned_offsets) (fCons (fVar 10) (fCons (fVar 4) (fCons (fVar 17) fNil)))) fNil))))) (gN 18))
    (sSeq (sIf (fB (fBin pNe (fVar 18) (fB1 bTuple (fCons (fB1 bSortG (fCons (fLc (fSeq (fCall (spOf vf__law_band) (fCons (fVar 5) (fCons (fVar 6) (fCons (fVar 4) (fCons (fVar 10) fNil)))))) (gN 19) fYes (fCall (spOf vf__law_rest) (fCons (fBin pAdd (fVar 19) (fVar 17)) (fCons (fVar 4) fNil))) [19]) fNil)) fNil)))) (sRet (fC (.bl false))) (fun D δ W => D.nx δ W))
    (sFor (fRng1 (fCons (fC (.int 4)) fNil)) (gN 20) (sSeq (sAsg (fB1 bTuple (fCons (fLc (fRng1 (fCons (fVar 3) fNil)) (gN 22) fYes (fCall (spOf vfPick) (fCons (fVar 1) (fCons (fVar 4) fNil))) [22]) fNil)) (gN 21))
    (sSeq (sAsg (fCall (spOf vf__law_band) (fCons (fVar 5) (fCons (fVar 6) (fCons (fVar 4) (fCons (fVar 21) fNil))))) (gN 23))
    (sSeq (sIf (fOrT (fB (fBin pNe (fCall (spOf vf_band) (fCons (fVar 5) (fCons (fVar 6) (fCons (fVar 4) (fCons (fVar 21) fNil))))) (fVar 23))) (fB (fBin (pII0 fun i j => .bl (decide (j < i))) (fB1 bLen (fCons (fVar 23) fNil)) (fVar 7)))) (sRet (fC (.bl false))) (fun D δ W => D.nx δ W))
    (sSeq (sAsg (fCall (spOf vfPick) (fCons (fVar 1) (fCons (fBin pMul (fC (.int 3)) (fVar 4)) fNil))) (gN 19))
    (sIf (fB (fBin pNe (fB1 bRepr (fCons (fCall (spOf vf_passes) (fCons (fVar 5) (fCons (fVar 6) (fCons (fVar 4) (fCons (fVar 21) (fCons (fVar 19) fNil)))))) fNil)) (fB1 bRepr (fCons (fBin (pInA false) (fCall (spOf vf__law_rest) (fCons (fVar 19) (fCons (fVar 4) fNil))) (fVar 23)) fNil)))) (sRet (fC (.bl false))) (fun D δ W => D.nx δ W))))))))))))))))))))))))
    (sRet (fC (.bl true)))))
def v_law : VS :=
    (vSeq (vFgt [2, 3, 4, 5, 6, 7, 8, 10, 11, 12, 15, 16, 17, 18, 20] (vFor (viRng1 (vaC (vC (.int 4)) vaN)) (tN 2) (vEnd [2, 3, 4, 5, 6, 7, 8, 10, 11, 12, 15, 16, 17, 18, 20] (vSeq (vPar 3 4 false false (vBin gAdd (vC (.int 2)) (vCall vfPick (vaC (vVar 1) (vaC (vC (.int 4)) vaN)))) (vBin gAdd (vC (.int 2)) (vCall vfPick (vaC (vVar 1) (vaC (vC (.int 9)) vaN)))))
    (vSeq (vAsg (vCall vf__law_draw_line (vaC (vVar 1) (vaC (vVar 3) vaN))) (tN 5))
    (vSeq (vAsg (vCall vf__law_draw_greens (vaC (vVar 1) (vaC (vB1 gLen (vaC (vVar 5) vaN)) (vaC (vVar 4) vaN)))) (tN 6))
    (vSeq (vPar 7 8 false false (vB1 gMinL (vaC (vLc (viSeq (vVar 6)) (tN 9) vYes (vBin gIx (vVar 9) (vC (.int 1))) [9]) vaN)) (vCall vf__law_line_ticks (vaC (vVar 5) (vaC (vC (.int 0)) vaN))))
    (vSeq (vAsg (vCall vf_offsets_of_line (vaC (vVar 3) (vaC (vVar 5) (vaC (vVar 6) (vaC (vVar 4) vaN))))) (tN 10))
    (vSeq (vIfS (vOrT (vB (vBin (gEq true) (vCall vf_band_bound (vaC (vVar 6) vaN)) (vVar 7))) (vB (vBin (gEq true) (vCall vf_arrivals (vaC (vVar 5) (vaC (vC (.int 0)) vaN))) (vB1 gTuple (vaC (vVar 8) vaN))))) (vRet (vC (.bl false))) vNx)
    (vSeq (vIfS (vB (vBin (gEq true) (vCall vf_band (vaC (vVar 5) (vaC (vVar 6) (vaC (vVar 4) (vaC (vVar 10) vaN))))) (vCall vf__law_band (vaC (vVar 5) (vaC (vVar 6) (vaC (vVar 4) (vaC (vVar 10) vaN))))))) (vRet (vC (.bl false))) vNx)
    (vSeq (vIfS (vB (vBin (gEq true) (vB1 gLen (vaC (vCall vf__law_band (vaC (vVar 5) (vaC (vVar 6) (vaC (vVar 4) (vaC (vVar 10) vaN))))) vaN)) (vVar 7))) (vRet (vC (.bl false))) vNx)
    (vSeq (vOwn 11 (vLst vaN))
    (vSeq (vFgt [12, 13, 14] (vFor (viRng2 (vaC (vC (.int 1)) (vaC (vB1 gLen (vaC (vVar 5) vaN)) vaN))) (tN 12) (vEnd [12, 13, 14] (vSeq (vPar 13 14 false false (vBin gIx (vBin gIx (vVar 5) (vBin gSub (vVar 12) (vC (.int 1)))) (vC (.int 0))) (vBin gIx (vBin gIx (vVar 5) (vVar 12)) (vC (.int 0))))
    (vSeq (vApp 11 (vCall vf_wish_of (vaC (vVar 13) (vaC (vBin gIx (vBin gIx (vVar 6) (vBin gSub (vVar 12) (vC (.int 1)))) (vC (.int 0))) (vaC (vVar 14) (vaC (vBin gIx (vBin gIx (vVar 6) (vVar 12)) (vC (.int 0))) (vaC (vBin gIx (vBin gIx (vVar 5) (vVar 12)) (vC (.int 1))) vaN)))))))
    (vIfS (vB (vBin (gEq true) (vBin gIx (vBor 11) (vNeg (vC (.int 1)))) (vTup (vaC (vVar 13) (vaC (vVar 14) (vaC (vBin gSub (vBin gAdd (vBin gIx (vBin gIx (vVar 6) (vBin gSub (vVar 12) (vC (.int 1)))) (vC (.int 0))) (vBin gIx (vBin gIx (vVar 5) (vVar 12)) (vC (.int 1)))) (vBin gIx (vBin gIx (vVar 6) (vVar 12)) (vC (.int 0)))) vaN)))))) (vRet (vC (.bl false))) vNx))))))
    (vSeq (vAsg (vCall vf_offsets_for (vaC (vVar 3) (vaC (vB1 gTuple (vaC (vBor 11) vaN)) (vaC (vVar 4) vaN)))) (tTp 2 (tCn (tN 15) (tCn (tN 16) tNl))))
    (vSeq (vIfS (vOrT (vB (vBin (gEq true) (vVar 15) (vC (.str "offsets")))) (vB (vBin (gEq true) (vCall vf_kept (vaC (vB1 gTuple (vaC (vBor 11) vaN)) (vaC (vVar 4) (vaC (vVar 10) vaN)))) (vTupR1 (vB1 gLen (vaC (vBor 11) vaN)))))) (vRet (vC (.bl false))) vNx)
    (vSeq (vIfS (vOrT (vB (vBin (gEq true) (vB1 gLen (vaC (vCall vf_band (vaC (vVar 5) (vaC (vVar 6) (vaC (vVar 4) (vaC (vVar 16) vaN))))) vaN)) (vVar 7))) (vB (vBin (gEq true) (vB1 gLen (vaC (vCall vf__law_band (vaC (vVar 5) (vaC (vVar 6) (vaC (vVar 4) (vaC (vVar 16) vaN))))) vaN)) (vVar 7)))) (vRet (vC (.bl false))) vNx)
    (vSeq (vAsg (vBin gSub (vCall vfPick (vaC (vVar 1) (vaC (vC (.int 60)) vaN))) (vC (.int 30))) (tN 17))
    (vSeq (vAsg (vCall vf_band (vaC (vVar 5) (vaC (vVar 6) (vaC (vVar 4) (vaC (vCall vf_turned_offsets (vaC (vVar 10) (vaC (vVar 4) (vaC (vVar 17) vaN)))) vaN))))) (tN 18))
    (vSeq (vIfS (vB (vBin (gEq true) (vVar 18) (vB1 gTuple (vaC (vB1 gSortI (vaC (vLc (viSeq (vCall vf__law_band (vaC (vVar 5) (vaC (vVar 6) (vaC (vVar 4) (vaC (vVar 10) vaN)))))) (tN 19) vYes (vCall vf__law_rest (vaC (vBin gAdd (vVar 19) (vVar 17)) (vaC (vVar 4) vaN))) [19]) vaN)) vaN)))) (vRet (vC (.bl false))) vNx)
    (vFgt [19, 20, 21, 23] (vFor (viRng1 (vaC (vC (.int 4)) vaN)) (tN 20) (vEnd [19, 20, 21, 23] (vSeq (vAsg (vB1 gTuple (vaC (vLc (viRng1 (vaC (vVar 3) vaN)) (tN 22) vYes (vCall vfPick (vaC (vVar 1) (vaC (vVar 4) vaN))) [22]) vaN)) (tN 21))
    (vSeq (vAsg (vCall vf__law_band (vaC (vVar 5) (vaC (vVar 6) (vaC (vVar 4) (vaC (vVar 21) vaN))))) (tN 23))
    (vSeq (vIfS (vOrT (vB (vBin (gEq true) (vCall vf_band (vaC (vVar 5) (vaC (vVar 6) (vaC (vVar 4) (vaC (vVar 21) vaN))))) (vVar 23))) (vB (vBin (gI2 fun i j => .bl (decide (j < i))) (vB1 gLen (vaC (vVar 23) vaN)) (vVar 7)))) (vRet (vC (.bl false))) vNx)
    (vSeq (vAsg (vCall vfPick (vaC (vVar 1) (vaC (vBin gMul (vC (.int 3)) (vVar 4)) vaN))) (tN 19))
    (vIfS (vB (vBin (gEq true) (vB1 gRepr (vaC (vCall vf_passes (vaC (vVar 5) (vaC (vVar 6) (vaC (vVar 4) (vaC (vVar 21) (vaC (vVar 19) vaN)))))) vaN)) (vB1 gRepr (vaC (vBin (gIn false) (vCall vf__law_rest (vaC (vVar 19) (vaC (vVar 4) vaN))) (vVar 23)) vaN)))) (vRet (vC (.bl false))) vNx)))))))))))))))))))))))))))
    (vRet (vC (.bl true))))
theorem vs_law : SSt
    (sSeq (sFor (fRng1 (fCons (fC (.int 4)) fNil)) (gN 2) (sSeq (sAsg (fTup (fCons (fBin pAdd (fC (.int 2)) (fCall (spOf vfPick) (fCons (fVar 1) (fCons (fC (.int 4)) fNil)))) (fCons (fBin pAdd (fC (.int 2)) (fCall (spOf vfPick) (fCons (fVar 1) (fCons (fC (.int 9)) fNil)))) fNil))) (gTp 2 (gCn (gN 3) (gCn (gN 4) gNl))))
    (sSeq (sAsg (fCall (spOf vf__law_draw_line) (fCons (fVar 1) (fCons (fVar 3) fNil))) (gN 5))
    (sSeq (sAsg (fCall (spOf vf__law_draw_greens) (fCons (fVar 1) (fCons (fB1 bLen (fCons (fVar 5) fNil)) (fCons (fVar 4) fNil)))) (gN 6))
    (sSeq (sPar 7 8 (fCons (fB1 bMin (fCons (fLc (fSeq (fVar 6)) (gN 9) fYes (fBin pSub' (fVar 9) (fC (.int 1))) [9]) fNil)) (fCons (fCall (spOf vf__law_line_ticks) (fCons (fVar 5) (fCons (fC (.int 0)) fNil))) fNil)))
    (sSeq (sAsg (fCall (spOf vf_offsets_of_line) (fCons (fVar 3) (fCons (fVar 5) (fCons (fVar 6) (fCons (fVar 4) fNil))))) (gN 10))
    (sSeq (sIf (fOrT (fB (fBin pNe (fCall (spOf vf_band_bound) (fCons (fVar 6) fNil)) (fVar 7))) (fB (fBin pNe (fCall (spOf vf_arrivals) (fCons (fVar 5) (fCons (fC (.int 0)) fNil))) (fB1 bTuple (fCons (fVar 8) fNil))))) (sRet (fC (.bl false))) (fun D δ W => D.nx δ W))
    (sSeq (sIf (fB (fBin pNe (fCall (spOf vf_band) (fCons (fVar 5) (fCons (fVar 6) (fCons (fVar 4) (fCons (fVar 10) fNil))))) (fCall (spOf vf__law_band) (fCons (fVar 5) (fCons (fVar 6) (fCons (fVar 4) (fCons (fVar 10) fNil))))))) (sRet (fC (.bl false))) (fun D δ W => D.nx δ W))
    (sSeq (sIf (fB (fBin pNe (fB1 bLen (fCons (fCall (spOf vf__law_band) (fCons (fVar 5) (fCons (fVar 6) (fCons (fVar 4) (fCons (fVar 10) fNil))))) fNil)) (fVar 7))) (sRet (fC (.bl false))) (fun D δ W => D.nx δ W))
    (sSeq (sAsg (fLst fNil) (gN 11))
    (sSeq (sFor (fRng2 (fCons (fC (.int 1)) (fCons (fB1 bLen (fCons (fVar 5) fNil)) fNil))) (gN 12) (sSeq (sPar 13 14 (fCons (fBin pSub' (fBin pSub' (fVar 5) (fBin pSub (fVar 12) (fC (.int 1)))) (fC (.int 0))) (fCons (fBin pSub' (fBin pSub' (fVar 5) (fVar 12)) (fC (.int 0))) fNil)))
    (sSeq (sDrop (fM isL mAppend (fVar 11) (fCons (fCall (spOf vf_wish_of) (fCons (fVar 13) (fCons (fBin pSub' (fBin pSub' (fVar 6) (fBin pSub (fVar 12) (fC (.int 1)))) (fC (.int 0))) (fCons (fVar 14) (fCons (fBin pSub' (fBin pSub' (fVar 6) (fVar 12)) (fC (.int 0))) (fCons (fBin pSub' (fBin pSub' (fVar 5) (fVar 12)) (fC (.int 1))) fNil)))))) fNil)))
    (sIf (fB (fBin pNe (fBin pSub' (fVar 11) (fNeg (fC (.int 1)))) (fTup (fCons (fVar 13) (fCons (fVar 14) (fCons (fBin pSub (fBin pAdd (fBin pSub' (fBin pSub' (fVar 6) (fBin pSub (fVar 12) (fC (.int 1)))) (fC (.int 0))) (fBin pSub' (fBin pSub' (fVar 5) (fVar 12)) (fC (.int 1)))) (fBin pSub' (fBin pSub' (fVar 6) (fVar 12)) (fC (.int 0)))) fNil)))))) (sRet (fC (.bl false))) (fun D δ W => D.nx δ W)))))
    (sSeq (sAsg (fCall (spOf vf_offsets_for) (fCons (fVar 3) (fCons (fB1 bTuple (fCons (fVar 11) fNil)) (fCons (fVar 4) fNil)))) (gTp 2 (gCn (gN 15) (gCn (gN 16) gNl))))
    (sSeq (sIf (fOrT (fB (fBin pNe (fVar 15) (fC (.str "offsets")))) (fB (fBin pNe (fCall (spOf vf_kept) (fCons (fB1 bTuple (fCons (fVar 11) fNil)) (fCons (fVar 4) (fCons (fVar 10) fNil)))) (fTupR1 (fB1 bLen (fCons (fVar 11) fNil)))))) (sRet (fC (.bl false))) (fun D δ W => D.nx δ W))
    (sSeq (sIf (fOrT (fB (fBin pNe (fB1 bLen (fCons (fCall (spOf vf_band) (fCons (fVar 5) (fCons (fVar 6) (fCons (fVar 4) (fCons (fVar 16) fNil))))) fNil)) (fVar 7))) (fB (fBin pNe (fB1 bLen (fCons (fCall (spOf vf__law_band) (fCons (fVar 5) (fCons (fVar 6) (fCons (fVar 4) (fCons (fVar 16) fNil))))) fNil)) (fVar 7)))) (sRet (fC (.bl false))) (fun D δ W => D.nx δ W))
    (sSeq (sAsg (fBin pSub (fCall (spOf vfPick) (fCons (fVar 1) (fCons (fC (.int 60)) fNil))) (fC (.int 30))) (gN 17))
    (sSeq (sAsg (fCall (spOf vf_band) (fCons (fVar 5) (fCons (fVar 6) (fCons (fVar 4) (fCons (fCall (spOf vf_turned_offsets) (fCons (fVar 10) (fCons (fVar 4) (fCons (fVar 17) fNil)))) fNil))))) (gN 18))
    (sSeq (sIf (fB (fBin pNe (fVar 18) (fB1 bTuple (fCons (fB1 bSortG (fCons (fLc (fSeq (fCall (spOf vf__law_band) (fCons (fVar 5) (fCons (fVar 6) (fCons (fVar 4) (fCons (fVar 10) fNil)))))) (gN 19) fYes (fCall (spOf vf__law_rest) (fCons (fBin pAdd (fVar 19) (fVar 17)) (fCons (fVar 4) fNil))) [19]) fNil)) fNil)))) (sRet (fC (.bl false))) (fun D δ W => D.nx δ W))
    (sFor (fRng1 (fCons (fC (.int 4)) fNil)) (gN 20) (sSeq (sAsg (fB1 bTuple (fCons (fLc (fRng1 (fCons (fVar 3) fNil)) (gN 22) fYes (fCall (spOf vfPick) (fCons (fVar 1) (fCons (fVar 4) fNil))) [22]) fNil)) (gN 21))
    (sSeq (sAsg (fCall (spOf vf__law_band) (fCons (fVar 5) (fCons (fVar 6) (fCons (fVar 4) (fCons (fVar 21) fNil))))) (gN 23))
    (sSeq (sIf (fOrT (fB (fBin pNe (fCall (spOf vf_band) (fCons (fVar 5) (fCons (fVar 6) (fCons (fVar 4) (fCons (fVar 21) fNil))))) (fVar 23))) (fB (fBin (pII0 fun i j => .bl (decide (j < i))) (fB1 bLen (fCons (fVar 23) fNil)) (fVar 7)))) (sRet (fC (.bl false))) (fun D δ W => D.nx δ W))
    (sSeq (sAsg (fCall (spOf vfPick) (fCons (fVar 1) (fCons (fBin pMul (fC (.int 3)) (fVar 4)) fNil))) (gN 19))
    (sIf (fB (fBin pNe (fB1 bRepr (fCons (fCall (spOf vf_passes) (fCons (fVar 5) (fCons (fVar 6) (fCons (fVar 4) (fCons (fVar 21) (fCons (fVar 19) fNil)))))) fNil)) (fB1 bRepr (fCons (fBin (pInA false) (fCall (spOf vf__law_rest) (fCons (fVar 19) (fCons (fVar 4) fNil))) (fVar 23)) fNil)))) (sRet (fC (.bl false))) (fun D δ W => D.nx δ W))))))))))))))))))))))))
    (sRet (fC (.bl true)))) v_law :=
    (ss_seq (ss_fgt (VL.ss_for (si_rng1V (sab_c (SV.b sv_int) sab_n)) sg_n (ss_end (ss_seq (VL.ss_parT (show SX false _ _ from (sv_bin ov_add (SV.b sv_int) (SV.b (sv_call (sa_c sv_var (sa_c sv_int sa_n)))))) (show SX false _ _ from (sv_bin ov_add (SV.b sv_int) (SV.b (sv_call (sa_c sv_var (sa_c sv_int sa_n)))))))
    (ss_seq (ss_as (sv_call (sa_c sv_var (sa_c sv_var sa_n))) sg_n)
    (ss_seq (ss_as (sv_call (sa_c sv_var (sa_c (sv_b1 bv_len (sab_c (SV.b sv_var) sab_n)) (sa_c sv_var sa_n)))) sg_n)
    (ss_seq (VL.ss_par (show SX false _ _ from (sv_b1 bv_min (sab_c (SV.b (SF.v (sf_lc (si_seqV sv_var) sg_n so_yes (sv_bin ov_ix (SV.b sv_var) (SV.b sv_int))))) sab_n))) (show SX false _ _ from (sv_call (sa_c sv_var (sa_c sv_int sa_n)))))
    (ss_seq (ss_as (sv_call (sa_c sv_var (sa_c sv_var (sa_c sv_var (sa_c sv_var sa_n))))) sg_n)
    (ss_seq (VL.ss_if (so_or (so_b (SV.b (sv_bin ov_ne (SV.b (sv_call (sa_c sv_var sa_n))) (SV.b sv_var)))) (so_b (SV.b (sv_bin ov_ne (SV.b (sv_call (sa_c sv_var (sa_c sv_int sa_n)))) (SV.b (sv_b1 bv_tuple (sab_c (SV.b sv_var) sab_n))))))) (ss_rt (SV.b sv_bl)) ss_nx)
    (ss_seq (VL.ss_if (so_b (SV.b (sv_bin ov_ne (SV.b (sv_call (sa_c sv_var (sa_c sv_var (sa_c sv_var (sa_c sv_var sa_n)))))) (SV.b (sv_call (sa_c sv_var (sa_c sv_var (sa_c sv_var (sa_c sv_var sa_n))))))))) (ss_rt (SV.b sv_bl)) ss_nx)
    (ss_seq (VL.ss_if (so_b (SV.b (sv_bin ov_ne (SV.b (sv_b1 bv_len (sab_c (SV.b (sv_call (sa_c sv_var (sa_c sv_var (sa_c sv_var (sa_c sv_var sa_n)))))) sab_n))) (SV.b sv_var)))) (ss_rt (SV.b sv_bl)) ss_nx)
    (ss_seq (ss_own (sf_lst sa_n))
    (ss_seq (ss_fgt (VL.ss_for (si_rng2V (sab_c (SV.b sv_int) (sab_c (SV.b (sv_b1 bv_len (sab_c (SV.b sv_var) sab_n))) sab_n))) sg_n (ss_end (ss_seq (VL.ss_par (show SX false _ _ from (sv_bin ov_ix (SV.b (sv_bin ov_ix (SV.b sv_var) (SV.b (sv_bin ov_ii (SV.b sv_var) (SV.b sv_int))))) (SV.b sv_int))) (show SX false _ _ from (sv_bin ov_ix (SV.b (sv_bin ov_ix (SV.b sv_var) (SV.b sv_var))) (SV.b sv_int))))
    (ss_seq (ss_app (sv_call (sa_c sv_var (sa_c (sv_bin ov_ix (SV.b (sv_bin ov_ix (SV.b sv_var) (SV.b (sv_bin ov_ii (SV.b sv_var) (SV.b sv_int))))) (SV.b sv_int)) (sa_c sv_var (sa_c (sv_bin ov_ix (SV.b (sv_bin ov_ix (SV.b sv_var) (SV.b sv_var))) (SV.b sv_int)) (sa_c (sv_bin ov_ix (SV.b (sv_bin ov_ix (SV.b sv_var) (SV.b sv_var))) (SV.b sv_int)) sa_n)))))))
    (VL.ss_if (so_b (SV.b (sv_bin ov_ne (SV.b (sv_bin ov_ix sb_bor (SV.b (sv_neg (SV.b sv_int))))) (SV.b (sv_tup (sa_c sv_var (sa_c sv_var (sa_c (sv_bin ov_ii (SV.b (sv_bin ov_add (SV.b (sv_bin ov_ix (SV.b (sv_bin ov_ix (SV.b sv_var) (SV.b (sv_bin ov_ii (SV.b sv_var) (SV.b sv_int))))) (SV.b sv_int))) (SV.b (sv_bin ov_ix (SV.b (sv_bin ov_ix (SV.b sv_var) (SV.b sv_var))) (SV.b sv_int))))) (SV.b (sv_bin ov_ix (SV.b (sv_bin ov_ix (SV.b sv_var) (SV.b sv_var))) (SV.b sv_int)))) sa_n)))))))) (ss_rt (SV.b sv_bl)) ss_nx))))))
    (ss_seq (ss_as (sv_call (sa_c sv_var (sa_c (sv_b1 bv_tuple (sab_c sb_bor sab_n)) (sa_c sv_var sa_n)))) (sg_tp (sg_cn sg_n (sg_cn sg_n sg_nl))))
    (ss_seq (VL.ss_if (so_or (so_b (SV.b (sv_bin ov_ne (SV.b sv_var) (SV.b sv_str)))) (so_b (SV.b (sv_bin ov_ne (SV.b (sv_call (sa_c (sv_b1 bv_tuple (sab_c sb_bor sab_n)) (sa_c sv_var (sa_c sv_var sa_n))))) (SV.b (sv_tupR1 (SV.b (sv_b1 bv_len (sab_c sb_bor sab_n))))))))) (ss_rt (SV.b sv_bl)) ss_nx)
    (ss_seq (VL.ss_if (so_or (so_b (SV.b (sv_bin ov_ne (SV.b (sv_b1 bv_len (sab_c (SV.b (sv_call (sa_c sv_var (sa_c sv_var (sa_c sv_var (sa_c sv_var sa_n)))))) sab_n))) (SV.b sv_var)))) (so_b (SV.b (sv_bin ov_ne (SV.b (sv_b1 bv_len (sab_c (SV.b (sv_call (sa_c sv_var (sa_c sv_var (sa_c sv_var (sa_c sv_var sa_n)))))) sab_n))) (SV.b sv_var))))) (ss_rt (SV.b sv_bl)) ss_nx)
    (ss_seq (ss_as (sv_bin ov_ii (SV.b (sv_call (sa_c sv_var (sa_c sv_int sa_n)))) (SV.b sv_int)) sg_n)
    (ss_seq (ss_as (sv_call (sa_c sv_var (sa_c sv_var (sa_c sv_var (sa_c (sv_call (sa_c sv_var (sa_c sv_var (sa_c sv_var sa_n)))) sa_n))))) sg_n)
    (ss_seq (VL.ss_if (so_b (SV.b (sv_bin ov_ne (SV.b sv_var) (SV.b (sv_b1 bv_tuple (sab_c (SV.b (SF.v (sf_b1 bf_sortI (sab_c (SV.b (SF.v (sf_lc (si_seqV (sv_call (sa_c sv_var (sa_c sv_var (sa_c sv_var (sa_c sv_var sa_n)))))) sg_n so_yes (sv_call (sa_c (sv_bin ov_add (SV.b sv_var) (SV.b sv_var)) (sa_c sv_var sa_n)))))) sab_n)))) sab_n)))))) (ss_rt (SV.b sv_bl)) ss_nx)
    (ss_fgt (VL.ss_for (si_rng1V (sab_c (SV.b sv_int) sab_n)) sg_n (ss_end (ss_seq (ss_as (sv_b1 bv_tuple (sab_c (SV.b (SF.v (sf_lc (si_rng1V (sab_c (SV.b sv_var) sab_n)) sg_n so_yes (sv_call (sa_c sv_var (sa_c sv_var sa_n)))))) sab_n)) sg_n)
    (ss_seq (ss_as (sv_call (sa_c sv_var (sa_c sv_var (sa_c sv_var (sa_c sv_var sa_n))))) sg_n)
    (ss_seq (VL.ss_if (so_or (so_b (SV.b (sv_bin ov_ne (SV.b (sv_call (sa_c sv_var (sa_c sv_var (sa_c sv_var (sa_c sv_var sa_n)))))) (SV.b sv_var)))) (so_b (SV.b (sv_bin ov_ib (SV.b (sv_b1 bv_len (sab_c (SV.b sv_var) sab_n))) (SV.b sv_var))))) (ss_rt (SV.b sv_bl)) ss_nx)
    (ss_seq (ss_as (sv_call (sa_c sv_var (sa_c (sv_bin ov_mul (SV.b sv_int) (SV.b sv_var)) sa_n))) sg_n)
    (VL.ss_if (so_b (SV.b (sv_bin ov_ne (SV.b (sv_b1 bv_repr (sab_c (SV.b (sv_call (sa_c sv_var (sa_c sv_var (sa_c sv_var (sa_c sv_var (sa_c sv_var sa_n))))))) sab_n))) (SV.b (sv_b1 bv_repr (sab_c (SV.b (sv_bin (ov_in false) (SV.b (sv_call (sa_c sv_var (sa_c sv_var sa_n)))) (SV.b sv_var))) sab_n)))))) (ss_rt (SV.b sv_bl)) ss_nx)))))))))))))))))))))))))))
    (ss_rt (SV.b sv_bl)))
end K43
/-! W43a: all ways, offsets for wishes. -/
namespace K43
open PySem PySem.Spec PyProof.Rows L2 DL VL A30 KB
structure GI (m : Nat) (W : List Wi) (phi : Int → Int) (k : Nat) (G : As) : Prop where
  nd : (kys G).Nodup
  ln : G.length ≤ k * (m + 1)
  all : ∀ c : Nat, c < k → ((c : Nat) : Int) ∈ kys G
  st : ∀ c p, look G c = some p → (∀ s ∈ p, StOk W s) ∧ p.length ≤ m
  cl : ∀ s, StOk W s → bgn W s ∈ kys G → ndd W s ∈ kys G
  pt : ∀ s, StOk W s → ∀ p p', look G (bgn W s) = some p → look G (ndd W s) = some p' → psum W p' - psum W p = phi (ndd W s) - phi (bgn W s)
section
variable {m : Nat} {W : List Wi} {phi : Int → Int}
def rev (s : Pr) : Pr := (s.1, -s.2)
theorem rev_ok {s : Pr} (h : StOk W s) : StOk W (rev s) ∧ bgn W (rev s) = ndd W s ∧ ndd W (rev s) = bgn W s := by
  obtain ⟨h0, h1, h2⟩ := h
  unfold rev bgn ndd
  rcases h2 with z | z
  · exact ⟨⟨h0, h1, by simp [z]⟩, by simp [z], by simp [z]⟩
  · exact ⟨⟨h0, h1, by simp [z]⟩, by simp [z], by simp [z]⟩
theorem gi_start : GI m W phi 0 [] := ⟨by simp [kys], by simp, fun c h => by omega, fun c p h => by simp [look] at h, fun s _ h => by simp [kys] at h, fun s _ p p' h => by simp [look] at h⟩
theorem gi_mrg {k : Nat} {G A : As} (h : GI m W phi k G) (hk : PK m W phi (k : Nat) A) (hc : ∀ a ∈ kys A, Cl W A a) : GI m W phi (k + 1) (mrg G A) := by
  have hl : ∀ d, look (mrg G A) d = (look A d).or (look G d) := fun d => mrg_look A G d hk.nd
  have hkeys : ∀ d, d ∈ kys (mrg G A) ↔ d ∈ kys A ∨ d ∈ kys G := by
    intro d
    rw [look_kys, hl, look_kys, look_kys]
    cases look A d with
    | none => simp
    | some p => simp
  have hback : ∀ s, StOk W s → (bgn W s ∈ kys A ↔ ndd W s ∈ kys A) := by
    intro s hs
    obtain ⟨r1, r2, r3⟩ := rev_ok hs
    exact ⟨fun z => hc _ z s hs rfl, fun z => by have := hc _ z (rev s) r1 r2; rw [r3] at this; exact this⟩
  have hnone : ∀ d, d ∉ kys A → look A d = none := by
    intro d hd
    have := look_some (A := A) (c := d)
    rw [decide_eq_false hd] at this
    cases h : look A d with
    | none => rfl
    | some v => rw [h] at this; cases this
  refine ⟨mrg_nodup A G h.nd, ?_, fun c hcc => ?_, fun c p hp => ?_, fun s hs hb => ?_, fun s hs p p' hp hp' => ?_⟩
  · have h1 := mrg_len A G
    have h2 := h.ln
    have h3 := hk.ln
    have e : (k + 1) * (m + 1) = k * (m + 1) + (m + 1) := by rw [Nat.add_mul, Nat.one_mul]
    omega
  · rw [hkeys]
    by_cases z : c < k
    · exact .inr (h.all c z)
    · have : c = k := by omega
      subst this
      exact .inl hk.f
  · rw [hl] at hp
    cases ha : look A c with
    | some q =>
      rw [ha] at hp
      simp at hp
      subst hp
      obtain ⟨a, b, d⟩ := hk.st _ _ ha
      exact ⟨a, by omega⟩
    | none =>
      rw [ha] at hp
      simp at hp
      exact h.st _ _ hp
  · rw [hkeys] at hb ⊢
    rcases hb with hb | hb
    · exact .inl ((hback s hs).mp hb)
    · exact .inr (h.cl s hs hb)
  · rw [hl] at hp hp'
    by_cases z : bgn W s ∈ kys A
    · obtain ⟨q, hq⟩ := look_kys.mp z
      obtain ⟨q', hq'⟩ := look_kys.mp ((hback s hs).mp z)
      rw [hq] at hp
      rw [hq'] at hp'
      simp at hp hp'
      subst hp hp'
      have a := (hk.st _ _ hq).2.1
      have b := (hk.st _ _ hq').2.1
      omega
    · have z' : ndd W s ∉ kys A := fun y => z ((hback s hs).mpr y)
      rw [hnone _ z] at hp
      rw [hnone _ z'] at hp'
      simp at hp hp'
      exact h.pt s hs _ _ hp hp'
theorem gi_skip {k : Nat} {G : As} (h : GI m W phi k G) (hk : ((k : Nat) : Int) ∈ kys G) : GI m W phi (k + 1) G :=
  ⟨h.nd, by have := h.ln; have e : (k + 1) * (m + 1) = k * (m + 1) + (m + 1) := by rw [Nat.add_mul, Nat.one_mul]
            omega, fun c hc => by
    by_cases z : c < k
    · exact h.all c z
    · have : c = k := by omega
      subst this; exact hk, h.st, h.cl, h.pt⟩
theorem m_all_ways {Q : U → Prop} (hw : WOk m W) (hp : Pot W phi) (hm : m ≤ 100) (q : ∀ G, GI m W phi m G → Q (dU G)) : vf_all_ways [.int (m : Nat), wisU W] Q := by
  simp only [vf_all_ways, v_all_ways]
  refine nxtS fun B hB => ?_
  simp
  refine hB _ ?_
  clear hB
  refine nxtS fun B1 hB1 => ?_
  simp only [vFgt]
  refine vFor_inv (enc := nU) (xs := List.range m) (fun done e => ∃ G, GI m W phi done.length G ∧ e = [some (.val (.int (m : Nat))), some (.val (wisU W)), some (.own (dU G)), none]) (fun K hK => ?_) ⟨[], gi_start, by simp [dU, wipeV]⟩ ?_ ?_
  · simp [rng0, wipeV]
    exact ⟨by omega, hK⟩
  · rintro done c rest e N eq ⟨G, hG, rfl⟩ hN
    obtain ⟨hd, hc⟩ := range_at eq
    have hdl : done.length = c := by rw [hd]; simp
    rw [hdl] at hG
    have hN2 : ∀ G, GI m W phi (c + 1) G → N [some (.val (.int (m : Nat))), some (.val (wisU W)), some (.own (dU G)), none] := fun G h => hN _ ⟨G, by simpa [hdl] using h, rfl⟩
    simp [nU, -gIn, -vf_ways_from]
    refine ⟨_, in_d, ?_⟩
    by_cases z : ((c : Nat) : Int) ∈ kys G
    · simp [z]
      exact hN2 _ (gi_skip hG z)
    · simp [z, -vf_ways_from]
      have hdd : ∃ ks us, dU G = .dic ks us ∧ ks = G.map (fun x => (Sum.inl x.1 : Key)) ∧ us = G.map fun x => prsU x.2 := ⟨_, _, rfl, rfl, rfl⟩
      refine ⟨_, _, rfl, ?_⟩
      refine m_ways_from hw hp hm (by omega) (by omega) fun A hA hAc => ?_
      have hnd : (G.map fun x => (Sum.inl x.1 : Key)).Nodup := by
        have e : G.map (fun x => (Sum.inl x.1 : Key)) = (kys G).map Sum.inl := by simp [kys, Function.comp_def]
        rw [e, List.nodup_iff_pairwise_ne, List.pairwise_map]
        exact hG.nd.imp fun h e => h (Sum.inl.inj e)
      have hl1 := hG.ln
      have hl2 := hA.ln
      have hl3 : c * (m + 1) ≤ 100 * 101 := Nat.mul_le_mul (by omega) (by omega)
      rw [show dU A = .dic (A.map fun x => .inl x.1) (A.map fun x => prsU x.2) from rfl]
      refine ⟨hnd, by simp; omega, ?_⟩
      rw [mgU_mrg]
      exact hN2 _ (gi_mrg hG hA hAc)
  · rintro e ⟨G, hG, rfl⟩
    refine hB1 _ ?_
    simp
    exact q G (by simpa using hG)
end
end K43
/-! W44a: full waves both ways. -/
namespace K44
open PySem PySem.Spec PyProof.Rows L2 DL VL A30 KB
theorem iv {L g a b : Int} (hg : 1 ≤ g ∧ g < L) (h : ∀ s : Nat, (s : Int) < L → (((s : Int) + a) % L < g ↔ ((s : Int) + b) % L < g)) : a % L = b % L := by
  have H : ∀ x : Int, (x + a) % L < g ↔ (x + b) % L < g := by
    intro x
    have h0 := Int.emod_nonneg x (show L ≠ 0 by omega)
    have h1 := Int.emod_lt_of_pos x (show 0 < L by omega)
    have e : (((x % L).toNat : Nat) : Int) = x % L := by omega
    have := h (x % L).toNat (by omega)
    rw [e, mod_per, mod_per] at this
    exact this
  have h1 := (H (-a)).mp (by rw [show -a + a = 0 by omega, Int.zero_emod]; omega)
  have h2 : ¬ (-a - 1 + b) % L < g := fun z => by
    have := (H (-a - 1)).mpr z
    rw [show -a - 1 + a = -1 by omega] at this
    have e : (-1 : Int) % L = L - 1 := by
      rw [← Int.add_emod_right (-1) L, show (-1 : Int) + L = L - 1 by omega]
      exact Int.emod_eq_of_lt (by omega) (by omega)
    omega
  have d0 := Int.emod_nonneg (-a + b) (show L ≠ 0 by omega)
  have d1 := Int.emod_lt_of_pos (-a + b) (show 0 < L by omega)
  have hd : (-a + b) % L = 0 := by
    by_cases z : (-a + b) % L = 0
    · exact z
    · exfalso
      apply h2
      have e : (-a - 1 + b) % L = (-a + b) % L - 1 := by
        have e1 : (-a - 1 + b) % L = ((-a + b) % L + -1) % L := by rw [mod_per]; congr 1; omega
        rw [e1, show (-a + b) % L + -1 = (-a + b) % L - 1 by omega]
        exact Int.emod_eq_of_lt (by omega) (by omega)
      omega
  have : (b - a) % L = 0 := by rw [show b - a = -a + b by omega]; exact hd
  exact (Int.emod_eq_emod_iff_emod_sub_eq_zero.mpr this).symm
theorem way_succ : ∀ {l : List Pr} {k : Nat}, k + 1 < l.length → wayT l (k + 1) = wayT l k + (lD l (k + 1)).2
  | [], _, h => by simp at h
  | p :: l, k, h => by
    have e : ∀ j, j < l.length → wayT (p :: l) (j + 1) = p.2 + wayT l j := by
      intro j hj
      have h1 : (tks l (0 + p.2))[j]? = some (0 + p.2 + wayT l j) := tks_at hj
      unfold wayT
      rw [show tks (p :: l) 0 = (0 + p.2) :: tks l (0 + p.2) from rfl, List.getD_eq_getElem?_getD, List.getElem?_cons_succ, h1]
      simp [wayT]
    simp at h
    rw [e k h]
    cases k with
    | zero =>
      have h2 : wayT (p :: l) 0 = p.2 := by simp [wayT, tks]
      have h3 : wayT l 0 = (lD l 0).2 := by
        cases l with
        | nil => simp at h
        | cons q l => simp [wayT, tks, lD]
      rw [h2, h3]
      simp [lD]
    | succ k =>
      rw [e k (by omega), way_succ h]
      have : lD (p :: l) (k + 1 + 1) = lD l (k + 1) := by simp [lD]
      rw [this]
      omega
theorem lD_back {l : List Pr} {k : Nat} (h : k < l.length) : lD (backL l) k = bkK l k := by
  simp [lD, backL, List.getD_eq_getElem?_getD, h]
theorem way_back {l : List Pr} (hz : (lD l 0).2 = 0) : ∀ {j : Nat}, j < l.length → wayT (backL l) j = wayT l (l.length - 1) - wayT l (l.length - 1 - j)
  | 0, h => by
    have h1 : wayT (backL l) 0 = 0 := way0 (by rw [backL_len]; omega) (by rw [lD_back h]; simp [bkK])
    rw [h1]; simp
  | j + 1, h => by
    rw [way_succ (by rw [backL_len]; exact h), way_back hz (show j < l.length by omega), lD_back h]
    have h1 := way_succ (l := l) (k := l.length - 1 - (j + 1)) (by omega)
    rw [show l.length - 1 - (j + 1) + 1 = l.length - 1 - j by omega] at h1
    have h2 : (bkK l (j + 1)).2 = (lD l (l.length - 1 - j)).2 := by
      simp only [bkK]
      rw [if_neg (by omega), show l.length - (j + 1) = l.length - 1 - j by omega]
    rw [h2]
    omega
/-- greens of one length -/
structure Uni (n : Nat) (x : Int) (g : List Pr) : Prop where
  len : g.length = n
  u : ∀ p ∈ g, p.2 = x
theorem Uni.at {n : Nat} {x : Int} {g : List Pr} (h : Uni n x g) {k : Nat} (hk : k < n) : (lD g k).2 = x := h.u _ (lD_mem (by rw [h.len]; exact hk))
theorem Uni.gr {n L : Nat} {x : Int} {g : List Pr} (h : Uni n x g) (h0 : 0 ≤ x ∧ x ≤ L) : GrOk n L g := ⟨h.len, fun p hp => by rw [h.u p hp]; exact h0⟩
theorem Uni.mn {n : Nat} {x : Int} {g : List Pr} (h : Uni n x g) (hn : 1 ≤ n) : mn (lens g) = x := by
  have hne : lens g ≠ [] := fun z => by have := congrArg List.length z; simp [lens] at this; subst this; have := h.len; simp at this; omega
  obtain ⟨p, hp, e⟩ := List.mem_map.mp (mn_mem hne)
  have e2 : p.2 = KB.mn (lens g) := e
  rw [← e2]; exact h.u p hp
/-- a full band: all phases are one -/
theorem phase_one {L : Nat} {l g : List Pr} {o : List Int} {x : Int} (hx : 1 ≤ x ∧ x < L) (hg : Uni l.length x g) (hb : (((bandN l g L o).length : Nat) : Int) = x) {j k : Nat} (hj : j < l.length) (hk : k < l.length) : phs l g o j % (L : Int) = phs l g o k % (L : Int) := by
  have key : ∀ i, i < l.length → ∀ s : Nat, (s : Int) < L → (((s : Int) + phs l g o i) % (L : Int) < x ↔ passB l g L o (s : Nat) = true) := by
    intro i hi s hs
    have h3 := cnt_mod (L := L) (c := phs l g o i) (g := x) (by omega) (by omega) (by omega)
    unfold KB.cnt at h3
    have hp : ∀ s ∈ List.range L, passB l g L o (s : Nat) = true → decide (((s : Nat) + phs l g o i) % (L : Int) < x) = true := fun s _ hp => by
      have := (passB_iff hg.len).mp hp i hi
      rw [hg.at hi] at this
      exact decide_eq_true this
    have h4 := filter_eq (p := fun s : Nat => passB l g L o (s : Nat)) (q := fun s : Nat => decide (((s : Nat) + phs l g o i) % (L : Int) < x)) hp (by rw [h3]; unfold bandN at hb; omega)
    have hm : s ∈ List.range L := List.mem_range.mpr (by omega)
    exact ⟨fun z => h4 s hm (decide_eq_true z), fun z => of_decide_eq_true (hp s hm z)⟩
  exact iv hx fun s hs => by rw [key j hj s hs, key k hk s hs]
/-- and back -/
theorem one_phase {L : Nat} {l g : List Pr} {o : List Int} {x c : Int} (hL : 0 < L) (hx : 0 ≤ x ∧ x ≤ L) (hg : Uni l.length x g) (hl : 1 ≤ l.length) (hp : ∀ k, k < l.length → phs l g o k % (L : Int) = c % (L : Int)) : (((bandN l g L o).length : Nat) : Int) = x := by
  have e : ∀ s : Int, passB l g L o s = decide ((s + c) % (L : Int) < x) := by
    intro s
    rw [Bool.eq_iff_iff, passB_iff hg.len, decide_eq_true_iff]
    have hk : ∀ k, k < l.length → (s + phs l g o k) % (L : Int) = (s + c) % (L : Int) := fun k hk => by
      rw [← Int.add_emod_emod, hp k hk, Int.add_emod_emod]
    constructor
    · intro h
      have := h 0 (by omega)
      rw [hk 0 (by omega), hg.at (by omega)] at this
      exact this
    · intro h k hkl
      rw [hk k hkl, hg.at hkl]
      exact h
  have h3 := cnt_mod (L := L) (c := c) (g := x) hL hx.1 hx.2
  unfold KB.cnt at h3
  unfold bandN
  simp only [e]
  rw [h3]
  omega
/-- what the paper tells at place k -/
def pap (l g b : List Pr) (L : Int) (k : Nat) : Int := ((lD b (l.length - 1 - k)).1 - (lD g k).1 - ((lD b (l.length - 1)).1 - (lD g 0).1) + 2 * wayT l k) % L
theorem phs_back {l b : List Pr} {o : List Int} (hz : (lD l 0).2 = 0) {k : Nat} (hk : k < l.length) : phs (backL l) b o (l.length - 1 - k) = wayT l (l.length - 1) - wayT l k - gz o (lD l k).1 - (lD b (l.length - 1 - k)).1 := by
  unfold phs
  rw [way_back hz (by omega), lD_back (by omega)]
  have : l.length - 1 - (l.length - 1 - k) = k := by omega
  simp only [bkK, this]
theorem zero_sub {a b c d L : Int} (h1 : a % L = b % L) (h2 : c % L = d % L) : (a - c) % L = (b - d) % L := by
  rw [Int.sub_emod, h1, h2, ← Int.sub_emod]
theorem full_iff {m L : Nat} {l g b : List Pr} {x y : Int} (hl : LnOk m l) (hx : 1 ≤ x ∧ x < L) (hy : 1 ≤ y ∧ y < L) (hg : Uni l.length x g) (hb : Uni l.length y b) : (∃ o ∈ allF m (crs (l.drop 1)) L, bb l g b L o = (x, y)) ↔ ∀ k, k < l.length → pap l g b L k = 0 := by
  have hl1 := hl.ne
  have hb' : Uni (backL l).length y b := by rw [backL_len]; exact hb
  constructor
  · rintro ⟨o, ho, he⟩ k hk
    have h1 : (((bandN l g L o).length : Nat) : Int) = x := congrArg Prod.fst he
    have h2 : (((bandN (backL l) b L o).length : Nat) : Int) = y := congrArg Prod.snd he
    have hA := phase_one hx hg h1 hk (show 0 < l.length by omega)
    have hB := phase_one hy hb' h2 (j := l.length - 1 - k) (k := l.length - 1 - 0) (by rw [backL_len]; omega) (by rw [backL_len]; omega)
    rw [phs_back hl.z hk, phs_back hl.z (show 0 < l.length by omega)] at hB
    have ho0 : gz o (lD l 0).1 = 0 := by
      obtain ⟨h0, h1⟩ := hl.inn _ (lD_mem (show 0 < l.length by omega))
      refine ((allF_mem.mp ho).2 _ h0 h1).2 ?_
      have hnd := hl.nd
      cases l with
      | nil => simp at hl1
      | cons p l => simp [crs, lD] at hnd ⊢; exact hnd.1
    unfold phs at hA
    rw [way0 hl1 hl.z, ho0] at hA hB
    have h3 := zero_sub hA hB
    unfold pap
    have e1 : wayT l k - gz o (lD l k).1 - (lD g k).1 - (wayT l (l.length - 1) - wayT l k - gz o (lD l k).1 - (lD b (l.length - 1 - k)).1) = (lD b (l.length - 1 - k)).1 - (lD g k).1 + 2 * wayT l k - wayT l (l.length - 1) := by omega
    have e2 : 0 - 0 - (lD g 0).1 - (wayT l (l.length - 1) - 0 - 0 - (lD b (l.length - 1 - 0)).1) = (lD b (l.length - 1)).1 - (lD g 0).1 - wayT l (l.length - 1) := by simp; omega
    rw [e1, e2] at h3
    have h4 := Int.emod_eq_emod_iff_emod_sub_eq_zero.mp h3
    rw [← h4]
    congr 1
    omega
  · intro h
    refine ⟨told m l g L, allF_mem.mpr ⟨told_len, fun c h0 h1 => ⟨fun z => ?_, fun z => ?_⟩⟩, ?_⟩
    · have zz : c ∈ crs l := by
        obtain ⟨p, hp, e⟩ := List.mem_map.mp z
        exact List.mem_map.mpr ⟨p, List.mem_of_mem_drop hp, e⟩
      obtain ⟨p, hp, e2⟩ := List.mem_map.mp zz
      obtain ⟨k, hk, rfl⟩ := List.getElem_of_mem hp
      have e3 := lD_at hk
      rw [List.getElem?_eq_getElem hk] at e3
      rw [← e2, Option.some.inj e3, told_gz hl.inn hl.nd hk]
      exact ⟨Int.emod_nonneg _ (by omega), Int.emod_lt_of_pos _ (by omega)⟩
    · by_cases zz : c ∈ crs l
      · have : c = (lD l 0).1 := by
          have hl1 := hl.ne
          cases l with
          | nil => simp at hl1
          | cons p l =>
            simp [crs] at z zz
            rcases zz with zz | zz
            · simpa [lD] using zz
            · obtain ⟨w, hw⟩ := zz; exact absurd hw (z w)
        rw [this, told_gz hl.inn hl.nd (by omega), way0 hl1 hl.z]
        simp
      · exact told_out hl.inn hl.nd h0 zz
    · have h1 : (((bandN l g L (told m l g L)).length : Nat) : Int) = x := by
        rw [told_band (by omega) hl.inn hl.nd (hg.gr (by omega)) hl1, hg.mn hl1]
      have h2 : (((bandN (backL l) b L (told m l g L)).length : Nat) : Int) = y := by
        refine one_phase (c := wayT l (l.length - 1) - (lD b (l.length - 1)).1) (by omega) (by omega) hb' (by rw [backL_len]; omega) fun j hj => ?_
        rw [backL_len] at hj
        have hk : l.length - 1 - j < l.length := by omega
        have e0 := phs_back (b := b) (o := told m l g L) hl.z hk
        rw [show l.length - 1 - (l.length - 1 - j) = j by omega, told_gz hl.inn hl.nd hk] at e0
        have hp := h _ hk
        unfold pap at hp
        rw [show l.length - 1 - (l.length - 1 - j) = j by omega] at hp
        generalize l.length - 1 - j = k at *
        rw [e0]
        have s1 := sub_mod (a := wayT l (l.length - 1) - wayT l k - (lD b j).1) (x := (lD g 0).1 + wayT l k - (lD g k).1) (L := (L : Int))
        rw [show wayT l (l.length - 1) - wayT l k - ((lD g 0).1 + wayT l k - (lD g k).1) % (L : Int) - (lD b j).1 = wayT l (l.length - 1) - wayT l k - (lD b j).1 - ((lD g 0).1 + wayT l k - (lD g k).1) % (L : Int) by omega, s1]
        refine Eq.symm (Int.emod_eq_emod_iff_emod_sub_eq_zero.mpr ?_)
        rw [← hp]
        congr 1
        omega
      unfold bb
      rw [h1, h2]
end K44
/-! W43b: offsets for wishes, what is kept. -/
namespace K43
open PySem PySem.Spec PyProof.Rows L2 DL VL A30 KB
def kpt (L : Int) (o : List Int) (w : Wi) : Bool := decide ((gz o w.2.1 - gz o w.1 - w.2.2) % L = 0)
section
variable {m : Nat} {W : List Wi} {phi : Int → Int} {L : Int} {o : List Int}
theorem m_is_kept {w : Wi} {Q : U → Prop} (hL : 0 < L) (ho : o.length = m) (h : (0 ≤ w.1 ∧ w.1 < (m : Int)) ∧ 0 ≤ w.2.1 ∧ w.2.1 < (m : Int)) (q : Q (.bl (kpt L o w))) : vf_is_kept [wiU w, .int L, tupU o] Q := by
  simp [v_is_kept, wiU]
  rw [at_z h.2.1 (by omega), at_z h.1.1 (by omega)]
  simp
  refine ⟨hL, ?_⟩
  simpa [kpt] using q
theorem wi_nat {k : Nat} : wi W (k : Nat) = W.getD k (0, 0, 0) := by simp [wi]
theorem m_kept {Q : U → Prop} (hw : WOk m W) (hL : 0 < L) (ho : o.length = m) (q : Q (.tup (((List.range W.length).filter fun k => kpt L o (wi W (k : Nat))).map nU))) : vf_kept [wisU W, .int L, tupU o] Q := by
  have := hw.l
  simp [v_kept, -vf_is_kept]
  refine vLc_filter (enc := fun k : Nat => .tup [nU k, wiU (wi W (k : Nat))]) (g := nU) (p := fun k => kpt L o (wi W (k : Nat))) (List.range W.length) (fun K hK => ?_) (fun k hk N hN => ?_) (by simp; omega) ?_
  · simp [wisU]
    have e := enU_map (f := wiU) (d := (0, 0, 0)) W
    rw [e]
    simpa [wi_nat] using hK
  · have hkl := List.mem_range.mp hk
    simp [nU, -vf_is_kept]
    refine m_is_kept hL ho (hw.r _ (wi_mem (by omega) (by omega))) ?_
    cases h : kpt L o (wi W (k : Nat)) <;> simpa [h, nU] using hN
  · simp
    exact q
theorem m_wish_of {a b c d e : Int} {Q : U → Prop} (q : Q (wiU (a, c, b + e - d))) : vf_wish_of [.int a, .int b, .int c, .int d, .int e] Q := by
  simp [v_wish_of]
  exact q
theorem m_turned {t : Int} {Q : U → Prop} (hL : 0 < L) (hl : o.length ≤ 1000) (q : Q (tupU (o.map fun x => (x + t) % L))) : vf_turned_offsets [tupU o, .int L, .int t] Q := by
  simp [v_turned_offsets]
  refine vLc_map (enc := U.int) (g := fun x => .int ((x + t) % L)) o (fun K hK => by simp; exact hK) (fun x hx N hN => ?_) (by omega) ?_
  · simp
    exact ⟨hL, hN⟩
  · simp
    simpa [Function.comp_def] using q
/-- offsets of ways -/
def ofs (W : List Wi) (G : As) (m : Nat) (L : Int) : List Int := (List.range m).map fun c => psum W ((look G (c : Nat)).getD []) % L
theorem ofs_gz {G : As} {c : Int} (h0 : 0 ≤ c) (h1 : c < (m : Int)) {p : List Pr} (hl : look G c = some p) : gz (ofs W G m L) c = psum W p % L := by
  unfold gz ofs
  have e : ((c.toNat : Nat) : Int) = c := by omega
  rw [List.getD_eq_getElem?_getD, List.getElem?_map, List.getElem?_range (by omega)]
  simp [e, hl]
theorem ofs_kept {G : As} (hw : WOk m W) (hp : Pot W phi) (hG : GI m W phi m G) (hL : 0 < L) {w : Wi} (h : w ∈ W) : kpt L (ofs W G m L) w = true := by
  obtain ⟨k, hk, rfl⟩ := List.getElem_of_mem h
  have hwi : wi W (k : Nat) = W[k] := by rw [wi_nat, List.getD_eq_getElem?_getD, List.getElem?_eq_getElem hk]; rfl
  obtain ⟨⟨a0, a1⟩, b0, b1⟩ := hw.r _ h
  have hs : StOk W ((k : Nat), 1) := ⟨by simp, by simpa using hk, .inl rfl⟩
  have eb : bgn W ((k : Nat), 1) = W[k].1 := by simp only [bgn, ↓reduceIte]; rw [hwi]
  have en : ndd W ((k : Nat), 1) = W[k].2.1 := by simp only [ndd, ↓reduceIte]; rw [hwi]
  obtain ⟨p, hpp⟩ := look_kys.mp (hG.all W[k].1.toNat (by omega))
  obtain ⟨p', hpp'⟩ := look_kys.mp (hG.all W[k].2.1.toNat (by omega))
  rw [show ((W[k].1.toNat : Nat) : Int) = W[k].1 by omega] at hpp
  rw [show ((W[k].2.1.toNat : Nat) : Int) = W[k].2.1 by omega] at hpp'
  have h1 := hG.pt _ hs p p' (by rw [eb]; exact hpp) (by rw [en]; exact hpp')
  rw [eb, en, hp _ h] at h1
  unfold kpt
  rw [ofs_gz a0 a1 hpp, ofs_gz b0 b1 hpp']
  refine decide_eq_true ?_
  have e1 : (psum W p' % L - psum W p % L - W[k].2.2) % L = (psum W p' - psum W p - W[k].2.2) % L := by
    rw [Int.sub_emod, Int.sub_emod (psum W p' % L), Int.emod_emod, Int.emod_emod, ← Int.sub_emod (psum W p'), ← Int.sub_emod]
  rw [e1, h1]
  simp
theorem m_offsets_for {Q : U → Prop} (hw : WOk m W) (hp : Pot W phi) (hm : m ≤ 100) (hL : 0 < L) (q : ∀ o : List Int, o.length = m → (∀ w ∈ W, kpt L o w = true) → Q (.tup [.str "offsets", tupU o])) : vf_offsets_for [.int (m : Nat), wisU W, .int L] Q := by
  have hwl := hw.l
  simp only [vf_offsets_for, v_offsets_for]
  refine nxtS fun B hB => ?_
  simp [-vf_all_ways]
  refine m_all_ways hw hp hm fun G hG => ?_
  refine hB _ ?_
  clear hB
  refine nxtS fun B1 hB1 => ?_
  simp [-vf_sum_of]
  refine vLc_map (enc := nU) (g := fun c : Nat => .int (psum W ((look G (c : Nat)).getD []) % L)) (List.range m) (fun K hK => ?_) (fun c hc N hN => ?_) (by simp; omega) ?_
  · simp [rng0]
    exact ⟨by omega, hK⟩
  · have hcm := List.mem_range.mp hc
    obtain ⟨p, hpp⟩ := look_kys.mp (hG.all c hcm)
    obtain ⟨h1, h2⟩ := hG.st _ _ hpp
    have hix := ix_d hpp
    simp only [ixU, dU] at hix
    simp [nU, -vf_sum_of, dU]
    refine ⟨_, hix, ?_⟩
    refine m_sum_of h1 (by omega) ?_
    simp [hL]
    simpa [hpp] using hN
  have he : ((List.range m).map fun c : Nat => U.int (psum W ((look G (c : Nat)).getD []) % L)) = (ofs W G m L).map .int := by simp [ofs, Function.comp_def]
  rw [he]
  simp
  refine hB1 _ ?_
  clear hB1
  refine nxtS fun B2 hB2 => ?_
  have hol : (ofs W G m L).length = m := by simp [ofs]
  simp only [vFgt]
  refine vFor_inv (enc := fun k : Nat => .tup [nU k, wiU (wi W (k : Nat))]) (xs := List.range W.length) (fun done e => e = [some (.val (.int (m : Nat))), some (.val (wisU W)), some (.val (.int L)), some (.val (dU G)), some (.val (tupU (ofs W G m L))), none, none, none]) (fun K hK => ?_) (by simp [wipeV]) ?_ ?_
  · simp [wisU, wipeV]
    have e := enU_map (f := wiU) (d := (0, 0, 0)) W
    rw [e]
    simpa [wi_nat] using hK
  · rintro done k rest e N eq rfl hN
    obtain ⟨hd, hk⟩ := range_at eq
    have hmem : wi W (k : Nat) ∈ W := wi_mem (by omega) (by omega)
    simp [-vf_is_kept]
    rw [show U.tup ((ofs W G m L).map U.int) = tupU (ofs W G m L) from rfl]
    refine m_is_kept hL hol (hw.r _ hmem) ?_
    rw [ofs_kept hw hp hG hL hmem]
    simp
    refine hN _ ?_
    simp
  · rintro e rfl
    refine hB2 _ ?_
    simp
    exact q _ hol fun w h => ofs_kept hw hp hG hL h
end
end K43
/-! W43c: chains of wishes, turned bands. -/
namespace K43
open PySem PySem.Spec PyProof.Rows L2 DL VL A30 KB
def wch (l g : List Pr) (k : Nat) : Wi := ((lD l k).1, (lD l (k + 1)).1, (lD g k).1 + (lD l (k + 1)).2 - (lD g (k + 1)).1)
def chn (l g : List Pr) : List Wi := (List.range (l.length - 1)).map (wch l g)
def phs0 (m : Nat) (l g : List Pr) : List Int := putA ((List.range l.length).map fun k => ((lD l k).1, wayT l k - (lD g k).1)) (zeros m)
section
variable {m L : Nat} {l g : List Pr} {o : List Int}
theorem phi_at (hl : LnOk m l) {k : Nat} (hk : k < l.length) : gz (phs0 m l g) (lD l k).1 = wayT l k - (lD g k).1 := by
  have hc : crs ((List.range l.length).map fun k => ((lD l k).1, wayT l k - (lD g k).1)) = crs l := by
    apply List.ext_getElem?
    intro i
    by_cases hi : i < l.length
    · simp [crs, hi, lD, List.getD_eq_getElem?_getD]
    · rw [List.getElem?_eq_none (by simp [crs]; omega), List.getElem?_eq_none (by simp [crs]; omega)]
  have hp : ((lD l k).1, wayT l k - (lD g k).1) ∈ (List.range l.length).map fun k => ((lD l k).1, wayT l k - (lD g k).1) := List.mem_map.mpr ⟨k, by simpa using hk, rfl⟩
  have := putA_in _ (zeros m) (m := m) (by simp [zeros]) (hl.inn.of_crs hc) (by rw [hc]; exact hl.nd) hp
  exact this
theorem chn_pot (hl : LnOk m l) : Pot (chn l g) (gz (phs0 m l g)) := by
  intro w hw
  obtain ⟨k, hk, rfl⟩ := List.mem_map.mp hw
  have hk2 := List.mem_range.mp hk
  simp only [wch]
  rw [phi_at hl (show k + 1 < l.length by omega), phi_at hl (show k < l.length by omega), K44.way_succ (by omega)]
  omega
theorem chn_ok (hl : LnOk m l) (hm : m ≤ 100) : WOk m (chn l g) := by
  refine ⟨fun w hw => ?_, ?_⟩
  · obtain ⟨k, hk, rfl⟩ := List.mem_map.mp hw
    have hk2 := List.mem_range.mp hk
    exact ⟨hl.inn (lD l k) (lD_mem (by omega)), hl.inn (lD l (k + 1)) (lD_mem (by omega))⟩
  · have := hl.le
    simp [chn]; omega
theorem kpt_told (hl : LnOk m l) {w : Wi} (hw : w ∈ chn l g) : kpt L (told m l g L) w = true := by
  obtain ⟨k, hk, rfl⟩ := List.mem_map.mp hw
  have hk2 := List.mem_range.mp hk
  refine decide_eq_true ?_
  show (gz (told m l g L) (lD l (k + 1)).1 - gz (told m l g L) (lD l k).1 - ((lD g k).1 + (lD l (k + 1)).2 - (lD g (k + 1)).1)) % (L : Int) = 0
  rw [told_gz hl.inn hl.nd (show k + 1 < l.length by omega), told_gz hl.inn hl.nd (show k < l.length by omega), K44.way_succ (by omega)]
  have e : ∀ a b c : Int, (a % (L : Int) - b % (L : Int) - c) % (L : Int) = (a - b - c) % (L : Int) := by
    intro a b c
    rw [Int.sub_emod, Int.sub_emod (a % (L : Int)), Int.emod_emod, Int.emod_emod, ← Int.sub_emod a, ← Int.sub_emod]
  rw [e]
  have : (lD g 0).1 + (wayT l k + (lD l (k + 1)).2) - (lD g (k + 1)).1 - ((lD g 0).1 + wayT l k - (lD g k).1) - ((lD g k).1 + (lD l (k + 1)).2 - (lD g (k + 1)).1) = 0 := by omega
  rw [this]
  simp
/-- what keeps the chain has a full band -/
theorem late_phase (h : ∀ w ∈ chn l g, kpt L o w = true) : ∀ k, k < l.length → phs l g o k % (L : Int) = phs l g o 0 % (L : Int)
  | 0, _ => rfl
  | k + 1, hk => by
    have ih := late_phase h k (by omega)
    have h1 := of_decide_eq_true (h (wch l g k) (List.mem_map.mpr ⟨k, by simp; omega, rfl⟩))
    simp only [wch] at h1
    rw [← ih]
    refine Int.emod_eq_emod_iff_emod_sub_eq_zero.mpr ?_
    unfold phs
    rw [K44.way_succ hk]
    have e : wayT l k + (lD l (k + 1)).2 - gz o (lD l (k + 1)).1 - (lD g (k + 1)).1 - (wayT l k - gz o (lD l k).1 - (lD g k).1) = -(gz o (lD l (k + 1)).1 - gz o (lD l k).1 - ((lD g k).1 + (lD l (k + 1)).2 - (lD g (k + 1)).1)) := by omega
    rw [e]
    exact Int.emod_eq_zero_of_dvd (Int.dvd_neg.mpr (Int.dvd_of_emod_eq_zero h1))
theorem late_band (hL : 0 < L) (hl : 1 ≤ l.length) (hg : GrOk l.length L g) (h : ∀ w ∈ chn l g, kpt L o w = true) : (((bandN l g L o).length : Nat) : Int) = mn (lens g) := by
  have hp := late_phase h
  have e : ∀ s : Int, passB l g L o s = decide ((s + phs l g o 0) % (L : Int) < mn (lens g)) := by
    intro s
    rw [Bool.eq_iff_iff, passB_iff hg.len, decide_eq_true_iff, ← mn_lt hg.len hl]
    refine forall_congr' fun k => forall_congr' fun hk => ?_
    have : (s + phs l g o k) % (L : Int) = (s + phs l g o 0) % (L : Int) := by
      rw [← Int.add_emod_emod, hp k hk, Int.add_emod_emod]
    rw [this]
  obtain ⟨h0, h1⟩ := mn_bd hg hl
  have h2 := cnt_mod (c := phs l g o 0) hL h0 h1
  unfold KB.cnt at h2
  unfold bandN
  simp only [e]
  rw [h2]
  omega
/-- turned -/
def trn (o : List Int) (L t : Int) : List Int := o.map fun x => (x + t) % L
theorem trn_gz {t : Int} (ho : o.length = m) {c : Int} (h0 : 0 ≤ c) (h1 : c < (m : Int)) : gz (trn o L t) c = (gz o c + t) % (L : Int) := by
  have := gz_some (l := o) h0 (by omega)
  unfold trn
  rw [gz, List.getD_eq_getElem?_getD, List.getElem?_map, this]
  rfl
theorem trn_pass {t s : Int} (ho : o.length = m) (hi : In m l) (hg : g.length = l.length) : passB l g L (trn o L t) s = passB l g L o (s - t) := by
  rw [Bool.eq_iff_iff, passB_iff hg, passB_iff hg]
  refine forall_congr' fun k => forall_congr' fun hk => ?_
  obtain ⟨h0, h1⟩ := hi _ (lD_mem hk)
  have e : (s + phs l g (trn o L t) k) % (L : Int) = (s - t + phs l g o k) % (L : Int) := by
    unfold phs
    rw [trn_gz ho h0 h1]
    have := sub_mod (a := s + wayT l k - (lD g k).1) (x := gz o (lD l k).1 + t) (L := (L : Int))
    rw [show s + (wayT l k - (gz o (lD l k).1 + t) % (L : Int) - (lD g k).1) = s + wayT l k - (lD g k).1 - (gz o (lD l k).1 + t) % (L : Int) by omega, this]
    congr 1
    omega
  rw [e]
def bandI (l g : List Pr) (L : Nat) (o : List Int) : List Int := (bandN l g L o).map fun (s : Nat) => (s : Int)
theorem bandI_lt : (bandI l g L o).Pairwise (· < ·) := by
  unfold bandI bandN
  rw [List.pairwise_map]
  exact (List.pairwise_lt_range.filter _).imp fun h => by omega
theorem bandI_mem {x : Int} : x ∈ bandI l g L o ↔ (0 ≤ x ∧ x < L) ∧ passB l g L o x = true := by
  simp only [bandI, bandN, List.mem_map, List.mem_filter, List.mem_range]
  constructor
  · rintro ⟨s, ⟨h1, h2⟩, rfl⟩
    exact ⟨by omega, h2⟩
  · rintro ⟨⟨h0, h1⟩, h2⟩
    refine ⟨x.toNat, ⟨by omega, ?_⟩, by omega⟩
    rw [show ((x.toNat : Nat) : Int) = x by omega]
    exact h2
theorem turned_sort {t : Int} (hL : 0 < L) (ho : o.length = m) (hi : In m l) (hg : g.length = l.length) : ((bandI l g L o).map fun s => (s + t) % (L : Int)).mergeSort leI = bandI l g L (trn o L t) := by
  have nodup_lt : ∀ {xs : List Int}, xs.Pairwise (· < ·) → xs.Nodup := fun h => h.imp fun z e => by omega
  have nd : ((bandI l g L o).map fun s => (s + t) % (L : Int)).Nodup := by
    rw [List.nodup_iff_pairwise_ne, List.pairwise_map]
    refine bandI_lt.imp_of_mem fun {a b} ha hb hab e => ?_
    obtain ⟨⟨a0, a1⟩, _⟩ := bandI_mem.mp ha
    obtain ⟨⟨b0, b1⟩, _⟩ := bandI_mem.mp hb
    have h1 := Int.emod_eq_emod_iff_emod_sub_eq_zero.mp e
    rw [show a + t - (b + t) = a - b by omega] at h1
    have h2 := Int.emod_eq_emod_iff_emod_sub_eq_zero.mpr h1
    rw [Int.emod_eq_of_lt a0 a1, Int.emod_eq_of_lt b0 b1] at h2
    omega
  have pm : ((bandI l g L o).map fun s => (s + t) % (L : Int)).Perm (bandI l g L (trn o L t)) := by
    refine perm_of nd (nodup_lt bandI_lt) fun x => ?_
    rw [bandI_mem, trn_pass ho hi hg, List.mem_map]
    constructor
    · rintro ⟨s, hs, rfl⟩
      obtain ⟨⟨s0, s1⟩, hp⟩ := bandI_mem.mp hs
      refine ⟨⟨Int.emod_nonneg _ (by omega), Int.emod_lt_of_pos _ (by omega)⟩, ?_⟩
      rw [← passB_mod hg, Int.emod_sub_emod, show s + t - t = s by omega, passB_mod hg]
      exact hp
    · rintro ⟨⟨x0, x1⟩, hp⟩
      refine ⟨(x - t) % (L : Int), bandI_mem.mpr ⟨⟨Int.emod_nonneg _ (by omega), Int.emod_lt_of_pos _ (by omega)⟩, by rw [passB_mod hg]; exact hp⟩, ?_⟩
      rw [Int.emod_add_emod, show x - t + t = x by omega]
      exact Int.emod_eq_of_lt x0 x1
  refine List.Perm.eq_of_pairwise (le := fun a b : Int => a ≤ b) (fun a b _ _ h1 h2 => by omega) ?_ (bandI_lt.imp fun h => by omega) ((List.mergeSort_perm _ _).trans pm)
  have := List.pairwise_mergeSort (le := leI) (fun a b c h1 h2 => by unfold leI at *; simp at *; omega) (fun a b => by unfold leI; simp; omega) ((bandI l g L o).map fun s => (s + t) % (L : Int))
  exact this.imp fun h => of_decide_eq_true h
end
end K43
/-! W43: the law. -/
namespace K43
open PySem PySem.Spec PyProof.Rows L2 DL VL A30 KB
theorem cod_nat : Cod nU (fun k : Nat => PyData.int (k : Nat)) 0 := ⟨fun a => by simp [nU], fun a => by simp [PyData.canLay0], fun a => by simp [PyData.depth], fun a b => by rw [eqv_int, decide_eq_decide]; omega⟩
theorem str_eq {Q : U → Prop} (q : Q (.bl false)) : gEq true (.str "offsets") (.str "offsets") Q := by
  have hs : SeqAt.shaped (.str "offsets") = true := shaped_of (by simp only [PyData.canLay0]; decide +kernel) (by simp [PyData.depth])
  refine ⟨_, _, by simp, by simp, hs, hs, ?_⟩
  have : PyData.eqv (.str "offsets") (.str "offsets") = true := by simp [PyData.eqv]
  rw [this]
  exact q
theorem cod_wi : Cod wiU (fun w : Wi => .tuple [.int w.1, .int w.2.1, .int w.2.2]) 1 :=
  ⟨fun a => by simp [wiU], fun a => by simp [PyData.canLay0, PyData.canLayAll0], fun a => by simp [PyData.depth, PyData.depthAll], fun a b => by
    rw [Bool.eq_iff_iff]
    simp [PyData.eqv, PyData.eqvAll, Prod.ext_iff]⟩
theorem at_last {us : List U} {u : U} : atU (us ++ [u]) (-1) = some u := by
  have hx : ixN (us ++ [u]).length (-1) = some us.length := by
    unfold ixN
    rw [List.length_append]
    simp
    omega
  unfold atU
  rw [hx]
  simp
theorem main : v_law lawD (none :: some (.val .src) :: List.replicate 22 none) := by
  have hE : (none :: some (VX.val .src) :: List.replicate 22 none : VEnv) = [none, some (.val .src), none, none, none, none, none, none, none, none, none, none, none, none, none, none, none, none, none, none, none, none, none, none] := rfl
  rw [hE]
  unfold v_law
  simp only [vSeq, vFgt]
  refine vFor_inv (enc := nU) (xs := List.range 4) (fun done e => e = [none, some (.val .src), none, none, none, none, none, none, none, none, none, none, none, none, none, none, none, none, none, none, none, none, none, none]) (fun K hK => ?_) rfl ?_ ?_
  · simp
    rw [rng0]
    exact hK
  · rintro done lap rest e N eq rfl hN
    simp only [tN, vEnd]
    refine nxtS fun B hB => ?_
    simp
    intro v hv0 hv1 w hw0 hw1
    obtain ⟨m, hm⟩ : ∃ m : Nat, 2 + v = (m : Int) := ⟨(2 + v).toNat, by omega⟩
    obtain ⟨L, hL⟩ : ∃ L : Nat, 2 + w = (L : Int) := ⟨(2 + w).toNat, by omega⟩
    rw [hm, hL]
    have hmm : 2 ≤ m ∧ m ≤ 5 := by omega
    have hLL : 2 ≤ L ∧ L ≤ 10 := by omega
    clear hm hL
    refine hB _ ?_
    clear hB
    refine nxtS fun B1 hB1 => ?_
    simp [-vf__law_draw_line]
    refine m_draw_line (by omega) fun l hl => ?_
    have hl1 := hl.ne
    have hl2 := hl.le
    have hlen : lenU (prsU l) = some l.length := by simp [prsU]
    refine hB1 _ ?_
    clear hB1
    refine nxtS fun B2 hB2 => ?_
    simp [-vf__law_draw_greens]
    refine ⟨_, hlen, ?_⟩
    refine m_draw_greens (by omega) (by omega) fun g hg => ?_
    have hgn : g ≠ [] := fun z => by subst z; have := hg.len; simp at this; omega
    have hgl := hg.len
    refine hB2 _ ?_
    clear hB2
    refine nxtS fun B3 hB3 => ?_
    simp [-vf__law_line_ticks, -gMinL]
    refine vLc_map (enc := prU) (g := fun p => .int p.2) g (fun K hK => by simp [prsU]; exact hK) (fun p hpp N hN => by simp [prU]; exact hN) (by omega) ?_
    refine m_minL hgn ?_
    refine m_law_ticks (by omega) ?_
    refine hB3 _ ?_
    clear hB3
    refine nxtS fun B4 hB4 => ?_
    simp [-vf_offsets_of_line]
    refine m_offsets_of_line (by omega) (by omega) hgl hl.inn (by omega) ?_
    refine hB4 _ ?_
    clear hB4
    refine nxtS fun B5 hB5 => ?_
    simp [-vf_band_bound, -vf_arrivals]
    refine m_band_bound hgn (by omega) ?_
    simp [-vf_arrivals]
    refine m_arrivals (by omega) ?_
    refine cod_int.tup.eq (neg := true) (a := tks l 0) (b := tks l 0) (by decide) ?_
    simp
    refine hB5 _ ?_
    clear hB5
    refine nxtS fun B6 hB6 => ?_
    simp [-vf_band, -vf__law_band]
    rw [show U.tup ((told m l g (L : Int)).map U.int) = tupU (told m l g L) from rfl]
    refine m_band (by omega) told_len hl.inn (by omega) ?_
    refine m_law_band (by omega) told_len hl.inn (by omega) ?_
    refine cod_nat.tup.eq (neg := true) (a := bandN l g L (told m l g L)) (b := bandN l g L (told m l g L)) (by decide) ?_
    simp
    refine hB6 _ ?_
    clear hB6
    refine nxtS fun B7 hB7 => ?_
    have htb := told_band (m := m) (show 0 < L by omega) hl.inn hl.nd hg hl1
    simp [-vf__law_band]
    rw [show U.tup ((told m l g (L : Int)).map U.int) = tupU (told m l g L) from rfl]
    refine m_law_band (by omega) told_len hl.inn (by omega) ?_
    refine ⟨(bandN l g L (told m l g L)).length, by simp [bandU], ?_⟩
    simp [htb]
    refine hB7 _ ?_
    clear hB7
    refine nxtS fun B8 hB8 => ?_
    simp
    refine hB8 _ ?_
    clear hB8
    refine nxtS fun B9 hB9 => ?_
    simp only [vFgt]
    refine vFor_inv (enc := fun k : Nat => .int (1 + (k : Nat))) (xs := List.range (l.length - 1)) (fun done e => e = [none, some (.val .src), some (.val (nU lap)), some (.val (.int (m : Nat))), some (.val (.int (L : Nat))), some (.val (prsU l)), some (.val (prsU g)), some (.val (.int (mn (lens g)))), some (.val (lstU (tks l 0))), none, some (.val (tupU (told m l g L))), some (.own (.lst (((List.range done.length).map (wch l g)).map wiU))), none, none, none, none, none, none, none, none, none, none, none, none]) (fun K hK => ?_) (by simp [wipeV]) ?_ ?_
    · simp [wipeV, prsU]
      refine ⟨by omega, ?_⟩
      exact hK
    · rintro done k rest e N' eq rfl hN'
      obtain ⟨hd, hk⟩ := range_at eq
      have hdl : done.length = k := by rw [hd]; simp
      have e1 : (1 + (k : Int)) - 1 = ((k : Nat) : Int) := by omega
      have e2 : (1 + (k : Int)) = ((k + 1 : Nat) : Int) := by omega
      refine nxtS fun C1 hC1 => ?_
      rw [show prsU l = .tup (l.map prU) from rfl, show prsU g = .tup (g.map prU) from rfl] at hN' ⊢
      simp
      rw [e1, e2, at_l (by omega), at_l (by omega)]
      simp [prU]
      refine hC1 _ ?_
      clear hC1
      refine nxtS fun C2 hC2 => ?_
      simp [-vf_wish_of, hdl]
      have e2' : ((k : Int) + 1) = ((k + 1 : Nat) : Int) := by omega
      refine ⟨by omega, ?_⟩
      rw [e2', at_l (by omega), at_l (by omega), at_l (by omega)]
      simp [prU, -vf_wish_of]
      refine m_wish_of ?_
      refine hC2 _ ?_
      clear hC2
      have hw3 : wiU ((lD l k).1, (lD l (k + 1)).1, (lD g k).1 + (lD l (k + 1)).2 - (lD g (k + 1)).1) = wiU (wch l g k) := rfl
      rw [hw3]
      simp [at_last]
      rw [e2', at_l (by omega), at_l (by omega), at_l (by omega)]
      simp [prU]
      refine cod_wi.eq (neg := true) (a := wch l g k) (b := wch l g k) (by decide) ?_
      simp
      refine hN' _ ?_
      simp [hdl, List.range_succ]
    · rintro e rfl
      refine hB9 _ ?_
      clear hB9
      refine nxtS fun B10 hB10 => ?_
      simp [-vf_offsets_for]
      have hch : U.tup ((List.range (l.length - 1)).map (wiU ∘ wch l g)) = wisU (chn l g) := by simp [wisU, chn]
      have hcl : (chn l g).length = l.length - 1 := by simp [chn]
      rw [hch]
      refine m_offsets_for (chn_ok hl (by omega)) (chn_pot hl) (by omega) (by omega) fun o ho hok => ?_
      simp
      refine hB10 _ ?_
      clear hB10
      refine nxtS fun B11 hB11 => ?_
      simp [-vf_kept]
      refine str_eq ?_
      simp [-vf_kept]
      rw [hch, show U.tup ((told m l g (L : Int)).map U.int) = tupU (told m l g L) from rfl]
      refine m_kept (chn_ok hl (by omega)) (by omega) told_len ?_
      refine ⟨by omega, ?_⟩
      have hall : ((List.range (chn l g).length).filter fun k => kpt L (told m l g L) (wi (chn l g) (k : Nat))) = List.range (chn l g).length := by
        rw [List.filter_eq_self]
        intro k hk
        have := List.mem_range.mp hk
        exact kpt_told hl (wi_mem (by omega) (by omega))
      rw [hall, hcl, rng0]
      refine cod_nat.tup.eq (neg := true) (a := List.range (l.length - 1)) (b := List.range (l.length - 1)) (by decide) ?_
      simp
      refine hB11 _ ?_
      clear hB11
      refine nxtS fun B12 hB12 => ?_
      have hlb := late_band (show 0 < L by omega) hl1 hg hok
      simp [-vf_band, -vf__law_band]
      rw [show U.tup (o.map U.int) = tupU o from rfl]
      refine m_band (by omega) ho hl.inn (by omega) ?_
      refine ⟨(bandN l g L o).length, by simp [bandU], ?_⟩
      simp [hlb, -vf__law_band]
      rw [show U.tup (o.map U.int) = tupU o from rfl]
      refine m_law_band (by omega) ho hl.inn (by omega) ?_
      refine ⟨(bandN l g L o).length, by simp [bandU], ?_⟩
      simp [hlb]
      refine hB12 _ ?_
      clear hB12
      refine nxtS fun B13 hB13 => ?_
      simp
      intro t0 ht0 ht1
      refine hB13 _ ?_
      clear hB13
      refine nxtS fun B14 hB14 => ?_
      simp [-vf_band, -vf_turned_offsets]
      rw [show U.tup ((told m l g (L : Int)).map U.int) = tupU (told m l g L) from rfl]
      refine m_turned (by omega) (by rw [told_len]; omega) ?_
      have htl : (trn (told m l g L) L (t0 - 30)).length = m := by simp [trn, told_len]
      refine m_band (offs := trn (told m l g L) L (t0 - 30)) (by omega) htl hl.inn (by omega) ?_
      refine hB14 _ ?_
      clear hB14
      refine nxtS fun B15 hB15 => ?_
      simp [-vf__law_band, -vf__law_rest]
      have hbu : ∀ oo : List Int, bandU l g L oo = .tup ((bandI l g L oo).map .int) := fun oo => by simp [bandU, bandI, nU, Function.comp_def]
      have hts := turned_sort (t := t0 - 30) (show 0 < L by omega) (told_len (m := m) (l := l) (g := g) (L := (L : Int))) hl.inn hgl
      have hbnl : (bandN l g L (told m l g L)).length ≤ 1000 := by
        have := List.length_filter_le (fun s : Nat => passB l g L (told m l g L) (s : Nat)) (List.range L)
        unfold bandN
        simp at this ⊢
        omega
      refine vLc_map (enc := nU) (g := fun s : Nat => .int (((s : Nat) + (t0 - 30)) % (L : Int))) (bandN l g L (told m l g L)) (fun K hK => ?_) (fun s hs M hM => ?_) (by omega) ?_
      · simp [-vf__law_band]
        rw [show U.tup ((told m l g (L : Int)).map U.int) = tupU (told m l g L) from rfl]
        refine m_law_band (by omega) told_len hl.inn (by omega) ?_
        simp [bandU]
        exact hK
      · simp [nU, -vf__law_rest]
        exact m_law_rest (by omega) hM
      refine ⟨(bandI l g L (told m l g L)).map fun s => (s + (t0 - 30)) % (L : Int), by rw [← intsU_map, bandI, List.map_map, List.map_map]; rfl, ?_⟩
      rw [hts]
      refine ⟨_, rfl, ?_⟩
      rw [hbu]
      refine cod_int.tup.eq (neg := true) (a := bandI l g L (trn (told m l g L) L (t0 - 30))) (b := bandI l g L (trn (told m l g L) L (t0 - 30))) (by decide) ?_
      simp
      refine hB15 _ ?_
      clear hB15
      simp only [vFgt]
      refine vFor_inv (enc := nU) (xs := List.range 4) (fun done e => e = [none, some (.val .src), some (.val (nU lap)), some (.val (.int (m : Nat))), some (.val (.int (L : Nat))), some (.val (prsU l)), some (.val (prsU g)), some (.val (.int (mn (lens g)))), some (.val (lstU (tks l 0))), none, some (.val (tupU (told m l g L))), some (.own (.lst ((List.range (l.length - 1)).map (wiU ∘ wch l g)))), none, none, none, some (.val (.str (Str.ofString "offsets"))), some (.val (tupU o)), some (.val (.int (t0 - 30))), some (.val (.tup ((bandI l g L (trn (told m l g L) L (t0 - 30))).map .int))), none, none, none, none, none]) (fun K hK => ?_) (by simp [wipeV]) ?_ ?_
      · simp [wipeV]
        rw [rng0]
        exact hK
      · rintro done go rest e N' eq rfl hN'
        refine nxtS fun D1 hD1 => ?_
        simp
        refine vLc_any (enc := nU) (P := fun _ y => ∃ x : Int, y = .int x ∧ (0 ≤ x ∧ x < L)) (List.range m) (fun K hK => ?_) (fun j hj M hM => ?_) (by simp; omega) (fun ys hy => ?_)
        · simp [rng0]
          exact ⟨by omega, hK⟩
        · simp
          refine ⟨by omega, fun w hw1 hw2 => hM _ ⟨w, rfl, ?_⟩⟩
          by_cases z : (L : Int) < 2
          · have := hw1 z; omega
          · exact hw2 (by omega)
        obtain ⟨offs, rfl, hoo⟩ := hy.dec
        have hol : offs.length = m := by have := hoo.len; simpa using this
        refine ⟨_, rfl, hD1 _ ?_⟩
        clear hD1
        refine nxtS fun D2 hD2 => ?_
        simp [-vf__law_band]
        rw [show U.tup (offs.map U.int) = tupU offs from rfl]
        refine m_law_band (by omega) hol hl.inn (by omega) ?_
        refine hD2 _ ?_
        clear hD2
        refine nxtS fun D3 hD3 => ?_
        have hblm := band_le_mn (offs := offs) (by omega) hg hl1
        simp [-vf_band]
        refine m_band (by omega) hol hl.inn (by omega) ?_
        refine cod_nat.tup.eq (neg := true) (a := bandN l g L offs) (b := bandN l g L offs) (by decide) ?_
        rw [show bandU l g L offs = .tup ((bandN l g L offs).map nU) from rfl]
        simp
        rw [if_neg (by omega)]
        refine hD3 _ ?_
        clear hD3
        refine nxtS fun D4 hD4 => ?_
        simp
        refine ⟨.inl (by unfold CMul; omega), by omega, fun s0 hs0 hs1 => ?_⟩
        refine hD4 _ ?_
        clear hD4
        simp [-vf_passes, -vf__law_rest, -gIn]
        rw [show U.tup (offs.map U.int) = tupU offs from rfl]
        refine m_passes (by omega) hol hl.inn (by omega) ?_
        refine m_repr (sm_bl _) (by decide) (by decide) ?_
        refine m_law_rest (by omega) ?_
        have hr0 : 0 ≤ s0 % (L : Int) := Int.emod_nonneg _ (by omega)
        have hr1 : s0 % (L : Int) < L := Int.emod_lt_of_pos _ (by omega)
        have hrn : U.int (s0 % (L : Int)) = nU (s0 % (L : Int)).toNat := by unfold nU; congr 1; omega
        rw [hrn]
        refine ⟨_, cod_nat.inT (by decide) _ _, ?_⟩
        have hmem : decide ((s0 % (L : Int)).toNat ∈ bandN l g L offs) = passB l g L offs s0 := by
          rw [← passB_mod (s := s0) hg.len]
          unfold bandN
          have e : ((s0 % (L : Int)).toNat : Int) = s0 % (L : Int) := by omega
          cases hp : passB l g L offs (s0 % (L : Int))
          · refine decide_eq_false fun z => ?_
            have := (List.mem_filter.mp z).2
            simp only [e] at this
            rw [hp] at this; cases this
          · refine decide_eq_true (List.mem_filter.mpr ⟨List.mem_range.mpr (by omega), ?_⟩)
            simp only [e]
            exact hp
        rw [hmem]
        refine m_repr (sm_bl _) (by decide) (by decide) ?_
        refine m_same (neg := true) (sm_bl (passB l g L offs s0)) ?_
        simp
        refine hN' _ ?_
        simp
      · rintro e rfl
        exact hN _ rfl
  · rintro e rfl
    simp [lawD]
theorem body_law : ∀ ds W Q, sp_law ds W Q → f_law (RT Q) (startD ["script", "source", "lap", "m", "L", "line", "greens", "least", "ticks", "green", "told", "wishes", "k", "one", "other", "word", "late", "turn", "there", "start", "go", "offsets", "c", "due"] ds) W := body_of_law vs_law (by decide) main
end K43
namespace K43
open PySem PySem.Spec PyProof.Rows L2 DL VL A30 KB

section
variable {P : Program} {w : World} {K : PySem.W.Frag} {mg : Str → Option Value} {base : Heap}
theorem ok_wish_of (T : Tx K mg) : FnG P w K mg base 2 T.a_wish_of T.d_wish_of ["one", "begin", "other", "late", "time"] (toSp K (spOf vf_wish_of)) := by
  refine okD T.F_wish_of sc_wish_of (len_of2 vo_wish_of) fun cdv A outer s H hr hgd => ⟨f_wish_of, ?_, (body_of2 (N := ["one", "begin", "other", "late", "time"]) vs_wish_of vo_wish_of)⟩
  have nd := sc_wish_of.nd
  have hu3 := hu_of hr
  have hu := hr.units
  have hu2 := units65 hr
  exact (sss_one (ss_ret (se_tup (DL.sa_cons (se_var 0) (DL.sa_cons (se_var 2) (DL.sa_cons (se_op op_sub o_II0 (se_op (((op_add.or op_catA).or op_cat).or op_add_str) o_add (se_var 1) (se_var 4)) (se_var 3)) DL.sa_nil))))))
theorem ok_is_kept (T : Tx K mg) : FnG P w K mg base 2 T.a_is_kept T.d_is_kept ["wish", "L", "offsets"] (toSp K (spOf vf_is_kept)) := by
  refine okD T.F_is_kept sc_is_kept (len_of2 vo_is_kept) fun cdv A outer s H hr hgd => ⟨f_is_kept, ?_, (body_of2 (N := ["wish", "L", "offsets", "one", "other", "ticks"]) vs_is_kept vo_is_kept)⟩
  have nd := sc_is_kept.nd
  have hu3 := hu_of hr
  have hu := hr.units
  have hu2 := units65 hr
  exact (sss_cons (ss_asg (se_var 0) (sg_tup (n := 3) rfl (sgs_cons (sg_name 3 nd) (sgs_cons (sg_name 4 nd) (sgs_cons (sg_name 5 nd) sgs_nil)))))
      (sss_one (ss_ret (se_cmp (op_eqD hu) o_eq (se_op op_mod o_II (se_op op_sub o_II0 (se_op op_sub o_II0 (se_sub hu3 (se_var 2) (se_var 4)) (se_sub hu3 (se_var 2) (se_var 3))) (se_var 5)) (se_var 1)) se_int (nomark _)))))
theorem ok_begin_of (T : Tx K mg) : FnG P w K mg base 2 T.a_begin_of T.d_begin_of ["wishes", "step"] (toSp K (spOf vf_begin_of)) := by
  refine okD T.F_begin_of sc_begin_of (len_of2 vo_begin_of) fun cdv A outer s H hr hgd => ⟨f_begin_of, ?_, (body_of2 (N := ["wishes", "step", "w", "sign"]) vs_begin_of vo_begin_of)⟩
  have nd := sc_begin_of.nd
  have hu3 := hu_of hr
  have hu := hr.units
  have hu2 := units65 hr
  exact (sss_cons (ss_asg (se_var 1) (sg_tup (n := 2) rfl (sgs_cons (sg_name 2 nd) (sgs_cons (sg_name 3 nd) sgs_nil))))
      (sss_one (ss_ret (se_sub hu3 (se_sub hu3 (se_var 0) (se_var 2)) (se_if (st_cmp (op_eqD hu) o_eq (se_var 3) se_int (nomark _)) se_int se_int)))))
theorem ok_end_of (T : Tx K mg) : FnG P w K mg base 2 T.a_end_of T.d_end_of ["wishes", "step"] (toSp K (spOf vf_end_of)) := by
  refine okD T.F_end_of sc_end_of (len_of2 vo_end_of) fun cdv A outer s H hr hgd => ⟨f_end_of, ?_, (body_of2 (N := ["wishes", "step", "w", "sign"]) vs_end_of vo_end_of)⟩
  have nd := sc_end_of.nd
  have hu3 := hu_of hr
  have hu := hr.units
  have hu2 := units65 hr
  exact (sss_cons (ss_asg (se_var 1) (sg_tup (n := 2) rfl (sgs_cons (sg_name 2 nd) (sgs_cons (sg_name 3 nd) sgs_nil))))
      (sss_one (ss_ret (se_sub hu3 (se_sub hu3 (se_var 0) (se_var 2)) (se_if (st_cmp (op_eqD hu) o_eq (se_var 3) se_int (nomark _)) se_int se_int)))))
theorem ok_sum_of (T : Tx K mg) : FnG P w K mg base 2 T.a_sum_of T.d_sum_of ["wishes", "steps"] (toSp K (spOf vf_sum_of)) := by
  refine okD T.F_sum_of sc_sum_of (len_of2 vo_sum_of) fun cdv A outer s H hr hgd => ⟨f_sum_of, ?_, (body_of2 (N := ["wishes", "steps", "w", "sign"]) vs_sum_of vo_sum_of)⟩
  have nd := sc_sum_of.nd
  have hu3 := hu_of hr
  have hu := hr.units
  have hu2 := units65 hr
  exact (sss_one (ss_ret (se_callB (cr_sum rfl) c_sum T.z_sum PyProof.Rows.boot_sum (DL.sa_cons (se_lc (own := [("w", 2), ("sign", 3)]) rfl nd (si_seq (se_var 1)) (blkOk_by (by kernel_rfl)) (fun _ _ _ _ _ => (sc_tup (n := 2) rfl (scs_cons (sc_name 2 nd) (scs_cons (sc_name 3 nd) scs_nil)))) (fun _ _ _ _ _ => sp_nil) (fun _ _ _ _ _ => (se_op ((op_mul.or op_mulW).or op_rep) o_mul (se_var 3) (se_sub hu3 (se_sub hu3 (se_var 0) (se_var 2)) se_int)))) DL.sa_nil))))
theorem ok_ring_of (T : Tx K mg) : FnG P w K mg base 2 T.a_ring_of T.d_ring_of ["w", "there", "back"] (toSp K (spOf vfNever)) := fn_never
theorem ok_turned_offsets (T : Tx K mg) : FnG P w K mg base 2 T.a_turned_offsets T.d_turned_offsets ["offsets", "L", "ticks"] (toSp K (spOf vf_turned_offsets)) := by
  refine okD T.F_turned_offsets sc_turned_offsets (len_of2 vo_turned_offsets) fun cdv A outer s H hr hgd => ⟨f_turned_offsets, ?_, (body_of2 (N := ["offsets", "L", "ticks", "offset"]) vs_turned_offsets vo_turned_offsets)⟩
  have nd := sc_turned_offsets.nd
  have hu3 := hu_of hr
  have hu := hr.units
  have hu2 := units65 hr
  exact (sss_one (ss_ret (se_callTy call_tuple_of c_tuple T.z_tuple PyProof.Rows.boot_tuple (DL.sa_cons (se_lc (own := [("offset", 3)]) rfl nd (si_seq (se_var 0)) (blkOk_by (by kernel_rfl)) (fun _ _ _ _ _ => (sc_name 3 nd)) (fun _ _ _ _ _ => sp_nil) (fun _ _ _ _ _ => (se_op op_mod o_II (se_op (((op_add.or op_catA).or op_cat).or op_add_str) o_add (se_var 3) (se_var 2)) (se_var 1)))) DL.sa_nil))))
theorem ok_arrivals (T : Tx K mg) : FnG P w K mg base 2 T.a_arrivals T.d_arrivals ["line", "start"] (toSp K (spOf vf_arrivals)) := by
  refine okD T.F_arrivals sc_arrivals (len_of2 vo_arrivals) fun cdv A outer s H hr hgd => ⟨f_arrivals, ?_, (body_of2 (N := ["line", "start", "at", "found", "_", "time"]) vs_arrivals vo_arrivals)⟩
  have nd := sc_arrivals.nd
  have hu3 := hu_of hr
  have hu := hr.units
  have hu2 := units65 hr
  exact (sss_cons (DL.ss_set 2 nd (se_var 1))
      (sss_cons (DL.ss_set 3 nd (se_lst DL.sa_nil))
      (sss_cons (DL.ss_for PassesOwn.never rfl (si_seq (se_var 0)) (sg_tup (n := 2) rfl (sgs_cons (sg_name 4 nd) (sgs_cons (sg_name 5 nd) sgs_nil))) (sss_cons (DL.ss_aug 2 nd ip_add ip_addD (se_var 5))
      (sss_one (ss_expr (se_m PySem.F.plainAttrs_list PySem.F.slot_list_append PySem.F.type_list_append mt_append ty_list m_append (se_var 3) (DL.sa_cons (se_var 2) DL.sa_nil))))))
      (sss_one (ss_ret (se_callTy call_tuple_of c_tuple T.z_tuple PyProof.Rows.boot_tuple (DL.sa_cons (se_var 3) DL.sa_nil)))))))
theorem ok_band_bound (T : Tx K mg) : FnG P w K mg base 2 T.a_band_bound T.d_band_bound ["greens"] (toSp K (spOf vf_band_bound)) := by
  refine okD T.F_band_bound sc_band_bound (len_of2 vo_band_bound) fun cdv A outer s H hr hgd => ⟨f_band_bound, ?_, (body_of2 (N := ["greens", "_", "length"]) vs_band_bound vo_band_bound)⟩
  have nd := sc_band_bound.nd
  have hu3 := hu_of hr
  have hu := hr.units
  have hu2 := units65 hr
  exact (sss_one (ss_ret (se_callB (cr_min rfl) c_min T.z_min PyProof.Rows.boot_min (DL.sa_cons (se_lc (own := [("_", 1), ("length", 2)]) rfl nd (si_seq (se_var 0)) (blkOk_by (by kernel_rfl)) (fun _ _ _ _ _ => (sc_tup (n := 2) rfl (scs_cons (sc_name 1 nd) (scs_cons (sc_name 2 nd) scs_nil)))) (fun _ _ _ _ _ => sp_nil) (fun _ _ _ _ _ => (se_var 2))) DL.sa_nil))))
theorem ok__law_open_cells (T : Tx K mg) : FnG P w K mg base 2 T.a__law_open_cells T.d__law_open_cells ["script"] (toSp K sp__law_open_cells) := by
  refine okD T.F__law_open_cells sc__law_open_cells len__law_open_cells fun cdv A outer s H hr hgd => ⟨f__law_open_cells, ?_, body__law_open_cells⟩
  have nd := sc__law_open_cells.nd
  have hu3 := hu_of hr
  have hu := hr.units
  have hu2 := units65 hr
  exact (sss_cons (ss_set 1 nd se_int)
      (sss_cons (ss_for PassesOwn.never rfl (si_seq (se_var 0)) (sg_name 2 nd) (sss_one (ss_set 1 nd (se_op op_mod o_II (se_callTy call_int1 c_int T.z_int PyProof.Rows.boot_int (sa_cons (se_op (((op_add.or op_catA).or op_cat).or op_add_str) o_add (se_op (((op_add.or op_catA).or op_cat).or op_add_str) o_add (se_op ((op_mul.or op_mulW).or op_rep) o_mul (se_var 1) se_int) (se_op ((op_mul.or op_mulW).or op_rep) o_mul (se_var 2) se_int)) se_int) sa_nil)) se_int))))
      (sss_cons (ss_setLc 3 (own := [("cell", 2)]) rfl nd (si_seq (se_var 0)) (blkOk_by (by kernel_rfl)) (fun _ _ _ _ _ => (sc_name 2 nd)) (fun _ _ _ _ _ => sp_nil) (fun _ _ _ _ _ => (se_callB call_abs c_abs T.z_abs PyProof.Rows.boot_abs (sa_cons (se_var 2) sa_nil))))
      (sss_one (ss_ret (se_disp (.cons se_str (se_revL (se_var 3)) (.cons se_str se_int (.cons se_str (se_var 1) (.cons se_str se_int .nil))))))))))
theorem okA__law_pick (T : Tx K mg) : FnG P w K mg base 2 T.a__law_pick T.d__law_pick ["source", "most"] (toSp K sp__law_pick) := by
  refine okD T.F__law_pick sc__law_pick len__law_pick fun cdv A outer s H hr hgd => ⟨f__law_pick, ?_, body__law_pick⟩
  have nd := sc__law_pick.nd
  have hu3 := hu_of hr
  have hu := hr.units
  have hu2 := units65 hr
  exact (sss_cons (ss_if (st_cmp op_lt o_IB (se_var 1) se_int (nomark _)) (sss_one (ss_ret se_int)) sss_nil)
      (sss_cons (ss_set 2 nd (se_sub hu3 (se_var 0) se_str))
      (sss_cons (ss_while PassesOwn.never (PW.pt (sw_and (st_cmp op_lt o_IB (se_sub hu3 (se_var 0) se_str) se_int (nomark _)) (sw_and1 (st_cmp op_gt o_IB (se_callB call_len_seq c_len T.z_len PySem.boot_len (sa_cons (se_var 2) sa_nil)) se_int (nomark _))))) (sss_one (ss_asg (se_m0 PySem.F.plainAttrs_list PySem.F.slot_list_pop PySem.F.type_list_pop mt_pop ty_list m_pop (se_var 2)) (sg_set hu3 (se_var 0) se_str))))
      (sss_cons (ss_set 3 nd (se_sub hu3 (se_var 0) se_str))
      (sss_cons (ss_if (st_cmp op_gt o_IB (se_var 3) se_int (nomark _)) (sss_cons (ss_asg (se_op op_fdivW o_II (se_var 3) (se_var 1)) (sg_set hu3 (se_var 0) se_str))
      (sss_one (ss_ret (se_op op_mod o_II (se_callTy call_int1 c_int T.z_int PyProof.Rows.boot_int (sa_cons (se_var 3) sa_nil)) (se_var 1))))) sss_nil)
      (sss_cons (ss_asg (se_op (((op_add.or op_catA).or op_cat).or op_add_str) o_add (se_sub hu3 (se_var 0) se_str) se_int) (sg_set hu3 (se_var 0) se_str))
      (sss_cons (ss_set 4 nd (se_sub hu3 (se_var 0) se_str))
      (sss_cons (ss_set 5 nd (se_op op_mod o_II (se_callTy call_int1 c_int T.z_int PyProof.Rows.boot_int (sa_cons (se_op (((op_add.or op_catA).or op_cat).or op_add_str) o_add (se_sub hu3 (se_var 0) se_str) (se_op ((op_mul.or op_mulW).or op_rep) o_mul (se_var 4) se_int)) sa_nil)) se_int))
      (sss_cons (ss_set 5 nd (se_op op_mod o_II (se_callTy call_int1 c_int T.z_int PyProof.Rows.boot_int (sa_cons (se_op (((op_add.or op_catA).or op_cat).or op_add_str) o_add (se_op ((op_mul.or op_mulW).or op_rep) o_mul (se_var 5) (se_var 5)) (se_op ((op_mul.or op_mulW).or op_rep) o_mul (se_var 4) se_int)) sa_nil)) se_int))
      (sss_one (ss_ret (se_op op_mod o_II (se_callTy call_int1 c_int T.z_int PyProof.Rows.boot_int (sa_cons (se_op op_fdivW o_II (se_var 5) se_int) sa_nil)) (se_var 1)))))))))))))
theorem ok__law_pick (T : Tx K mg) : FnG P w K mg base 2 T.a__law_pick T.d__law_pick ["source", "most"] (toSp K (spOf vfPick)) := by
  refine okD T.F__law_pick sc__law_pick len_pick fun cdv A outer s H hr hgd => ⟨f__law_pick, ?_, body_pick⟩
  have nd := sc__law_pick.nd
  have hu3 := hu_of hr
  have hu := hr.units
  have hu2 := units65 hr
  exact (sss_cons (ss_if (st_cmp op_lt o_IB (se_var 1) se_int (nomark _)) (sss_one (ss_ret se_int)) sss_nil)
      (sss_cons (ss_set 2 nd (se_sub hu3 (se_var 0) se_str))
      (sss_cons (ss_while PassesOwn.never (PW.pt (sw_and (st_cmp op_lt o_IB (se_sub hu3 (se_var 0) se_str) se_int (nomark _)) (sw_and1 (st_cmp op_gt o_IB (se_callB call_len_seq c_len T.z_len PySem.boot_len (sa_cons (se_var 2) sa_nil)) se_int (nomark _))))) (sss_one (ss_asg (se_m0 PySem.F.plainAttrs_list PySem.F.slot_list_pop PySem.F.type_list_pop mt_pop ty_list m_pop (se_var 2)) (sg_set hu3 (se_var 0) se_str))))
      (sss_cons (ss_set 3 nd (se_sub hu3 (se_var 0) se_str))
      (sss_cons (ss_if (st_cmp op_gt o_IB (se_var 3) se_int (nomark _)) (sss_cons (ss_asg (se_op op_fdivW o_II (se_var 3) (se_var 1)) (sg_set hu3 (se_var 0) se_str))
      (sss_one (ss_ret (se_op op_mod o_II (se_callTy call_int1 c_int T.z_int PyProof.Rows.boot_int (sa_cons (se_var 3) sa_nil)) (se_var 1))))) sss_nil)
      (sss_cons (ss_asg (se_op (((op_add.or op_catA).or op_cat).or op_add_str) o_add (se_sub hu3 (se_var 0) se_str) se_int) (sg_set hu3 (se_var 0) se_str))
      (sss_cons (ss_set 4 nd (se_sub hu3 (se_var 0) se_str))
      (sss_cons (ss_set 5 nd (se_op op_mod o_II (se_callTy call_int1 c_int T.z_int PyProof.Rows.boot_int (sa_cons (se_op (((op_add.or op_catA).or op_cat).or op_add_str) o_add (se_sub hu3 (se_var 0) se_str) (se_op ((op_mul.or op_mulW).or op_rep) o_mul (se_var 4) se_int)) sa_nil)) se_int))
      (sss_cons (ss_set 5 nd (se_op op_mod o_II (se_callTy call_int1 c_int T.z_int PyProof.Rows.boot_int (sa_cons (se_op (((op_add.or op_catA).or op_cat).or op_add_str) o_add (se_op ((op_mul.or op_mulW).or op_rep) o_mul (se_var 5) (se_var 5)) (se_op ((op_mul.or op_mulW).or op_rep) o_mul (se_var 4) se_int)) sa_nil)) se_int))
      (sss_one (ss_ret (se_op op_mod o_II (se_callTy call_int1 c_int T.z_int PyProof.Rows.boot_int (sa_cons (se_op op_fdivW o_II (se_var 5) se_int) sa_nil)) (se_var 1)))))))))))))
theorem ok__law_rest (T : Tx K mg) : FnG P w K mg base 2 T.a__law_rest T.d__law_rest ["number", "L"] (toSp K (spOf vf__law_rest)) := by
  refine okD T.F__law_rest sc__law_rest (len_of2 vo__law_rest) fun cdv A outer s H hr hgd => ⟨f__law_rest, ?_, (body_of2 (N := ["number", "L"]) vs__law_rest vo__law_rest)⟩
  have nd := sc__law_rest.nd
  have hu3 := hu_of hr
  have hu := hr.units
  have hu2 := units65 hr
  exact (sss_one (ss_ret (se_op op_mod o_II (se_callTy call_int1 c_int T.z_int PyProof.Rows.boot_int (DL.sa_cons (se_var 0) DL.sa_nil)) (se_var 1))))
theorem ok__law_line_ticks (T : Tx K mg) : FnG P w K mg base 2 T.a__law_line_ticks T.d__law_line_ticks ["line", "start"] (toSp K (spOf vf__law_line_ticks)) := by
  refine okD T.F__law_line_ticks sc__law_line_ticks (len_of2 vo__law_line_ticks) fun cdv A outer s H hr hgd => ⟨f__law_line_ticks, ?_, (body_of2 (N := ["line", "start", "found", "tick", "crossing", "time"]) vs__law_line_ticks vo__law_line_ticks)⟩
  have nd := sc__law_line_ticks.nd
  have hu3 := hu_of hr
  have hu := hr.units
  have hu2 := units65 hr
  exact (sss_cons (DL.ss_par 2 3 rfl nd (DL.sa_cons (se_lst DL.sa_nil) (DL.sa_cons (se_var 1) DL.sa_nil)))
      (sss_cons (DL.ss_for PassesOwn.never rfl (si_seq (se_var 0)) (sg_tup (n := 2) rfl (sgs_cons (sg_name 4 nd) (sgs_cons (sg_name 5 nd) sgs_nil))) (sss_cons (DL.ss_set 3 nd (se_op (((op_add.or op_catA).or op_cat).or op_add_str) o_add (se_var 3) (se_var 5)))
      (sss_one (ss_expr (se_m PySem.F.plainAttrs_list PySem.F.slot_list_append PySem.F.type_list_append mt_append ty_list m_append (se_var 2) (DL.sa_cons (se_var 3) DL.sa_nil))))))
      (sss_one (ss_ret (se_var 2)))))
theorem ok_kept (T : Tx K mg) : FnG P w K mg base 3 T.a_kept T.d_kept ["wishes", "L", "offsets"] (toSp K (spOf vf_kept)) := by
  refine okD T.F_kept sc_kept (len_of2 vo_kept) fun cdv A outer s H hr hgd => ⟨f_kept, ?_, (body_of2 (N := ["wishes", "L", "offsets", "w", "wish"]) vs_kept vo_kept)⟩
  have nd := sc_kept.nd
  have hu3 := hu_of hr
  have hu := hr.units
  have hu2 := units65 hr
  exact (sss_one (ss_ret (se_callTy call_tuple_of c_tuple T.z_tuple PyProof.Rows.boot_tuple (DL.sa_cons (se_lc (own := [("w", 3), ("wish", 4)]) rfl nd (si_en1 T.z_enumerate (DL.sa_cons (se_var 0) DL.sa_nil)) (blkOk_by (by kernel_rfl)) (fun _ _ _ _ _ => (sc_tup (n := 2) rfl (scs_cons (sc_name 3 nd) (scs_cons (sc_name 4 nd) scs_nil)))) (fun _ _ _ _ _ => (sp_one (st_val (se_call (ok_is_kept T) (hr.mono (by decide)) hgd T.g_is_kept T.F_is_kept.kp T.b_is_kept (DL.sa_cons (se_var 4) (DL.sa_cons (se_var 1) (DL.sa_cons (se_var 2) DL.sa_nil))))))) (fun _ _ _ _ _ => (se_var 3))) sa_nil))))
theorem ok_ways_from (T : Tx K mg) : FnG P w K mg base 3 T.a_ways_from T.d_ways_from ["wishes", "first"] (toSp K (spOf vf_ways_from)) := by
  refine okD T.F_ways_from sc_ways_from (len_of2 vo_ways_from) fun cdv A outer s H hr hgd => ⟨f_ways_from, ?_, (body_of2 (N := ["wishes", "first", "steps", "w", "sign", "ways", "ahead", "at", "step", "end"]) vs_ways_from vo_ways_from)⟩
  have nd := sc_ways_from.nd
  have hu3 := hu_of hr
  have hu := hr.units
  have hu2 := units65 hr
  exact (sss_cons (ss_setLc2 2 (own := [("w", 3), ("sign", 4)]) [4] rfl nd (si_rng1 rfl T.z_range (DL.sa_cons (se_callB call_len_seq c_len T.z_len PySem.boot_len (DL.sa_cons (se_var 0) DL.sa_nil)) sa_nil)) (blkOk_by (by kernel_rfl)) (fun _ _ _ _ _ => (sc_name 3 nd)) (fun _ _ _ _ _ => sp_nil) (fun _ _ _ _ _ => (si_seq (se_tup (DL.sa_cons se_int (DL.sa_cons (se_neg se_int) DL.sa_nil))))) (fun _ _ _ _ _ => (sc_name 4 nd)) (fun _ _ _ _ _ => sp_nil) (fun _ _ _ _ _ => (se_tup (DL.sa_cons (se_var 3) (DL.sa_cons (se_var 4) DL.sa_nil)))))
      (sss_cons (DL.ss_set 5 nd (se_disp (.cons (se_var 1) (se_tup DL.sa_nil) .nil)))
      (sss_cons (DL.ss_set 6 nd (se_lst (DL.sa_cons (se_var 1) DL.sa_nil)))
      (sss_cons (DL.ss_while PassesOwn.never (st_truth (se_var 6)) (sss_cons (DL.ss_set 7 nd (se_m PySem.F.plainAttrs_list PySem.F.slot_list_pop PySem.F.type_list_pop mt_popAt ty_list m_popAt (se_var 6) (DL.sa_cons se_int DL.sa_nil)))
      (sss_one (DL.ss_for PassesOwn.never rfl (si_seq (se_var 2)) (sg_name 8 nd) (sss_cons (DL.ss_set 9 nd (se_call (ok_end_of T) (hr.mono (by decide)) hgd T.g_end_of T.F_end_of.kp T.b_end_of (DL.sa_cons (se_var 0) (DL.sa_cons (se_var 8) DL.sa_nil))))
      (sss_one (DL.ss_if (PW.pt (sw_and (st_cmp (op_eqD hu) o_eq (se_call (ok_begin_of T) (hr.mono (by decide)) hgd T.g_begin_of T.F_begin_of.kp T.b_begin_of (DL.sa_cons (se_var 0) (DL.sa_cons (se_var 8) DL.sa_nil))) (se_var 7) (nomark _)) (sw_and1 (st_cmp ((op_notInAny hu2).or (op_notInDk hu3)) o_notInA (se_var 9) (se_var 5) (by rfl))))) (sss_cons (ss_asg (se_op (((op_add.or op_catA).or op_cat).or op_add_str) o_add (se_sub hu3 (se_var 5) (se_var 7)) (se_tup (DL.sa_cons (se_var 8) DL.sa_nil))) (sg_set hu3 (se_var 5) (se_var 9)))
      (sss_one (ss_expr (se_m PySem.F.plainAttrs_list PySem.F.slot_list_append PySem.F.type_list_append mt_append ty_list m_append (se_var 6) (DL.sa_cons (se_var 9) DL.sa_nil))))) sss_nil)))))))
      (sss_one (ss_ret (se_var 5)))))))
theorem ok_passes (T : Tx K mg) : FnG P w K mg base 3 T.a_passes T.d_passes ["line", "greens", "L", "offsets", "start"] (toSp K (spOf vf_passes)) := by
  refine okD T.F_passes sc_passes (len_of2 vo_passes) fun cdv A outer s H hr hgd => ⟨f_passes, ?_, (body_of2 (N := ["line", "greens", "L", "offsets", "start", "crossing", "_", "begin", "length", "at"]) vs_passes vo_passes)⟩
  have nd := sc_passes.nd
  have hu3 := hu_of hr
  have hu := hr.units
  have hu2 := units65 hr
  exact (sss_one (ss_ret (se_callB (cr_all rfl) c_all T.z_all PyProof.Rows.boot_all (DL.sa_cons (se_lc (own := [("at", 9), ("crossing", 5), ("_", 6), ("begin", 7), ("length", 8)]) rfl nd (si_zip3 T.z_zip (DL.sa_cons (se_var 0) (DL.sa_cons (se_var 1) (DL.sa_cons (se_call (ok_arrivals T) (hr.mono (by decide)) hgd T.g_arrivals T.F_arrivals.kp T.b_arrivals (DL.sa_cons (se_var 0) (DL.sa_cons (se_var 4) DL.sa_nil))) sa_nil)))) (blkOk_by (by kernel_rfl)) (fun _ _ _ _ _ => (sc_tup (n := 3) rfl (scs_cons (sc_tup (n := 2) rfl (scs_cons (sc_name 5 nd) (scs_cons (sc_name 6 nd) scs_nil))) (scs_cons (sc_tup (n := 2) rfl (scs_cons (sc_name 7 nd) (scs_cons (sc_name 8 nd) scs_nil))) (scs_cons (sc_name 9 nd) scs_nil))))) (fun _ _ _ _ _ => sp_nil) (fun _ _ _ _ _ => (se_cmp op_lt o_IB (se_op op_mod o_II (se_op op_sub o_II0 (se_op op_sub o_II0 (se_var 9) (se_sub hu3 (se_var 3) (se_var 5))) (se_var 7)) (se_var 2)) (se_var 8) (nomark _)))) sa_nil))))
theorem ok_offsets_of_line (T : Tx K mg) : FnG P w K mg base 3 T.a_offsets_of_line T.d_offsets_of_line ["m", "line", "greens", "L"] (toSp K (spOf vf_offsets_of_line)) := by
  refine okD T.F_offsets_of_line sc_offsets_of_line (len_of2 vo_offsets_of_line) fun cdv A outer s H hr hgd => ⟨f_offsets_of_line, ?_, (body_of2 (N := ["m", "line", "greens", "L", "first", "offsets", "k", "at"]) vs_offsets_of_line vo_offsets_of_line)⟩
  have nd := sc_offsets_of_line.nd
  have hu3 := hu_of hr
  have hu := hr.units
  have hu2 := units65 hr
  exact (sss_cons (DL.ss_set 4 nd (se_sub hu3 (se_sub hu3 (se_var 2) se_int) se_int))
      (sss_cons (DL.ss_set 5 nd (se_op ((op_mul.or op_mulW).or op_rep) o_mul (se_lst (DL.sa_cons se_int DL.sa_nil)) (se_var 0)))
      (sss_cons (DL.ss_for PassesOwn.never rfl (si_en1 T.z_enumerate (DL.sa_cons (se_call (ok_arrivals T) (hr.mono (by decide)) hgd T.g_arrivals T.F_arrivals.kp T.b_arrivals (DL.sa_cons (se_var 1) (DL.sa_cons (se_var 4) DL.sa_nil))) sa_nil)) (sg_tup (n := 2) rfl (sgs_cons (sg_name 6 nd) (sgs_cons (sg_name 7 nd) sgs_nil))) (sss_one (ss_asg (se_op op_mod o_II (se_op op_sub o_II0 (se_var 7) (se_sub hu3 (se_sub hu3 (se_var 2) (se_var 6)) se_int)) (se_var 3)) (sg_set hu3 (se_var 5) (se_sub hu3 (se_sub hu3 (se_var 1) (se_var 6)) se_int)))))
      (sss_one (ss_ret (se_callTy call_tuple_of c_tuple T.z_tuple PyProof.Rows.boot_tuple (DL.sa_cons (se_var 5) DL.sa_nil)))))))
theorem ok__law_any_order (T : Tx K mg) : FnG P w K mg base 3 T.a__law_any_order T.d__law_any_order ["source", "things"] (toSp K (spOf vfOrder)) := by
  refine okD T.F__law_any_order sc__law_any_order len_order fun cdv A outer s H hr hgd => ⟨f__law_any_order, ?_, body_order⟩
  have nd := sc__law_any_order.nd
  have hu3 := hu_of hr
  have hu := hr.units
  have hu2 := units65 hr
  exact (sss_cons (ss_set 2 nd (se_callTy call_list_of c_list T.z_list PyProof.Rows.boot_list (sa_cons (se_var 1) sa_nil)))
      (sss_one (ss_ret (se_lc (own := [("lap", 3)]) rfl nd (si_rng1 rfl T.z_range (sa_cons (se_callB call_len_seq c_len T.z_len PySem.boot_len (sa_cons (se_var 2) sa_nil)) sa_nil)) (blkOk_by (by kernel_rfl)) (fun _ _ _ _ _ => (sc_name 3 nd)) (fun _ _ _ _ _ => sp_nil) (fun _ _ _ _ _ => (se_m PySem.F.plainAttrs_list PySem.F.slot_list_pop PySem.F.type_list_pop mt_popAt ty_list m_popAt (se_var 2) (sa_cons (se_call (okA__law_pick T) (hr.mono (by decide)) hgd T.g__law_pick T.F__law_pick.kp T.b__law_pick (sa_cons (se_var 0) (sa_cons (se_callB call_len_seq c_len T.z_len PySem.boot_len (sa_cons (se_var 2) sa_nil)) sa_nil))) sa_nil)))))))
theorem ok__law_band (T : Tx K mg) : FnG P w K mg base 3 T.a__law_band T.d__law_band ["line", "greens", "L", "offsets"] (toSp K (spOf vf__law_band)) := by
  refine okD T.F__law_band sc__law_band (len_of2 vo__law_band) fun cdv A outer s H hr hgd => ⟨f__law_band, ?_, (body_of2 (N := ["line", "greens", "L", "offsets", "found", "start", "is_on", "one", "green", "tick"]) vs__law_band vo__law_band)⟩
  have nd := sc__law_band.nd
  have hu3 := hu_of hr
  have hu := hr.units
  have hu2 := units65 hr
  exact (sss_cons (DL.ss_set 4 nd (se_lst DL.sa_nil))
      (sss_cons (DL.ss_for PassesOwn.never rfl (si_rng1 rfl T.z_range (DL.sa_cons (se_var 2) DL.sa_nil)) (sg_name 5 nd) (sss_cons (DL.ss_set 6 nd se_bl)
      (sss_cons (DL.ss_for PassesOwn.never rfl (si_zip3 T.z_zip (DL.sa_cons (se_var 0) (DL.sa_cons (se_var 1) (DL.sa_cons (se_call (ok__law_line_ticks T) (hr.mono (by decide)) hgd T.g__law_line_ticks T.F__law_line_ticks.kp T.b__law_line_ticks (DL.sa_cons (se_var 0) (DL.sa_cons (se_var 5) DL.sa_nil))) sa_nil)))) (sg_tup (n := 3) rfl (sgs_cons (sg_name 7 nd) (sgs_cons (sg_name 8 nd) (sgs_cons (sg_name 9 nd) sgs_nil)))) (sss_one (DL.ss_set 6 nd (se_and (se_var 6) (se_one (se_cmp op_lt o_IB (se_call (ok__law_rest T) (hr.mono (by decide)) hgd T.g__law_rest T.F__law_rest.kp T.b__law_rest (DL.sa_cons (se_op op_sub o_II0 (se_op op_sub o_II0 (se_var 9) (se_sub hu3 (se_var 3) (se_sub hu3 (se_var 7) se_int))) (se_sub hu3 (se_var 8) se_int)) (DL.sa_cons (se_var 2) DL.sa_nil))) (se_sub hu3 (se_var 8) se_int) (nomark _)))))))
      (sss_one (DL.ss_set 4 nd (se_op (((op_add.or op_catA).or op_cat).or op_add_str) o_add (se_var 4) (se_op ((op_mul.or op_mulW).or op_rep) o_mul (se_lst (DL.sa_cons (se_var 5) DL.sa_nil)) (se_callTy call_int1 c_int T.z_int PyProof.Rows.boot_int (DL.sa_cons (se_var 6) DL.sa_nil)))))))))
      (sss_one (ss_ret (se_callTy call_tuple_of c_tuple T.z_tuple PyProof.Rows.boot_tuple (DL.sa_cons (se_var 4) DL.sa_nil))))))
theorem ok__law_draw_greens (T : Tx K mg) : FnG P w K mg base 3 T.a__law_draw_greens T.d__law_draw_greens ["source", "many", "L"] (toSp K (spOf vf__law_draw_greens)) := by
  refine okD T.F__law_draw_greens sc__law_draw_greens (len_of2 vo__law_draw_greens) fun cdv A outer s H hr hgd => ⟨f__law_draw_greens, ?_, (body_of2 (N := ["source", "many", "L", "lap"]) vs__law_draw_greens vo__law_draw_greens)⟩
  have nd := sc__law_draw_greens.nd
  have hu3 := hu_of hr
  have hu := hr.units
  have hu2 := units65 hr
  exact (sss_one (ss_ret (se_callTy call_tuple_of c_tuple T.z_tuple PyProof.Rows.boot_tuple (DL.sa_cons (se_lc (own := [("lap", 3)]) rfl nd (si_rng1 rfl T.z_range (DL.sa_cons (se_var 1) DL.sa_nil)) (blkOk_by (by kernel_rfl)) (fun _ _ _ _ _ => (sc_name 3 nd)) (fun _ _ _ _ _ => sp_nil) (fun _ _ _ _ _ => (se_tup (DL.sa_cons (se_op op_sub o_II0 (se_call (ok__law_pick T) (hr.mono (by decide)) hgd T.g__law_pick T.F__law_pick.kp T.b__law_pick (DL.sa_cons (se_var 0) (DL.sa_cons (se_op ((op_mul.or op_mulW).or op_rep) o_mul se_int (se_var 2)) DL.sa_nil))) (se_op ((op_mul.or op_mulW).or op_rep) o_mul se_int (se_var 2))) (DL.sa_cons (se_call (ok__law_pick T) (hr.mono (by decide)) hgd T.g__law_pick T.F__law_pick.kp T.b__law_pick (DL.sa_cons (se_var 0) (DL.sa_cons (se_op (((op_add.or op_catA).or op_cat).or op_add_str) o_add (se_var 2) se_int) DL.sa_nil))) sa_nil))))) sa_nil))))
theorem ok_all_ways (T : Tx K mg) : FnG P w K mg base 4 T.a_all_ways T.d_all_ways ["m", "wishes"] (toSp K (spOf vf_all_ways)) := by
  refine okD T.F_all_ways sc_all_ways (len_of2 vo_all_ways) fun cdv A outer s H hr hgd => ⟨f_all_ways, ?_, (body_of2 (N := ["m", "wishes", "ways", "crossing"]) vs_all_ways vo_all_ways)⟩
  have nd := sc_all_ways.nd
  have hu3 := hu_of hr
  have hu := hr.units
  have hu2 := units65 hr
  exact (sss_cons (DL.ss_set 2 nd se_dnew)
      (sss_cons (DL.ss_for PassesOwn.never rfl (si_rng1 rfl T.z_range (DL.sa_cons (se_var 0) DL.sa_nil)) (sg_name 3 nd) (sss_one (DL.ss_if (st_cmp ((op_notInAny hu2).or (op_notInDk hu3)) o_notInA (se_var 3) (se_var 2) (by rfl)) (sss_one (ss_expr (se_m PySem.F.plainAttrs_dict PySem.F.slot_dict_update PySem.F.type_dict_update mt_upd ty_dict m_upd (se_var 2) (DL.sa_cons (se_call (ok_ways_from T) (hr.mono (by decide)) hgd T.g_ways_from T.F_ways_from.kp T.b_ways_from (DL.sa_cons (se_var 1) (DL.sa_cons (se_var 3) DL.sa_nil))) DL.sa_nil)))) sss_nil)))
      (sss_one (ss_ret (se_var 2)))))
theorem ok_band (T : Tx K mg) : FnG P w K mg base 4 T.a_band T.d_band ["line", "greens", "L", "offsets"] (toSp K (spOf vf_band)) := by
  refine okD T.F_band sc_band (len_of2 vo_band) fun cdv A outer s H hr hgd => ⟨f_band, ?_, (body_of2 (N := ["line", "greens", "L", "offsets", "start"]) vs_band vo_band)⟩
  have nd := sc_band.nd
  have hu3 := hu_of hr
  have hu := hr.units
  have hu2 := units65 hr
  exact (sss_one (ss_ret (se_callTy call_tuple_of c_tuple T.z_tuple PyProof.Rows.boot_tuple (DL.sa_cons (se_lc (own := [("start", 4)]) rfl nd (si_rng1 rfl T.z_range (DL.sa_cons (se_var 2) DL.sa_nil)) (blkOk_by (by kernel_rfl)) (fun _ _ _ _ _ => (sc_name 4 nd)) (fun _ _ _ _ _ => (sp_one (st_val (se_call (ok_passes T) (hr.mono (by decide)) hgd T.g_passes T.F_passes.kp T.b_passes (DL.sa_cons (se_var 0) (DL.sa_cons (se_var 1) (DL.sa_cons (se_var 2) (DL.sa_cons (se_var 3) (DL.sa_cons (se_var 4) DL.sa_nil))))))))) (fun _ _ _ _ _ => (se_var 4))) sa_nil))))
theorem ok__law_draw_line (T : Tx K mg) : FnG P w K mg base 4 T.a__law_draw_line T.d__law_draw_line ["source", "m"] (toSp K (spOf vf__law_draw_line)) := by
  refine okD T.F__law_draw_line sc__law_draw_line (len_of2 vo__law_draw_line) fun cdv A outer s H hr hgd => ⟨f__law_draw_line, ?_, (body_of2 (N := ["source", "m", "cells", "k", "cell"]) vs__law_draw_line vo__law_draw_line)⟩
  have nd := sc__law_draw_line.nd
  have hu3 := hu_of hr
  have hu := hr.units
  have hu2 := units65 hr
  exact (sss_cons (DL.ss_set 2 nd (se_slice (se_call (ok__law_any_order T) (hr.mono (by decide)) hgd T.g__law_any_order T.F__law_any_order.kp T.b__law_any_order (DL.sa_cons (se_var 0) (DL.sa_cons (se_lstR1 rfl T.z_list T.z_range (se_var 1)) DL.sa_nil))) so_none (so_some (se_op (((op_add.or op_catA).or op_cat).or op_add_str) o_add se_int (se_call (ok__law_pick T) (hr.mono (by decide)) hgd T.g__law_pick T.F__law_pick.kp T.b__law_pick (DL.sa_cons (se_var 0) (DL.sa_cons (se_var 1) DL.sa_nil)))))))
      (sss_one (ss_ret (se_callTy call_tuple_of c_tuple T.z_tuple PyProof.Rows.boot_tuple (DL.sa_cons (se_lc (own := [("k", 3), ("cell", 4)]) rfl nd (si_en1 T.z_enumerate (DL.sa_cons (se_var 2) DL.sa_nil)) (blkOk_by (by kernel_rfl)) (fun _ _ _ _ _ => (sc_tup (n := 2) rfl (scs_cons (sc_name 3 nd) (scs_cons (sc_name 4 nd) scs_nil)))) (fun _ _ _ _ _ => sp_nil) (fun _ _ _ _ _ => (se_tup (DL.sa_cons (se_var 4) (DL.sa_cons (se_if (st_cmp (op_eqD hu) o_eq (se_var 3) se_int (nomark _)) se_int (se_call (ok__law_pick T) (hr.mono (by decide)) hgd T.g__law_pick T.F__law_pick.kp T.b__law_pick (DL.sa_cons (se_var 0) (DL.sa_cons se_int DL.sa_nil)))) sa_nil))))) sa_nil)))))
theorem ok_offsets_for (T : Tx K mg) : FnG P w K mg base 5 T.a_offsets_for T.d_offsets_for ["m", "wishes", "L"] (toSp K (spOf vf_offsets_for)) := by
  refine okD T.F_offsets_for sc_offsets_for (len_of2 vo_offsets_for) fun cdv A outer s H hr hgd => ⟨f_offsets_for, ?_, (body_of2 (N := ["m", "wishes", "L", "ways", "offsets", "crossing", "w", "wish"]) vs_offsets_for vo_offsets_for)⟩
  have nd := sc_offsets_for.nd
  have hu3 := hu_of hr
  have hu := hr.units
  have hu2 := units65 hr
  exact (sss_cons (DL.ss_set 3 nd (se_call (ok_all_ways T) (hr.mono (by decide)) hgd T.g_all_ways T.F_all_ways.kp T.b_all_ways (DL.sa_cons (se_var 0) (DL.sa_cons (se_var 1) DL.sa_nil))))
      (sss_cons (DL.ss_set 4 nd (se_callTy call_tuple_of c_tuple T.z_tuple PyProof.Rows.boot_tuple (DL.sa_cons (se_lc (own := [("crossing", 5)]) rfl nd (si_rng1 rfl T.z_range (DL.sa_cons (se_var 0) DL.sa_nil)) (blkOk_by (by kernel_rfl)) (fun _ _ _ _ _ => (sc_name 5 nd)) (fun _ _ _ _ _ => sp_nil) (fun _ _ _ _ _ => (se_op op_mod o_II (se_call (ok_sum_of T) (hr.mono (by decide)) hgd T.g_sum_of T.F_sum_of.kp T.b_sum_of (DL.sa_cons (se_var 1) (DL.sa_cons (se_sub hu3 (se_var 3) (se_var 5)) DL.sa_nil))) (se_var 2)))) sa_nil)))
      (sss_cons (DL.ss_for PassesOwn.never rfl (si_en1 T.z_enumerate (DL.sa_cons (se_var 1) DL.sa_nil)) (sg_tup (n := 2) rfl (sgs_cons (sg_name 6 nd) (sgs_cons (sg_name 7 nd) sgs_nil))) (sss_one (DL.ss_if (st_not (st_val (se_call (ok_is_kept T) (hr.mono (by decide)) hgd T.g_is_kept T.F_is_kept.kp T.b_is_kept (DL.sa_cons (se_var 7) (DL.sa_cons (se_var 2) (DL.sa_cons (se_var 4) DL.sa_nil)))))) (sss_one (ss_ret (se_tup (DL.sa_cons se_str (DL.sa_cons (se_call (ok_ring_of T) (hr.mono (by decide)) hgd T.g_ring_of T.F_ring_of.kp T.b_ring_of (DL.sa_cons (se_var 6) (DL.sa_cons (se_sub hu3 (se_var 3) (se_sub hu3 (se_var 7) se_int)) (DL.sa_cons (se_sub hu3 (se_var 3) (se_sub hu3 (se_var 7) se_int)) DL.sa_nil)))) sa_nil))))) sss_nil)))
      (sss_one (ss_ret (se_tup (DL.sa_cons se_str (DL.sa_cons (se_var 4) DL.sa_nil))))))))
theorem ok_law (T : Tx K mg) : FnG P w K mg base 6 T.a_law T.d_law ["script"] (toSp K sp_law) := by
  refine okD T.F_law sc_law len_law fun cdv A outer s H hr hgd => ⟨f_law, ?_, body_law⟩
  have nd := sc_law.nd
  have hu3 := hu_of hr
  have hu := hr.units
  have hu2 := units65 hr
  exact (sss_cons (DL.ss_set 1 nd (se_call (ok__law_open_cells T) (hr.mono (by decide)) hgd T.g__law_open_cells T.F__law_open_cells.kp T.b__law_open_cells (DL.sa_cons (se_var 0) DL.sa_nil)))
      (sss_cons (DL.ss_for PassesOwn.never rfl (si_rng1 rfl T.z_range (DL.sa_cons se_int DL.sa_nil)) (sg_name 2 nd) (sss_cons (ss_asg (se_tup (DL.sa_cons (se_op (((op_add.or op_catA).or op_cat).or op_add_str) o_add se_int (se_call (ok__law_pick T) (hr.mono (by decide)) hgd T.g__law_pick T.F__law_pick.kp T.b__law_pick (DL.sa_cons (se_var 1) (DL.sa_cons se_int DL.sa_nil)))) (DL.sa_cons (se_op (((op_add.or op_catA).or op_cat).or op_add_str) o_add se_int (se_call (ok__law_pick T) (hr.mono (by decide)) hgd T.g__law_pick T.F__law_pick.kp T.b__law_pick (DL.sa_cons (se_var 1) (DL.sa_cons se_int DL.sa_nil)))) DL.sa_nil))) (sg_tup (n := 2) rfl (sgs_cons (sg_name 3 nd) (sgs_cons (sg_name 4 nd) sgs_nil))))
      (sss_cons (DL.ss_set 5 nd (se_call (ok__law_draw_line T) (hr.mono (by decide)) hgd T.g__law_draw_line T.F__law_draw_line.kp T.b__law_draw_line (DL.sa_cons (se_var 1) (DL.sa_cons (se_var 3) DL.sa_nil))))
      (sss_cons (DL.ss_set 6 nd (se_call (ok__law_draw_greens T) (hr.mono (by decide)) hgd T.g__law_draw_greens T.F__law_draw_greens.kp T.b__law_draw_greens (DL.sa_cons (se_var 1) (DL.sa_cons (se_callB call_len_seq c_len T.z_len PySem.boot_len (DL.sa_cons (se_var 5) DL.sa_nil)) (DL.sa_cons (se_var 4) sa_nil)))))
      (sss_cons (DL.ss_par 7 8 rfl nd (DL.sa_cons (se_callB (cr_min rfl) c_min T.z_min PyProof.Rows.boot_min (DL.sa_cons (se_lc (own := [("green", 9)]) rfl nd (si_seq (se_var 6)) (blkOk_by (by kernel_rfl)) (fun _ _ _ _ _ => (sc_name 9 nd)) (fun _ _ _ _ _ => sp_nil) (fun _ _ _ _ _ => (se_sub hu3 (se_var 9) se_int))) DL.sa_nil)) (DL.sa_cons (se_call (ok__law_line_ticks T) (hr.mono (by decide)) hgd T.g__law_line_ticks T.F__law_line_ticks.kp T.b__law_line_ticks (DL.sa_cons (se_var 5) (DL.sa_cons se_int DL.sa_nil))) DL.sa_nil)))
      (sss_cons (DL.ss_set 10 nd (se_call (ok_offsets_of_line T) (hr.mono (by decide)) hgd T.g_offsets_of_line T.F_offsets_of_line.kp T.b_offsets_of_line (DL.sa_cons (se_var 3) (DL.sa_cons (se_var 5) (DL.sa_cons (se_var 6) (DL.sa_cons (se_var 4) DL.sa_nil))))))
      (sss_cons (DL.ss_if (PW.pt (sw_or (st_cmp (op_neD hu) o_ne (se_call (ok_band_bound T) (hr.mono (by decide)) hgd T.g_band_bound T.F_band_bound.kp T.b_band_bound (DL.sa_cons (se_var 6) DL.sa_nil)) (se_var 7) (nomark _)) (sw_or1 (st_cmp (op_neD hu) o_ne (se_call (ok_arrivals T) (hr.mono (by decide)) hgd T.g_arrivals T.F_arrivals.kp T.b_arrivals (DL.sa_cons (se_var 5) (DL.sa_cons se_int DL.sa_nil))) (se_callTy call_tuple_of c_tuple T.z_tuple PyProof.Rows.boot_tuple (DL.sa_cons (se_var 8) DL.sa_nil)) (nomark _))))) (sss_one (ss_ret se_bl)) sss_nil)
      (sss_cons (DL.ss_if (st_cmp (op_neD hu) o_ne (se_call (ok_band T) (hr.mono (by decide)) hgd T.g_band T.F_band.kp T.b_band (DL.sa_cons (se_var 5) (DL.sa_cons (se_var 6) (DL.sa_cons (se_var 4) (DL.sa_cons (se_var 10) DL.sa_nil))))) (se_call (ok__law_band T) (hr.mono (by decide)) hgd T.g__law_band T.F__law_band.kp T.b__law_band (DL.sa_cons (se_var 5) (DL.sa_cons (se_var 6) (DL.sa_cons (se_var 4) (DL.sa_cons (se_var 10) DL.sa_nil))))) (nomark _)) (sss_one (ss_ret se_bl)) sss_nil)
      (sss_cons (DL.ss_if (st_cmp (op_neD hu) o_ne (se_callB call_len_seq c_len T.z_len PySem.boot_len (DL.sa_cons (se_call (ok__law_band T) (hr.mono (by decide)) hgd T.g__law_band T.F__law_band.kp T.b__law_band (DL.sa_cons (se_var 5) (DL.sa_cons (se_var 6) (DL.sa_cons (se_var 4) (DL.sa_cons (se_var 10) DL.sa_nil))))) sa_nil)) (se_var 7) (nomark _)) (sss_one (ss_ret se_bl)) sss_nil)
      (sss_cons (DL.ss_set 11 nd (se_lst DL.sa_nil))
      (sss_cons (DL.ss_for PassesOwn.never rfl (si_rng2 rfl T.z_range (DL.sa_cons se_int (DL.sa_cons (se_callB call_len_seq c_len T.z_len PySem.boot_len (DL.sa_cons (se_var 5) DL.sa_nil)) sa_nil))) (sg_name 12 nd) (sss_cons (DL.ss_par 13 14 rfl nd (DL.sa_cons (se_sub hu3 (se_sub hu3 (se_var 5) (se_op op_sub o_II0 (se_var 12) se_int)) se_int) (DL.sa_cons (se_sub hu3 (se_sub hu3 (se_var 5) (se_var 12)) se_int) DL.sa_nil)))
      (sss_cons (ss_expr (se_m PySem.F.plainAttrs_list PySem.F.slot_list_append PySem.F.type_list_append mt_append ty_list m_append (se_var 11) (DL.sa_cons (se_call (ok_wish_of T) (hr.mono (by decide)) hgd T.g_wish_of T.F_wish_of.kp T.b_wish_of (DL.sa_cons (se_var 13) (DL.sa_cons (se_sub hu3 (se_sub hu3 (se_var 6) (se_op op_sub o_II0 (se_var 12) se_int)) se_int) (DL.sa_cons (se_var 14) (DL.sa_cons (se_sub hu3 (se_sub hu3 (se_var 6) (se_var 12)) se_int) (DL.sa_cons (se_sub hu3 (se_sub hu3 (se_var 5) (se_var 12)) se_int) DL.sa_nil)))))) DL.sa_nil)))
      (sss_one (DL.ss_if (st_cmp (op_neD hu) o_ne (se_sub hu3 (se_var 11) (se_neg se_int)) (se_tup (DL.sa_cons (se_var 13) (DL.sa_cons (se_var 14) (DL.sa_cons (se_op op_sub o_II0 (se_op (((op_add.or op_catA).or op_cat).or op_add_str) o_add (se_sub hu3 (se_sub hu3 (se_var 6) (se_op op_sub o_II0 (se_var 12) se_int)) se_int) (se_sub hu3 (se_sub hu3 (se_var 5) (se_var 12)) se_int)) (se_sub hu3 (se_sub hu3 (se_var 6) (se_var 12)) se_int)) DL.sa_nil)))) (nomark _)) (sss_one (ss_ret se_bl)) sss_nil)))))
      (sss_cons (ss_asg (se_call (ok_offsets_for T) (hr.mono (by decide)) hgd T.g_offsets_for T.F_offsets_for.kp T.b_offsets_for (DL.sa_cons (se_var 3) (DL.sa_cons (se_callTy call_tuple_of c_tuple T.z_tuple PyProof.Rows.boot_tuple (DL.sa_cons (se_var 11) DL.sa_nil)) (DL.sa_cons (se_var 4) sa_nil)))) (sg_tup (n := 2) rfl (sgs_cons (sg_name 15 nd) (sgs_cons (sg_name 16 nd) sgs_nil))))
      (sss_cons (DL.ss_if (PW.pt (sw_or (st_cmp (op_neD hu) o_ne (se_var 15) se_str (nomark _)) (sw_or1 (st_cmp (op_neD hu) o_ne (se_call (ok_kept T) (hr.mono (by decide)) hgd T.g_kept T.F_kept.kp T.b_kept (DL.sa_cons (se_callTy call_tuple_of c_tuple T.z_tuple PyProof.Rows.boot_tuple (DL.sa_cons (se_var 11) DL.sa_nil)) (DL.sa_cons (se_var 4) (DL.sa_cons (se_var 10) sa_nil)))) (se_tupR1 rfl T.z_tuple T.z_range (se_callB call_len_seq c_len T.z_len PySem.boot_len (DL.sa_cons (se_var 11) DL.sa_nil))) (nomark _))))) (sss_one (ss_ret se_bl)) sss_nil)
      (sss_cons (DL.ss_if (PW.pt (sw_or (st_cmp (op_neD hu) o_ne (se_callB call_len_seq c_len T.z_len PySem.boot_len (DL.sa_cons (se_call (ok_band T) (hr.mono (by decide)) hgd T.g_band T.F_band.kp T.b_band (DL.sa_cons (se_var 5) (DL.sa_cons (se_var 6) (DL.sa_cons (se_var 4) (DL.sa_cons (se_var 16) DL.sa_nil))))) sa_nil)) (se_var 7) (nomark _)) (sw_or1 (st_cmp (op_neD hu) o_ne (se_callB call_len_seq c_len T.z_len PySem.boot_len (DL.sa_cons (se_call (ok__law_band T) (hr.mono (by decide)) hgd T.g__law_band T.F__law_band.kp T.b__law_band (DL.sa_cons (se_var 5) (DL.sa_cons (se_var 6) (DL.sa_cons (se_var 4) (DL.sa_cons (se_var 16) DL.sa_nil))))) sa_nil)) (se_var 7) (nomark _))))) (sss_one (ss_ret se_bl)) sss_nil)
      (sss_cons (DL.ss_set 17 nd (se_op op_sub o_II0 (se_call (ok__law_pick T) (hr.mono (by decide)) hgd T.g__law_pick T.F__law_pick.kp T.b__law_pick (DL.sa_cons (se_var 1) (DL.sa_cons se_int DL.sa_nil))) se_int))
      (sss_cons (DL.ss_set 18 nd (se_call (ok_band T) (hr.mono (by decide)) hgd T.g_band T.F_band.kp T.b_band (DL.sa_cons (se_var 5) (DL.sa_cons (se_var 6) (DL.sa_cons (se_var 4) (DL.sa_cons (se_call (ok_turned_offsets T) (hr.mono (by decide)) hgd T.g_turned_offsets T.F_turned_offsets.kp T.b_turned_offsets (DL.sa_cons (se_var 10) (DL.sa_cons (se_var 4) (DL.sa_cons (se_var 17) DL.sa_nil)))) sa_nil))))))
      (sss_cons (DL.ss_if (st_cmp (op_neD hu) o_ne (se_var 18) (se_callTy call_tuple_of c_tuple T.z_tuple PyProof.Rows.boot_tuple (DL.sa_cons (se_callB (cr_sortB hu2) c_sortG T.z_sorted PyProof.Rows.boot_sorted (DL.sa_cons (se_lc (own := [("start", 19)]) rfl nd (si_seq (se_call (ok__law_band T) (hr.mono (by decide)) hgd T.g__law_band T.F__law_band.kp T.b__law_band (DL.sa_cons (se_var 5) (DL.sa_cons (se_var 6) (DL.sa_cons (se_var 4) (DL.sa_cons (se_var 10) DL.sa_nil)))))) (blkOk_by (by kernel_rfl)) (fun _ _ _ _ _ => (sc_name 19 nd)) (fun _ _ _ _ _ => sp_nil) (fun _ _ _ _ _ => (se_call (ok__law_rest T) (hr.mono (by decide)) hgd T.g__law_rest T.F__law_rest.kp T.b__law_rest (DL.sa_cons (se_op (((op_add.or op_catA).or op_cat).or op_add_str) o_add (se_var 19) (se_var 17)) (DL.sa_cons (se_var 4) DL.sa_nil))))) sa_nil)) sa_nil)) (nomark _)) (sss_one (ss_ret se_bl)) sss_nil)
      (sss_one (DL.ss_for PassesOwn.never rfl (si_rng1 rfl T.z_range (DL.sa_cons se_int DL.sa_nil)) (sg_name 20 nd) (sss_cons (DL.ss_set 21 nd (se_callTy call_tuple_of c_tuple T.z_tuple PyProof.Rows.boot_tuple (DL.sa_cons (se_lc (own := [("c", 22)]) rfl nd (si_rng1 rfl T.z_range (DL.sa_cons (se_var 3) DL.sa_nil)) (blkOk_by (by kernel_rfl)) (fun _ _ _ _ _ => (sc_name 22 nd)) (fun _ _ _ _ _ => sp_nil) (fun _ _ _ _ _ => (se_call (ok__law_pick T) (hr.mono (by decide)) hgd T.g__law_pick T.F__law_pick.kp T.b__law_pick (DL.sa_cons (se_var 1) (DL.sa_cons (se_var 4) DL.sa_nil))))) sa_nil)))
      (sss_cons (DL.ss_set 23 nd (se_call (ok__law_band T) (hr.mono (by decide)) hgd T.g__law_band T.F__law_band.kp T.b__law_band (DL.sa_cons (se_var 5) (DL.sa_cons (se_var 6) (DL.sa_cons (se_var 4) (DL.sa_cons (se_var 21) DL.sa_nil))))))
      (sss_cons (DL.ss_if (PW.pt (sw_or (st_cmp (op_neD hu) o_ne (se_call (ok_band T) (hr.mono (by decide)) hgd T.g_band T.F_band.kp T.b_band (DL.sa_cons (se_var 5) (DL.sa_cons (se_var 6) (DL.sa_cons (se_var 4) (DL.sa_cons (se_var 21) DL.sa_nil))))) (se_var 23) (nomark _)) (sw_or1 (st_cmp op_gt o_IB (se_callB call_len_seq c_len T.z_len PySem.boot_len (DL.sa_cons (se_var 23) DL.sa_nil)) (se_var 7) (nomark _))))) (sss_one (ss_ret se_bl)) sss_nil)
      (sss_cons (DL.ss_set 19 nd (se_call (ok__law_pick T) (hr.mono (by decide)) hgd T.g__law_pick T.F__law_pick.kp T.b__law_pick (DL.sa_cons (se_var 1) (DL.sa_cons (se_op ((op_mul.or op_mulW).or op_rep) o_mul se_int (se_var 4)) DL.sa_nil))))
      (sss_one (DL.ss_if (st_cmp (op_neD hu) o_ne (se_callB (call_reprD hgd hu2) c_repr T.z_repr PyProof.Rows.boot_repr (DL.sa_cons (se_call (ok_passes T) (hr.mono (by decide)) hgd T.g_passes T.F_passes.kp T.b_passes (DL.sa_cons (se_var 5) (DL.sa_cons (se_var 6) (DL.sa_cons (se_var 4) (DL.sa_cons (se_var 21) (DL.sa_cons (se_var 19) DL.sa_nil)))))) sa_nil)) (se_callB (call_reprD hgd hu2) c_repr T.z_repr PyProof.Rows.boot_repr (DL.sa_cons (se_cmp ((op_inAny hu2).or (op_inDk hu3)) o_inA (se_call (ok__law_rest T) (hr.mono (by decide)) hgd T.g__law_rest T.F__law_rest.kp T.b__law_rest (DL.sa_cons (se_var 19) (DL.sa_cons (se_var 4) DL.sa_nil))) (se_var 23) (by rfl)) sa_nil)) (nomark _)) (sss_one (ss_ret se_bl)) sss_nil)))))))))))))))))))))))))
      (sss_one (ss_ret se_bl))))
end
end K43
namespace K43
open PySem PySem.Spec PyProof.Rows L2 DL VL A30 KB

theorem allT {l : PySem.W.OpenLaw} {w : World} {K : PySem.W.Frag} {h : Heap} {mg : Str → Option Value} {fa : Addr} (X : K.In h) (G : h.Ns mainGlobals mg) (hfa : mg "law" = some (.ref fa))
    {f0 : Addr} {od0 an0 : Option Addr} {sl0 : Array (Option Value)} {oc0 kV0 dc0 pm0 cd0 ct0 : Value}
    (a0 : PySem.W.nsIn K mainGlobals "wish_of" = some (some (.ref f0))) (l0 : K.lookup f0 = some ⟨oc0, od0, .func (PySem.W.fnOf "wish_of" "wish_of" (defArgs s_wish_of) (defBody s_wish_of) (defScope s_wish_of) .none kV0 dc0 pm0 an0 cd0 ct0), sl0⟩) (c0 : PySem.W.codeIn K cd0 "wish_of" = true) (k0 : PySem.W.keepIn K (.ref f0) = true)
    {f1 : Addr} {od1 an1 : Option Addr} {sl1 : Array (Option Value)} {oc1 kV1 dc1 pm1 cd1 ct1 : Value}
    (a1 : PySem.W.nsIn K mainGlobals "is_kept" = some (some (.ref f1))) (l1 : K.lookup f1 = some ⟨oc1, od1, .func (PySem.W.fnOf "is_kept" "is_kept" (defArgs s_is_kept) (defBody s_is_kept) (defScope s_is_kept) .none kV1 dc1 pm1 an1 cd1 ct1), sl1⟩) (c1 : PySem.W.codeIn K cd1 "is_kept" = true) (k1 : PySem.W.keepIn K (.ref f1) = true)
    {f2 : Addr} {od2 an2 : Option Addr} {sl2 : Array (Option Value)} {oc2 kV2 dc2 pm2 cd2 ct2 : Value}
    (a2 : PySem.W.nsIn K mainGlobals "kept" = some (some (.ref f2))) (l2 : K.lookup f2 = some ⟨oc2, od2, .func (PySem.W.fnOf "kept" "kept" (defArgs s_kept) (defBody s_kept) (defScope s_kept) .none kV2 dc2 pm2 an2 cd2 ct2), sl2⟩) (c2 : PySem.W.codeIn K cd2 "kept" = true) (k2 : PySem.W.keepIn K (.ref f2) = true)
    {f3 : Addr} {od3 an3 : Option Addr} {sl3 : Array (Option Value)} {oc3 kV3 dc3 pm3 cd3 ct3 : Value}
    (a3 : PySem.W.nsIn K mainGlobals "begin_of" = some (some (.ref f3))) (l3 : K.lookup f3 = some ⟨oc3, od3, .func (PySem.W.fnOf "begin_of" "begin_of" (defArgs s_begin_of) (defBody s_begin_of) (defScope s_begin_of) .none kV3 dc3 pm3 an3 cd3 ct3), sl3⟩) (c3 : PySem.W.codeIn K cd3 "begin_of" = true) (k3 : PySem.W.keepIn K (.ref f3) = true)
    {f4 : Addr} {od4 an4 : Option Addr} {sl4 : Array (Option Value)} {oc4 kV4 dc4 pm4 cd4 ct4 : Value}
    (a4 : PySem.W.nsIn K mainGlobals "end_of" = some (some (.ref f4))) (l4 : K.lookup f4 = some ⟨oc4, od4, .func (PySem.W.fnOf "end_of" "end_of" (defArgs s_end_of) (defBody s_end_of) (defScope s_end_of) .none kV4 dc4 pm4 an4 cd4 ct4), sl4⟩) (c4 : PySem.W.codeIn K cd4 "end_of" = true) (k4 : PySem.W.keepIn K (.ref f4) = true)
    {f5 : Addr} {od5 an5 : Option Addr} {sl5 : Array (Option Value)} {oc5 kV5 dc5 pm5 cd5 ct5 : Value}
    (a5 : PySem.W.nsIn K mainGlobals "sum_of" = some (some (.ref f5))) (l5 : K.lookup f5 = some ⟨oc5, od5, .func (PySem.W.fnOf "sum_of" "sum_of" (defArgs s_sum_of) (defBody s_sum_of) (defScope s_sum_of) .none kV5 dc5 pm5 an5 cd5 ct5), sl5⟩) (c5 : PySem.W.codeIn K cd5 "sum_of" = true) (k5 : PySem.W.keepIn K (.ref f5) = true)
    {f6 : Addr} {od6 an6 : Option Addr} {sl6 : Array (Option Value)} {oc6 kV6 dc6 pm6 cd6 ct6 : Value}
    (a6 : PySem.W.nsIn K mainGlobals "ways_from" = some (some (.ref f6))) (l6 : K.lookup f6 = some ⟨oc6, od6, .func (PySem.W.fnOf "ways_from" "ways_from" (defArgs s_ways_from) (defBody s_ways_from) (defScope s_ways_from) .none kV6 dc6 pm6 an6 cd6 ct6), sl6⟩) (c6 : PySem.W.codeIn K cd6 "ways_from" = true) (k6 : PySem.W.keepIn K (.ref f6) = true)
    {f7 : Addr} {od7 an7 : Option Addr} {sl7 : Array (Option Value)} {oc7 kV7 dc7 pm7 cd7 ct7 : Value}
    (a7 : PySem.W.nsIn K mainGlobals "all_ways" = some (some (.ref f7))) (l7 : K.lookup f7 = some ⟨oc7, od7, .func (PySem.W.fnOf "all_ways" "all_ways" (defArgs s_all_ways) (defBody s_all_ways) (defScope s_all_ways) .none kV7 dc7 pm7 an7 cd7 ct7), sl7⟩) (c7 : PySem.W.codeIn K cd7 "all_ways" = true) (k7 : PySem.W.keepIn K (.ref f7) = true)
    {f8 : Addr} {od8 an8 : Option Addr} {sl8 : Array (Option Value)} {oc8 kV8 dc8 pm8 cd8 ct8 : Value}
    (a8 : PySem.W.nsIn K mainGlobals "ring_of" = some (some (.ref f8))) (l8 : K.lookup f8 = some ⟨oc8, od8, .func (PySem.W.fnOf "ring_of" "ring_of" (defArgs s_ring_of) (defBody s_ring_of) (defScope s_ring_of) .none kV8 dc8 pm8 an8 cd8 ct8), sl8⟩) (c8 : PySem.W.codeIn K cd8 "ring_of" = true) (k8 : PySem.W.keepIn K (.ref f8) = true)
    {f9 : Addr} {od9 an9 : Option Addr} {sl9 : Array (Option Value)} {oc9 kV9 dc9 pm9 cd9 ct9 : Value}
    (a9 : PySem.W.nsIn K mainGlobals "offsets_for" = some (some (.ref f9))) (l9 : K.lookup f9 = some ⟨oc9, od9, .func (PySem.W.fnOf "offsets_for" "offsets_for" (defArgs s_offsets_for) (defBody s_offsets_for) (defScope s_offsets_for) .none kV9 dc9 pm9 an9 cd9 ct9), sl9⟩) (c9 : PySem.W.codeIn K cd9 "offsets_for" = true) (k9 : PySem.W.keepIn K (.ref f9) = true)
    {f10 : Addr} {od10 an10 : Option Addr} {sl10 : Array (Option Value)} {oc10 kV10 dc10 pm10 cd10 ct10 : Value}
    (a10 : PySem.W.nsIn K mainGlobals "turned_offsets" = some (some (.ref f10))) (l10 : K.lookup f10 = some ⟨oc10, od10, .func (PySem.W.fnOf "turned_offsets" "turned_offsets" (defArgs s_turned_offsets) (defBody s_turned_offsets) (defScope s_turned_offsets) .none kV10 dc10 pm10 an10 cd10 ct10), sl10⟩) (c10 : PySem.W.codeIn K cd10 "turned_offsets" = true) (k10 : PySem.W.keepIn K (.ref f10) = true)
    {f11 : Addr} {od11 an11 : Option Addr} {sl11 : Array (Option Value)} {oc11 kV11 dc11 pm11 cd11 ct11 : Value}
    (a11 : PySem.W.nsIn K mainGlobals "arrivals" = some (some (.ref f11))) (l11 : K.lookup f11 = some ⟨oc11, od11, .func (PySem.W.fnOf "arrivals" "arrivals" (defArgs s_arrivals) (defBody s_arrivals) (defScope s_arrivals) .none kV11 dc11 pm11 an11 cd11 ct11), sl11⟩) (c11 : PySem.W.codeIn K cd11 "arrivals" = true) (k11 : PySem.W.keepIn K (.ref f11) = true)
    {f12 : Addr} {od12 an12 : Option Addr} {sl12 : Array (Option Value)} {oc12 kV12 dc12 pm12 cd12 ct12 : Value}
    (a12 : PySem.W.nsIn K mainGlobals "passes" = some (some (.ref f12))) (l12 : K.lookup f12 = some ⟨oc12, od12, .func (PySem.W.fnOf "passes" "passes" (defArgs s_passes) (defBody s_passes) (defScope s_passes) .none kV12 dc12 pm12 an12 cd12 ct12), sl12⟩) (c12 : PySem.W.codeIn K cd12 "passes" = true) (k12 : PySem.W.keepIn K (.ref f12) = true)
    {f13 : Addr} {od13 an13 : Option Addr} {sl13 : Array (Option Value)} {oc13 kV13 dc13 pm13 cd13 ct13 : Value}
    (a13 : PySem.W.nsIn K mainGlobals "band" = some (some (.ref f13))) (l13 : K.lookup f13 = some ⟨oc13, od13, .func (PySem.W.fnOf "band" "band" (defArgs s_band) (defBody s_band) (defScope s_band) .none kV13 dc13 pm13 an13 cd13 ct13), sl13⟩) (c13 : PySem.W.codeIn K cd13 "band" = true) (k13 : PySem.W.keepIn K (.ref f13) = true)
    {f14 : Addr} {od14 an14 : Option Addr} {sl14 : Array (Option Value)} {oc14 kV14 dc14 pm14 cd14 ct14 : Value}
    (a14 : PySem.W.nsIn K mainGlobals "band_bound" = some (some (.ref f14))) (l14 : K.lookup f14 = some ⟨oc14, od14, .func (PySem.W.fnOf "band_bound" "band_bound" (defArgs s_band_bound) (defBody s_band_bound) (defScope s_band_bound) .none kV14 dc14 pm14 an14 cd14 ct14), sl14⟩) (c14 : PySem.W.codeIn K cd14 "band_bound" = true) (k14 : PySem.W.keepIn K (.ref f14) = true)
    {f15 : Addr} {od15 an15 : Option Addr} {sl15 : Array (Option Value)} {oc15 kV15 dc15 pm15 cd15 ct15 : Value}
    (a15 : PySem.W.nsIn K mainGlobals "offsets_of_line" = some (some (.ref f15))) (l15 : K.lookup f15 = some ⟨oc15, od15, .func (PySem.W.fnOf "offsets_of_line" "offsets_of_line" (defArgs s_offsets_of_line) (defBody s_offsets_of_line) (defScope s_offsets_of_line) .none kV15 dc15 pm15 an15 cd15 ct15), sl15⟩) (c15 : PySem.W.codeIn K cd15 "offsets_of_line" = true) (k15 : PySem.W.keepIn K (.ref f15) = true)
    {f16 : Addr} {od16 an16 : Option Addr} {sl16 : Array (Option Value)} {oc16 kV16 dc16 pm16 cd16 ct16 : Value}
    (a16 : PySem.W.nsIn K mainGlobals "_law_open_cells" = some (some (.ref f16))) (l16 : K.lookup f16 = some ⟨oc16, od16, .func (PySem.W.fnOf "_law_open_cells" "_law_open_cells" (defArgs s__law_open_cells) (defBody s__law_open_cells) (defScope s__law_open_cells) .none kV16 dc16 pm16 an16 cd16 ct16), sl16⟩) (c16 : PySem.W.codeIn K cd16 "_law_open_cells" = true) (k16 : PySem.W.keepIn K (.ref f16) = true)
    {f17 : Addr} {od17 an17 : Option Addr} {sl17 : Array (Option Value)} {oc17 kV17 dc17 pm17 cd17 ct17 : Value}
    (a17 : PySem.W.nsIn K mainGlobals "_law_pick" = some (some (.ref f17))) (l17 : K.lookup f17 = some ⟨oc17, od17, .func (PySem.W.fnOf "_law_pick" "_law_pick" (defArgs s__law_pick) (defBody s__law_pick) (defScope s__law_pick) .none kV17 dc17 pm17 an17 cd17 ct17), sl17⟩) (c17 : PySem.W.codeIn K cd17 "_law_pick" = true) (k17 : PySem.W.keepIn K (.ref f17) = true)
    {f18 : Addr} {od18 an18 : Option Addr} {sl18 : Array (Option Value)} {oc18 kV18 dc18 pm18 cd18 ct18 : Value}
    (a18 : PySem.W.nsIn K mainGlobals "_law_any_order" = some (some (.ref f18))) (l18 : K.lookup f18 = some ⟨oc18, od18, .func (PySem.W.fnOf "_law_any_order" "_law_any_order" (defArgs s__law_any_order) (defBody s__law_any_order) (defScope s__law_any_order) .none kV18 dc18 pm18 an18 cd18 ct18), sl18⟩) (c18 : PySem.W.codeIn K cd18 "_law_any_order" = true) (k18 : PySem.W.keepIn K (.ref f18) = true)
    {f19 : Addr} {od19 an19 : Option Addr} {sl19 : Array (Option Value)} {oc19 kV19 dc19 pm19 cd19 ct19 : Value}
    (a19 : PySem.W.nsIn K mainGlobals "_law_rest" = some (some (.ref f19))) (l19 : K.lookup f19 = some ⟨oc19, od19, .func (PySem.W.fnOf "_law_rest" "_law_rest" (defArgs s__law_rest) (defBody s__law_rest) (defScope s__law_rest) .none kV19 dc19 pm19 an19 cd19 ct19), sl19⟩) (c19 : PySem.W.codeIn K cd19 "_law_rest" = true) (k19 : PySem.W.keepIn K (.ref f19) = true)
    {f20 : Addr} {od20 an20 : Option Addr} {sl20 : Array (Option Value)} {oc20 kV20 dc20 pm20 cd20 ct20 : Value}
    (a20 : PySem.W.nsIn K mainGlobals "_law_line_ticks" = some (some (.ref f20))) (l20 : K.lookup f20 = some ⟨oc20, od20, .func (PySem.W.fnOf "_law_line_ticks" "_law_line_ticks" (defArgs s__law_line_ticks) (defBody s__law_line_ticks) (defScope s__law_line_ticks) .none kV20 dc20 pm20 an20 cd20 ct20), sl20⟩) (c20 : PySem.W.codeIn K cd20 "_law_line_ticks" = true) (k20 : PySem.W.keepIn K (.ref f20) = true)
    {f21 : Addr} {od21 an21 : Option Addr} {sl21 : Array (Option Value)} {oc21 kV21 dc21 pm21 cd21 ct21 : Value}
    (a21 : PySem.W.nsIn K mainGlobals "_law_band" = some (some (.ref f21))) (l21 : K.lookup f21 = some ⟨oc21, od21, .func (PySem.W.fnOf "_law_band" "_law_band" (defArgs s__law_band) (defBody s__law_band) (defScope s__law_band) .none kV21 dc21 pm21 an21 cd21 ct21), sl21⟩) (c21 : PySem.W.codeIn K cd21 "_law_band" = true) (k21 : PySem.W.keepIn K (.ref f21) = true)
    {f22 : Addr} {od22 an22 : Option Addr} {sl22 : Array (Option Value)} {oc22 kV22 dc22 pm22 cd22 ct22 : Value}
    (a22 : PySem.W.nsIn K mainGlobals "_law_draw_line" = some (some (.ref f22))) (l22 : K.lookup f22 = some ⟨oc22, od22, .func (PySem.W.fnOf "_law_draw_line" "_law_draw_line" (defArgs s__law_draw_line) (defBody s__law_draw_line) (defScope s__law_draw_line) .none kV22 dc22 pm22 an22 cd22 ct22), sl22⟩) (c22 : PySem.W.codeIn K cd22 "_law_draw_line" = true) (k22 : PySem.W.keepIn K (.ref f22) = true)
    {f23 : Addr} {od23 an23 : Option Addr} {sl23 : Array (Option Value)} {oc23 kV23 dc23 pm23 cd23 ct23 : Value}
    (a23 : PySem.W.nsIn K mainGlobals "_law_draw_greens" = some (some (.ref f23))) (l23 : K.lookup f23 = some ⟨oc23, od23, .func (PySem.W.fnOf "_law_draw_greens" "_law_draw_greens" (defArgs s__law_draw_greens) (defBody s__law_draw_greens) (defScope s__law_draw_greens) .none kV23 dc23 pm23 an23 cd23 ct23), sl23⟩) (c23 : PySem.W.codeIn K cd23 "_law_draw_greens" = true) (k23 : PySem.W.keepIn K (.ref f23) = true)
    {f24 : Addr} {od24 an24 : Option Addr} {sl24 : Array (Option Value)} {oc24 kV24 dc24 pm24 cd24 ct24 : Value}
    (a24 : PySem.W.nsIn K mainGlobals "law" = some (some (.ref f24))) (l24 : K.lookup f24 = some ⟨oc24, od24, .func (PySem.W.fnOf "law" "law" (defArgs s_law) (defBody s_law) (defScope s_law) .none kV24 dc24 pm24 an24 cd24 ct24), sl24⟩) (c24 : PySem.W.codeIn K cd24 "law" = true) (k24 : PySem.W.keepIn K (.ref f24) = true)
    (z_abs : PySem.W.nsIn K mainGlobals "abs" = some none)
    (z_all : PySem.W.nsIn K mainGlobals "all" = some none)
    (z_enumerate : PySem.W.nsIn K mainGlobals "enumerate" = some none)
    (z_int : PySem.W.nsIn K mainGlobals "int" = some none)
    (z_len : PySem.W.nsIn K mainGlobals "len" = some none)
    (z_list : PySem.W.nsIn K mainGlobals "list" = some none)
    (z_min : PySem.W.nsIn K mainGlobals "min" = some none)
    (z_range : PySem.W.nsIn K mainGlobals "range" = some none)
    (z_repr : PySem.W.nsIn K mainGlobals "repr" = some none)
    (z_sorted : PySem.W.nsIn K mainGlobals "sorted" = some none)
    (z_sum : PySem.W.nsIn K mainGlobals "sum" = some none)
    (z_tuple : PySem.W.nsIn K mainGlobals "tuple" = some none)
    (z_zip : PySem.W.nsIn K mainGlobals "zip" = some none)
    : ∃ fd : FuncData, (∀ (s : Shared) (v : Value), BindsTo s fd ⟨[v], []⟩ [("script", v)]) ∧ ∀ base : Heap, K.In base → base.Ns mainGlobals mg → FnG l.prog w K mg base 6 fa fd ["script"] (toSp K sp_law) := by
  have e := hfa.symm.trans (PySem.W.mg_of X G a24)
  cases e
  have F0 := fun_mk (st := s_wish_of) l0 c0 k0
  have b0 := F0.binds (ps := ["one", "begin", "other", "late", "time"]) fun _ _ _ _ _ _ us hl => match us, hl with | [_, _, _, _, _], _ => rfl
  have F1 := fun_mk (st := s_is_kept) l1 c1 k1
  have b1 := F1.binds (ps := ["wish", "L", "offsets"]) fun _ _ _ _ _ _ us hl => match us, hl with | [_, _, _], _ => rfl
  have F2 := fun_mk (st := s_kept) l2 c2 k2
  have b2 := F2.binds (ps := ["wishes", "L", "offsets"]) fun _ _ _ _ _ _ us hl => match us, hl with | [_, _, _], _ => rfl
  have F3 := fun_mk (st := s_begin_of) l3 c3 k3
  have b3 := F3.binds (ps := ["wishes", "step"]) fun _ _ _ _ _ _ us hl => match us, hl with | [_, _], _ => rfl
  have F4 := fun_mk (st := s_end_of) l4 c4 k4
  have b4 := F4.binds (ps := ["wishes", "step"]) fun _ _ _ _ _ _ us hl => match us, hl with | [_, _], _ => rfl
  have F5 := fun_mk (st := s_sum_of) l5 c5 k5
  have b5 := F5.binds (ps := ["wishes", "steps"]) fun _ _ _ _ _ _ us hl => match us, hl with | [_, _], _ => rfl
  have F6 := fun_mk (st := s_ways_from) l6 c6 k6
  have b6 := F6.binds (ps := ["wishes", "first"]) fun _ _ _ _ _ _ us hl => match us, hl with | [_, _], _ => rfl
  have F7 := fun_mk (st := s_all_ways) l7 c7 k7
  have b7 := F7.binds (ps := ["m", "wishes"]) fun _ _ _ _ _ _ us hl => match us, hl with | [_, _], _ => rfl
  have F8 := fun_mk (st := s_ring_of) l8 c8 k8
  have b8 := F8.binds (ps := ["w", "there", "back"]) fun _ _ _ _ _ _ us hl => match us, hl with | [_, _, _], _ => rfl
  have F9 := fun_mk (st := s_offsets_for) l9 c9 k9
  have b9 := F9.binds (ps := ["m", "wishes", "L"]) fun _ _ _ _ _ _ us hl => match us, hl with | [_, _, _], _ => rfl
  have F10 := fun_mk (st := s_turned_offsets) l10 c10 k10
  have b10 := F10.binds (ps := ["offsets", "L", "ticks"]) fun _ _ _ _ _ _ us hl => match us, hl with | [_, _, _], _ => rfl
  have F11 := fun_mk (st := s_arrivals) l11 c11 k11
  have b11 := F11.binds (ps := ["line", "start"]) fun _ _ _ _ _ _ us hl => match us, hl with | [_, _], _ => rfl
  have F12 := fun_mk (st := s_passes) l12 c12 k12
  have b12 := F12.binds (ps := ["line", "greens", "L", "offsets", "start"]) fun _ _ _ _ _ _ us hl => match us, hl with | [_, _, _, _, _], _ => rfl
  have F13 := fun_mk (st := s_band) l13 c13 k13
  have b13 := F13.binds (ps := ["line", "greens", "L", "offsets"]) fun _ _ _ _ _ _ us hl => match us, hl with | [_, _, _, _], _ => rfl
  have F14 := fun_mk (st := s_band_bound) l14 c14 k14
  have b14 := F14.binds (ps := ["greens"]) fun _ _ _ _ _ _ us hl => match us, hl with | [_], _ => rfl
  have F15 := fun_mk (st := s_offsets_of_line) l15 c15 k15
  have b15 := F15.binds (ps := ["m", "line", "greens", "L"]) fun _ _ _ _ _ _ us hl => match us, hl with | [_, _, _, _], _ => rfl
  have F16 := fun_mk (st := s__law_open_cells) l16 c16 k16
  have b16 := F16.binds (ps := ["script"]) fun _ _ _ _ _ _ us hl => match us, hl with | [_], _ => rfl
  have F17 := fun_mk (st := s__law_pick) l17 c17 k17
  have b17 := F17.binds (ps := ["source", "most"]) fun _ _ _ _ _ _ us hl => match us, hl with | [_, _], _ => rfl
  have F18 := fun_mk (st := s__law_any_order) l18 c18 k18
  have b18 := F18.binds (ps := ["source", "things"]) fun _ _ _ _ _ _ us hl => match us, hl with | [_, _], _ => rfl
  have F19 := fun_mk (st := s__law_rest) l19 c19 k19
  have b19 := F19.binds (ps := ["number", "L"]) fun _ _ _ _ _ _ us hl => match us, hl with | [_, _], _ => rfl
  have F20 := fun_mk (st := s__law_line_ticks) l20 c20 k20
  have b20 := F20.binds (ps := ["line", "start"]) fun _ _ _ _ _ _ us hl => match us, hl with | [_, _], _ => rfl
  have F21 := fun_mk (st := s__law_band) l21 c21 k21
  have b21 := F21.binds (ps := ["line", "greens", "L", "offsets"]) fun _ _ _ _ _ _ us hl => match us, hl with | [_, _, _, _], _ => rfl
  have F22 := fun_mk (st := s__law_draw_line) l22 c22 k22
  have b22 := F22.binds (ps := ["source", "m"]) fun _ _ _ _ _ _ us hl => match us, hl with | [_, _], _ => rfl
  have F23 := fun_mk (st := s__law_draw_greens) l23 c23 k23
  have b23 := F23.binds (ps := ["source", "many", "L"]) fun _ _ _ _ _ _ us hl => match us, hl with | [_, _, _], _ => rfl
  have F24 := fun_mk (st := s_law) l24 c24 k24
  have b24 := F24.binds (ps := ["script"]) fun _ _ _ _ _ _ us hl => match us, hl with | [_], _ => rfl
  let T : Tx K mg := ⟨f0, _, F0, PySem.W.mg_of X G a0, b0, f1, _, F1, PySem.W.mg_of X G a1, b1, f2, _, F2, PySem.W.mg_of X G a2, b2, f3, _, F3, PySem.W.mg_of X G a3, b3, f4, _, F4, PySem.W.mg_of X G a4, b4, f5, _, F5, PySem.W.mg_of X G a5, b5, f6, _, F6, PySem.W.mg_of X G a6, b6, f7, _, F7, PySem.W.mg_of X G a7, b7, f8, _, F8, PySem.W.mg_of X G a8, b8, f9, _, F9, PySem.W.mg_of X G a9, b9, f10, _, F10, PySem.W.mg_of X G a10, b10, f11, _, F11, PySem.W.mg_of X G a11, b11, f12, _, F12, PySem.W.mg_of X G a12, b12, f13, _, F13, PySem.W.mg_of X G a13, b13, f14, _, F14, PySem.W.mg_of X G a14, b14, f15, _, F15, PySem.W.mg_of X G a15, b15, f16, _, F16, PySem.W.mg_of X G a16, b16, f17, _, F17, PySem.W.mg_of X G a17, b17, f18, _, F18, PySem.W.mg_of X G a18, b18, f19, _, F19, PySem.W.mg_of X G a19, b19, f20, _, F20, PySem.W.mg_of X G a20, b20, f21, _, F21, PySem.W.mg_of X G a21, b21, f22, _, F22, PySem.W.mg_of X G a22, b22, f23, _, F23, PySem.W.mg_of X G a23, b23, fa, _, F24, PySem.W.mg_of X G a24, b24, PySem.W.mg_none_of X G z_abs, PySem.W.mg_none_of X G z_all, PySem.W.mg_none_of X G z_enumerate, PySem.W.mg_none_of X G z_int, PySem.W.mg_none_of X G z_len, PySem.W.mg_none_of X G z_list, PySem.W.mg_none_of X G z_min, PySem.W.mg_none_of X G z_range, PySem.W.mg_none_of X G z_repr, PySem.W.mg_none_of X G z_sorted, PySem.W.mg_none_of X G z_sum, PySem.W.mg_none_of X G z_tuple, PySem.W.mg_none_of X G z_zip⟩
  exact ⟨_, fun s v => .of_eq rfl, fun base _ _ => ok_law (P := l.prog) (w := w) (base := base) T⟩
end K43
open PySem PySem.W PyProof.Rows
set_option maxHeartbeats 0 in
theorem PySem.Challenge.cw_greenheld_k43_whole_green_waves_holds : PySem.Challenge.rw_greenheld_k43_whole_green_waves.Holds := by
  w_on; o_law; k_head; (case hw => w_witness2)
  k_fill
  refine DL.walk_g (l := PySem.Challenge.rw_greenheld_k43_whole_green_waves) (n := 63) (k := 6) (x := "script") (sp := VL.sp_law) rfl (by decide) rfl ⟨rfl, by decide, by decide⟩ (fun w h Y => PySem.W.kIn_of Y) ?F (fun zs hz Q q => ⟨_, zs, rfl, rfl, (by intro ys e; cases e), by omega, q⟩)
  case F =>
    intro w mg fa h KX G hmg
    refine' K43.allT KX G hmg ?a0 ?l0 ?c0 ?k0 ?a1 ?l1 ?c1 ?k1 ?a2 ?l2 ?c2 ?k2 ?a3 ?l3 ?c3 ?k3 ?a4 ?l4 ?c4 ?k4 ?a5 ?l5 ?c5 ?k5 ?a6 ?l6 ?c6 ?k6 ?a7 ?l7 ?c7 ?k7 ?a8 ?l8 ?c8 ?k8 ?a9 ?l9 ?c9 ?k9 ?a10 ?l10 ?c10 ?k10 ?a11 ?l11 ?c11 ?k11 ?a12 ?l12 ?c12 ?k12 ?a13 ?l13 ?c13 ?k13 ?a14 ?l14 ?c14 ?k14 ?a15 ?l15 ?c15 ?k15 ?a16 ?l16 ?c16 ?k16 ?a17 ?l17 ?c17 ?k17 ?a18 ?l18 ?c18 ?k18 ?a19 ?l19 ?c19 ?k19 ?a20 ?l20 ?c20 ?k20 ?a21 ?l21 ?c21 ?k21 ?a22 ?l22 ?c22 ?k22 ?a23 ?l23 ?c23 ?k23 ?a24 ?l24 ?c24 ?k24 ?z_abs ?z_all ?z_enumerate ?z_int ?z_len ?z_list ?z_min ?z_range ?z_repr ?z_sorted ?z_sum ?z_tuple ?z_zip
    (case a0 => k_is); (case l0 => k_is); (case c0 => k_is); (case k0 => k_is)
    (case a1 => k_is); (case l1 => k_is); (case c1 => k_is); (case k1 => k_is)
    (case a2 => k_is); (case l2 => k_is); (case c2 => k_is); (case k2 => k_is)
    (case a3 => k_is); (case l3 => k_is); (case c3 => k_is); (case k3 => k_is)
    (case a4 => k_is); (case l4 => k_is); (case c4 => k_is); (case k4 => k_is)
    (case a5 => k_is); (case l5 => k_is); (case c5 => k_is); (case k5 => k_is)
    (case a6 => k_is); (case l6 => k_is); (case c6 => k_is); (case k6 => k_is)
    (case a7 => k_is); (case l7 => k_is); (case c7 => k_is); (case k7 => k_is)
    (case a8 => k_is); (case l8 => k_is); (case c8 => k_is); (case k8 => k_is)
    (case a9 => k_is); (case l9 => k_is); (case c9 => k_is); (case k9 => k_is)
    (case a10 => k_is); (case l10 => k_is); (case c10 => k_is); (case k10 => k_is)
    (case a11 => k_is); (case l11 => k_is); (case c11 => k_is); (case k11 => k_is)
    (case a12 => k_is); (case l12 => k_is); (case c12 => k_is); (case k12 => k_is)
    (case a13 => k_is); (case l13 => k_is); (case c13 => k_is); (case k13 => k_is)
    (case a14 => k_is); (case l14 => k_is); (case c14 => k_is); (case k14 => k_is)
    (case a15 => k_is); (case l15 => k_is); (case c15 => k_is); (case k15 => k_is)
    (case a16 => k_is); (case l16 => k_is); (case c16 => k_is); (case k16 => k_is)
    (case a17 => k_is); (case l17 => k_is); (case c17 => k_is); (case k17 => k_is)
    (case a18 => k_is); (case l18 => k_is); (case c18 => k_is); (case k18 => k_is)
    (case a19 => k_is); (case l19 => k_is); (case c19 => k_is); (case k19 => k_is)
    (case a20 => k_is); (case l20 => k_is); (case c20 => k_is); (case k20 => k_is)
    (case a21 => k_is); (case l21 => k_is); (case c21 => k_is); (case k21 => k_is)
    (case a22 => k_is); (case l22 => k_is); (case c22 => k_is); (case k22 => k_is)
    (case a23 => k_is); (case l23 => k_is); (case c23 => k_is); (case k23 => k_is)
    (case a24 => k_is); (case l24 => k_is); (case c24 => k_is); (case k24 => k_is)
    (case z_abs => k_is); (case z_all => k_is); (case z_enumerate => k_is); (case z_int => k_is); (case z_len => k_is); (case z_list => k_is); (case z_min => k_is); (case z_range => k_is); (case z_repr => k_is); (case z_sorted => k_is); (case z_sum => k_is); (case z_tuple => k_is); (case z_zip => k_is)
