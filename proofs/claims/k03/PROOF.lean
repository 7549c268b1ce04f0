import PyProof.Rows.All
import Wide.All
import OpenK.AllK
import Wide.FinOn
import HandS.ForMost
import HandS.IsInst
import HandS.TupAny
import HandS.TupMul
import HandS.Wide
import HandS.Zip
import HandS.Deep
import HandS.Flow
import HandS.Walk
import HandS.Small
import KE.GoesEnum
import HandS.NoneIn
import PySem.Challenge.RW_hiddenforks_k03_looks_and_adds
set_option Elab.async false
set_option linter.all false
set_option maxRecDepth 100000
set_option maxHeartbeats 4000000
/-! Data, a memory of what may change, and what a reading does to both. -/
namespace Z
open PySem L2
/-- a value: data (never changed), or a place of the memory -/
inductive SV where
  | d (x : PyData)
  | loc (n : Nat)
/-- what stands at a place -/
inductive MO where
  | lst (xs : List SV)
  | dct (kvs : List (Key × SV))
  | ins (C : Addr) (fs : List (Str × SV))
  | gone
abbrev Mem := List MO
abbrev Gm := List (Option SV)
inductive DR (K : PySem.W.Frag) (H : Hp) : PyData → V → Prop
  | non : DR K H .none .non
  | bl (b : Bool) : DR K H (.bool b) (.bl b)
  | int (i : Int) : DR K H (.int i) (.int i)
  | str (x : Str) : DR K H (.str x) (.str x)
  | lst {a : Addr} {xs : List V} {ds : List PyData} : Rd H a (.lst xs) → Paired (DR K H) ds xs → DR K H (.list ds) (.ref a)
  | tup {a : Addr} {xs : List V} {ds : List PyData} : SqT K H a xs → Paired (DR K H) ds xs → DR K H (.tuple ds) (.ref a)
  /-- the script: a list of ints that is only read -/
  | ro {a : Addr} (ns : List Int) : SqL K H a (ns.map V.int) → DR K H (.dict (ns.map fun n => (.none, .int n))) (.ref a)
theorem same_rd {H H' : Hp} {a : Addr} {u : HO} (e : Same H H') (h : Rd H a u) : Rd H' a u := by
  rcases h with h | ⟨o, h⟩
  · exact .inl (e _ _ h)
  · exact .inr ⟨o, e _ _ h⟩
theorem same_t {K : PySem.W.Frag} {H H' : Hp} {a : Addr} {xs : List V} (e : Same H H') (h : SqT K H a xs) : SqT K H' a xs := by
  rcases h with h | h
  · exact .inl (same_rd e h)
  · exact .inr h
mutual
theorem DR.mono {K : PySem.W.Frag} {H H' : Hp} (e : Same H H') : ∀ (x : PyData) (v : V), DR K H x v → DR K H' x v
  | .none, _, h => by cases h; exact .non
  | .bool b, _, h => by cases h; exact .bl _
  | .int b, _, h => by cases h; exact .int _
  | .str b, _, h => by cases h; exact .str _
  | .list ds, _, h => by cases h with | lst r p => exact .lst (same_rd e r) (DR.monos e ds _ p)
  | .tuple ds, _, h => by cases h with | tup r p => exact .tup (same_t e r) (DR.monos e ds _ p)
  | .dict _, _, h => by cases h with | ro ns r => exact .ro ns (e.seq r)
theorem DR.monos {K : PySem.W.Frag} {H H' : Hp} (e : Same H H') : ∀ (xs : List PyData) (vs : List V), Paired (DR K H) xs vs → Paired (DR K H') xs vs
  | [], _, h => by cases h; exact .nil
  | x :: xs, _, h => by cases h with | cons p q => exact .cons (DR.mono e x _ p) (DR.monos e xs _ q)
end
mutual
theorem DR.dp {K : PySem.W.Frag} {H : Hp} : ∀ (x : PyData) (v : V), x.canLay0 = true → DR K H x v → Dp K H v x
  | .none, _, _, h => by cases h; exact .non
  | .bool b, _, _, h => by cases h; exact .bl _
  | .int b, _, _, h => by cases h; exact .int _
  | .str b, _, _, h => by cases h; exact .str _
  | .list ds, _, c, h => by cases h with | lst r p => exact .lst (.inl r) (DR.dps ds _ (by simpa only [PyData.canLay0] using c) p)
  | .tuple ds, _, c, h => by cases h with | tup r p => exact .tup r (DR.dps ds _ (by simpa only [PyData.canLay0] using c) p)
  | .dict _, _, c, _ => by simp [PyData.canLay0] at c
theorem DR.dps {K : PySem.W.Frag} {H : Hp} : ∀ (xs : List PyData) (vs : List V), PyData.canLayAll0 xs = true → Paired (DR K H) xs vs → DpAll K H vs xs
  | [], _, _, h => by cases h; exact .nil
  | x :: xs, _, c, h => by
    simp only [PyData.canLayAll0, Bool.and_eq_true] at c
    cases h with | cons p q => exact .cons (DR.dp x _ c.1 p) (DR.dps xs _ c.2 q)
end
section
variable (K : PySem.W.Frag)
def VR (as : List Addr) (B : Hp) : SV → V → Prop
  | .d x, v => DR K B x v
  | .loc n, v => ∃ a, as[n]? = some a ∧ v = .ref a
def KR {κ : Type} (as : List Addr) (B : Hp) (p : κ × SV) (q : κ × V) : Prop := p.1 = q.1 ∧ VR K as B p.2 q.2
def MR (as : List Addr) (B H : Hp) (a : Addr) : MO → Prop
  | .lst xs => ∃ vs, H a = some (.lst vs) ∧ Paired (VR K as B) xs vs
  | .dct kvs => ∃ us, H a = some (.dK us) ∧ Paired (KR K as B) kvs us
  | .ins C fs => ∃ dx us, H a = some (.ins C dx us) ∧ Paired (KR K as B) fs us
  | .gone => True
structure Rel (as : List Addr) (B : Hp) (M : Mem) (H : Hp) : Prop where
  len : as.length = M.length
  nd : as.Nodup
  ex : Same B H
  sep : ∀ (n : Nat) (a : Addr) (mo : MO), as[n]? = some a → M[n]? = some mo → mo ≠ MO.gone → B a = none
  obj : ∀ (n : Nat) (a : Addr) (mo : MO), as[n]? = some a → M[n]? = some mo → MR K as B H a mo
  all : ∀ a, a ∈ as → H a ≠ none
def GR (as : List Addr) (B : Hp) : Gm → L2.St → Prop := Paired fun o p => ∀ s, o = some s → ∃ v, p = some v ∧ VR K as B s v
end
structure Lat (as : List Addr) (B H : Hp) (as' : List Addr) (B' H' : Hp) : Prop where
  pre : as <+: as'
  ex : Same B B'
  fr : ∀ a o, H a = some o → a ∉ as → H' a = some o
  new : ∀ a, a ∈ as' → a ∉ as → H a = none
  nb : ∀ a, B' a ≠ none → B a ≠ none ∨ H a = none ∨ a ∈ as
section
variable {K : PySem.W.Frag} {as as1 as2 : List Addr} {B B1 B2 H H1 H2 : Hp} {M M1 M2 : Mem}
theorem Lat.refl (as : List Addr) (B H : Hp) : Lat as B H as B H := ⟨List.prefix_refl _, Same.refl _, fun _ _ h _ => h, fun _ h n => absurd h n, fun _ h => .inl h⟩
theorem Lat.trans (x : Lat as B H as1 B1 H1) (y : Lat as1 B1 H1 as2 B2 H2) : Lat as B H as2 B2 H2 where
  pre := x.pre.trans y.pre
  ex := x.ex.trans y.ex
  fr := fun a o h n => y.fr a o (x.fr a o h n) fun m => by
    have := x.new a m n
    rw [h] at this
    cases this
  new := fun a m n => by
    by_cases k : a ∈ as1
    · exact x.new a k n
    · have h1 := y.new a m k
      cases q : H a with
      | none => rfl
      | some o =>
        rw [x.fr a o q n] at h1
        cases h1
  nb := fun a h => by
    rcases y.nb a h with k | k | k
    · exact x.nb a k
    · cases q : H a with
      | none => exact .inr (.inl rfl)
      | some o =>
        by_cases m : a ∈ as
        · exact .inr (.inr m)
        · rw [x.fr a o q m] at k
          cases k
    · by_cases m : a ∈ as
      · exact .inr (.inr m)
      · exact .inr (.inl (x.new a k m))
theorem VR.mono {s : SV} {v : V} (x : Lat as B H as1 B1 H1) (h : VR K as B s v) : VR K as1 B1 s v := by
  cases s with
  | d y => exact DR.mono x.ex _ _ h
  | loc n =>
    obtain ⟨a, e, rfl⟩ := h
    obtain ⟨t, rfl⟩ := x.pre
    exact ⟨a, by rw [List.getElem?_append_left ((List.getElem?_eq_some_iff.mp e).1)]; exact e, rfl⟩
theorem VR.monos {s : List SV} {v : List V} (x : Lat as B H as1 B1 H1) (h : Paired (VR K as B) s v) : Paired (VR K as1 B1) s v := L2.Paired.mapP h fun _ _ k => k.mono x
theorem KR.monos {κ : Type} {s : List (κ × SV)} {v : List (κ × V)} (x : Lat as B H as1 B1 H1) (h : Paired (KR K as B) s v) : Paired (KR K as1 B1) s v := L2.Paired.mapP h fun _ _ k => ⟨k.1, k.2.mono x⟩
theorem GR.mono {Γ : Gm} {σ : L2.St} (x : Lat as B H as1 B1 H1) (h : GR K as B Γ σ) : GR K as1 B1 Γ σ := L2.Paired.mapP h fun _ _ k s e => by
  obtain ⟨v, e1, r⟩ := k s e
  exact ⟨v, e1, r.mono x⟩
theorem Paired.at {α β : Type} {F : α → β → Prop} : ∀ {xs : List α} {ys : List β} {i : Nat} {x : α}, Paired F xs ys → xs[i]? = some x → ∃ y, ys[i]? = some y ∧ F x y
  | _, _, _, _, .nil, e => by simp at e
  | _, _, 0, _, .cons r _, e => by simp at e; subst e; exact ⟨_, rfl, r⟩
  | _, _, i + 1, x, .cons _ t, e => by
    obtain ⟨u, h1, h2⟩ := Paired.at (i := i) (x := x) t (by simpa using e)
    exact ⟨u, by simpa using h1, h2⟩
theorem Paired.atR {α β : Type} {F : α → β → Prop} : ∀ {xs : List α} {ys : List β} {i : Nat} {y : β}, Paired F xs ys → ys[i]? = some y → ∃ x, xs[i]? = some x ∧ F x y
  | _, _, _, _, .nil, e => by simp at e
  | _, _, 0, _, .cons r _, e => by simp at e; subst e; exact ⟨_, rfl, r⟩
  | _, _, i + 1, x, .cons _ t, e => by
    obtain ⟨u, h1, h2⟩ := Paired.atR (i := i) (y := x) t (by simpa using e)
    exact ⟨u, by simpa using h1, h2⟩
theorem Paired.set' {α β : Type} {F : α → β → Prop} {x : α} {y : β} (r : F x y) : ∀ {xs : List α} {ys : List β} (i : Nat), Paired F xs ys → Paired F (xs.set i x) (ys.set i y)
  | _, _, _, .nil => .nil
  | _, _, 0, .cons _ t => .cons r t
  | _, _, i + 1, .cons q t => .cons q (Paired.set' r i t)
theorem Paired.app {α β : Type} {F : α → β → Prop} : ∀ {xs xs' : List α} {ys ys' : List β}, Paired F xs ys → Paired F xs' ys' → Paired F (xs ++ xs') (ys ++ ys')
  | _, _, _, _, .nil, h => h
  | _, _, _, _, .cons p q, h => .cons p (Paired.app q h)
theorem Paired.drp {α β : Type} {F : α → β → Prop} : ∀ {xs : List α} {ys : List β} (n : Nat), Paired F xs ys → Paired F (xs.drop n) (ys.drop n)
  | _, _, 0, h => h
  | _, _, _ + 1, .nil => .nil
  | _, _, n + 1, .cons _ q => Paired.drp n q
theorem Paired.tak {α β : Type} {F : α → β → Prop} : ∀ {xs : List α} {ys : List β} (n : Nat), Paired F xs ys → Paired F (xs.take n) (ys.take n)
  | _, _, 0, _ => .nil
  | _, _, _ + 1, .nil => .nil
  | _, _, n + 1, .cons p q => .cons p (Paired.tak n q)
theorem vrs_d {xs : List PyData} {vs : List V} (h : Paired (DR K B) xs vs) : Paired (VR K as B) (xs.map .d) vs := by
  induction h with
  | nil => exact .nil
  | cons p _ ih => exact .cons p ih
theorem drs_of : ∀ {xs : List PyData} {vs : List V}, Paired (VR K as B) (xs.map .d) vs → Paired (DR K B) xs vs
  | [], _, h => by cases h; exact .nil
  | x :: xs, _, h => by cases h with | cons p q => exact .cons p (drs_of q)
/-- the data among values -/
def allD : List SV → Option (List PyData)
  | [] => some []
  | .d x :: r => (allD r).map (x :: ·)
  | .loc _ :: _ => none
theorem allD_some : ∀ {xs : List SV} {ds : List PyData}, allD xs = some ds → xs = ds.map .d
  | [], ds, h => by cases h; rfl
  | .d x :: r, ds, h => by
    simp only [allD, Option.map_eq_some_iff] at h
    obtain ⟨es, h1, rfl⟩ := h
    rw [allD_some h1]
    rfl
  | .loc _ :: _, _, h => by cases h
theorem allD_map : ∀ (ds : List PyData), allD (ds.map .d) = some ds
  | [] => rfl
  | x :: r => by
    show (allD (r.map .d)).map (x :: ·) = some (x :: r)
    rw [allD_map r]
    rfl
/-- the items of a list, of a tuple -/
def lstOf (M : Mem) : SV → Option (List SV)
  | .d (.list xs) => some (xs.map .d)
  | .loc n => match M[n]? with
    | some (.lst xs) => some xs
    | _ => none
  | _ => none
def tupOf : SV → Option (List SV)
  | .d (.tuple xs) => some (xs.map .d)
  | _ => none
theorem lstOf_ok {s : SV} {v : V} {xs : List SV} (R : Rel K as B M H) (h : VR K as B s v) (e : lstOf M s = some xs) : ∃ a vs, v = .ref a ∧ Rd H a (.lst vs) ∧ Paired (VR K as B) xs vs := by
  cases s with
  | d y =>
    cases y with
    | list ds =>
      cases e
      cases h with
      | lst r p => exact ⟨_, _, rfl, same_rd R.ex r, vrs_d p⟩
    | _ => cases e
  | loc n =>
    obtain ⟨a, ea, rfl⟩ := h
    simp only [lstOf] at e
    cases q : M[n]? with
    | none => rw [q] at e; cases e
    | some mo =>
      rw [q] at e
      cases mo with
      | lst ys =>
        cases e
        obtain ⟨vs, h1, h2⟩ := R.obj n a _ ea q
        exact ⟨a, vs, rfl, .inl h1, h2⟩
      | _ => cases e
theorem tupOf_ok {s : SV} {v : V} {xs : List SV} (R : Rel K as B M H) (h : VR K as B s v) (e : tupOf s = some xs) : ∃ a vs, v = .ref a ∧ SqT K H a vs ∧ Paired (VR K as B) xs vs := by
  cases s with
  | d y =>
    cases y with
    | tuple ds =>
      cases e
      cases h with
      | tup r p => exact ⟨_, _, rfl, same_t R.ex r, vrs_d p⟩
    | _ => cases e
  | loc n => cases e
/-- the data that a value reads as -/
def rdD (M : Mem) : SV → Option PyData
  | .d x => some x
  | .loc n => match M[n]? with
    | some (.lst xs) => (allD xs).map .list
    | _ => none
theorem rdD_ok {s : SV} {v : V} {x : PyData} (R : Rel K as B M H) (h : VR K as B s v) (e : rdD M s = some x) : DR K H x v := by
  cases s with
  | d y =>
    cases e
    exact DR.mono R.ex _ _ h
  | loc n =>
    obtain ⟨a, ea, rfl⟩ := h
    simp only [rdD] at e
    cases q : M[n]? with
    | none => rw [q] at e; cases e
    | some mo =>
      rw [q] at e
      cases mo with
      | lst ys =>
        simp only [Option.map_eq_some_iff] at e
        obtain ⟨ds, e1, rfl⟩ := e
        obtain ⟨vs, h1, h2⟩ := R.obj n a _ ea q
        rw [allD_some e1] at h2
        exact .lst (.inl h1) (DR.monos R.ex _ _ (drs_of h2))
      | _ => cases e
/-- a new object beside the memory that is data from now on -/
theorem Rel.data {p : Addr} {o : HO} (R : Rel K as B M H) (hp : H p = none) : Rel K as (upd B p o) M (upd H p o) ∧ Lat as B H as (upd B p o) (upd H p o) := by
  have Bp : B p = none := R.ex.free hp
  have pa : p ∉ as := fun m => R.all p m hp
  have sB : Same B (upd B p o) := fun b u e => by
    rw [upd_ne (ne_of_none e Bp)]
    exact e
  have L : Lat as B H as (upd B p o) (upd H p o) := ⟨List.prefix_refl _, sB, fun a u e _ => by rw [upd_ne (ne_of_none e hp)]; exact e, fun a m n => absurd m n, fun a k => by
    by_cases q : a = p
    · subst q
      exact .inr (.inl hp)
    · rw [upd_ne q] at k
      exact .inl k⟩
  refine ⟨⟨R.len, R.nd, fun b u e => ?_, fun n a mo ea em hg => ?_, fun n a mo ea em => ?_, fun a m => ?_⟩, L⟩
  · by_cases q : b = p
    · subst q
      rw [upd_same] at e ⊢
      exact e
    · rw [upd_ne q] at e ⊢
      exact R.ex b u e
  · rw [upd_ne (b := a) (a := p) fun q => pa (by rw [← q]; exact List.mem_of_getElem? ea)]
    exact R.sep n a mo ea em hg
  · have ne : a ≠ p := fun q => pa (q ▸ List.mem_of_getElem? ea)
    have h := R.obj n a mo ea em
    cases mo with
    | lst xs =>
      obtain ⟨vs, h1, h2⟩ := h
      exact ⟨vs, by rw [upd_ne ne]; exact h1, VR.monos L h2⟩
    | dct xs =>
      obtain ⟨vs, h1, h2⟩ := h
      exact ⟨vs, by rw [upd_ne ne]; exact h1, KR.monos L h2⟩
    | ins C fs =>
      obtain ⟨dx, vs, h1, h2⟩ := h
      exact ⟨dx, vs, by rw [upd_ne ne]; exact h1, KR.monos L h2⟩
    | gone => trivial
  · rw [upd_ne (b := a) (a := p) fun q => pa (by rw [← q]; exact m)]
    exact R.all a m
end
end Z
namespace Z
open PySem L2
/-- what is wanted behind, of every later state -/
def J {α β : Type} (K : PySem.W.Frag) (R : List Addr → Hp → α → β → Prop) (t : L2.St → Hp → (β → Hp → Prop) → Prop) (f : Gm → Mem → Option (α × Mem)) : Prop :=
  ∀ (Γ : Gm) (M : Mem) (x : α) (M' : Mem), f Γ M = some (x, M') → ∀ (as : List Addr) (B : Hp) (σ : L2.St) (H : Hp), Rel K as B M H → GR K as B Γ σ → ∀ Q : β → Hp → Prop,
    (∀ (y : β) (as' : List Addr) (B' H' : Hp), Lat as B H as' B' H' → Rel K as' B' M' H' → R as' B' x y → Q y H') → t σ H Q
abbrev Fe := Gm → Mem → Option (SV × Mem)
abbrev Ft := Gm → Mem → Option (Bool × Mem)
abbrev Fa := Gm → Mem → Option (List SV × Mem)
def RB : List Addr → Hp → Bool → Bool → Prop := fun _ _ b c => b = c
/-- the reading that belongs to a function of data and memory -/
def cn {α β : Type} (K : PySem.W.Frag) (R : List Addr → Hp → α → β → Prop) (f : Gm → Mem → Option (α × Mem)) : L2.St → Hp → (β → Hp → Prop) → Prop := fun σ H Q =>
  ∃ (Γ : Gm) (M : Mem) (x : α) (M' : Mem) (as : List Addr) (B : Hp), f Γ M = some (x, M') ∧ Rel K as B M H ∧ GR K as B Γ σ ∧
    ∀ (y : β) (as' : List Addr) (B' H' : Hp), Lat as B H as' B' H' → Rel K as' B' M' H' → R as' B' x y → Q y H'
theorem j_cn {α β : Type} {K : PySem.W.Frag} {R : List Addr → Hp → α → β → Prop} {f : Gm → Mem → Option (α × Mem)} : J K R (cn K R f) f :=
  fun Γ M x M' h as B σ H r g Q q => ⟨Γ, M, x, M', as, B, h, r, g, q⟩
theorem J.use {α β : Type} {K : PySem.W.Frag} {R : List Addr → Hp → α → β → Prop} {t : L2.St → Hp → (β → Hp → Prop) → Prop} {f : Gm → Mem → Option (α × Mem)} (h : J K R t f) {σ : L2.St} {H : Hp} {Q : β → Hp → Prop} (c : cn K R f σ H Q) : t σ H Q := by
  obtain ⟨Γ, M, x, M', as, B, h1, r, g, q⟩ := c
  exact h Γ M x M' h1 as B σ H r g Q q
abbrev RA (K : PySem.W.Frag) : List Addr → Hp → List SV → List V → Prop := fun as B => Paired (VR K as B)
structure PEd (X : Cx) (e : Expr) (f : Fe) : Prop where
  pe : PE X e (cn X.K (VR X.K) f)
structure PTd (X : Cx) (e : Expr) (f : Ft) : Prop where
  pe : PT X e (cn X.K RB f)
structure PWd (X : Cx) (e : Expr) (f : Ft) : Prop where
  pe : PW X e (cn X.K RB f)
structure PAd (X : Cx) (es : List Expr) (f : Fa) : Prop where
  pe : PA X es (cn X.K (RA X.K) f)
theorem PEd.of {X : Cx} {e : Expr} {t : TE} {f : Fe} (h : PE X e t) (j : J X.K (VR X.K) t f) : PEd X e f := ⟨⟨fun pins s σ H Q I c => h.run pins s σ H Q I (j.use c)⟩⟩
theorem PTd.of {X : Cx} {e : Expr} {t : TT} {f : Ft} (h : PT X e t) (j : J X.K RB t f) : PTd X e f := ⟨⟨fun pins s σ H Q I c => h.run pins s σ H Q I (j.use c)⟩⟩
theorem PWd.of {X : Cx} {e : Expr} {t : TT} {f : Ft} (h : PW X e t) (j : J X.K RB t f) : PWd X e f := ⟨⟨fun whole pins s σ H Q I c => h.run whole pins s σ H Q I (j.use c)⟩⟩
theorem PAd.of {X : Cx} {es : List Expr} {t : TA} {f : Fa} (h : PA X es t) (j : J X.K (RA X.K) t f) : PAd X es f := ⟨⟨fun pos pins s σ H Q I c => h.run pos pins s σ H Q I (j.use c)⟩⟩
theorem PEd.j {X : Cx} {e : Expr} {f : Fe} (_ : PEd X e f) : J X.K (VR X.K) (cn X.K (VR X.K) f) f := j_cn
theorem PTd.j {X : Cx} {e : Expr} {f : Ft} (_ : PTd X e f) : J X.K RB (cn X.K RB f) f := j_cn
theorem PWd.j {X : Cx} {e : Expr} {f : Ft} (_ : PWd X e f) : J X.K RB (cn X.K RB f) f := j_cn
theorem PAd.j {X : Cx} {es : List Expr} {f : Fa} (_ : PAd X es f) : J X.K (RA X.K) (cn X.K (RA X.K) f) f := j_cn
theorem ite_some {c : Prop} [Decidable c] {α : Type} {x y : α} (h : (if c then some x else none) = some y) : c ∧ x = y := by
  by_cases k : c
  · rw [if_pos k] at h
    exact ⟨k, Option.some.inj h⟩
  · rw [if_neg k] at h
    cases h
theorem ite_opt {c : Prop} [Decidable c] {α : Type} {x : Option α} {y : α} (h : (if c then x else none) = some y) : c ∧ x = some y := by
  by_cases k : c
  · rw [if_pos k] at h
    exact ⟨k, h⟩
  · rw [if_neg k] at h
    cases h
section
variable {X : Cx} {K : PySem.W.Frag} {ta tb te : TE} {tt tu : TT} {fa fb fe fc : Fe} {ft fu : Ft} {a b c e : Expr} {pos : Pos}
/-! names, constants -/
def fVar (i : Nat) : Fe := fun Γ M => match Γ[i]? with
  | some (some s) => some (s, M)
  | _ => none
def fC (x : PyData) : Fe := fun _ M => some (.d x, M)
theorem j_var {i : Nat} : J K (VR K) (tVar i) (fVar i) := fun Γ M x M' h as B σ H R G Q q => by
  unfold fVar at h
  cases e : Γ[i]? with
  | none => rw [e] at h; cases h
  | some o =>
    cases o with
    | none => rw [e] at h; cases h
    | some s0 =>
      rw [e] at h
      cases h
      obtain ⟨p, e1, k⟩ := Z.Paired.at G e
      obtain ⟨v, rfl, r⟩ := k _ rfl
      exact ⟨v, e1, q v as B H (Lat.refl _ _ _) R r⟩
theorem j_c {x : PyData} {v : V} (h : ∀ B, DR K B x v) : J K (VR K) (tC v) (fC x) := fun Γ M _ M' e as B σ H R G Q q => by
  cases e
  exact q v as B H (Lat.refl _ _ _) R (h B)
theorem zvar (i : Nat) {x : Str} (hN : X.N[i]? = some x := by rfl) (hv : Vis X.env.scope x := by first | exact Or.inl rfl | exact Or.inr (Or.inl rfl) | exact Or.inr (Or.inr rfl)) (hd : (x == ("__debug__" : Str)) = false := by decide)
    (hcd : (x == ("__classdict__" : Str)) = false := by decide) : PEd X (.Name x pos) (fVar i) := .of (pe_var hN hv hd hcd) (j_var)
theorem zint {i : Int} {j} : PEd X (.Constant (.int i) j pos) (fC (.int i)) := .of (pe_int) (j_c fun _ => .int _)
theorem zbl {i : Bool} {j} : PEd X (.Constant (.bool i) j pos) (fC (.bool i)) := .of (pe_bl) (j_c fun _ => .bl _)
theorem znon {j} : PEd X (.Constant .none j pos) (fC .none) := .of (pe_non) (j_c fun _ => .non)
theorem zstr {x : Str} {j} : PEd X (.Constant (.str x) j pos) (fC (.str x)) := .of (pe_str) (j_c fun _ => .str _)
/-- a module's constant, an int or a text -/
theorem zglob {x : Str} {v : V} {y : PyData} {u : Value} (hg : Gl X x) (hm : X.mg x = some u) (r : RelV v u) (h : ∀ B, DR X.K B y v) (hd : (x == ("__debug__" : Str)) = false := by decide) : PEd X (.Name x pos) (fC y) := .of (pe_glob hg hm r hd) (j_c h)
/-! operations -/
def G2 (K : PySem.W.Frag) (r : R2) (g : SV → SV → Mem → Option (SV × Mem)) : Prop :=
  ∀ (x y : SV) (M : Mem) (z : SV) (M' : Mem), g x y M = some (z, M') → ∀ (as : List Addr) (B H : Hp), Rel K as B M H → ∀ u v, VR K as B x u → VR K as B y v → ∀ Q : VK,
    (∀ (w : V) (as' : List Addr) (B' H' : Hp), Lat as B H as' B' H' → Rel K as' B' M' H' → VR K as' B' z w → Q w H') → r u v H Q
def G1 (K : PySem.W.Frag) (r : V → Hp → VK → Prop) (g : SV → Mem → Option (SV × Mem)) : Prop :=
  ∀ (x : SV) (M : Mem) (z : SV) (M' : Mem), g x M = some (z, M') → ∀ (as : List Addr) (B H : Hp), Rel K as B M H → ∀ u, VR K as B x u → ∀ Q : VK,
    (∀ (w : V) (as' : List Addr) (B' H' : Hp), Lat as B H as' B' H' → Rel K as' B' M' H' → VR K as' B' z w → Q w H') → r u H Q
def GA (K : PySem.W.Frag) (r : List V → Hp → VK → Prop) (g : List SV → Mem → Option (SV × Mem)) : Prop :=
  ∀ (x : List SV) (M : Mem) (z : SV) (M' : Mem), g x M = some (z, M') → ∀ (as : List Addr) (B H : Hp), Rel K as B M H → ∀ u, Paired (VR K as B) x u → ∀ Q : VK,
    (∀ (w : V) (as' : List Addr) (B' H' : Hp), Lat as B H as' B' H' → Rel K as' B' M' H' → VR K as' B' z w → Q w H') → r u H Q
def fOp (g : SV → SV → Mem → Option (SV × Mem)) (a b : Fe) : Fe := fun Γ M => (a Γ M).bind fun p => (b Γ p.2).bind fun q => g p.1 q.1 q.2
def fUn (g : SV → Mem → Option (SV × Mem)) (a : Fe) : Fe := fun Γ M => (a Γ M).bind fun p => g p.1 p.2
theorem j_op {r : R2} {g : SV → SV → Mem → Option (SV × Mem)} (hr : G2 K r g) (ha : J K (VR K) ta fa) (hb : J K (VR K) tb fb) : J K (VR K) (tOp r ta tb) (fOp g fa fb) := fun Γ M z M' h as B σ H R G Q q => by
  simp only [fOp, Option.bind_eq_some_iff] at h
  obtain ⟨⟨x, M1⟩, h1, ⟨y, M2⟩, h2, h3⟩ := h
  refine ha Γ M x M1 h1 as B σ H R G _ fun u as1 B1 H1 L1 R1 r1 => ?_
  refine hb Γ M1 y M2 h2 as1 B1 σ H1 R1 (G.mono L1) _ fun v as2 B2 H2 L2 R2 r2 => ?_
  exact hr x y M2 z M' h3 as2 B2 H2 R2 u v (r1.mono L2) r2 Q fun w as3 B3 H3 L3 R3 r3 => q w as3 B3 H3 ((L1.trans L2).trans L3) R3 r3
theorem j_un {r : V → Hp → VK → Prop} {g : SV → Mem → Option (SV × Mem)} (hr : G1 K r g) (ha : J K (VR K) ta fa) : J K (VR K) (tUn r ta) (fUn g fa) := fun Γ M z M' h as B σ H R G Q q => by
  simp only [fUn, Option.bind_eq_some_iff] at h
  obtain ⟨⟨x, M1⟩, h1, h3⟩ := h
  refine ha Γ M x M1 h1 as B σ H R G _ fun u as1 B1 H1 L1 R1 r1 => ?_
  exact hr x M1 z M' h3 as1 B1 H1 R1 u r1 Q fun w as3 B3 H3 L3 R3 r3 => q w as3 B3 H3 (L1.trans L3) R3 r3
theorem zop {op : Operator} {r : R2} {g : SV → SV → Mem → Option (SV × Mem)} (ho : OpR X (binaryOp op) r) (hg : G2 X.K r g) (ha : PEd X a fa) (hb : PEd X b fb) : PEd X (.BinOp a op b pos) (fOp g fa fb) := .of (pe_op ho ha.pe hb.pe) (j_op hg ha.j hb.j)
theorem zun {op : UnaryOp} {r : V → Hp → VK → Prop} {g : SV → Mem → Option (SV × Mem)} (ho : UnR X (unaryOp op) r) (hg : G1 X.K r g) (ha : PEd X a fa) : PEd X (.UnaryOp op a pos) (fUn g fa) := .of (pe_un ho ha.pe) (j_un hg ha.j)
theorem zcmp {op : CmpOp} {r : R2} {g : SV → SV → Mem → Option (SV × Mem)} (ho : OpR X (compareOp op) r) (hg : G2 X.K r g) (ha : PEd X a fa) (hb : PEd X b fb) (hm : behindInMarks op b = false) : PEd X (.Compare a [op] [b] pos) (fOp g fa fb) := .of (pe_cmpR ho ha.pe hb.pe hm) (j_op hg ha.j hb.j)
theorem zix {r : R2} {g : SV → SV → Mem → Option (SV × Mem)} (hr : IxR X r) (hg : G2 X.K r g) (ha : PEd X a fa) (hb : PEd X b fb) (hs : PlainIx b) : PEd X (.Subscript a b pos) (fOp g fa fb) := .of (pe_ix hr ha.pe hb.pe hs) (j_op hg ha.j hb.j)
/-! tests -/
def boolOf : SV → Option Bool
  | .d (.bool b) => some b
  | _ => none
theorem boolOf_ok {s : SV} {k : Bool} {as : List Addr} {B : Hp} {v : V} (h : VR K as B s v) (e : boolOf s = some k) : v = .bl k := by
  cases s with
  | loc n => cases e
  | d x =>
    cases x with
    | bool b => cases e; cases h; rfl
    | _ => cases e
def truth (M : Mem) : SV → Option Bool
  | .d (.bool b) => some b
  | .d .none => some false
  | .d (.int i) => some (i != 0)
  | .d (.str z) => if z.length ≤ sizeLine then some (z.length != 0) else none
  | .d (.tuple xs) => some (!xs.isEmpty)
  | s => (lstOf M s).map fun xs => !xs.isEmpty
theorem Paired.emp {α β : Type} {F : α → β → Prop} : ∀ {xs : List α} {ys : List β}, Paired F xs ys → xs.isEmpty = ys.isEmpty
  | _, _, .nil => rfl
  | _, _, .cons _ _ => rfl
theorem truth_ok {s : SV} {k : Bool} {as : List Addr} {B H : Hp} {M : Mem} {v : V} (R : Rel K as B M H) (h : VR K as B s v) (e : truth M s = some k) : TruV K v H k := by
  have lists : (lstOf M s).map (fun xs => !xs.isEmpty) = some k → TruV K v H k := fun e => by
    simp only [Option.map_eq_some_iff] at e
    obtain ⟨xs, e1, rfl⟩ := e
    obtain ⟨a, vs, rfl, r, p⟩ := lstOf_ok R h e1
    exact .inl ⟨vs, .inl r, by rw [Paired.emp p]⟩
  cases s with
  | loc n => exact lists e
  | d x =>
    cases x with
    | bool b => cases e; cases h; rfl
    | none => cases e; cases h; rfl
    | int i => cases e; cases h; rfl
    | str z =>
      simp only [truth] at e
      split at e
      · cases e
        cases h
        refine ⟨by assumption, ?_⟩
        show (z.length != 0) = ((z.length : Int) != 0)
        cases z.length <;> rfl
      · cases e
    | tuple xs =>
      cases e
      obtain ⟨a, vs, rfl, r, p⟩ := tupOf_ok R h rfl
      refine .inr (.inl ⟨vs, r, ?_⟩)
      rw [← Paired.emp p]
      cases xs <;> rfl
    | list xs => exact lists e
    | dict xs => cases e
def fTru (a : Fe) : Ft := fun Γ M => (a Γ M).bind fun p => (truth p.2 p.1).map fun k => (k, p.2)
def fBool (a : Fe) : Ft := fun Γ M => (a Γ M).bind fun p => (boolOf p.1).map fun k => (k, p.2)
theorem j_tru (ha : J K (VR K) ta fa) : J K RB (fun σ H Q => ta σ H fun x H' => ∃ k, TruV K x H' k ∧ Q k H') (fTru fa) := fun Γ M z M' h as B σ H R G Q q => by
  simp only [fTru, Option.bind_eq_some_iff, Option.map_eq_some_iff] at h
  obtain ⟨⟨x, M1⟩, h1, k, h2, h3⟩ := h
  cases h3
  exact ha Γ M x M1 h1 as B σ H R G _ fun u as1 B1 H1 L1 R1 r1 => ⟨_, truth_ok R1 r1 h2, q _ as1 B1 H1 L1 R1 rfl⟩
theorem j_tb (ha : J K (VR K) ta fa) : J K RB (tB ta) (fBool fa) := fun Γ M z M' h as B σ H R G Q q => by
  simp only [fBool, Option.bind_eq_some_iff, Option.map_eq_some_iff] at h
  obtain ⟨⟨x, M1⟩, h1, k, h2, h3⟩ := h
  cases h3
  exact ha Γ M x M1 h1 as B σ H R G _ fun u as1 B1 H1 L1 R1 r1 => ⟨_, boolOf_ok r1 h2, q _ as1 B1 H1 L1 R1 rfl⟩
theorem j_tt (ha : J K (VR K) ta fa) : J K RB (tTest ta) (fBool fa) := j_tb ha
theorem zttr (ha : PEd X a fa) (he : ∀ whole, isTrue a X.env whole = (do let v ← whole; standAt a.pos; holding [v] (truthy v)) := by intro _; rfl) : PTd X a (fTru fa) := .of (pt_truth ha.pe he) (j_tru ha.j)
theorem ztval (ha : PEd X a fa) (he : ∀ whole, isTrue a X.env whole = (do let v ← whole; standAt a.pos; holding [v] (truthy v)) := by intro _; rfl) : PTd X a (fBool fa) := .of (pt_val ha.pe he) (j_tb ha.j)
theorem ztcmp {op : CmpOp} {r : R2} {g : SV → SV → Mem → Option (SV × Mem)} (ho : OpR X (compareOp op) r) (hg : G2 X.K r g) (ha : PEd X a fa) (hb : PEd X b fb) (hm : behindInMarks op b = false) : PTd X (.Compare a [op] [b] pos) (fBool (fOp g fa fb)) :=
  .of (pt_cmpR ho ha.pe hb.pe hm) (j_tt (j_op hg ha.j hb.j))
def fNotT (a : Ft) : Ft := fun Γ M => (a Γ M).map fun p => (!p.1, p.2)
def fAndT (a b : Ft) : Ft := fun Γ M => (a Γ M).bind fun p => if p.1 = true then b Γ p.2 else some (false, p.2)
def fOrT (a b : Ft) : Ft := fun Γ M => (a Γ M).bind fun p => if p.1 = true then some (true, p.2) else b Γ p.2
theorem j_notT (ha : J K RB tt ft) : J K RB (tNot tt) (fNotT ft) := fun Γ M z M' h as B σ H R G Q q => by
  simp only [fNotT, Option.map_eq_some_iff] at h
  obtain ⟨⟨x, M1⟩, h1, h3⟩ := h
  cases h3
  exact ha Γ M x M1 h1 as B σ H R G _ fun u as1 B1 H1 L1 R1 r1 => q _ as1 B1 H1 L1 R1 (by rw [show x = u from r1]; rfl)
theorem j_andT (ha : J K RB tt ft) (hb : J K RB tu fu) : J K RB (tAnd tt tu) (fAndT ft fu) := fun Γ M z M' h as B σ H R G Q q => by
  simp only [fAndT, Option.bind_eq_some_iff] at h
  obtain ⟨⟨x, M1⟩, h1, h3⟩ := h
  refine ha Γ M x M1 h1 as B σ H R G _ fun u as1 B1 H1 L1 R1 r1 => ?_
  cases (show x = u from r1)
  cases x with
  | true => exact hb Γ M1 z M' h3 as1 B1 σ H1 R1 (G.mono L1) Q fun w as2 B2 H2 L2 R2 r2 => q w as2 B2 H2 (L1.trans L2) R2 r2
  | false => cases h3; exact q _ as1 B1 H1 L1 R1 rfl
theorem j_orT (ha : J K RB tt ft) (hb : J K RB tu fu) : J K RB (tOr tt tu) (fOrT ft fu) := fun Γ M z M' h as B σ H R G Q q => by
  simp only [fOrT, Option.bind_eq_some_iff] at h
  obtain ⟨⟨x, M1⟩, h1, h3⟩ := h
  refine ha Γ M x M1 h1 as B σ H R G _ fun u as1 B1 H1 L1 R1 r1 => ?_
  cases (show x = u from r1)
  cases x with
  | false => exact hb Γ M1 z M' h3 as1 B1 σ H1 R1 (G.mono L1) Q fun w as2 B2 H2 L2 R2 r2 => q w as2 B2 H2 (L1.trans L2) R2 r2
  | true => cases h3; exact q _ as1 B1 H1 L1 R1 rfl
theorem ztnot (ha : PTd X a ft) : PTd X (.UnaryOp .Not a pos) (fNotT ft) := .of (pt_not ha.pe) (j_notT ha.j)
theorem zwand1 (ha : PTd X a ft) : PWd X (.BoolOp .And [a] pos) ft := .of (pw_and1 ha.pe) (ha.j)
theorem zwor1 (ha : PTd X a ft) : PWd X (.BoolOp .Or [a] pos) ft := .of (pw_or1 ha.pe) (ha.j)
theorem zwand {rest : List Expr} (ha : PTd X a ft) (hb : PWd X (.BoolOp .And (b :: rest) pos) fu) : PWd X (.BoolOp .And (a :: b :: rest) pos) (fAndT ft fu) := .of (pw_and ha.pe hb.pe) (j_andT ha.j hb.j)
theorem zwor {rest : List Expr} (ha : PTd X a ft) (hb : PWd X (.BoolOp .Or (b :: rest) pos) fu) : PWd X (.BoolOp .Or (a :: b :: rest) pos) (fOrT ft fu) := .of (pw_or ha.pe hb.pe) (j_orT ha.j hb.j)
theorem PWd.pt (h : PWd X a ft) : PTd X a ft := .of h.pe.pt h.j
/-! and, or, not as values (all but the last True or False); x if c else y -/
def fAndV (a b : Fe) : Fe := fun Γ M => (a Γ M).bind fun p => (boolOf p.1).bind fun k => if k = true then b Γ p.2 else some (.d (.bool false), p.2)
def fOrV (a b : Fe) : Fe := fun Γ M => (a Γ M).bind fun p => (boolOf p.1).bind fun k => if k = true then some (.d (.bool true), p.2) else b Γ p.2
def fNotV (a : Fe) : Fe := fun Γ M => (a Γ M).bind fun p => (boolOf p.1).map fun k => (.d (.bool (!k)), p.2)
def fIf (c : Ft) (a b : Fe) : Fe := fun Γ M => (c Γ M).bind fun p => if p.1 = true then a Γ p.2 else b Γ p.2
theorem j_andV (ha : J K (VR K) ta fa) (hb : J K (VR K) tb fb) : J K (VR K) (tAndV ta tb) (fAndV fa fb) := fun Γ M z M' h as B σ H R G Q q => by
  simp only [fAndV, Option.bind_eq_some_iff] at h
  obtain ⟨⟨x, M1⟩, h1, k, h2, h3⟩ := h
  refine ha Γ M x M1 h1 as B σ H R G _ fun u as1 B1 H1 L1 R1 r1 => ⟨k, boolOf_ok r1 h2, ?_⟩
  cases k with
  | true => exact hb Γ M1 z M' h3 as1 B1 σ H1 R1 (G.mono L1) Q fun w as2 B2 H2 L2 R2 r2 => q w as2 B2 H2 (L1.trans L2) R2 r2
  | false => cases h3; exact q _ as1 B1 H1 L1 R1 (.bl _)
theorem j_orV (ha : J K (VR K) ta fa) (hb : J K (VR K) tb fb) : J K (VR K) (tOrV ta tb) (fOrV fa fb) := fun Γ M z M' h as B σ H R G Q q => by
  simp only [fOrV, Option.bind_eq_some_iff] at h
  obtain ⟨⟨x, M1⟩, h1, k, h2, h3⟩ := h
  refine ha Γ M x M1 h1 as B σ H R G _ fun u as1 B1 H1 L1 R1 r1 => ⟨k, boolOf_ok r1 h2, ?_⟩
  cases k with
  | false => exact hb Γ M1 z M' h3 as1 B1 σ H1 R1 (G.mono L1) Q fun w as2 B2 H2 L2 R2 r2 => q w as2 B2 H2 (L1.trans L2) R2 r2
  | true => cases h3; exact q _ as1 B1 H1 L1 R1 (.bl _)
theorem j_notV (ha : J K (VR K) ta fa) : J K (VR K) (tNotV ta) (fNotV fa) := fun Γ M z M' h as B σ H R G Q q => by
  simp only [fNotV, Option.bind_eq_some_iff, Option.map_eq_some_iff] at h
  obtain ⟨⟨x, M1⟩, h1, k, h2, h3⟩ := h
  cases h3
  exact ha Γ M x M1 h1 as B σ H R G _ fun u as1 B1 H1 L1 R1 r1 => ⟨k, boolOf_ok r1 h2, q _ as1 B1 H1 L1 R1 (.bl _)⟩
theorem j_if (hc : J K RB tt ft) (ha : J K (VR K) ta fa) (hb : J K (VR K) tb fb) : J K (VR K) (tIf tt ta tb) (fIf ft fa fb) := fun Γ M z M' h as B σ H R G Q q => by
  simp only [fIf, Option.bind_eq_some_iff] at h
  obtain ⟨⟨x, M1⟩, h1, h3⟩ := h
  refine hc Γ M x M1 h1 as B σ H R G _ fun u as1 B1 H1 L1 R1 r1 => ?_
  cases (show x = u from r1)
  cases x with
  | true => exact ha Γ M1 z M' h3 as1 B1 σ H1 R1 (G.mono L1) Q fun w as2 B2 H2 L2 R2 r2 => q w as2 B2 H2 (L1.trans L2) R2 r2
  | false => exact hb Γ M1 z M' h3 as1 B1 σ H1 R1 (G.mono L1) Q fun w as2 B2 H2 L2 R2 r2 => q w as2 B2 H2 (L1.trans L2) R2 r2
theorem zone {op} (h : PEd X a fa) : PEd X (.BoolOp op [a] pos) fa := .of (pe_one h.pe) (h.j)
theorem zand {rest : List Expr} (ha : PEd X a fa) (hb : PEd X (.BoolOp .And (b :: rest) pos) fb) : PEd X (.BoolOp .And (a :: b :: rest) pos) (fAndV fa fb) := .of (pe_and ha.pe hb.pe) (j_andV ha.j hb.j)
theorem zor {rest : List Expr} (ha : PEd X a fa) (hb : PEd X (.BoolOp .Or (b :: rest) pos) fb) : PEd X (.BoolOp .Or (a :: b :: rest) pos) (fOrV fa fb) := .of (pe_or ha.pe hb.pe) (j_orV ha.j hb.j)
theorem znot (ha : PEd X a fa) : PEd X (.UnaryOp .Not a pos) (fNotV fa) := .of (pe_not ha.pe) (j_notV ha.j)
theorem zif (hc : PTd X c ft) (ha : PEd X a fa) (hb : PEd X b fb) : PEd X (.IfExp c a b pos) (fIf ft fa fb) := .of (pe_ifExp hc.pe ha.pe hb.pe) (j_if hc.j ha.j hb.j)
/-! arguments, displays -/
variable {es : List Expr} {t1 tr : TA} {f1 fr : Fa}
def fNil : Fa := fun _ M => some ([], M)
def fCons (a : Fe) (r : Fa) : Fa := fun Γ M => (a Γ M).bind fun p => (r Γ p.2).map fun q => (p.1 :: q.1, q.2)
theorem j_nil : J K (RA K) tNil fNil := fun Γ M z M' h as B σ H R G Q q => by
  cases h
  exact q _ as B H (Lat.refl _ _ _) R .nil
theorem j_cons (ha : J K (VR K) ta fa) (hr : J K (RA K) tr fr) : J K (RA K) (tCons ta tr) (fCons fa fr) := fun Γ M z M' h as B σ H R G Q q => by
  simp only [fCons, Option.bind_eq_some_iff, Option.map_eq_some_iff] at h
  obtain ⟨⟨x, M1⟩, h1, ⟨xs, M2⟩, h2, h3⟩ := h
  cases h3
  refine ha Γ M x M1 h1 as B σ H R G _ fun u as1 B1 H1 L1 R1 r1 => ?_
  exact hr Γ M1 xs _ h2 as1 B1 σ H1 R1 (G.mono L1) _ fun w as2 B2 H2 L2 R2 r2 => q _ as2 B2 H2 (L1.trans L2) R2 (.cons (r1.mono L2) r2)
theorem znil : PAd X [] fNil := .of (pa_nil) (j_nil)
theorem zcons (ha : PEd X a fa) (hr : PAd X es fr) (hs : starEach (a :: es) X.env = (false, eval a X.env) :: starEach es X.env := by rfl) : PAd X (a :: es) (fCons fa fr) := .of (pa_cons ha.pe hr.pe hs) (j_cons ha.j hr.j)
def mkT (xs : List SV) (M : Mem) : Option (SV × Mem) := (allD xs).bind fun ds => if ds.length ≤ sizeLine then some (.d (.tuple ds), M) else none
def mkL (xs : List SV) (M : Mem) : Option (SV × Mem) := (allD xs).bind fun ds => if ds.length ≤ sizeLine then some (.d (.list ds), M) else none
def fTup (t : Fa) : Fe := fun Γ M => (t Γ M).bind fun p => mkT p.1 p.2
def fLst (t : Fa) : Fe := fun Γ M => (t Γ M).bind fun p => mkL p.1 p.2
theorem Rel.tupD {as : List Addr} {B H : Hp} {M : Mem} {p : Addr} {ds : List PyData} {vs : List V} (R : Rel K as B M H) (hp : H p = none) (h : Paired (DR K B) ds vs) :
    ∃ B', Rel K as B' M (upd H p (.tup vs)) ∧ Lat as B H as B' (upd H p (.tup vs)) ∧ VR K as B' (.d (.tuple ds)) (.ref p) := by
  obtain ⟨R', L⟩ := R.data (o := .tup vs) hp
  exact ⟨_, R', L, .tup (.inl (.inl upd_same)) (DR.monos L.ex _ _ h)⟩
theorem Rel.lstD {as : List Addr} {B H : Hp} {M : Mem} {p : Addr} {ds : List PyData} {vs : List V} (R : Rel K as B M H) (hp : H p = none) (h : Paired (DR K B) ds vs) :
    ∃ B', Rel K as B' M (upd H p (.lst vs)) ∧ Lat as B H as B' (upd H p (.lst vs)) ∧ VR K as B' (.d (.list ds)) (.ref p) := by
  obtain ⟨R', L⟩ := R.data (o := .lst vs) hp
  exact ⟨_, R', L, .lst (.inl upd_same) (DR.monos L.ex _ _ h)⟩
theorem j_tup (ht : J K (RA K) t1 f1) : J K (VR K) (tTup t1) (fTup f1) := fun Γ M z M' h as B σ H R G Q q => by
  simp only [fTup, mkT, Option.bind_eq_some_iff] at h
  obtain ⟨⟨x, M1⟩, h1, ds, h2, h3⟩ := h
  obtain ⟨hsz, h3⟩ := ite_some h3
  cases h3
  refine ht Γ M x _ h1 as B σ H R G _ fun u as1 B1 H1 L1 R1 r1 => ?_
  have r1 : Paired (DR K B1) ds u := drs_of (as := as1) (by rw [← allD_some h2]; exact r1)
  refine ⟨by rw [← Paired.length r1]; exact hsz, fun p hp => ?_⟩
  obtain ⟨B', R', L', v⟩ := R1.tupD hp r1
  exact q _ as1 B' _ (L1.trans L') R' v
theorem j_lst (ht : J K (RA K) t1 f1) : J K (VR K) (tLst t1) (fLst f1) := fun Γ M z M' h as B σ H R G Q q => by
  simp only [fLst, mkL, Option.bind_eq_some_iff] at h
  obtain ⟨⟨x, M1⟩, h1, ds, h2, h3⟩ := h
  obtain ⟨hsz, h3⟩ := ite_some h3
  cases h3
  refine ht Γ M x _ h1 as B σ H R G _ fun u as1 B1 H1 L1 R1 r1 => ?_
  have r1 : Paired (DR K B1) ds u := drs_of (as := as1) (by rw [← allD_some h2]; exact r1)
  refine ⟨by rw [← Paired.length r1]; exact hsz, fun p hp => ?_⟩
  obtain ⟨B', R', L', v⟩ := R1.lstD hp r1
  exact q _ as1 B' _ (L1.trans L') R' v
theorem ztup {x1} (h : PAd X es f1) : PEd X (.Tuple es x1 pos) (fTup f1) := .of (pe_tup h.pe) (j_tup h.j)
theorem zlst (h : PAd X es f1) : PEd X (.List es pos) (fLst f1) := .of (pe_lst h.pe) (j_lst h.j)
/-- a list that may change: a new place of the memory -/
def fLstM (t : Fa) : Fe := fun Γ M => (t Γ M).bind fun p => if p.1.length ≤ sizeLine then some (.loc p.2.length, p.2 ++ [.lst p.1]) else none
theorem Rel.newL {as : List Addr} {B H : Hp} {M : Mem} {p : Addr} {o : HO} {mo : MO} (R : Rel K as B M H) (hp : H p = none) (hmo : MR K as B (upd H p o) p mo) :
    Rel K (as ++ [p]) B (M ++ [mo]) (upd H p o) ∧ Lat as B H (as ++ [p]) B (upd H p o) := by
  have Bp : B p = none := R.ex.free hp
  have pa : p ∉ as := fun m => R.all p m hp
  have L : Lat as B H (as ++ [p]) B (upd H p o) := ⟨List.prefix_append _ _, Same.refl _, fun a u e _ => by rw [upd_ne (ne_of_none e hp)]; exact e, fun a m n => by
    rcases List.mem_append.mp m with k | k
    · exact absurd k n
    · rw [List.mem_singleton.mp k]; exact hp, fun a k => .inl k⟩
  have mr : ∀ a mo, a ≠ p → MR K as B H a mo → MR K (as ++ [p]) B (upd H p o) a mo := fun a mo ne h => by
    cases mo with
    | lst xs =>
      obtain ⟨vs, h1, h2⟩ := h
      exact ⟨vs, by rw [upd_ne ne]; exact h1, VR.monos L h2⟩
    | dct xs =>
      obtain ⟨vs, h1, h2⟩ := h
      exact ⟨vs, by rw [upd_ne ne]; exact h1, KR.monos L h2⟩
    | ins C fs =>
      obtain ⟨dx, vs, h1, h2⟩ := h
      exact ⟨dx, vs, by rw [upd_ne ne]; exact h1, KR.monos L h2⟩
    | gone => trivial
  have mr2 : MR K (as ++ [p]) B (upd H p o) p mo := by
    cases mo with
    | lst xs =>
      obtain ⟨vs, h1, h2⟩ := hmo
      exact ⟨vs, h1, VR.monos L h2⟩
    | dct xs =>
      obtain ⟨vs, h1, h2⟩ := hmo
      exact ⟨vs, h1, KR.monos L h2⟩
    | ins C fs =>
      obtain ⟨dx, vs, h1, h2⟩ := hmo
      exact ⟨dx, vs, h1, KR.monos L h2⟩
    | gone => trivial
  refine ⟨⟨by rw [List.length_append, List.length_append, R.len]; rfl, ?_, fun b u e => ?_, fun n a mo' ea em hg => ?_, fun n a mo' ea em => ?_, fun a m => ?_⟩, L⟩
  · rw [List.nodup_append]
    exact ⟨R.nd, by simp, fun a ha b hb => by rw [List.mem_singleton.mp hb]; exact fun q => pa (by rw [← q]; exact ha)⟩
  · rw [upd_ne (fun q => by rw [q, Bp] at e; cases e)]
    exact R.ex b u e
  · by_cases hn : n < as.length
    · rw [List.getElem?_append_left hn] at ea
      rw [List.getElem?_append_left (by rw [← R.len]; exact hn)] at em
      exact R.sep n a mo' ea em hg
    · rw [List.getElem?_append_right (by omega)] at ea
      have : a = p := by
        have := List.mem_of_getElem? ea
        exact List.mem_singleton.mp this
      rw [this]
      exact Bp
  · by_cases hn : n < as.length
    · rw [List.getElem?_append_left hn] at ea
      rw [List.getElem?_append_left (by rw [← R.len]; exact hn)] at em
      exact mr a mo' (fun q => pa (by rw [← q]; exact List.mem_of_getElem? ea)) (R.obj n a mo' ea em)
    · rw [List.getElem?_append_right (by omega)] at ea
      rw [List.getElem?_append_right (by rw [← R.len]; omega)] at em
      have e1 : a = p := List.mem_singleton.mp (List.mem_of_getElem? ea)
      have e2 : mo' = mo := List.mem_singleton.mp (List.mem_of_getElem? em)
      rw [e1, e2]
      exact mr2
  · rcases List.mem_append.mp m with k | k
    · rw [upd_ne (b := a) (a := p) fun q => pa (by rw [← q]; exact k)]
      exact R.all a k
    · rw [List.mem_singleton.mp k, upd_same]
      exact fun q => nomatch q
end
end Z
namespace Z
open PySem L2
section
variable {X : Cx} {K : PySem.W.Frag} {as : List Addr} {B H : Hp} {M : Mem}
/-! inversions -/
theorem vr_int {i : Int} {v : V} (h : VR K as B (.d (.int i)) v) : v = .int i := by cases h; rfl
theorem vr_bl {i : Bool} {v : V} (h : VR K as B (.d (.bool i)) v) : v = .bl i := by cases h; rfl
theorem vr_str {i : Str} {v : V} (h : VR K as B (.d (.str i)) v) : v = .str i := by cases h; rfl
theorem vr_non {v : V} (h : VR K as B (.d .none) v) : v = .non := by cases h; rfl
/-! + -/
def rCatR : R2 := fun x y H Q => ∃ l b xs zs, x = .ref l ∧ y = .ref b ∧ Rd H l (.lst xs) ∧ Rd H b (.lst zs) ∧ xs.length + zs.length ≤ sizeLine ∧ ∀ p, H p = none → Q (.ref p) (upd H p (.lst (xs ++ zs)))
theorem op_catR : OpR X (binaryOp .Add) rCatR := by
  intro pins s σ H x y v u Q I rx ry h
  obtain ⟨l, b, xs, zs, rfl, rfl, hH, hB, hz, q⟩ := h
  cases rx
  cases ry
  obtain ⟨z, its, n, r, e⟩ := hH.ok I.hok
  obtain ⟨z2, its2, n2, r2, e2⟩ := hB.ok I.hok
  have l1 := r.length
  have l2 := r2.length
  refine PySem.P.add_list e e2 ?_ (by rw [List.size_toArray, List.size_toArray]; omega)
  have ea : its.toArray ++ its2.toArray = (its ++ its2).toArray := by simp
  rw [ea]
  exact ⟨.ref _, _, I.lnew (t' := s.toks) (r.append r2) (by rw [List.length_append]; omega), rfl, q _ I.fresh⟩
def rAddS : R2 := fun x y H Q => ∃ i j, x = .str i ∧ y = .str j ∧ i.length + j.length ≤ sizeLine ∧ Q (.str (i ++ j)) H
def rAddZ (K : PySem.W.Frag) : R2 := fun x y H Q => rI0 (fun i j => .int (i + j)) x y H Q ∨ rAddS x y H Q ∨ rCatA K x y H Q ∨ rCatR x y H Q
theorem op_addZ : OpR X (binaryOp .Add) (rAddZ X.K) := op_add.or (OpR.or (show OpR X (binaryOp .Add) rAddS from op_add_str) (op_catA.or op_catR))
def gAdd : SV → SV → Mem → Option (SV × Mem)
  | .d (.int i), .d (.int j), M => some (.d (.int (i + j)), M)
  | .d (.str a), .d (.str b), M => if a.length + b.length ≤ sizeLine then some (.d (.str (a ++ b)), M) else none
  | .d (.tuple a), .d (.tuple b), M => if a.length + b.length ≤ sizeLine then some (.d (.tuple (a ++ b)), M) else none
  | x, y, M => (lstOf M x).bind fun xs => (lstOf M y).bind fun ys => mkL (xs ++ ys) M
theorem g_add : G2 K (rAddZ K) gAdd := fun x y M z M' h as B H R u v rx ry Q q => by
  unfold gAdd at h
  split at h
  · cases h
    rw [vr_int rx, vr_int ry]
    exact .inl ⟨_, _, rfl, rfl, q _ as B H (Lat.refl _ _ _) R (.int _)⟩
  · obtain ⟨hs, h⟩ := ite_some h
    cases h
    rw [vr_str rx, vr_str ry]
    exact .inr (.inl ⟨_, _, rfl, rfl, hs, q _ as B H (Lat.refl _ _ _) R (.str _)⟩)
  · obtain ⟨hs, h⟩ := ite_some h
    cases h
    cases rx with
    | @tup a vs ds r p =>
      cases ry with
      | @tup b ws es r' p' =>
        refine .inr (.inr (.inl ⟨_, _, _, _, rfl, rfl, same_t R.ex r, same_t R.ex r', by rw [← p.length, ← p'.length]; exact hs, fun e => ?_, fun _ e => ?_, fun _ _ t ht => ?_⟩))
        · subst e
          cases p
          exact q _ as B H (Lat.refl _ _ _) R (.tup r' p')
        · subst e
          cases p'
          rw [List.append_nil] at *
          exact q _ as B H (Lat.refl _ _ _) R (.tup r p)
        · obtain ⟨B', R', L', w⟩ := R.tupD ht (Paired.app p p')
          exact q _ as B' _ L' R' w
  · simp only [mkL, Option.bind_eq_some_iff] at h
    obtain ⟨xs, h1, ys, h2, ds, h3, h4⟩ := h
    obtain ⟨hs, h4⟩ := ite_some h4
    cases h4
    obtain ⟨a, vs, rfl, r, p⟩ := lstOf_ok R rx h1
    obtain ⟨b, ws, rfl, r', p'⟩ := lstOf_ok R ry h2
    have e := allD_some h3
    have pp : Paired (DR K B) ds (vs ++ ws) := drs_of (as := as) (by rw [← e]; exact Paired.app p p')
    refine .inr (.inr (.inr ⟨a, b, vs, ws, rfl, rfl, r, r', ?_, fun t ht => ?_⟩))
    · rw [← List.length_append, ← pp.length]
      exact hs
    · obtain ⟨B', R', L', w⟩ := R.lstD ht pp
      exact q _ as B' _ L' R' w
/-! numbers -/
def gI (g : Int → Int → PyData) : SV → SV → Mem → Option (SV × Mem)
  | .d (.int i), .d (.int j), M => some (.d (g i j), M)
  | _, _, _ => none
theorem g_i {f : Int → Int → V} {g : Int → Int → PyData} (hg : ∀ B i j, DR K B (g i j) (f i j)) : G2 K (rI0 f) (gI g) := fun x y M z M' h as B H R u v rx ry Q q => by
  unfold gI at h
  split at h
  · cases h
    rw [vr_int rx, vr_int ry]
    exact ⟨_, _, rfl, rfl, q _ as B H (Lat.refl _ _ _) R (hg _ _ _)⟩
  · cases h
def gIC (C : Int → Int → Prop) [∀ i j, Decidable (C i j)] (g : Int → Int → PyData) : SV → SV → Mem → Option (SV × Mem)
  | .d (.int i), .d (.int j), M => if C i j then some (.d (g i j), M) else none
  | _, _, _ => none
theorem g_ic {C : Int → Int → Prop} [∀ i j, Decidable (C i j)] {f : Int → Int → V} {g : Int → Int → PyData} (hg : ∀ B i j, DR K B (g i j) (f i j)) : G2 K (rI C f) (gIC C g) := fun x y M z M' h as B H R u v rx ry Q q => by
  unfold gIC at h
  split at h
  · obtain ⟨hc, h⟩ := ite_some h
    cases h
    rw [vr_int rx, vr_int ry]
    exact ⟨_, _, rfl, rfl, hc, q _ as B H (Lat.refl _ _ _) R (hg _ _ _)⟩
  · cases h
instance (i j : Int) : Decidable (CMulW i j) := by unfold CMulW; exact inferInstance
instance (i j : Int) : Decidable (CDivW i j) := by unfold CDivW; exact inferInstance
instance (i j : Int) : Decidable (CPow i j) := by unfold CPow; exact inferInstance
def gSub := gI fun i j => .int (i - j)
def gLt := gI fun i j => .bool (decide (i < j))
def gLe := gI fun i j => .bool (decide (i ≤ j))
def gGt := gI fun i j => .bool (decide (j < i))
def gGe := gI fun i j => .bool (decide (j ≤ i))
def gDiv := gIC CDivW fun i j => .int (i / j)
def gMod := gIC (fun _ j => 0 < j) fun i j => .int (i % j)
def gPow := gIC CPow fun i j => .int (i ^ j.toNat)
theorem g_sub : G2 K (rI0 fun i j => .int (i - j)) gSub := g_i fun _ _ _ => .int _
theorem g_lt : G2 K (rI0 fun i j => .bl (decide (i < j))) gLt := g_i fun _ _ _ => .bl _
theorem g_le : G2 K (rI0 fun i j => .bl (decide (i ≤ j))) gLe := g_i fun _ _ _ => .bl _
theorem g_gt : G2 K (rI0 fun i j => .bl (decide (j < i))) gGt := g_i fun _ _ _ => .bl _
theorem g_ge : G2 K (rI0 fun i j => .bl (decide (j ≤ i))) gGe := g_i fun _ _ _ => .bl _
theorem g_div : G2 K (rI CDivW fun i j => .int (i / j)) gDiv := g_ic fun _ _ _ => .int _
theorem g_mod : G2 K (rI (fun _ j => 0 < j) fun i j => .int (i % j)) gMod := g_ic fun _ _ _ => .int _
theorem g_pow : G2 K (rI CPow fun i j => .int (i ^ j.toNat)) gPow := g_ic fun _ _ _ => .int _
def gNeg : SV → Mem → Option (SV × Mem)
  | .d (.int i), M => some (.d (.int (-i)), M)
  | _, _ => none
theorem g_neg : G1 K (rU fun i => .int (-i)) gNeg := fun x M z M' h as B H R u rx Q q => by
  unfold gNeg at h
  split at h
  · cases h
    rw [vr_int rx]
    exact ⟨_, rfl, q _ as B H (Lat.refl _ _ _) R (.int _)⟩
  · cases h
/-! int * int, list * int -/
def rRepR : R2 := fun x y H Q => ∃ l k xs, x = .ref l ∧ y = .int k ∧ Rd H l (.lst xs) ∧ -(2 ^ 63) ≤ k ∧ k < 2 ^ 63 ∧ xs.length * k.toNat ≤ sizeLine ∧
  ∀ p, H p = none → Q (.ref p) (upd H p (.lst (List.replicate k.toNat xs).flatten))
theorem g_flat {α β : Type} {F : α → β → Prop} {xs : List α} {ys : List β} (p : Paired F xs ys) : ∀ n : Nat, Paired F (List.replicate n xs).flatten (List.replicate n ys).flatten
  | 0 => .nil
  | n + 1 => by
    rw [List.replicate_succ, List.replicate_succ, List.flatten_cons, List.flatten_cons]
    exact Paired.app p (g_flat p n)
/-! == -/
def rEqZ (K : PySem.W.Frag) : R2 := fun x y H Q => rEq x y H Q ∨ rEqD K x y H Q
def rNeZ (K : PySem.W.Frag) : R2 := fun x y H Q => rNe x y H Q ∨ rNeD K x y H Q
theorem op_eqZ (hu : X.A.units + 64 < cLine) : OpR X (compareOp .Eq) (rEqZ X.K) := op_eq.or (op_eqD hu)
theorem op_neZ (hu : X.A.units + 64 < cLine) : OpR X (compareOp .NotEq) (rNeZ X.K) := op_ne.or (op_neD hu)
/-- == of data, where it is told -/
def eqD : PyData → PyData → Option Bool
  | .int i, .int j => some (decide (i = j))
  | .str i, .str j => some (decide (i = j))
  | .bool i, .bool j => some (decide (i = j))
  | .none, .none => some true
  | .int _, .none => some false
  | .none, .int _ => some false
  | .bool _, .none => some false
  | .none, .bool _ => some false
  | .str _, .none => some false
  | .none, .str _ => some false
  | .int _, .str _ => some false
  | .str _, .int _ => some false
  | .bool _, .str _ => some false
  | .str _, .bool _ => some false
  | d, e => if SeqAt.shaped d = true ∧ SeqAt.shaped e = true then some (PyData.eqv d e) else none
def gEq (x y : SV) (M : Mem) : Option (SV × Mem) := (rdD M x).bind fun d => (rdD M y).bind fun e => (eqD d e).map fun k => (.d (.bool k), M)
def gNe (x y : SV) (M : Mem) : Option (SV × Mem) := (rdD M x).bind fun d => (rdD M y).bind fun e => (eqD d e).map fun k => (.d (.bool (!k)), M)
theorem eqD_ok {d e : PyData} {k : Bool} {u v : V} (h : eqD d e = some k) (hx : DR K H d u) (hy : DR K H e v) :
    (scal u v = true ∧ decide (u = v) = k) ∨ (SeqAt.shaped d = true ∧ SeqAt.shaped e = true ∧ PyData.eqv d e = k) := by
  unfold eqD at h
  split at h <;> first
    | (obtain ⟨⟨h1, h2⟩, h⟩ := ite_some h; exact .inr ⟨h1, h2, h⟩)
    | (cases h; cases hx; cases hy; exact .inl ⟨rfl, by simp⟩)
theorem g_eq : G2 K (rEqZ K) gEq := fun x y M z M' h as B H R u v rx ry Q q => by
  simp only [gEq, Option.bind_eq_some_iff, Option.map_eq_some_iff] at h
  obtain ⟨d, h1, e, h2, k, h3, h4⟩ := h
  cases h4
  have hx := rdD_ok R rx h1
  have hy := rdD_ok R ry h2
  rcases eqD_ok h3 hx hy with ⟨h5, h6⟩ | ⟨h5, h6, h7⟩
  · refine .inl ⟨h5, ?_⟩
    rw [h6]
    exact q _ as B H (Lat.refl _ _ _) R (.bl _)
  · refine .inr ⟨d, e, DR.dp _ _ (SeqAt.canLay_of_shaped h5) hx, DR.dp _ _ (SeqAt.canLay_of_shaped h6) hy, h5, h6, ?_⟩
    rw [h7]
    exact q _ as B H (Lat.refl _ _ _) R (.bl _)
theorem g_ne : G2 K (rNeZ K) gNe := fun x y M z M' h as B H R u v rx ry Q q => by
  simp only [gNe, Option.bind_eq_some_iff, Option.map_eq_some_iff] at h
  obtain ⟨d, h1, e, h2, k, h3, h4⟩ := h
  cases h4
  have hx := rdD_ok R rx h1
  have hy := rdD_ok R ry h2
  rcases eqD_ok h3 hx hy with ⟨h5, h6⟩ | ⟨h5, h6, h7⟩
  · refine .inl ⟨h5, ?_⟩
    rw [h6]
    exact q _ as B H (Lat.refl _ _ _) R (.bl _)
  · refine .inr ⟨d, e, DR.dp _ _ (SeqAt.canLay_of_shaped h5) hx, DR.dp _ _ (SeqAt.canLay_of_shaped h6) hy, h5, h6, ?_⟩
    rw [h7]
    exact q _ as B H (Lat.refl _ _ _) R (.bl _)
/-! is None -/
def isN : SV → Bool
  | .d .none => true
  | _ => false
def gIsN (x y : SV) (M : Mem) : Option (SV × Mem) := if isN y = true then some (.d (.bool (isN x)), M) else none
def gNotN (x y : SV) (M : Mem) : Option (SV × Mem) := if isN y = true then some (.d (.bool (!isN x)), M) else none
theorem isN_ok {x : SV} {u : V} (h : VR K as B x u) : decide (u = .non) = isN x := by
  cases x with
  | loc n => obtain ⟨a, _, rfl⟩ := h; rfl
  | d y => cases h <;> rfl
theorem isN_non {x : SV} {u : V} (h : VR K as B x u) (e : isN x = true) : u = .non := by
  rw [← isN_ok h] at e
  exact of_decide_eq_true e
theorem g_isN : G2 K (fun x y H Q => y = .non ∧ Q (.bl (decide (x = .non))) H) gIsN := fun x y M z M' h as B H R u v rx ry Q q => by
  unfold gIsN at h
  obtain ⟨hy, h⟩ := ite_some h
  cases h
  refine ⟨isN_non ry hy, ?_⟩
  rw [isN_ok rx]
  exact q _ as B H (Lat.refl _ _ _) R (.bl _)
theorem g_notN : G2 K (fun x y H Q => y = .non ∧ Q (.bl (!decide (x = .non))) H) gNotN := fun x y M z M' h as B H R u v rx ry Q q => by
  unfold gNotN at h
  obtain ⟨hy, h⟩ := ite_some h
  cases h
  refine ⟨isN_non ry hy, ?_⟩
  rw [isN_ok rx]
  exact q _ as B H (Lat.refl _ _ _) R (.bl _)
/-! in -/
theorem roomD {A : Around} {ds : List PyData} {d : PyData} (sd : SeqAt.shaped d = true) (hu : A.units + 65 < cLine) : A.units + 1 + min (PyData.depthAll ds) d.depth < cLine := by
  have h1 := SeqAt.depth_of_shaped sd
  have h2 := Nat.min_le_right (PyData.depthAll ds) d.depth
  omega
def rInZ (K : PySem.W.Frag) (neg : Bool) : R2 := fun x y H Q => ∃ d ds, Dp K H x d ∧ (Dp K H y (.list ds) ∨ Dp K H y (.tuple ds)) ∧ SeqAt.shaped d = true ∧ SeqAt.shaped (.list ds) = true ∧ Q (.bl (if neg then !(ds.any fun z => PyData.eqv z d) else ds.any fun z => PyData.eqv z d)) H
theorem sh_lt {ds : List PyData} (h : SeqAt.shaped (.list ds) = true) : SeqAt.shaped (.tuple ds) = true := by
  simpa [SeqAt.shaped, PyData.canLay0, PyData.depth] using h
theorem op_inZ (hu : X.A.units + 65 < cLine) : OpR X (compareOp .In) (rInZ X.K false) := by
  intro pins s σ H x y v u Q I rx ry h
  obtain ⟨d, ds, hd, he, sd, se, q⟩ := h
  obtain ⟨as, r1⟩ := Dp.reads I d x v hd rx
  rcases he with he | he
  · obtain ⟨bs, r2⟩ := Dp.reads I (.list ds) y u he ry
    exact SeqAt.in_list_reads r2 r1 (SeqAt.canLay_of_shaped se) (SeqAt.canLay_of_shaped sd) (roomD sd hu) ⟨.bl _, H, I, rfl, q⟩
  · obtain ⟨bs, r2⟩ := Dp.reads I (.tuple ds) y u he ry
    exact SeqAt.in_tuple_reads r2 r1 (SeqAt.canLay_of_shaped se) (SeqAt.canLay_of_shaped sd) (roomD sd hu) ⟨.bl _, H, I, rfl, q⟩
theorem op_niZ (hu : X.A.units + 65 < cLine) : OpR X (compareOp .NotIn) (rInZ X.K true) := by
  intro pins s σ H x y v u Q I rx ry h
  obtain ⟨d, ds, hd, he, sd, se, q⟩ := h
  obtain ⟨as, r1⟩ := Dp.reads I d x v hd rx
  rcases he with he | he
  · obtain ⟨bs, r2⟩ := Dp.reads I (.list ds) y u he ry
    exact SeqAt.notIn_list_reads r2 r1 (SeqAt.canLay_of_shaped se) (SeqAt.canLay_of_shaped sd) (roomD sd hu) ⟨.bl _, H, I, rfl, q⟩
  · obtain ⟨bs, r2⟩ := Dp.reads I (.tuple ds) y u he ry
    exact SeqAt.notIn_tuple_reads r2 r1 (SeqAt.canLay_of_shaped se) (SeqAt.canLay_of_shaped sd) (roomD sd hu) ⟨.bl _, H, I, rfl, q⟩
def seqD : PyData → Option (List PyData)
  | .list ds => some ds
  | .tuple ds => some ds
  | _ => none
def gIn (neg : Bool) (x y : SV) (M : Mem) : Option (SV × Mem) := (rdD M x).bind fun d => (rdD M y).bind fun e => (seqD e).bind fun ds =>
  if SeqAt.shaped d = true ∧ SeqAt.shaped (.list ds) = true then some (.d (.bool (if neg then !(ds.any fun z => PyData.eqv z d) else ds.any fun z => PyData.eqv z d)), M) else none
theorem g_in {neg : Bool} : G2 K (rInZ K neg) (gIn neg) := fun x y M z M' h as B H R u v rx ry Q q => by
  simp only [gIn, Option.bind_eq_some_iff] at h
  obtain ⟨d, h1, e, h2, ds, h3, h4⟩ := h
  obtain ⟨⟨s1, s2⟩, h4⟩ := ite_some h4
  cases h4
  have hx := rdD_ok R rx h1
  have hy := rdD_ok R ry h2
  refine ⟨d, ds, DR.dp _ _ (SeqAt.canLay_of_shaped s1) hx, ?_, s1, s2, q _ as B H (Lat.refl _ _ _) R (.bl _)⟩
  cases e with
  | list es => cases h3; exact .inl (DR.dp _ _ (SeqAt.canLay_of_shaped s2) hy)
  | tuple es => cases h3; exact .inr (DR.dp _ _ (SeqAt.canLay_of_shaped (sh_lt s2)) hy)
  | _ => cases h3
/-! x[i] -/
def gIx : SV → SV → Mem → Option (SV × Mem)
  | .d (.str z), .d (.int i), M => if z.length ≤ sizeLine then (atI z.cps.toList i).map fun c => (.d (.str ⟨#[c]⟩), M) else none
  | .d (.tuple xs), .d (.int i), M => (atI xs i).map fun c => (.d c, M)
  | .d (.dict xs), .d (.int i), M => (atI xs i).map fun c => (.d c.2, M)
  | x, .d (.int i), M => (lstOf M x).bind fun xs => (atI xs i).map fun c => (c, M)
  | _, _, _ => none
theorem Paired.atI {α β : Type} {F : α → β → Prop} {xs : List α} {ys : List β} {i : Int} {x : α} (p : Paired F xs ys) (e : L2.atI xs i = some x) : ∃ y, L2.atI ys i = some y ∧ F x y := by
  unfold L2.atI at e ⊢
  rw [← p.length]
  simp only [Option.bind_eq_some_iff] at e ⊢
  obtain ⟨j, h1, h2⟩ := e
  obtain ⟨y, h3, h4⟩ := Z.Paired.at p h2
  exact ⟨y, ⟨j, h1, h3⟩, h4⟩
theorem g_ix : G2 K (rIx K) gIx := fun x y M z M' h as B H R u v rx ry Q q => by
  unfold gIx at h
  split at h
  · obtain ⟨hs, h⟩ := ite_opt h
    simp only [Option.map_eq_some_iff] at h
    obtain ⟨c, h1, h2⟩ := h
    cases h2
    rw [vr_str rx, vr_int ry]
    exact .inr (.inr ⟨_, _, _, rfl, rfl, hs, h1, q _ as B H (Lat.refl _ _ _) R (.str _)⟩)
  · simp only [Option.map_eq_some_iff] at h
    obtain ⟨c, h1, h2⟩ := h
    cases h2
    cases rx with
    | tup r p =>
      obtain ⟨w, h3, h4⟩ := Z.Paired.atI p h1
      rw [vr_int ry]
      exact .inr (.inl ⟨_, _, _, _, rfl, rfl, same_t R.ex r, h3, q _ as B H (Lat.refl _ _ _) R h4⟩)
  · simp only [Option.map_eq_some_iff] at h
    obtain ⟨c, h1, h2⟩ := h
    cases h2
    cases rx with
    | ro ns r =>
      rw [vr_int ry]
      have pp : ∀ ns : List Int, Paired (fun (p : PyData × PyData) (v : V) => DR K B p.2 v) (ns.map fun n => (.none, .int n)) (ns.map V.int) := fun ns => by
        induction ns with
        | nil => exact .nil
        | cons n r ih => exact .cons (.int n) ih
      obtain ⟨w, h3, h4⟩ := Z.Paired.atI (pp ns) h1
      exact .inl ⟨_, _, _, _, rfl, rfl, R.ex.seq r, h3, q _ as B H (Lat.refl _ _ _) R h4⟩
  · simp only [Option.bind_eq_some_iff, Option.map_eq_some_iff] at h
    obtain ⟨xs, h0, c, h1, h2⟩ := h
    cases h2
    obtain ⟨a, vs, rfl, r, p⟩ := lstOf_ok R rx h0
    obtain ⟨w, h3, h4⟩ := Z.Paired.atI p h1
    rw [vr_int ry]
    exact .inl ⟨_, _, _, _, rfl, rfl, .inl r, h3, q _ as B H (Lat.refl _ _ _) R h4⟩
  · cases h
/-! slices -/
abbrev Fo := Gm → Mem → Option (Option Int × Mem)
def RO : List Addr → Hp → Option Int → Option Int → Prop := fun _ _ b c => b = c
structure POd (X : Cx) (e : Option Expr) (f : Fo) : Prop where
  pe : PO X e (cn X.K RO f)
theorem POd.of {X : Cx} {e : Option Expr} {t : TO} {f : Fo} (h : PO X e t) (j : J X.K RO t f) : POd X e f := ⟨⟨fun pins s σ H Q I c => h.run pins s σ H Q I (j.use c)⟩⟩
theorem POd.j {X : Cx} {e : Option Expr} {f : Fo} (_ : POd X e f) : J X.K RO (cn X.K RO f) f := j_cn
def fNoP : Fo := fun _ M => some (none, M)
def intOf : SV → Option Int
  | .d (.int i) => some i
  | _ => none
theorem intOf_ok {x : SV} {i : Int} {u : V} (h : VR K as B x u) (e : intOf x = some i) : u = .int i := by
  cases x with
  | loc n => cases e
  | d y =>
    cases y with
    | int j => cases e; exact vr_int h
    | _ => cases e
def fPart (a : Fe) : Fo := fun Γ M => (a Γ M).bind fun p => (intOf p.1).map fun i => (some i, p.2)
theorem znop : POd X none fNoP := .of (po_none) (fun Γ M _ M' e as B σ H R G Q q => by
  cases e
  exact q _ as B H (Lat.refl _ _ _) R rfl)
theorem zpart {e : Expr} {fa : Fe} (h : PEd X e fa) : POd X (some e) (fPart fa) := .of (po_some h.pe) (fun Γ M z M' e as B σ H R G Q q => by
  simp only [fPart, Option.bind_eq_some_iff, Option.map_eq_some_iff] at e
  obtain ⟨⟨x, M1⟩, h1, i, h2, h3⟩ := e
  cases h3
  exact h.j Γ M x _ h1 as B σ H R G _ fun u as1 B1 H1 L1 R1 r1 => ⟨i, intOf_ok r1 h2, q _ as1 B1 H1 L1 R1 rfl⟩)
def cutG {α : Type} (xs : List α) (lo hi : Option Int) : List α := (xs.drop (HT.sIx xs.length 0 lo)).take (HT.sIx xs.length xs.length hi - HT.sIx xs.length 0 lo)
theorem Paired.cut {α : Type} {F : α → V → Prop} {xs : List α} {ys : List V} (p : Paired F xs ys) (lo hi : Option Int) : Paired F (cutG xs lo hi) (cutV ys lo hi) := by
  unfold cutG cutV
  rw [← p.length]
  exact Z.Paired.tak _ (Z.Paired.drp _ p)
theorem cutG_whole {α : Type} {xs : List α} {lo hi : Option Int} (h : HT.sIx xs.length 0 lo = 0 ∧ HT.sIx xs.length xs.length hi = xs.length) : cutG xs lo hi = xs := by
  unfold cutG
  rw [h.1, h.2]
  simp
def gSl (x : SV) (lo hi : Option Int) (M : Mem) : Option (SV × Mem) := match x with
  | .d (.tuple xs) => some (.d (.tuple (cutG xs lo hi)), M)
  | x => (lstOf M x).bind fun xs => (allD (cutG xs lo hi)).map fun ds => (.d (.list ds), M)
def rSlZ (K : PySem.W.Frag) : V → Option Int → Option Int → Hp → VK → Prop := fun x lo hi H Q => rSlA K x lo hi H Q ∨ rSlL K x lo hi H Q
theorem sl_Z : SlR X (rSlZ X.K) := sl_tupA.or sl_list
theorem g_sl {x : SV} {lo hi : Option Int} {z : SV} {M' : Mem} (h : gSl x lo hi M = some (z, M')) (R : Rel K as B M H) {u : V} (rx : VR K as B x u) {Q : VK}
    (q : ∀ (w : V) (as' : List Addr) (B' H' : Hp), Lat as B H as' B' H' → Rel K as' B' M' H' → VR K as' B' z w → Q w H') : rSlZ K u lo hi H Q := by
  unfold gSl at h
  split at h
  · cases h
    cases rx with
    | @tup a vs ds r p =>
      refine .inl ⟨a, vs, rfl, same_t R.ex r, fun e => ?_, fun _ t ht => ?_⟩
      · rw [← p.length] at e
        rw [cutG_whole e] at q
        exact q _ as B H (Lat.refl _ _ _) R (.tup r p)
      · obtain ⟨B', R', L', w⟩ := R.tupD ht (Z.Paired.cut p lo hi)
        exact q _ as B' _ L' R' w
  · simp only [Option.bind_eq_some_iff, Option.map_eq_some_iff] at h
    obtain ⟨xs, h0, ds, h1, h2⟩ := h
    cases h2
    obtain ⟨a, vs, rfl, r, p⟩ := lstOf_ok R rx h0
    refine .inr ⟨a, vs, rfl, .inl r, fun t ht => ?_⟩
    have pp : Paired (DR K B) ds (cutV vs lo hi) := drs_of (as := as) (by rw [← allD_some h1]; exact Z.Paired.cut p lo hi)
    obtain ⟨B', R', L', w⟩ := R.lstD ht pp
    exact q _ as B' _ L' R' w
def fSl (a : Fe) (lo hi : Fo) : Fe := fun Γ M => (a Γ M).bind fun p => (lo Γ p.2).bind fun l => (hi Γ l.2).bind fun h => gSl p.1 l.1 h.1 h.2
theorem zsl {e : Expr} {lo hi : Option Expr} {fa : Fe} {fl fh : Fo} {p2 pos : Pos} (he : PEd X e fa) (hl : POd X lo fl) (hu : POd X hi fh) : PEd X (.Subscript e (.Slice lo hi none p2) pos) (fSl fa fl fh) :=
  .of (pe_slice sl_Z he.pe hl.pe hu.pe) (fun Γ M z M' h as B σ H R G Q q => by
    simp only [fSl, Option.bind_eq_some_iff] at h
    obtain ⟨⟨x, M1⟩, h1, ⟨l, M2⟩, h2, ⟨g, M3⟩, h3, h4⟩ := h
    refine he.j Γ M x _ h1 as B σ H R G _ fun u as1 B1 H1 L1 R1 r1 => ?_
    refine hl.j Γ M1 l _ h2 as1 B1 σ H1 R1 (G.mono L1) _ fun l' as2 B2 H2 L2 R2 r2 => ?_
    refine hu.j Γ M2 g _ h3 as2 B2 σ H2 R2 ((G.mono L1).mono L2) _ fun g' as3 B3 H3 L3 R3 r3 => ?_
    cases r2
    cases r3
    exact g_sl h4 R3 ((r1.mono L2).mono L3) fun w as4 B4 H4 L4 R4 r4 => q w as4 B4 H4 (((L1.trans L2).trans L3).trans L4) R4 r4)
end
end Z
namespace Z
open PySem L2
section
variable {X : Cx} {K : PySem.W.Frag} {as : List Addr} {B H : Hp} {M : Mem}
/-! * -/
theorem op_repR : OpR X (binaryOp .Mult) rRepR := by
  intro pins s σ H x y v u Q I rx ry h
  obtain ⟨l, k, xs, rfl, rfl, hH, h1, h2, hz, q⟩ := h
  cases rx
  obtain ⟨t, rfl⟩ := ry
  obtain ⟨z, its, n, r, e⟩ := hH.ok I.hok
  have hl := r.length
  have hlen : its.toArray.size * k.toNat ≤ sizeLine := by rw [List.size_toArray, ← hl]; exact hz
  have hcap : ¬ its.toArray.size * k.toNat > (2 ^ 63 - 1) / 8 := by
    have : (sizeLine : Nat) ≤ (2 ^ 63 - 1) / 8 := by decide
    omega
  have hfit : ¬ (!Builtin.List.listFitsIndex k) = true := by
    rw [fitsIndex_both h1 h2]
    exact Bool.false_ne_true
  have hlong : ¬ Builtin.List.listTooLong (its.toArray.size * k.toNat) = true := by
    rw [notLongL hlen]
    exact Bool.false_ne_true
  have hnew : List.foldl (fun x1 x2 => x1 ++ x2) #[] (List.replicate (if its.toArray.isEmpty = true then 0 else k.toNat) its.toArray) = (List.replicate k.toNat its).flatten.toArray := by
    have f0 : ∀ m : Nat, List.foldl (fun x1 x2 => x1 ++ x2) #[] (List.replicate m its.toArray) = (List.replicate m its).flatten.toArray := fun m => by
      have := foldl_rep its m []
      rw [List.nil_append] at this
      exact this
    rw [f0]
    cases its with
    | nil => simp
    | cons a r' => rw [if_neg (by simp)]
  refine wpAny_binaryOp_repeat_ref (T := "list") (U := "int") (by decide) ⟨_, e, rfl⟩ (fun s' => typeIs_int s' k t) noFill_list_mul F.fills_int_mul F.slot_int_rmul repeat_list F.slot_int_index.lookup
    (call_meets F.slot_int_rmul (typeIs_int s k t) F.entry_int_rmul (F.args_int_rmul_2 _ _) (int___rmul___int_list k t l its.toArray n)
      ⟨e, rfl, ⟨_, e, rfl⟩, call_meets F.slot_list_mul ⟨_, e, rfl⟩ F.entry_list_mul (F.args_list_mul_2 _ _) (AutoListH.list___mul___list_int_3 l its.toArray n k t hfit hcap hlong) ⟨e, ?_⟩⟩)
  rw [hnew]
  exact ⟨.ref _, _, I.lnew (t' := s.toks) (r.rep k.toNat) (by rw [PyProof.Rows.lm_len_rep_flat, Nat.mul_comm]; exact hz), rfl, q _ I.fresh⟩
def rMulZ : R2 := fun x y H Q => rI CMul (fun i j => .int (i * j)) x y H Q ∨ rI CMulW (fun i j => .int (i * j)) x y H Q ∨ rRepR x y H Q
theorem op_mulZ : OpR X (binaryOp .Mult) rMulZ := op_mul.or (op_mulW.or op_repR)
instance (i j : Int) : Decidable (CMul i j) := by unfold CMul; exact inferInstance
def gMul : SV → SV → Mem → Option (SV × Mem)
  | .d (.int i), .d (.int j), M => if CMul i j ∨ CMulW i j then some (.d (.int (i * j)), M) else none
  | x, .d (.int k), M => (lstOf M x).bind fun xs => if -(2 ^ 63) ≤ k ∧ k < 2 ^ 63 ∧ xs.length * k.toNat ≤ sizeLine then (allD (List.replicate k.toNat xs).flatten).map fun ds => (.d (.list ds), M) else none
  | _, _, _ => none
theorem g_mul : G2 K rMulZ gMul := fun x y M z M' h as B H R u v rx ry Q q => by
  unfold gMul at h
  split at h
  · obtain ⟨hc, h⟩ := ite_some h
    cases h
    rw [vr_int rx, vr_int ry]
    rcases hc with hc | hc
    · exact .inl ⟨_, _, rfl, rfl, hc, q _ as B H (Lat.refl _ _ _) R (.int _)⟩
    · exact .inr (.inl ⟨_, _, rfl, rfl, hc, q _ as B H (Lat.refl _ _ _) R (.int _)⟩)
  · simp only [Option.bind_eq_some_iff] at h
    obtain ⟨xs, h0, h⟩ := h
    obtain ⟨⟨c1, c2, c3⟩, h⟩ := ite_opt h
    simp only [Option.map_eq_some_iff] at h
    obtain ⟨ds, h1, h2⟩ := h
    cases h2
    obtain ⟨a, vs, rfl, r, p⟩ := lstOf_ok R rx h0
    rw [vr_int ry]
    refine .inr (.inr ⟨a, _, vs, rfl, rfl, r, c1, c2, by rw [← p.length]; exact c3, fun t ht => ?_⟩)
    have pp : Paired (DR K B) ds (List.replicate _ vs).flatten := drs_of (as := as) (by rw [← allD_some h1]; exact g_flat p _)
    obtain ⟨B', R', L', w⟩ := R.lstD ht pp
    exact q _ as B' _ L' R' w
  · cases h
/-! calls of built-ins -/
def fCB (g : List SV → Mem → Option (SV × Mem)) (t : Fa) : Fe := fun Γ M => (t Γ M).bind fun p => g p.1 p.2
theorem j_cb {r : List V → Hp → VK → Prop} {g : List SV → Mem → Option (SV × Mem)} {t : TA} {f : Fa} (hg : GA K r g) (ht : J K (RA K) t f) : J K (VR K) (tCB r t) (fCB g f) := fun Γ M z M' h as B σ H R G Q q => by
  simp only [fCB, Option.bind_eq_some_iff] at h
  obtain ⟨⟨x, M1⟩, h1, h2⟩ := h
  exact ht Γ M x _ h1 as B σ H R G _ fun u as1 B1 H1 L1 R1 r1 => hg x M1 z M' h2 as1 B1 H1 R1 u r1 Q fun w as2 B2 H2 L2 R2 r2 => q w as2 B2 H2 (L1.trans L2) R2 r2
theorem zcb {r : List V → Hp → VK → Prop} {g : List SV → Mem → Option (SV × Mem)} {f : Fa} {id : String} {x : Str} {e : Expr} {es : List Expr} {p pos : Pos} (hc : CallR X (.builtin id) r) (hr : GA X.K r g) (hg : Gl X x) (hm : X.mg x = none) (hv : bootBuiltins x = some (.builtin id)) (ha : PAd X (e :: es) f) (hn : x ≠ "__name__" := by decide) (hdb : (x == ("__debug__" : Str)) = false := by decide)
    (he : starEach (e :: es) X.env = (false, eval e X.env) :: starEach es X.env := by rfl) (hpl : (backTo pos (starEach es X.env)).any (·.1) = false := by rfl) : PEd X (.Call (.Name x p) (e :: es) [] pos) (fCB g f) :=
  .of (pe_callB hc hg hm hv ha.pe hn hdb he hpl) (j_cb hr ha.j)
theorem zcty {r : List V → Hp → VK → Prop} {g : List SV → Mem → Option (SV × Mem)} {f : Fa} {T : String} {x : Str} {e : Expr} {es : List Expr} {p pos : Pos} (hc : CallR X (.type T) r) (hr : GA X.K r g) (hg : Gl X x) (hm : X.mg x = none) (hv : bootBuiltins x = some (.type T)) (ha : PAd X (e :: es) f) (hn : x ≠ "__name__" := by decide) (hdb : (x == ("__debug__" : Str)) = false := by decide)
    (he : starEach (e :: es) X.env = (false, eval e X.env) :: starEach es X.env := by rfl) (hpl : (backTo pos (starEach es X.env)).any (·.1) = false := by rfl) : PEd X (.Call (.Name x p) (e :: es) [] pos) (fCB g f) :=
  .of (pe_callTy hc hg hm hv ha.pe hn hdb he hpl) (j_cb hr ha.j)
theorem pr1 {α β : Type} {F : α → β → Prop} {x : α} {ys : List β} (h : Paired F [x] ys) : ∃ y, ys = [y] ∧ F x y := by
  cases h with
  | cons p q => cases q; exact ⟨_, rfl, p⟩
theorem pr2 {α β : Type} {F : α → β → Prop} {x x' : α} {ys : List β} (h : Paired F [x, x'] ys) : ∃ y y', ys = [y, y'] ∧ F x y ∧ F x' y' := by
  cases h with
  | cons p q =>
    obtain ⟨y', rfl, p'⟩ := pr1 q
    exact ⟨_, _, rfl, p, p'⟩
/-- the items of a list or a tuple, and whether it is a list -/
def seqOf (M : Mem) : SV → Option (List SV)
  | .d (.tuple xs) => some (xs.map .d)
  | s => lstOf M s
theorem seqOf_ok {s : SV} {v : V} {xs : List SV} (R : Rel K as B M H) (h : VR K as B s v) (e : seqOf M s = some xs) : ∃ a vs, v = .ref a ∧ (SqL K H a vs ∨ SqT K H a vs) ∧ Paired (VR K as B) xs vs := by
  unfold seqOf at e
  split at e
  · cases e
    cases h with
    | tup r p => exact ⟨_, _, rfl, .inr (same_t R.ex r), vrs_d p⟩
  · obtain ⟨a, vs, rfl, r, p⟩ := lstOf_ok R h e
    exact ⟨a, vs, rfl, .inl (.inl r), p⟩
def rLenZ (K : PySem.W.Frag) : List V → Hp → VK → Prop := fun xs H Q => (∃ p ys, xs = [.ref p] ∧ (SqL K H p ys ∨ SqT K H p ys) ∧ Q (.int ys.length) H) ∨ (∃ z, xs = [.str z] ∧ z.length ≤ sizeLine ∧ Q (.int z.length) H)
theorem call_lenZ : CallR X (.builtin "len") (rLenZ X.K) := call_len_seq.or call_len_str
def gLen : List SV → Mem → Option (SV × Mem)
  | [.d (.str z)], M => if z.length ≤ sizeLine then some (.d (.int z.length), M) else none
  | [.d (.dict xs)], M => some (.d (.int xs.length), M)
  | [s], M => (seqOf M s).map fun xs => (.d (.int xs.length), M)
  | _, _ => none
theorem g_len : GA K (rLenZ K) gLen := fun x M z M' h as B H R u rx Q q => by
  unfold gLen at h
  split at h
  · obtain ⟨hs, h⟩ := ite_some h
    cases h
    obtain ⟨y, rfl, r⟩ := pr1 rx
    rw [vr_str r]
    exact .inr ⟨_, rfl, hs, q _ as B H (Lat.refl _ _ _) R (.int _)⟩
  · cases h
    obtain ⟨y, rfl, r⟩ := pr1 rx
    cases r with
    | ro ns r =>
      refine .inl ⟨_, _, rfl, .inl (R.ex.seq r), ?_⟩
      have e : (((ns.map V.int).length : Nat) : Int) = (((ns.map fun n => ((.none, .int n) : PyData × PyData)).length : Nat) : Int) := by rw [List.length_map, List.length_map]
      rw [e]
      exact q _ as B H (Lat.refl _ _ _) R (.int _)
  · simp only [Option.map_eq_some_iff] at h
    obtain ⟨xs, h1, h2⟩ := h
    cases h2
    obtain ⟨y, rfl, r⟩ := pr1 rx
    obtain ⟨a, vs, rfl, r', p⟩ := seqOf_ok R r h1
    refine .inl ⟨a, vs, rfl, r', ?_⟩
    rw [← p.length]
    exact q _ as B H (Lat.refl _ _ _) R (.int _)
  · cases h
def gAbs : List SV → Mem → Option (SV × Mem)
  | [.d (.int i)], M => some (.d (.int (if i < 0 then -i else i)), M)
  | _, _ => none
theorem g_abs : GA K (fun xs H Q => ∃ i, xs = [.int i] ∧ Q (.int (if i < 0 then -i else i)) H) gAbs := fun x M z M' h as B H R u rx Q q => by
  unfold gAbs at h
  split at h
  · cases h
    obtain ⟨y, rfl, r⟩ := pr1 rx
    rw [vr_int r]
    exact ⟨_, rfl, q _ as B H (Lat.refl _ _ _) R (.int _)⟩
  · cases h
def gInt : List SV → Mem → Option (SV × Mem)
  | [.d (.int i)], M => some (.d (.int i), M)
  | [.d (.bool b)], M => some (.d (.int (if b then 1 else 0)), M)
  | _, _ => none
theorem g_int : GA K (fun xs H Q => (∃ i, xs = [.int i] ∧ Q (.int i) H) ∨ ∃ k, xs = [.bl k] ∧ Q (.int (if k then 1 else 0)) H) gInt := fun x M z M' h as B H R u rx Q q => by
  unfold gInt at h
  split at h
  · cases h
    obtain ⟨y, rfl, r⟩ := pr1 rx
    rw [vr_int r]
    exact .inl ⟨_, rfl, q _ as B H (Lat.refl _ _ _) R (.int _)⟩
  · cases h
    obtain ⟨y, rfl, r⟩ := pr1 rx
    rw [vr_bl r]
    exact .inr ⟨_, rfl, q _ as B H (Lat.refl _ _ _) R (.int _)⟩
  · cases h
def gMin2 : List SV → Mem → Option (SV × Mem)
  | [.d (.int i), .d (.int j)], M => some (.d (.int (if j < i then j else i)), M)
  | _, _ => none
theorem g_min2 : GA K (fun xs H Q => ∃ i j, xs = [.int i, .int j] ∧ Q (.int (if j < i then j else i)) H) gMin2 := fun x M z M' h as B H R u rx Q q => by
  unfold gMin2 at h
  split at h
  · cases h
    obtain ⟨y, y', rfl, r, r'⟩ := pr2 rx
    rw [vr_int r, vr_int r']
    exact ⟨_, _, rfl, q _ as B H (Lat.refl _ _ _) R (.int _)⟩
  · cases h
def gMax2 : List SV → Mem → Option (SV × Mem)
  | [.d (.int i), .d (.int j)], M => some (.d (.int (if j > i then j else i)), M)
  | _, _ => none
theorem g_max2 : GA K (fun xs H Q => ∃ i j, xs = [.int i, .int j] ∧ Q (.int (if j > i then j else i)) H) gMax2 := fun x M z M' h as B H R u rx Q q => by
  unfold gMax2 at h
  split at h
  · cases h
    obtain ⟨y, y', rfl, r, r'⟩ := pr2 rx
    rw [vr_int r, vr_int r']
    exact ⟨_, _, rfl, q _ as B H (Lat.refl _ _ _) R (.int _)⟩
  · cases h
/-- list(x), tuple(x) -/
def gListOf : List SV → Mem → Option (SV × Mem)
  | [s], M => (seqOf M s).bind fun xs => (allD xs).map fun ds => (.d (.list ds), M)
  | _, _ => none
theorem g_listOf : GA K (fun xs H Q => ∃ p ys, xs = [.ref p] ∧ (SqL K H p ys ∨ SqT K H p ys) ∧ ∀ l, H l = none → Q (.ref l) (upd H l (.lst ys))) gListOf := fun x M z M' h as B H R u rx Q q => by
  unfold gListOf at h
  split at h
  · simp only [Option.bind_eq_some_iff, Option.map_eq_some_iff] at h
    obtain ⟨xs, h0, ds, h1, h2⟩ := h
    cases h2
    obtain ⟨y, rfl, r⟩ := pr1 rx
    obtain ⟨a, vs, rfl, r', p⟩ := seqOf_ok R r h0
    refine ⟨a, vs, rfl, r', fun t ht => ?_⟩
    have pp : Paired (DR K B) ds vs := drs_of (as := as) (by rw [← allD_some h1]; exact p)
    obtain ⟨B', R', L', w⟩ := R.lstD ht pp
    exact q _ as B' _ L' R' w
  · cases h
/-- list(x) that may change -/
def gListM : List SV → Mem → Option (SV × Mem)
  | [s], M => (seqOf M s).map fun xs => (.loc M.length, M ++ [.lst xs])
  | _, _ => none
theorem g_listM : GA K (fun xs H Q => ∃ p ys, xs = [.ref p] ∧ (SqL K H p ys ∨ SqT K H p ys) ∧ ∀ l, H l = none → Q (.ref l) (upd H l (.lst ys))) gListM := fun x M z M' h as B H R u rx Q q => by
  unfold gListM at h
  split at h
  · simp only [Option.map_eq_some_iff] at h
    obtain ⟨xs, h0, h2⟩ := h
    cases h2
    obtain ⟨y, rfl, r⟩ := pr1 rx
    obtain ⟨a, vs, rfl, r', p⟩ := seqOf_ok R r h0
    refine ⟨a, vs, rfl, r', fun t ht => ?_⟩
    obtain ⟨R', L'⟩ := R.newL (o := .lst vs) (mo := .lst xs) ht ⟨vs, upd_same, p⟩
    refine q _ _ _ _ L' R' ⟨t, ?_, rfl⟩
    rw [← R.len, List.getElem?_append_right (Nat.le_refl _), Nat.sub_self]
    rfl
  · cases h
def gTupOf : List SV → Mem → Option (SV × Mem)
  | [s], M => (seqOf M s).bind fun xs => (allD xs).map fun ds => (.d (.tuple ds), M)
  | _, _ => none
theorem g_tupOf : GA K (fun xs H Q => ∃ p ys, xs = [.ref p] ∧ ((SqL K H p ys ∧ ∀ l, H l = none → Q (.ref l) (upd H l (.tup ys))) ∨ (SqT K H p ys ∧ Q (.ref p) H))) gTupOf := fun x M z M' h as B H R u rx Q q => by
  unfold gTupOf at h
  split at h
  · simp only [Option.bind_eq_some_iff, Option.map_eq_some_iff] at h
    obtain ⟨xs, h0, ds, h1, h2⟩ := h
    cases h2
    obtain ⟨y, rfl, r⟩ := pr1 rx
    have cs : ∀ s y, seqOf M s = some xs → VR K as B s y → (∃ ds, s = .d (.tuple ds)) ∨ lstOf M s = some xs := fun s y h r => by
      unfold seqOf at h
      split at h
      · exact .inl ⟨_, rfl⟩
      · exact .inr h
    rcases cs _ _ h0 r with ⟨es, rfl⟩ | h3
    · cases h0
      rw [allD_map] at h1
      cases h1
      cases r with
      | tup r p => exact ⟨_, _, rfl, .inr ⟨same_t R.ex r, q _ as B H (Lat.refl _ _ _) R (.tup r p)⟩⟩
    · obtain ⟨a, vs, rfl, r', p⟩ := lstOf_ok R r h3
      refine ⟨a, vs, rfl, .inl ⟨.inl r', fun t ht => ?_⟩⟩
      have pp : Paired (DR K B) ds vs := drs_of (as := as) (by rw [← allD_some h1]; exact p)
      obtain ⟨B', R', L', w⟩ := R.tupD ht pp
      exact q _ as B' _ L' R' w
  · cases h
/-! all, any of a list of truth values -/
def boolsOf : List SV → Option (List Bool)
  | [] => some []
  | .d (.bool b) :: r => (boolsOf r).map (b :: ·)
  | _ => none
theorem boolsOf_ok : ∀ {xs : List SV} {bs : List Bool} {vs : List V}, boolsOf xs = some bs → Paired (VR K as B) xs vs → vs = bs.map V.bl
  | [], _, _, h, p => by cases h; cases p; rfl
  | .d (.bool b) :: r, _, _, h, p => by
    simp only [boolsOf, Option.map_eq_some_iff] at h
    obtain ⟨cs, h1, rfl⟩ := h
    cases p with
    | cons p q =>
      rw [boolsOf_ok h1 q, vr_bl p]
      rfl
def gAll : List SV → Mem → Option (SV × Mem)
  | [s], M => (lstOf M s).bind fun xs => (boolsOf xs).map fun bs => (.d (.bool (bs.all id)), M)
  | _, _ => none
def gAny : List SV → Mem → Option (SV × Mem)
  | [s], M => (lstOf M s).bind fun xs => (boolsOf xs).map fun bs => (.d (.bool (bs.any id)), M)
  | _, _ => none
theorem g_all : GA K (rAll K) gAll := fun x M z M' h as B H R u rx Q q => by
  unfold gAll at h
  split at h
  · simp only [Option.bind_eq_some_iff, Option.map_eq_some_iff] at h
    obtain ⟨xs, h0, bs, h1, h2⟩ := h
    cases h2
    obtain ⟨y, rfl, r⟩ := pr1 rx
    obtain ⟨a, vs, rfl, r', p⟩ := lstOf_ok R r h0
    refine ⟨a, bs, rfl, ?_, q _ as B H (Lat.refl _ _ _) R (.bl _)⟩
    rw [← boolsOf_ok h1 p]
    exact .inl r'
  · cases h
theorem g_any : GA K (rAny K) gAny := fun x M z M' h as B H R u rx Q q => by
  unfold gAny at h
  split at h
  · simp only [Option.bind_eq_some_iff, Option.map_eq_some_iff] at h
    obtain ⟨xs, h0, bs, h1, h2⟩ := h
    cases h2
    obtain ⟨y, rfl, r⟩ := pr1 rx
    obtain ⟨a, vs, rfl, r', p⟩ := lstOf_ok R r h0
    refine ⟨a, bs, rfl, ?_, q _ as B H (Lat.refl _ _ _) R (.bl _)⟩
    rw [← boolsOf_ok h1 p]
    exact .inl r'
  · cases h
/-! isinstance -/
inductive Ty where
  | non | bool | int | str | list | tuple
  deriving DecidableEq
def Ty.name : Ty → String
  | .non => "NoneType" | .bool => "bool" | .int => "int" | .str => "str" | .list => "list" | .tuple => "tuple"
def tyS (M : Mem) : SV → Option Ty
  | .d .none => some .non
  | .d (.bool _) => some .bool
  | .d (.int _) => some .int
  | .d (.str _) => some .str
  | .d (.list _) => some .list
  | .d (.tuple _) => some .tuple
  | .d (.dict _) => none
  | .loc n => match M[n]? with
    | some (.lst _) => some .list
    | _ => none
def isTy (a b : Ty) : Bool := decide (a = b) || (decide (a = .bool) && decide (b = .int))
theorem kit_isTy (a b : Ty) (h : b ≠ .non) : PySem.W.kitOne K (.type a.name) (.type b.name) = some (isTy a b) := by
  cases b <;> first
    | exact absurd rfl h
    | (cases a <;> exact kit_ty (by decide +kernel))
theorem rd_ty {a : Addr} {vs : List V} (r : Rd H a (.lst vs)) : TyX K H (.ref a) (.type "list") := by
  rcases r with r | ⟨o, r⟩
  · exact .base (.lst r)
  · exact .base (.frz r)
theorem sq_ty {a : Addr} {vs : List V} (r : SqT K H a vs) : TyX K H (.ref a) (.type "tuple") := by
  rcases r with (r | ⟨o, r⟩) | ⟨o, its, n, r, c, _⟩
  · exact .base (.tup r)
  · exact .fTuple r
  · exact .kTuple r c
theorem tyS_ok {s : SV} {v : V} {t : Ty} (R : Rel K as B M H) (h : VR K as B s v) (e : tyS M s = some t) : TyX K H v (.type t.name) := by
  cases s with
  | d x =>
    cases h with
    | non => cases e; exact .base .non
    | bl b => cases e; exact .base (.bl _)
    | int i => cases e; exact .base (.int _)
    | str z => cases e; exact .base (.str _)
    | lst r p => cases e; exact rd_ty (same_rd R.ex r)
    | tup r p => cases e; exact sq_ty (same_t R.ex r)
    | ro ns r => cases e
  | loc n =>
    obtain ⟨a, ea, rfl⟩ := h
    simp only [tyS] at e
    cases q : M[n]? with
    | none => rw [q] at e; cases e
    | some mo =>
      rw [q] at e
      cases mo with
      | lst ys =>
        cases e
        obtain ⟨vs, h1, h2⟩ := R.obj n a _ ea q
        exact rd_ty (.inl h1)
      | _ => cases e
def fIsi (t : Ty) (a : Fe) : Fe := fun Γ M => (a Γ M).bind fun p => (tyS p.2 p.1).map fun s => (.d (.bool (isTy s t)), p.2)
theorem zisi {t : Ty} {fa : Fe} {e : Expr} {x y : Str} {p p2 pos : Pos} (ht : t ≠ .non) (hg : Gl X "isinstance") (hm : X.mg "isinstance" = none) (hgy : Gl X y) (hmy : X.mg y = none) (hv : bootBuiltins y = some (.type t.name)) (ha : PEd X e fa)
    (hny : y ≠ "__name__" := by decide) (hdy : (y == ("__debug__" : Str)) = false := by decide)
    (hs : starEach [e, .Name y p2] X.env = (false, eval e X.env) :: starEach [.Name y p2] X.env := by rfl) (hs2 : starEach [.Name y p2] X.env = (false, eval (.Name y p2) X.env) :: starEach [] X.env := by rfl) (hpl : (backTo pos (starEach [.Name y p2] X.env)).any (·.1) = false := by rfl) :
    PEd X (.Call (.Name "isinstance" p) [e, .Name y p2] [] pos) (fIsi t fa) :=
  .of (pe_callB call_isi hg hm (by decide +kernel) (pa_cons ha.pe (pa_cons (pe_bltn (v := .ty t.name) hgy hmy hv rfl hny hdy) pa_nil hs2) hs) (by decide) (by decide) hs hpl) (fun Γ M z M' h as B σ H R G Q q => by
    simp only [fIsi, Option.bind_eq_some_iff, Option.map_eq_some_iff] at h
    obtain ⟨⟨s, M1⟩, h1, ty, h2, h3⟩ := h
    cases h3
    refine ha.j Γ M s _ h1 as B σ H R G _ fun u as1 B1 H1 L1 R1 r1 => ?_
    exact ⟨u, _, _, _, _, rfl, .ty _, tyS_ok R1 r1 h2, kit_isTy ty t ht, q _ as1 B1 H1 L1 R1 (.bl _)⟩)
def fIsi2 (t t' : Ty) (a : Fe) : Fe := fun Γ M => (a Γ M).bind fun p => (tyS p.2 p.1).map fun s => (.d (.bool (isTy s t || isTy s t')), p.2)
theorem zisi2 {t t' : Ty} {fa : Fe} {e : Expr} {x y y' : Str} {p p2 p2' p3 pos : Pos} {kk} (ht : t ≠ .non) (ht' : t' ≠ .non) (hg : Gl X "isinstance") (hm : X.mg "isinstance" = none) (hgy : Gl X y) (hmy : X.mg y = none) (hv : bootBuiltins y = some (.type t.name)) (hgy' : Gl X y') (hmy' : X.mg y' = none) (hv' : bootBuiltins y' = some (.type t'.name)) (ha : PEd X e fa)
    (hny : y ≠ "__name__" := by decide) (hdy : (y == ("__debug__" : Str)) = false := by decide) (hny' : y' ≠ "__name__" := by decide) (hdy' : (y' == ("__debug__" : Str)) = false := by decide)
    (hs : starEach [e, .Tuple [.Name y p2, .Name y' p2'] kk p3] X.env = (false, eval e X.env) :: starEach [.Tuple [.Name y p2, .Name y' p2'] kk p3] X.env := by rfl) (hs2 : starEach [.Tuple [.Name y p2, .Name y' p2'] kk p3] X.env = (false, eval (.Tuple [.Name y p2, .Name y' p2'] kk p3) X.env) :: starEach [] X.env := by rfl)
    (hs3 : starEach [.Name y p2, .Name y' p2'] X.env = (false, eval (.Name y p2) X.env) :: starEach [.Name y' p2'] X.env := by rfl) (hs4 : starEach [.Name y' p2'] X.env = (false, eval (.Name y' p2') X.env) :: starEach [] X.env := by rfl)
    (hpl : (backTo pos (starEach [.Tuple [.Name y p2, .Name y' p2'] kk p3] X.env)).any (·.1) = false := by rfl) :
    PEd X (.Call (.Name "isinstance" p) [e, .Tuple [.Name y p2, .Name y' p2'] kk p3] [] pos) (fIsi2 t t' fa) :=
  .of (pe_callB call_isiT hg hm (by decide +kernel) (pa_cons ha.pe (pa_cons (pe_tup (pa_cons (pe_bltn (v := .ty t.name) hgy hmy hv rfl hny hdy) (pa_cons (pe_bltn (v := .ty t'.name) hgy' hmy' hv' rfl hny' hdy') pa_nil hs4) hs3)) pa_nil hs2) hs) (by decide) (by decide) hs hpl) (fun Γ M z M' h as B σ H R G Q q => by
    simp only [fIsi2, Option.bind_eq_some_iff, Option.map_eq_some_iff] at h
    obtain ⟨⟨s, M1⟩, h1, ty, h2, h3⟩ := h
    cases h3
    refine ha.j Γ M s _ h1 as B σ H R G _ fun u as1 B1 H1 L1 R1 r1 => ?_
    refine ⟨by show 2 ≤ sizeLine; decide, fun t0 ht0 => ?_⟩
    have tyx : TyX X.K H1 u (.type ty.name) := tyS_ok R1 r1 h2
    obtain ⟨R2, L2⟩ := R1.data (o := .tup [.ty t.name, .ty t'.name]) ht0
    have tyx' : TyX X.K (upd H1 t0 (.tup [.ty t.name, .ty t'.name])) u (.type ty.name) := tyS_ok R2 (r1.mono L2) h2
    refine ⟨u, t0, _, _, [.type t.name, .type t'.name], isTy ty t || isTy ty t', rfl, upd_same, .cons (.ty _) (.cons (.ty _) .nil), tyx', ?_, q _ as1 _ _ (L1.trans L2) R2 (.bl _)⟩
    unfold PySem.W.kitAny PySem.W.kitAny PySem.W.kitAny
    rw [kit_isTy ty t ht, kit_isTy ty t' ht']
    cases isTy ty t <;> cases isTy ty t' <;> rfl)
end
end Z
namespace Z
open PySem L2
/-! ### calls of the text's own defs -/
abbrev Fn := List SV → Mem → Option (SV × Mem)
def spF (K : PySem.W.Frag) (n : Nat) (f : Fn) : Sp := fun vs H Q _ => ∃ (as : List Addr) (B : Hp) (M : Mem) (xs : List SV) (s : SV) (M' : Mem), vs.length = n ∧ f xs M = some (s, M') ∧ Rel K as B M H ∧ Paired (VR K as B) xs vs ∧
  ∀ (v : V) (as' : List Addr) (B' H' : Hp), Lat as B H as' B' H' → Rel K as' B' M' H' → VR K as' B' s v → Q v H'
section
variable {X : Cx} {K : PySem.W.Frag}
/-- a number of arguments other than n is refused -/
def arity (n : Nat) (f : Fn) : Fn := fun xs M => if xs.length = n then f xs M else none
def fCall (n : Nat) (f : Fn) (t : Fa) : Fe := fun Γ M => (t Γ M).bind fun p => arity n f p.1 p.2
theorem j_call {n : Nat} {f : Fn} {t : TA} {g : Fa} (ht : J K (RA K) t g) : J K (VR K) (tCall (spF K n f) [] E0 t) (fCall n f g) := fun Γ M z M' h as B σ H R G Q q => by
  simp only [fCall, arity, Option.bind_eq_some_iff] at h
  obtain ⟨⟨x, M1⟩, h1, h2⟩ := h
  obtain ⟨hn, h2⟩ := ite_opt h2
  refine ht Γ M x _ h1 as B σ H R G _ fun u as1 B1 H1 L1 R1 r1 => ?_
  refine ⟨as1, B1, M1, x, z, M', ?_, h2, R1, ?_, fun v as2 B2 H2 L2 R2 r2 => q v as2 B2 H2 (L1.trans L2) R2 r2⟩
  · rw [List.append_nil, ← Paired.length r1]
    exact hn
  · rw [List.append_nil]
    exact r1
variable {k n : Nat} {f : Addr} {fd : FuncData} {ps ks : List Str} {g : Fn} {x : Str} {p pos : Pos} {e : Expr} {es : List Expr} {t : TA} {ft : Fa} {kws : List Keyword} {tk : TA}
theorem zcall (F : FnOk X.prog X.w X.K X.mg X.base CX0 k f fd ps (spF X.K n g)) (hr : Room k X.A) (hg : Gl X x) (hm : X.mg x = some (.ref f)) (hk : PySem.W.keepIn X.K (.ref f) = true) (hb : Binds X.K fd ps [])
    (ha : PAd X (e :: es) ft) (hdb : (x == ("__debug__" : Str)) = false := by decide) (he : starEach (e :: es) X.env = (false, eval e X.env) :: starEach es X.env := by rfl) (hpl : (backTo pos (starEach es X.env)).any (·.1) = false := by rfl) :
    PEd X (.Call (.Name x p) (e :: es) [] pos) (fCall n g ft) :=
  .of (pe_call F hr hg hm hk hb .nil pass0 ha.pe hdb he hpl) (j_call ha.j)
/-- f(k = v, ..) -/
theorem pe_callK0 {CX : CXT} {sp : Sp} {E : XK} {gg : List Value → List Value → List Value} {gV : List V → List V → List V} (F : FnOk X.prog X.w X.K X.mg X.base CX k f fd ps sp) (hr : Room k X.A) (hg : Gl X x) (hm : X.mg x = some (.ref f)) (hk : PySem.W.keepIn X.K (.ref f) = true) (hb : KBinds X.K fd ps ks gg gV) (hx : Passes CX X E)
    (hkw : PK X kws tk) (hall : (backToKw pos (keywordEach kws X.env)).all (·.1.isSome) = true := by rfl) (hks : (backToKw pos (keywordEach kws X.env)).filterMap (·.1) = ks := by rfl)
    (hdb : (x == ("__debug__" : Str)) = false := by decide) (hpl : ((backTo pos (starEach [] X.env)).any (·.1) || (backToKw pos (keywordEach kws X.env)).any (·.1.isNone)) = false := by rfl) :
    PE X (.Call (.Name x p) [] kws pos) (tCallK sp gV E tNil tk) := by
  refine ⟨fun pins s σ H Q I h => ?_⟩
  refine wpAny_Call_Name_kw (ld_glob I hg hm ?_ hdb)
  refine PySem.W.callWith_KW0 (h₀ := X.base) I.ok.mod.kin hk hall ?_ hpl
  refine thn (hkw.run pos pins s σ H _ I h) fun ws s2 ⟨zs, H2, I2, rz, q2⟩ => ⟨I2.kIn, ?_⟩
  rw [hks]
  exact run_fnk (us := []) (vs := []) F hr hb hx I2 .nil rz q2
/-- the parameters' order: m positional values, then the keywords' by their places -/
def gpm (m : Nat) (perm : List Nat) {α : Type} (us ws : List α) : List α := if us.length = m then us ++ perm.filterMap fun i => ws[i]? else []
theorem Paired.pick {α β : Type} {F : α → β → Prop} {xs : List α} {ys : List β} (p : Paired F xs ys) : ∀ perm : List Nat, Paired F (perm.filterMap fun i => xs[i]?) (perm.filterMap fun i => ys[i]?)
  | [] => .nil
  | i :: r => by
    cases e : xs[i]? with
    | none =>
      have e' : ys[i]? = none := by
        rw [List.getElem?_eq_none_iff] at e ⊢
        rw [← p.length]
        exact e
      rw [List.filterMap_cons_none e, List.filterMap_cons_none e']
      exact Paired.pick p r
    | some x =>
      obtain ⟨y, e', r'⟩ := Z.Paired.at p e
      rw [List.filterMap_cons_some e, List.filterMap_cons_some e']
      exact .cons r' (Paired.pick p r)
theorem Paired.gpm {α β : Type} {F : α → β → Prop} {m : Nat} {perm : List Nat} {xs xs' : List α} {ys ys' : List β} (p : Paired F xs ys) (p' : Paired F xs' ys') : Paired F (gpm m perm xs xs') (gpm m perm ys ys') := by
  unfold Z.gpm
  rw [p.length]
  split
  · exact Paired.app p (Paired.pick p' perm)
  · exact .nil
theorem kbinds_of {fd : FuncData} {m : Nat} {perm : List Nat} (hne : ps ≠ []) (h : ∀ us ws : List Value, us.length = m → (us ++ perm.filterMap fun i => ws[i]?).length = ps.length → bindArgs fd ⟨us, ks.zip ws⟩ = pure (ps.zip (us ++ perm.filterMap fun i => ws[i]?))) : KBinds K fd ps ks (gpm m perm) (gpm m perm) where
  to := fun s us ws _ hl => by
    unfold gpm at hl ⊢
    by_cases c : us.length = m
    · rw [if_pos c] at hl ⊢
      exact .of_eq (h us ws c hl)
    · rw [if_neg c] at hl
      exact absurd (List.length_eq_zero_iff.mp hl.symm) hne
  rel := fun r r' => Paired.gpm r r'
structure PKd (X : Cx) (kws : List Keyword) (f : Fa) : Prop where
  pe : PK X kws (cn X.K (RA X.K) f)
theorem PKd.of {X : Cx} {kws : List Keyword} {t : TA} {f : Fa} (h : PK X kws t) (j : J X.K (RA X.K) t f) : PKd X kws f := ⟨⟨fun pos pins s σ H Q I c => h.run pos pins s σ H Q I (j.use c)⟩⟩
theorem PKd.j {X : Cx} {kws : List Keyword} {f : Fa} (_ : PKd X kws f) : J X.K (RA X.K) (cn X.K (RA X.K) f) f := j_cn
theorem zknil : PKd X [] fNil := .of (pk_nil) (j_nil)
theorem zkcons {a : Expr} {nm : Option Str} {kpos : Pos} {fa : Fe} {fr : Fa} (ha : PEd X a fa) (hr : PKd X kws fr) : PKd X (⟨nm, a, kpos⟩ :: kws) (fCons fa fr) := .of (pk_cons ha.pe hr.pe) (j_cons ha.j hr.j)
def fCallK (n m : Nat) (perm : List Nat) (f : Fn) (t tk : Fa) : Fe := fun Γ M => (t Γ M).bind fun p => (tk Γ p.2).bind fun q => arity n f (gpm m perm p.1 q.1) q.2
theorem j_callK {n m : Nat} {perm : List Nat} {f : Fn} {t tk : TA} {g gk : Fa} (ht : J K (RA K) t g) (hk : J K (RA K) tk gk) : J K (VR K) (tCallK (spF K n f) (gpm m perm) E0 t tk) (fCallK n m perm f g gk) := fun Γ M z M' h as B σ H R G Q q => by
  simp only [fCallK, arity, Option.bind_eq_some_iff] at h
  obtain ⟨⟨x, M1⟩, h1, ⟨y, M2⟩, h2, h3⟩ := h
  obtain ⟨hn, h3⟩ := ite_opt h3
  refine ht Γ M x _ h1 as B σ H R G _ fun u as1 B1 H1 L1 R1 r1 => ?_
  refine hk Γ M1 y _ h2 as1 B1 σ H1 R1 (G.mono L1) _ fun u' as2 B2 H2 L2 R2 r2 => ?_
  have pp := Paired.gpm (m := m) (perm := perm) (VR.monos L2 r1) r2
  refine ⟨as2, B2, M2, _, z, M', ?_, h3, R2, pp, fun v as3 B3 H3 L3 R3 r3 => q v as3 B3 H3 ((L1.trans L2).trans L3) R3 r3⟩
  rw [← Paired.length pp]
  exact hn
theorem zcallK0 {m : Nat} {perm : List Nat} (F : FnOk X.prog X.w X.K X.mg X.base CX0 k f fd ps (spF X.K n g)) (hr : Room k X.A) (hg : Gl X x) (hm : X.mg x = some (.ref f)) (hk : PySem.W.keepIn X.K (.ref f) = true) (hb : KBinds X.K fd ps ks (gpm m perm) (gpm m perm))
    (hkw : PKd X kws ft) (hall : (backToKw pos (keywordEach kws X.env)).all (·.1.isSome) = true := by rfl) (hks : (backToKw pos (keywordEach kws X.env)).filterMap (·.1) = ks := by rfl)
    (hdb : (x == ("__debug__" : Str)) = false := by decide) (hpl : ((backTo pos (starEach [] X.env)).any (·.1) || (backToKw pos (keywordEach kws X.env)).any (·.1.isNone)) = false := by rfl) :
    PEd X (.Call (.Name x p) [] kws pos) (fCallK n m perm g fNil ft) :=
  .of (pe_callK0 F hr hg hm hk hb pass0 hkw.pe hall hks hdb hpl) (j_callK j_nil hkw.j)
theorem zcallK {m : Nat} {perm : List Nat} {fk : Fa} (F : FnOk X.prog X.w X.K X.mg X.base CX0 k f fd ps (spF X.K n g)) (hr : Room k X.A) (hg : Gl X x) (hm : X.mg x = some (.ref f)) (hk : PySem.W.keepIn X.K (.ref f) = true) (hb : KBinds X.K fd ps ks (gpm m perm) (gpm m perm))
    (ha : PAd X (e :: es) ft) (hkw : PKd X kws fk) (hall : (backToKw pos (keywordEach kws X.env)).all (·.1.isSome) = true := by rfl) (hks : (backToKw pos (keywordEach kws X.env)).filterMap (·.1) = ks := by rfl)
    (hdb : (x == ("__debug__" : Str)) = false := by decide) (he : starEach (e :: es) X.env = (false, eval e X.env) :: starEach es X.env := by rfl)
    (hpl : ((backTo pos (starEach (e :: es) X.env)).any (·.1) || (backToKw pos (keywordEach kws X.env)).any (·.1.isNone)) = false := by rfl) :
    PEd X (.Call (.Name x p) (e :: es) kws pos) (fCallK n m perm g ft fk) :=
  .of (pe_callK F hr hg hm hk hb pass0 ha.pe hkw.pe hall hks hdb he hpl) (j_callK ha.j hkw.j)
end
/-! ### statements -/
inductive Out where
  | nx (Γ : Gm)
  | rt (s : SV)
  | bk (Γ : Gm)
  | ct (Γ : Gm)
abbrev Fs := Gm → Mem → Option (Out × Mem)
/-- what stands behind a statement reaches what is wanted -/
def OK (K : PySem.W.Frag) (D : Ends) (as : List Addr) (B H : Hp) : Out → Prop
  | .nx Γ => ∀ σ, GR K as B Γ σ → D.nx σ H
  | .rt s => ∀ v, VR K as B s v → D.rt v H
  | .bk Γ => ∀ σ, GR K as B Γ σ → D.bk σ H
  | .ct Γ => ∀ σ, GR K as B Γ σ → D.ct σ H
def Sd (K : PySem.W.Frag) (t : TS) (f : Fs) : Prop :=
  ∀ (Γ : Gm) (M : Mem) (o : Out) (M' : Mem), f Γ M = some (o, M') → ∀ (as : List Addr) (B : Hp) (σ : L2.St) (H : Hp), Rel K as B M H → GR K as B Γ σ → ∀ D : Ends,
    (∀ (as' : List Addr) (B' H' : Hp), Lat as B H as' B' H' → Rel K as' B' M' H' → OK K D as' B' H' o) → t D σ H
def cns (K : PySem.W.Frag) (f : Fs) : TS := fun D σ H => ∃ (Γ : Gm) (M : Mem) (o : Out) (M' : Mem) (as : List Addr) (B : Hp), f Γ M = some (o, M') ∧ Rel K as B M H ∧ GR K as B Γ σ ∧
  ∀ (as' : List Addr) (B' H' : Hp), Lat as B H as' B' H' → Rel K as' B' M' H' → OK K D as' B' H' o
theorem s_cn {K : PySem.W.Frag} {f : Fs} : Sd K (cns K f) f := fun Γ M o M' h as B σ H r g D q => ⟨Γ, M, o, M', as, B, h, r, g, q⟩
theorem Sd.use {K : PySem.W.Frag} {t : TS} {f : Fs} (h : Sd K t f) {σ : L2.St} {H : Hp} {D : Ends} (c : cns K f D σ H) : t D σ H := by
  obtain ⟨Γ, M, o, M', as, B, h1, r, g, q⟩ := c
  exact h Γ M o M' h1 as B σ H r g D q
structure PSd (X : Cx) (st : Stmt) (f : Fs) : Prop where
  pe : PS X st (cns X.K f)
structure PSsd (X : Cx) (st : List Stmt) (f : Fs) : Prop where
  pe : PSs X st (cns X.K f)
theorem PSd.of {X : Cx} {e : Stmt} {t : TS} {f : Fs} (h : PS X e t) (j : Sd X.K t f) : PSd X e f := ⟨⟨fun pins s σ H D I c => h.run pins s σ H D I (j.use c)⟩⟩
theorem PSsd.of {X : Cx} {e : List Stmt} {t : TS} {f : Fs} (h : PSs X e t) (j : Sd X.K t f) : PSsd X e f := ⟨⟨fun pins s σ H D I c => h.run pins s σ H D I (j.use c)⟩⟩
theorem PSd.j {X : Cx} {e : Stmt} {f : Fs} (_ : PSd X e f) : Sd X.K (cns X.K f) f := s_cn
theorem PSsd.j {X : Cx} {e : List Stmt} {f : Fs} (_ : PSsd X e f) : Sd X.K (cns X.K f) f := s_cn
abbrev Fg := SV → Gm → Mem → Option (Gm × Mem)
def Gd (K : PySem.W.Frag) (g : TG) (f : Fg) : Prop :=
  ∀ (x : SV) (Γ : Gm) (M : Mem) (Γ' : Gm) (M' : Mem), f x Γ M = some (Γ', M') → ∀ (as : List Addr) (B : Hp) (σ : L2.St) (H : Hp) (v : V), Rel K as B M H → GR K as B Γ σ → VR K as B x v → ∀ Q : L2.St → Hp → Prop,
    (∀ (σ' : L2.St) (as' : List Addr) (B' H' : Hp), Lat as B H as' B' H' → Rel K as' B' M' H' → GR K as' B' Γ' σ' → Q σ' H') → g v σ H Q
def cng (K : PySem.W.Frag) (f : Fg) : TG := fun v σ H Q => ∃ (x : SV) (Γ : Gm) (M : Mem) (Γ' : Gm) (M' : Mem) (as : List Addr) (B : Hp), f x Γ M = some (Γ', M') ∧ Rel K as B M H ∧ GR K as B Γ σ ∧ VR K as B x v ∧
  ∀ (σ' : L2.St) (as' : List Addr) (B' H' : Hp), Lat as B H as' B' H' → Rel K as' B' M' H' → GR K as' B' Γ' σ' → Q σ' H'
theorem g_cn {K : PySem.W.Frag} {f : Fg} : Gd K (cng K f) f := fun x Γ M Γ' M' h as B σ H v r g rv Q q => ⟨x, Γ, M, Γ', M', as, B, h, r, g, rv, q⟩
structure PGd (X : Cx) (e : Expr) (f : Fg) : Prop where
  pe : PG X e (cng X.K f)
theorem PGd.of {X : Cx} {e : Expr} {t : TG} {f : Fg} (h : PG X e t) (j : Gd X.K t f) : PGd X e f := ⟨⟨fun pins s σ H v u Q I rv c => h.run pins s σ H v u Q I rv (by
  obtain ⟨x, Γ, M, Γ', M', as, B, h1, r, g, rv, q⟩ := c
  exact j x Γ M Γ' M' h1 as B σ H v r g rv Q q)⟩⟩
theorem PGd.j {X : Cx} {e : Expr} {f : Fg} (_ : PGd X e f) : Gd X.K (cng X.K f) f := g_cn
section
variable {X : Cx} {K : PySem.W.Frag} {t u : TS} {f g : Fs} {te : TE} {fe : Fe} {e c : Expr} {pos : Pos} {st : Stmt} {rest a b : List Stmt} {tt : TT} {ft : Ft}
def fNext : Fs := fun Γ M => some (.nx Γ, M)
def fSeq (f g : Fs) : Fs := fun Γ M => (f Γ M).bind fun p => match p.1 with
  | .nx Γ' => g Γ' p.2
  | o => some (o, p.2)
theorem s_next : Sd K tNext fNext := fun Γ M o M' h as B σ H R G D q => by
  cases h
  exact q as B H (Lat.refl _ _ _) R σ G
theorem s_seq (hf : Sd K t f) (hg : Sd K u g) : Sd K (tSeq t u) (fSeq f g) := fun Γ M o M' h as B σ H R G D q => by
  simp only [fSeq, Option.bind_eq_some_iff] at h
  obtain ⟨⟨o1, M1⟩, h1, h2⟩ := h
  refine hf Γ M o1 M1 h1 as B σ H R G _ fun as1 B1 H1 L1 R1 => ?_
  cases o1 with
  | nx Γ1 => exact fun σ1 G1 => hg Γ1 M1 o M' h2 as1 B1 σ1 H1 R1 G1 D fun as2 B2 H2 L2 R2 => q as2 B2 H2 (L1.trans L2) R2
  | rt s => cases h2; exact q as1 B1 H1 L1 R1
  | bk s => cases h2; exact q as1 B1 H1 L1 R1
  | ct s => cases h2; exact q as1 B1 H1 L1 R1
theorem zsnil : PSsd X [] fNext := .of (pss_nil) (s_next)
theorem zscons (h1 : PSd X st f) (h2 : PSsd X rest g) : PSsd X (st :: rest) (fSeq f g) := .of (pss_cons h1.pe h2.pe) (s_seq h1.j h2.j)
theorem zsone (h1 : PSd X st f) : PSsd X [st] f := .of (pss_one h1.pe) (h1.j)
theorem zspass : PSd X (.Pass pos) fNext := .of (ps_pass) (s_next)
def fBreak : Fs := fun Γ M => some (.bk Γ, M)
def fCont : Fs := fun Γ M => some (.ct Γ, M)
theorem zsbreak : PSd X (.Break pos) fBreak := .of (ps_break) (fun Γ M o M' h as B σ H R G D q => by
  cases h
  exact q as B H (Lat.refl _ _ _) R σ G)
theorem zscont : PSd X (.Continue pos) fCont := .of (ps_continue) (fun Γ M o M' h as B σ H R G D q => by
  cases h
  exact q as B H (Lat.refl _ _ _) R σ G)
def fRet (a : Fe) : Fs := fun Γ M => (a Γ M).map fun p => (.rt p.1, p.2)
theorem zsret (h : PEd X e fe) : PSd X (.Return (some e) pos) (fRet fe) := .of (ps_ret h.pe) (fun Γ M o M' h1 as B σ H R G D q => by
  simp only [fRet, Option.map_eq_some_iff] at h1
  obtain ⟨⟨s, M1⟩, h1, h2⟩ := h1
  cases h2
  exact h.j Γ M s M1 h1 as B σ H R G _ fun v as1 B1 H1 L1 R1 r1 => q as1 B1 H1 L1 R1 v r1)
def fRetN : Fs := fun _ M => some (.rt (.d .none), M)
theorem zsretN : PSd X (.Return none pos) fRetN := .of (ps_retN) (fun Γ M o M' h as B σ H R G D q => by
  cases h
  exact q as B H (Lat.refl _ _ _) R _ .non)
def fExpr (a : Fe) : Fs := fun Γ M => (a Γ M).map fun p => (.nx Γ, p.2)
theorem zsexpr (h : PEd X e fe) (hs : swapsWith e none pos.line X.env = pure false := by rfl) : PSd X (.Expr e pos) (fExpr fe) := .of (ps_expr h.pe hs) (fun Γ M o M' h1 as B σ H R G D q => by
  simp only [fExpr, Option.map_eq_some_iff] at h1
  obtain ⟨⟨s, M1⟩, h1, h2⟩ := h1
  cases h2
  exact h.j Γ M s M1 h1 as B σ H R G _ fun v as1 B1 H1 L1 R1 r1 => q as1 B1 H1 L1 R1 σ (G.mono L1))
def fIfS (c : Ft) (f g : Fs) : Fs := fun Γ M => (c Γ M).bind fun p => if p.1 = true then f Γ p.2 else g Γ p.2
theorem zsif (hc : PTd X c ft) (ha : PSsd X a f) (hb : PSsd X b g) : PSd X (.If c a b pos) (fIfS ft f g) := .of (ps_if hc.pe ha.pe hb.pe) (fun Γ M o M' h as B σ H R G D q => by
  simp only [fIfS, Option.bind_eq_some_iff] at h
  obtain ⟨⟨x, M1⟩, h1, h3⟩ := h
  refine hc.j Γ M x M1 h1 as B σ H R G _ fun u as1 B1 H1 L1 R1 r1 => ?_
  cases (show x = u from r1)
  cases x with
  | true => exact ha.j Γ M1 o M' h3 as1 B1 σ H1 R1 (G.mono L1) D fun as2 B2 H2 L2 R2 => q as2 B2 H2 (L1.trans L2) R2
  | false => exact hb.j Γ M1 o M' h3 as1 B1 σ H1 R1 (G.mono L1) D fun as2 B2 H2 L2 R2 => q as2 B2 H2 (L1.trans L2) R2)
/-- a statement that is never reached -/
def fNever : Fs := fun _ _ => none
theorem zsnever : PSd X st fNever := .of (ps_never) (fun Γ M o M' h => by cases h)
/-! targets -/
def tgName (i : Nat) : Fg := fun x Γ M => some (Γ.set i (some x), M)
theorem GR.set {as : List Addr} {B : Hp} {Γ : Gm} {σ : L2.St} {i : Nat} {x : SV} {v : V} (G : GR K as B Γ σ) (r : VR K as B x v) : GR K as B (Γ.set i (some x)) (σ.set i (some v)) :=
  Z.Paired.set' (fun s e => by cases e; exact ⟨v, rfl, r⟩) i G
theorem g_name {i : Nat} : Gd K (gName i) (tgName i) := fun x Γ M Γ' M' h as B σ H v R G r Q q => by
  cases h
  exact q _ as B H (Lat.refl _ _ _) R (G.set r)
theorem zgname {i : Nat} {x : Str} (hN : X.N.Nodup) (hi : X.N[i]? = some x) (hx : Loc X.env.scope x) (hf : X.fn x = true ∨ X.env.scope.names.lookup x = some .local := by first | exact .inl rfl | exact .inr rfl | assumption) : PGd X (.Name x pos) (tgName i) :=
  .of (pg_name hN hi hx hf) (fun x Γ M Γ' M' h as B σ H v R G r Q q => by
    cases h
    exact q _ as B H (Lat.refl _ _ _) R (G.set r))
abbrev Fgs := List SV → Gm → Mem → Option (Gm × Mem)
def Gsd (K : PySem.W.Frag) (g : TGs) (f : Fgs) : Prop :=
  ∀ (x : List SV) (Γ : Gm) (M : Mem) (Γ' : Gm) (M' : Mem), f x Γ M = some (Γ', M') → ∀ (as : List Addr) (B : Hp) (σ : L2.St) (H : Hp) (v : List V), Rel K as B M H → GR K as B Γ σ → Paired (VR K as B) x v → ∀ Q : L2.St → Hp → Prop,
    (∀ (σ' : L2.St) (as' : List Addr) (B' H' : Hp), Lat as B H as' B' H' → Rel K as' B' M' H' → GR K as' B' Γ' σ' → Q σ' H') → g v σ H Q
def cngs (K : PySem.W.Frag) (f : Fgs) : TGs := fun v σ H Q => ∃ (x : List SV) (Γ : Gm) (M : Mem) (Γ' : Gm) (M' : Mem) (as : List Addr) (B : Hp), f x Γ M = some (Γ', M') ∧ Rel K as B M H ∧ GR K as B Γ σ ∧ Paired (VR K as B) x v ∧
  ∀ (σ' : L2.St) (as' : List Addr) (B' H' : Hp), Lat as B H as' B' H' → Rel K as' B' M' H' → GR K as' B' Γ' σ' → Q σ' H'
theorem gs_cn {K : PySem.W.Frag} {f : Fgs} : Gsd K (cngs K f) f := fun x Γ M Γ' M' h as B σ H v r g rv Q q => ⟨x, Γ, M, Γ', M', as, B, h, r, g, rv, q⟩
structure PGsd (X : Cx) (es : List Expr) (f : Fgs) : Prop where
  pe : PGs X es (cngs X.K f)
theorem PGsd.of {X : Cx} {e : List Expr} {t : TGs} {f : Fgs} (h : PGs X e t) (j : Gsd X.K t f) : PGsd X e f := ⟨⟨fun pins s σ H v u Q I rv c => h.run pins s σ H v u Q I rv (by
  obtain ⟨x, Γ, M, Γ', M', as, B, h1, r, g, rv, q⟩ := c
  exact j x Γ M Γ' M' h1 as B σ H v r g rv Q q)⟩⟩
theorem PGsd.j {X : Cx} {e : List Expr} {f : Fgs} (_ : PGsd X e f) : Gsd X.K (cngs X.K f) f := gs_cn
def tgNil : Fgs := fun xs Γ M => match xs with
  | [] => some (Γ, M)
  | _ => none
def tgCons (f : Fg) (g : Fgs) : Fgs := fun xs Γ M => match xs with
  | x :: r => (f x Γ M).bind fun p => g r p.1 p.2
  | _ => none
theorem zgnil : PGsd X [] tgNil := .of (pgs_nil) (fun x Γ M Γ' M' h as B σ H v R G r Q q => by
  cases x with
  | nil =>
    cases h
    cases r
    exact ⟨rfl, q _ as B H (Lat.refl _ _ _) R G⟩
  | cons _ _ => cases h)
theorem zgcons {es : List Expr} {fg : Fg} {fgs : Fgs} (h1 : PGd X e fg) (h2 : PGsd X es fgs) (hs : (assignEach (e :: es) X.env).map (·.2) = assign e X.env :: (assignEach es X.env).map (·.2) := by rfl) : PGsd X (e :: es) (tgCons fg fgs) :=
  .of (pgs_cons h1.pe h2.pe hs) (fun x Γ M Γ' M' h as B σ H v R G r Q q => by
    cases x with
    | nil => cases h
    | cons x xr =>
      simp only [tgCons, Option.bind_eq_some_iff] at h
      obtain ⟨⟨Γ1, M1⟩, k1, k2⟩ := h
      cases r with
      | cons r rr =>
        refine ⟨_, _, rfl, h1.j x Γ M Γ1 M1 k1 as B σ H _ R G r _ fun σ1 as1 B1 H1 L1 R1 G1 => ?_⟩
        exact h2.j xr Γ1 M1 Γ' M' k2 as1 B1 σ1 H1 _ R1 G1 (VR.monos L1 rr) Q fun σ2 as2 B2 H2 L2 R2 G2 => q σ2 as2 B2 H2 (L1.trans L2) R2 G2)
def tgTup (n : Nat) (g : Fgs) : Fg := fun x Γ M => (tupOf x).bind fun xs => if xs.length = n then g xs Γ M else none
theorem zgtup {es : List Expr} {kk : Nat} {fgs : Fgs} {n : Nat} (hc : X.calm = true) (h : PGsd X es fgs) (hn : (assignEach es X.env).length = n := by rfl) (hst : (assignEach es X.env).findIdx? (·.1) = none := by rfl) : PGd X (.Tuple es kk pos) (tgTup n fgs) :=
  .of (pg_tup hc h.pe hn hst) (fun x Γ M Γ' M' h1 as B σ H v R G r Q q => by
    simp only [tgTup, Option.bind_eq_some_iff] at h1
    obtain ⟨xs, k1, k2⟩ := h1
    obtain ⟨k2, k3⟩ := ite_opt k2
    obtain ⟨a, vs, rfl, r1, p⟩ := tupOf_ok R r k1
    exact ⟨a, vs, rfl, r1, by rw [← Paired.length p]; exact k2, h.j xs Γ M Γ' M' k3 as B σ H vs R G p Q q⟩)
/-- target = value -/
def fAsg (a : Fe) (g : Fg) : Fs := fun Γ M => (a Γ M).bind fun p => (g p.1 Γ p.2).map fun q => (.nx q.1, q.2)
theorem s_asg {g : TG} {fg : Fg} (he : J K (VR K) te fe) (hg : Gd K g fg) : Sd K (tAsg te g) (fAsg fe fg) := fun Γ M o M' h as B σ H R G D q => by
  simp only [fAsg, Option.bind_eq_some_iff, Option.map_eq_some_iff] at h
  obtain ⟨⟨s, M1⟩, h1, ⟨Γ2, M2⟩, h2, h3⟩ := h
  cases h3
  refine he Γ M s M1 h1 as B σ H R G _ fun v as1 B1 H1 L1 R1 r1 => ?_
  exact hg s Γ M1 Γ2 _ h2 as1 B1 σ H1 v R1 (G.mono L1) r1 _ fun σ2 as2 B2 H2 L2 R2 G2 => q as2 B2 H2 (L1.trans L2) R2 σ2 G2
theorem zsasg {fg : Fg} {tg : Expr} (he : PEd X e fe) (hg : PGd X tg fg) (hs : swapsWithSole [tg] e pos.line X.env = pure false := by rfl) (hw : swappedStores [tg] e X.env = pure none := by rfl)
    (h1 : (assignEach [tg] X.env).map (·.2) = [assign tg X.env] := by rfl) : PSd X (.Assign [tg] e pos) (fAsg fe fg) := .of (ps_asg he.pe hg.pe hs hw h1) (s_asg he.j hg.j)
theorem zsset {i : Nat} {x : Str} {pos' : Pos} (hN : X.N.Nodup) (hi : X.N[i]? = some x) (hx : Loc X.env.scope x) (he : PEd X e fe) (hs : swapsWith e (some (.Name x pos')) pos.line X.env = pure false := by rfl) (hf : X.fn x = true ∨ X.env.scope.names.lookup x = some .local := by first | exact .inl rfl | exact .inr rfl | assumption) :
    PSd X (.Assign [.Name x pos'] e pos) (fAsg fe (tgName i)) := .of (ps_set hN hi hx he.pe hs hf) (s_asg he.j g_name)
def fPar (i j : Nat) (t : Fa) : Fs := fun Γ M => (t Γ M).bind fun p => match p.1 with
  | [x, y] => some (.nx ((Γ.set i (some x)).set j (some y)), p.2)
  | _ => none
theorem zspar {i j : Nat} {x y : Str} {ea eb : Expr} {fa : Fa} {px py pt : Pos} {kt k2 pt2} (hc : X.calm = true) (hN : X.N.Nodup) (hi : X.N[i]? = some x) (hj : X.N[j]? = some y) (hij : i ≠ j)
    (hx : X.env.scope.names.lookup x = some .local) (hy : X.env.scope.names.lookup y = some .local) (ha : PAd X [ea, eb] fa)
    (hw : swappedStores [.Tuple [.Name x px, .Name y py] kt pt] (.Tuple [ea, eb] k2 pt2) X.env = pure (some [x, y]))
    (hs : swapsWithSole [.Tuple [.Name x px, .Name y py] kt pt] (.Tuple [ea, eb] k2 pt2) pos.line X.env = pure false := by rfl) :
    PSd X (.Assign [.Tuple [.Name x px, .Name y py] kt pt] (.Tuple [ea, eb] k2 pt2) pos) (fPar i j fa) := .of (ps_par hc hN hi hj hij hx hy ha.pe hw hs) (fun Γ M o M' h as B σ H R G D q => by
      simp only [fPar, Option.bind_eq_some_iff] at h
      obtain ⟨⟨xs, M1⟩, h1, h2⟩ := h
      refine ha.j Γ M xs M1 h1 as B σ H R G _ fun v as1 B1 H1 L1 R1 r1 => ?_
      match xs, h2, r1 with
      | [a, b], h2, r1 =>
        cases h2
        obtain ⟨v1, v2, rfl, p1, p2⟩ := pr2 r1
        exact ⟨v1, v2, rfl, q as1 B1 H1 L1 R1 _ (((G.mono L1).set p1).set p2)⟩)
/-! stores -/
/-- the place changed -/
theorem Rel.put {as : List Addr} {B H : Hp} {M : Mem} {n : Nat} {a : Addr} {mo mo' : MO} {o : HO} (R : Rel K as B M H) (ha : as[n]? = some a) (hm : M[n]? = some mo) (hg : mo ≠ .gone) (hmo : MR K as B (upd H a o) a mo') :
    Rel K as B (M.set n mo') (upd H a o) ∧ Lat as B H as B (upd H a o) := by
  have hn : n < as.length := (List.getElem?_eq_some_iff.mp ha).1
  have Ba := R.sep n a mo ha hm hg
  have hne : ∀ (m : Nat) (b : Addr), as[m]? = some b → m ≠ n → b ≠ a := fun m b eb ne q => by
    subst q
    obtain ⟨h1, h2⟩ := List.getElem?_eq_some_iff.mp eb
    obtain ⟨h3, h4⟩ := List.getElem?_eq_some_iff.mp ha
    rcases Nat.lt_or_gt_of_ne ne with k | k
    · exact (List.pairwise_iff_getElem.mp R.nd) m n h1 h3 k (h2.trans h4.symm)
    · exact (List.pairwise_iff_getElem.mp R.nd) n m h3 h1 k (h4.trans h2.symm)
  refine ⟨⟨by rw [List.length_set]; exact R.len, R.nd, fun b u e => ?_, fun m b mo2 eb em h2 => ?_, fun m b mo2 eb em => ?_, fun b hb => ?_⟩, List.prefix_refl _, Same.refl _, fun b u e nb => ?_, fun b m k => absurd m k, fun b k => .inl k⟩
  · rw [upd_ne (fun q => by rw [q, Ba] at e; cases e)]
    exact R.ex b u e
  · by_cases q : m = n
    · subst q
      rw [ha] at eb
      cases eb
      exact Ba
    · rw [List.getElem?_set_ne (Ne.symm q)] at em
      exact R.sep m b mo2 eb em h2
  · by_cases q : m = n
    · subst q
      rw [ha] at eb
      cases eb
      rw [List.getElem?_set_self (by rw [← R.len]; exact hn)] at em
      cases em
      exact hmo
    · rw [List.getElem?_set_ne (Ne.symm q)] at em
      have h := R.obj m b mo2 eb em
      have ne := hne m b eb q
      cases mo2 with
      | lst xs =>
        obtain ⟨vs, h1, h2⟩ := h
        exact ⟨vs, by rw [upd_ne ne]; exact h1, h2⟩
      | dct xs =>
        obtain ⟨vs, h1, h2⟩ := h
        exact ⟨vs, by rw [upd_ne ne]; exact h1, h2⟩
      | ins C fs =>
        obtain ⟨dx, vs, h1, h2⟩ := h
        exact ⟨dx, vs, by rw [upd_ne ne]; exact h1, h2⟩
      | gone => trivial
  · by_cases q : b = a
    · rw [q, upd_same]
      exact fun z => nomatch z
    · rw [upd_ne q]
      exact R.all b hb
  · rw [upd_ne (fun q => nb (by rw [q]; exact List.mem_of_getElem? ha))]
    exact e
/-- xs[i] = v, xs a list that may change -/
def stL (o i v : SV) (M : Mem) : Option Mem := match o, i with
  | .loc n, .d (.int k) => match M[n]? with
    | some (.lst xs) => (ixN xs.length k).map fun j => M.set n (.lst (xs.set j v))
    | _ => none
  | _, _ => none
def tgSub (to ti : Fe) (s : SV → SV → SV → Mem → Option Mem) : Fg := fun v Γ M => (to Γ M).bind fun o => (ti Γ o.2).bind fun i => (s o.1 i.1 v i.2).map fun M' => (Γ, M')
def Std (K : PySem.W.Frag) (t : TSet) (s : SV → SV → SV → Mem → Option Mem) : Prop :=
  ∀ (o i v : SV) (M M' : Mem), s o i v M = some M' → ∀ (as : List Addr) (B H : Hp) (a b c : V), Rel K as B M H → VR K as B o a → VR K as B i b → VR K as B v c → ∀ Q : Hp → Prop,
    (∀ (as' : List Addr) (B' H' : Hp), Lat as B H as' B' H' → Rel K as' B' M' H' → Q H') → t a b c H Q
theorem st_l : Std K rSetL stL := fun o i v M M' h as B H a b c R ro ri rv Q q => by
  unfold stL at h
  split at h
  · rename_i n k
    obtain ⟨l, ea, rfl⟩ := ro
    rw [vr_int ri]
    split at h
    · rename_i xs em
      simp only [Option.map_eq_some_iff] at h
      obtain ⟨j, h1, h2⟩ := h
      cases h2
      obtain ⟨vs, h3, h4⟩ := R.obj n l _ ea em
      refine ⟨l, vs, k, j, rfl, rfl, h3, by rw [← Paired.length h4]; exact h1, ?_⟩
      obtain ⟨R', L'⟩ := R.put (o := .lst (vs.set j c)) (mo' := .lst (xs.set j v)) ea em (fun z => nomatch z) ⟨_, upd_same, Z.Paired.set' rv j h4⟩
      exact q _ _ _ L' R'
    · cases h
  · cases h
theorem zgsub {o i : Expr} {t : TSet} {fo fi : Fe} {s : SV → SV → SV → Mem → Option Mem} (ho : PEd X o fo) (hi : PEd X i fi) (hs : PSet X t) (hst : Std X.K t s)
    (ha : ∀ v, assign (.Subscript o i pos) X.env v = (do
      let ov ← holding [v] (eval o X.env)
      let iv ← holding [v, ov] (eval i X.env)
      standAt pos
      holding [v, ov, iv] (setItem ov iv v)
      release [v, ov, iv] []) := by intro _; rfl) : PGd X (.Subscript o i pos) (tgSub fo fi s) :=
  .of (pg_sub ho.pe hi.pe hs ha) (fun v Γ M Γ' M' h as B σ H c R G r Q q => by
    simp only [tgSub, Option.bind_eq_some_iff, Option.map_eq_some_iff] at h
    obtain ⟨⟨o, M1⟩, h1, ⟨i, M2⟩, h2, M3, h3, h4⟩ := h
    cases h4
    refine ho.j Γ M o M1 h1 as B σ H R G _ fun a as1 B1 H1 L1 R1 r1 => ?_
    refine hi.j Γ M1 i M2 h2 as1 B1 σ H1 R1 (G.mono L1) _ fun b as2 B2 H2 L2 R2 r2 => ?_
    exact hst o i v M2 _ h3 as2 B2 H2 a b c R2 (r1.mono L2) r2 ((r.mono L1).mono L2) _ fun as3 B3 H3 L3 R3 => q σ as3 B3 H3 ((L1.trans L2).trans L3) R3 (((G.mono L1).mono L2).mono L3))
/-! methods of built-in types -/
def tyOk (T : String) (M : Mem) (s : SV) : Bool := match s with
  | .d (.str _) => decide (T = "str")
  | .loc n => match M[n]? with
    | some (.dct _) => decide (T = "dict")
    | some (.lst _) => decide (T = "list")
    | _ => false
  | .d (.list _) => decide (T = "list")
  | _ => false
theorem tyOk_ok {as : List Addr} {B H : Hp} {M : Mem} {T : String} {s : SV} {v : V} (R : Rel K as B M H) (r : VR K as B s v) (h : tyOk T M s = true) : tyV K T v H := by
  unfold tyOk at h
  split at h
  · rw [vr_str r]
    exact (show T = "str" from of_decide_eq_true h)
  · obtain ⟨a, ea, rfl⟩ := r
    split at h
    · rename_i e
      obtain ⟨us, h1, _⟩ := R.obj _ a _ ea e
      exact .inr (.inr (.inl ⟨of_decide_eq_true h, .inl ⟨_, h1⟩⟩))
    · rename_i e
      obtain ⟨us, h1, _⟩ := R.obj _ a _ ea e
      exact .inl ⟨of_decide_eq_true h, _, .inl (.inl h1)⟩
    · cases h
  · cases r with
    | lst r p => exact .inl ⟨of_decide_eq_true h, _, .inl (same_rd R.ex r)⟩
  · cases h
def GM (K : PySem.W.Frag) (r : V → List V → Hp → VK → Prop) (g : SV → List SV → Mem → Option (SV × Mem)) : Prop :=
  ∀ (x : SV) (xs : List SV) (M : Mem) (z : SV) (M' : Mem), g x xs M = some (z, M') → ∀ (as : List Addr) (B H : Hp), Rel K as B M H → ∀ u us, VR K as B x u → Paired (VR K as B) xs us → ∀ Q : VK,
    (∀ (w : V) (as' : List Addr) (B' H' : Hp), Lat as B H as' B' H' → Rel K as' B' M' H' → VR K as' B' z w → Q w H') → r u us H Q
def fBM (T : String) (g : SV → List SV → Mem → Option (SV × Mem)) (o : Fe) (t : Fa) : Fe := fun Γ M => (o Γ M).bind fun p => if tyOk T p.2 p.1 = true then (t Γ p.2).bind fun q => g p.1 q.1 q.2 else none
theorem zbm {T id : String} {name : Str} {r : V → List V → Hp → VK → Prop} {g : SV → List SV → Mem → Option (SV × Mem)} {o : Expr} {fo : Fe} {f1 : Fa} {ae : Expr} {aes : List Expr} {apos cpos : Pos} (pa : PlainAttrs T) (slot : Slot T name id) (hty : typeOf (.builtin id) = pure (.type "method_descriptor")) (hm : MtR X id r) (hgm : GM X.K r g) (ho : PEd X o fo) (ha : PAd X (ae :: aes) f1)
    (hbase : attributeBase o name X.env (eval o X.env) = eval o X.env := by rfl)
    (hfew : ((backTo cpos (starEach (ae :: aes) X.env)).all (fun x => !x.1) && (backToKw cpos (keywordEach [] X.env)).all (fun x => x.1.isSome)
      && decide ((ae :: aes).length + ([] : List Keyword).length + (if ([] : List Keyword).isEmpty then 0 else 1) < 30)) = true := by rfl)
    (hline : (apos.endLine == cpos.line) = true := by rfl) (hs : starEach (ae :: aes) X.env = (false, eval ae X.env) :: starEach aes X.env := by rfl) (hplain : (backTo cpos (starEach aes X.env)).any (·.1) = false := by rfl) :
    PEd X (.Call (.Attribute o name apos) (ae :: aes) [] cpos) (fBM T g fo f1) :=
  .of (pe_bm pa slot hty hm ho.pe ha.pe hbase hfew hline hs hplain) (fun Γ M z M' h as B σ H R G Q q => by
    simp only [fBM, Option.bind_eq_some_iff] at h
    obtain ⟨⟨s, M1⟩, h1, h⟩ := h
    obtain ⟨hk, h⟩ := ite_opt h
    simp only [Option.bind_eq_some_iff] at h
    obtain ⟨⟨xs, M2⟩, h2, h3⟩ := h
    refine ho.j Γ M s M1 h1 as B σ H R G _ fun a as1 B1 H1 L1 R1 r1 => ⟨tyOk_ok R1 r1 hk, ?_⟩
    refine ha.j Γ M1 xs M2 h2 as1 B1 σ H1 R1 (G.mono L1) _ fun us as2 B2 H2 L2 R2 r2 => ?_
    exact hgm s xs M2 z M' h3 as2 B2 H2 R2 a us (r1.mono L2) r2 Q fun w as3 B3 H3 L3 R3 r3 => q w as3 B3 H3 ((L1.trans L2).trans L3) R3 r3)
def gApp : SV → List SV → Mem → Option (SV × Mem)
  | .loc n, [v], M => match M[n]? with
    | some (.lst xs) => if xs.length < sizeLine then some (.d .none, M.set n (.lst (xs ++ [v]))) else none
    | _ => none
  | _, _, _ => none
theorem g_app : GM K rAppend gApp := fun x xs M z M' h as B H R u us rx rxs Q q => by
  unfold gApp at h
  split at h
  · rename_i n v
    split at h
    · rename_i ys em
      obtain ⟨hz, h⟩ := ite_some h
      cases h
      obtain ⟨l, ea, rfl⟩ := rx
      obtain ⟨c, rfl, rv⟩ := pr1 rxs
      obtain ⟨vs, h3, h4⟩ := R.obj n l _ ea em
      refine ⟨l, vs, c, rfl, rfl, h3, by rw [← Paired.length h4]; exact hz, ?_⟩
      obtain ⟨R', L'⟩ := R.put (o := .lst (vs ++ [c])) (mo' := .lst (ys ++ [v])) ea em (fun z => nomatch z) ⟨_, upd_same, Z.Paired.app h4 (.cons rv .nil)⟩
      exact q _ _ _ _ L' R' .non
    · cases h
  · cases h
end
/-! ### what is walked -/
/-- n items; the source stands as long as the memory keeps the place kp as it is -/
def kept (kp : Option Nat) (xs : List SV) (M : Mem) : Prop := ∀ n, kp = some n → M[n]? = some (.lst xs)
structure Wks (K : PySem.W.Frag) (J : It) (as : List Addr) (B H : Hp) (kp : Option Nat) (xs : List SV) : Prop where
  go : ∀ (i : Nat) (as' : List Addr) (B' H' : Hp) (M' : Mem), Lat as B H as' B' H' → Rel K as' B' M' H' → kept kp xs M' → i < xs.length → J.go i H'
  stop : ∀ (as' : List Addr) (B' H' : Hp) (M' : Mem), Lat as B H as' B' H' → Rel K as' B' M' H' → kept kp xs M' → J.stop xs.length H'
  yld : ∀ (i : Nat) (as' : List Addr) (B' H' : Hp) (M' : Mem) (v : V) (H2 : Hp) (x : SV), Lat as B H as' B' H' → Rel K as' B' M' H' → kept kp xs M' → xs[i]? = some x → J.yld i H' v H2 →
    ∃ B2, Lat as' B' H' as' B2 H2 ∧ Rel K as' B2 M' H2 ∧ VR K as' B2 x v
abbrev Fi := Gm → Mem → Option ((List SV × Option Nat) × Mem)
def Id_ (K : PySem.W.Frag) (wi : TI) (f : Fi) : Prop :=
  ∀ (Γ : Gm) (M : Mem) (xs : List SV) (kp : Option Nat) (M' : Mem), f Γ M = some ((xs, kp), M') → ∀ (as : List Addr) (B : Hp) (σ : L2.St) (H : Hp), Rel K as B M H → GR K as B Γ σ → ∀ R : It → Hp → Prop,
    (∀ (J : It) (as' : List Addr) (B' H' : Hp), Lat as B H as' B' H' → Rel K as' B' M' H' → Wks K J as' B' H' kp xs → R J H') → wi σ H R
def cni (K : PySem.W.Frag) (f : Fi) : TI := fun σ H R => ∃ (Γ : Gm) (M : Mem) (xs : List SV) (kp : Option Nat) (M' : Mem) (as : List Addr) (B : Hp), f Γ M = some ((xs, kp), M') ∧ Rel K as B M H ∧ GR K as B Γ σ ∧
  ∀ (J : It) (as' : List Addr) (B' H' : Hp), Lat as B H as' B' H' → Rel K as' B' M' H' → Wks K J as' B' H' kp xs → R J H'
theorem i_cn {K : PySem.W.Frag} {f : Fi} : Id_ K (cni K f) f := fun Γ M xs kp M' h as B σ H r g R q => ⟨Γ, M, xs, kp, M', as, B, h, r, g, q⟩
structure PId (X : Cx) (tg iter : Expr) (f : Fi) : Prop where
  pe : PI X tg iter (cni X.K f)
theorem PId.of {X : Cx} {tg iter : Expr} {t : TI} {f : Fi} (h : PI X tg iter t) (j : Id_ X.K t f) : PId X tg iter f := ⟨⟨fun pins s σ H R I c => h.run pins s σ H R I (by
  obtain ⟨Γ, M, xs, kp, M', as, B, h1, r, g, q⟩ := c
  exact j Γ M xs kp M' h1 as B σ H r g R q)⟩⟩
theorem PId.j {X : Cx} {tg iter : Expr} {f : Fi} (_ : PId X tg iter f) : Id_ X.K (cni X.K f) f := i_cn
section
variable {X : Cx} {K : PySem.W.Frag}
def srcOf (M : Mem) : SV → Option (List SV × Option Nat)
  | .d (.tuple xs) => some (xs.map .d, none)
  | .d (.list xs) => some (xs.map .d, none)
  | .loc n => match M[n]? with
    | some (.lst xs) => some (xs, some n)
    | _ => none
  | _ => none
def iSeq (K : PySem.W.Frag) (tl : TE) : TI := fun σ H R => iList K tl σ H R
def fItL (a : Fe) : Fi := fun Γ M => (a Γ M).bind fun p => match p.1 with
  | .d (.list xs) => some ((xs.map .d, none), p.2)
  | .loc n => match p.2[n]? with
    | some (.lst xs) => some ((xs, some n), p.2)
    | _ => none
  | _ => none
def fItT (a : Fe) : Fi := fun Γ M => (a Γ M).bind fun p => match p.1 with
  | .d (.tuple xs) => some ((xs.map .d, none), p.2)
  | _ => none
theorem wks_list {as : List Addr} {B H : Hp} {a : Addr} {xs : List PyData} {vs : List V} (r : Rd B a (.lst vs)) (p : Paired (DR K B) xs vs) : Wks K (Itl K a) as B H none (xs.map .d) where
  go := fun i as' B' H' M' L R k hi => by
    have r' : SqL K H' a vs := .inl (same_rd R.ex (same_rd L.ex r))
    have hi : i < vs.length := by rw [List.length_map, p.length] at hi; exact hi
    exact ⟨vs, vs[i], r', by simp [hi]⟩
  stop := fun as' B' H' M' L R k => ⟨vs, .inl (same_rd R.ex (same_rd L.ex r)), by rw [List.length_map, p.length]; exact Nat.le_refl _⟩
  yld := fun i as' B' H' M' v H2 x L R k hx y => by
    obtain ⟨rfl, y⟩ := y
    have r' : SqL K H2 a vs := .inl (same_rd R.ex (same_rd L.ex r))
    have pp : Paired (VR K as' B') (xs.map .d) vs := vrs_d (DR.monos L.ex _ _ p)
    obtain ⟨w, h1, h2⟩ := Z.Paired.at pp hx
    rw [y vs r'] at h1
    cases h1
    exact ⟨B', Lat.refl _ _ _, R, h2⟩
theorem wks_tup {as : List Addr} {B H : Hp} {a : Addr} {xs : List PyData} {vs : List V} (r : SqT K B a vs) (p : Paired (DR K B) xs vs) : Wks K (Itt K a) as B H none (xs.map .d) where
  go := fun i as' B' H' M' L R k hi => by
    have r' : SqT K H' a vs := same_t R.ex (same_t L.ex r)
    have hi : i < vs.length := by rw [List.length_map, p.length] at hi; exact hi
    exact ⟨vs, vs[i], r', by simp [hi]⟩
  stop := fun as' B' H' M' L R k => ⟨vs, same_t R.ex (same_t L.ex r), by rw [List.length_map, p.length]; exact Nat.le_refl _⟩
  yld := fun i as' B' H' M' v H2 x L R k hx y => by
    obtain ⟨rfl, y⟩ := y
    have r' : SqT K H2 a vs := same_t R.ex (same_t L.ex r)
    have pp : Paired (VR K as' B') (xs.map .d) vs := vrs_d (DR.monos L.ex _ _ p)
    obtain ⟨w, h1, h2⟩ := Z.Paired.at pp hx
    rw [y vs r'] at h1
    cases h1
    exact ⟨B', Lat.refl _ _ _, R, h2⟩
theorem Lat.at {as as' : List Addr} {B B' H H' : Hp} {n : Nat} {a : Addr} (L : Lat as B H as' B' H') (e : as[n]? = some a) : as'[n]? = some a := by
  obtain ⟨t, rfl⟩ := L.pre
  rw [List.getElem?_append_left ((List.getElem?_eq_some_iff.mp e).1)]
  exact e
theorem wks_loc {as : List Addr} {B H : Hp} {a : Addr} {n : Nat} {xs : List SV} (ea : as[n]? = some a) : Wks K (Itl K a) as B H (some n) xs where
  go := fun i as' B' H' M' L R k hi => by
    obtain ⟨vs, h1, h2⟩ := R.obj n a _ (L.at ea) (k n rfl)
    have hi : i < vs.length := by rw [Paired.length h2] at hi; exact hi
    exact ⟨vs, vs[i], .inl (.inl h1), by simp [hi]⟩
  stop := fun as' B' H' M' L R k => by
    obtain ⟨vs, h1, h2⟩ := R.obj n a _ (L.at ea) (k n rfl)
    exact ⟨vs, .inl (.inl h1), by rw [Paired.length h2]; exact Nat.le_refl _⟩
  yld := fun i as' B' H' M' v H2 x L R k hx y => by
    obtain ⟨rfl, y⟩ := y
    obtain ⟨vs, h1, h2⟩ := R.obj n a _ (L.at ea) (k n rfl)
    obtain ⟨w, h3, h4⟩ := Z.Paired.at h2 hx
    rw [y vs (.inl (.inl h1))] at h3
    cases h3
    exact ⟨B', Lat.refl _ _ _, R, h4⟩
variable {l : Expr} {tl : TE} {fl : Fe} {tg : Expr}
theorem zilist (h : PEd X l fl) : PId X tg l (fItL fl) := .of (pi_list h.pe) (fun Γ M xs kp M' e as B σ H R G Q q => by
  simp only [fItL, Option.bind_eq_some_iff] at e
  obtain ⟨⟨s, M1⟩, h1, h2⟩ := e
  refine h.j Γ M s M1 h1 as B σ H R G _ fun v as1 B1 H1 L1 R1 r1 => ?_
  split at h2
  · rename_i s' ds e'
    cases h2
    rw [show s = _ from e'] at r1
    cases r1 with
    | lst r p => exact ⟨_, rfl, ⟨_, .inl (same_rd R1.ex r)⟩, q _ as1 B1 H1 L1 R1 (wks_list r p)⟩
  · rename_i s' n e'
    rw [show s = _ from e'] at r1
    obtain ⟨a, ea, rfl⟩ := r1
    split at h2
    · rename_i ys em
      cases h2
      obtain ⟨vs, h3, h4⟩ := R1.obj n a _ ea em
      exact ⟨a, rfl, ⟨vs, .inl (.inl h3)⟩, q _ as1 B1 H1 L1 R1 (wks_loc ea)⟩
    · cases h2
  · cases h2)
theorem zitup (h : PEd X l fl) : PId X tg l (fItT fl) := .of (pi_tup h.pe) (fun Γ M xs kp M' e as B σ H R G Q q => by
  simp only [fItT, Option.bind_eq_some_iff] at e
  obtain ⟨⟨s, M1⟩, h1, h2⟩ := e
  refine h.j Γ M s M1 h1 as B σ H R G _ fun v as1 B1 H1 L1 R1 r1 => ?_
  split at h2
  · rename_i s' ds e'
    cases h2
    rw [show s = _ from e'] at r1
    cases r1 with
    | tup r p => exact ⟨_, rfl, ⟨_, same_t R1.ex r⟩, q _ as1 B1 H1 L1 R1 (wks_tup r p)⟩
  · cases h2)
/-- lo, lo + 1, .. -/
def rng (lo : Int) (n : Nat) : List SV := (List.range n).map fun i => .d (.int (lo + (i : Nat)))
theorem wks_rng {as : List Addr} {B H : Hp} {lo : Int} {n : Nat} : Wks K (Itr lo n) as B H none (rng lo n) where
  go := fun i as' B' H' M' L R k hi => by
    unfold rng at hi
    rw [List.length_map, List.length_range] at hi
    exact hi
  stop := fun as' B' H' M' L R k => by
    unfold rng
    rw [List.length_map, List.length_range]
    exact Nat.le_refl _
  yld := fun i as' B' H' M' v H2 x L R k hx y => by
    obtain ⟨rfl, rfl⟩ := y
    unfold rng at hx
    rw [List.getElem?_map, Option.map_eq_some_iff] at hx
    obtain ⟨j, h1, rfl⟩ := hx
    obtain ⟨h2, h3⟩ := List.getElem?_eq_some_iff.mp h1
    rw [List.getElem_range] at h3
    subst h3
    exact ⟨B', Lat.refl _ _ _, R, .int _⟩
def fRng1 (t : Fa) : Fi := fun Γ M => (t Γ M).bind fun p => match p.1 with
  | [.d (.int j)] => if -(2 ^ 62) ≤ j ∧ j < 2 ^ 62 then some ((rng 0 j.toNat, none), p.2) else none
  | _ => none
def fRng2 (t : Fa) : Fi := fun Γ M => (t Γ M).bind fun p => match p.1 with
  | [.d (.int i), .d (.int j)] => if -(2 ^ 62) ≤ i ∧ i < 2 ^ 62 ∧ -(2 ^ 62) ≤ j ∧ j < 2 ^ 62 then some ((rng i (j - i).toNat, none), p.2) else none
  | _ => none
theorem zirng1 {a : Expr} {fa : Fa} {p pos : Pos} (hg : Gl X "range") (hm : X.mg "range" = none) (ha : PAd X [a] fa) (hs : starEach [a] X.env = [(false, eval a X.env)] := by rfl) : PId X tg (.Call (.Name "range" p) [a] [] pos) (fRng1 fa) :=
  .of (pi_range1 hg hm ha.pe hs) (fun Γ M xs kp M' e as B σ H R G Q q => by
    simp only [fRng1, Option.bind_eq_some_iff] at e
    obtain ⟨⟨s, M1⟩, h1, h2⟩ := e
    refine ha.j Γ M s M1 h1 as B σ H R G _ fun v as1 B1 H1 L1 R1 r1 => ?_
    split at h2
    · rename_i s' j e'
      obtain ⟨hb, h2⟩ := ite_some h2
      cases h2
      rw [show s = _ from e'] at r1
      obtain ⟨w, rfl, r⟩ := pr1 r1
      rw [vr_int r]
      exact ⟨j, rfl, hb.1, hb.2, q _ as1 B1 H1 L1 R1 wks_rng⟩
    · cases h2)
theorem zirng2 {a b : Expr} {fa : Fa} {p pos : Pos} (hg : Gl X "range") (hm : X.mg "range" = none) (ha : PAd X [a, b] fa) (hs : starEach [a, b] X.env = [(false, eval a X.env), (false, eval b X.env)] := by rfl) (hs2 : starEach [b] X.env = [(false, eval b X.env)] := by rfl) :
    PId X tg (.Call (.Name "range" p) [a, b] [] pos) (fRng2 fa) :=
  .of (pi_range2 hg hm ha.pe hs hs2) (fun Γ M xs kp M' e as B σ H R G Q q => by
    simp only [fRng2, Option.bind_eq_some_iff] at e
    obtain ⟨⟨s, M1⟩, h1, h2⟩ := e
    refine ha.j Γ M s M1 h1 as B σ H R G _ fun v as1 B1 H1 L1 R1 r1 => ?_
    split at h2
    · rename_i s' i j e'
      obtain ⟨hb, h2⟩ := ite_some h2
      cases h2
      rw [show s = _ from e'] at r1
      obtain ⟨w, w', rfl, r, r'⟩ := pr2 r1
      rw [vr_int r, vr_int r']
      exact ⟨i, j, rfl, hb, q _ as1 B1 H1 L1 R1 wks_rng⟩
    · cases h2)
/-- a new pair of both sources' items at each turn -/
theorem wks_pair {J : It} {as : List Addr} {B H : Hp} {xs ys : List PyData} {n : Nat} (hn : n = min xs.length ys.length)
    (go : ∀ (i : Nat) (H' : Hp) (B' : Hp), Same B B' → Same B' H' → i < n → J.go i H') (stop : ∀ (H' : Hp) (B' : Hp), Same B B' → Same B' H' → J.stop n H')
    (yld : ∀ (i : Nat) (H' H2 : Hp) (B' : Hp) (v : V), Same B B' → Same B' H' → J.yld i H' v H2 → ∃ T x y, v = .ref T ∧ H' T = none ∧ H2 = upd H' T (.tup [x, y]) ∧ (∀ d, xs[i]? = some d → DR K B d x) ∧ (∀ d, ys[i]? = some d → DR K B d y)) :
    Wks K J as B H none ((xs.zip ys).map fun p => .d (.tuple [p.1, p.2])) where
  go := fun i as' B' H' M' L R k hi => go i H' B' L.ex R.ex (by rw [List.length_map, List.length_zip] at hi; omega)
  stop := fun as' B' H' M' L R k => by
    rw [List.length_map, List.length_zip, ← hn]
    exact stop H' B' L.ex R.ex
  yld := fun i as' B' H' M' v H2 x L R k hx y => by
    rw [List.getElem?_map, Option.map_eq_some_iff] at hx
    obtain ⟨⟨d, e⟩, h1, rfl⟩ := hx
    rw [List.getElem?_zip_eq_some] at h1
    obtain ⟨T, a, b, rfl, hT, rfl, ha, hb⟩ := yld i H' H2 B' v L.ex R.ex y
    obtain ⟨B2, R2, L2, w⟩ := R.tupD hT (ds := [d, e]) (vs := [a, b]) (.cons (DR.mono L.ex _ _ (ha d h1.1)) (.cons (DR.mono L.ex _ _ (hb e h1.2)) .nil))
    exact ⟨B2, L2, R2, w⟩
def zipD (xs ys : List PyData) : List SV := (xs.zip ys).map fun p => .d (.tuple [p.1, p.2])
/-- zip of two lists of data, of two tuples -/
def fZip (t : Fa) : Fi := fun Γ M => (t Γ M).bind fun p => match p.1 with
  | [.d (.tuple xs), .d (.tuple ys)] => some ((zipD xs ys, none), p.2)
  | [.d (.list xs), .d (.list ys)] => some ((zipD xs ys, none), p.2)
  | _ => none
theorem zizip {e e2 : Expr} {fa : Fa} {p pos tpos : Pos} {elts : List Expr} {kk : Nat} (hg : Gl X "zip") (hm : X.mg "zip" = none) (ha : PAd X [e, e2] fa)
    (hs : starEach [e, e2] X.env = (false, eval e X.env) :: starEach [e2] X.env := by rfl) (hpl : (backTo pos (starEach [e2] X.env)).any (·.1) = false := by rfl) :
    PId X (.Tuple elts kk tpos) (.Call (.Name "zip" p) [e, e2] [] pos) (fZip fa) :=
  .of (RZ.pi_zipA hg hm ha.pe hs hpl) (fun Γ M xs kp M' e as B σ H R G Q q => by
    simp only [fZip, Option.bind_eq_some_iff] at e
    obtain ⟨⟨s, M1⟩, h1, h2⟩ := e
    refine ha.j Γ M s M1 h1 as B σ H R G _ fun v as1 B1 H1 L1 R1 r1 => ?_
    split at h2
    · rename_i s' xs ys e'
      cases h2
      rw [show s = _ from e'] at r1
      obtain ⟨w, w', rfl, r, r'⟩ := pr2 r1
      cases r with
      | @tup a vs _ r p =>
        cases r' with
        | @tup b ws _ r' p' =>
          refine ⟨_, _, vs, ws, rfl, .inr ⟨same_t R1.ex r, same_t R1.ex r', q _ as1 B1 H1 L1 R1 (wks_pair rfl (fun i H' B' e1 e2 hi => ?_) (fun H' B' e1 e2 => ?_) fun i H' H2 B' v e1 e2 y => ?_)⟩⟩
          · have l1 := p.length
            have l2 := p'.length
            have h1 : i < vs.length := by omega
            have h2 : i < ws.length := by omega
            exact ⟨vs, ws, vs[i], ws[i], same_t e2 (same_t e1 r), same_t e2 (same_t e1 r'), by simp [h1], by simp [h2]⟩
          · exact ⟨vs, ws, same_t e2 (same_t e1 r), same_t e2 (same_t e1 r'), by rw [p.length, p'.length]; omega⟩
          · obtain ⟨T, x, y, h1, h2, h3, h4, h5⟩ := y
            refine ⟨T, x, y, h1, h2, h3, fun d hd => ?_, fun d hd => ?_⟩
            · obtain ⟨z, h6, h7⟩ := Z.Paired.at p hd
              rw [h4 vs (same_t e2 (same_t e1 r))] at h6
              cases h6
              exact h7
            · obtain ⟨z, h6, h7⟩ := Z.Paired.at p' hd
              rw [h5 ws (same_t e2 (same_t e1 r'))] at h6
              cases h6
              exact h7
    · rename_i s' xs ys e'
      cases h2
      rw [show s = _ from e'] at r1
      obtain ⟨w, w', rfl, r, r'⟩ := pr2 r1
      cases r with
      | @lst a vs _ r p =>
        cases r' with
        | @lst b ws _ r' p' =>
          refine ⟨_, _, vs, ws, rfl, .inl ⟨.inl (same_rd R1.ex r), .inl (same_rd R1.ex r'), q _ as1 B1 H1 L1 R1 (wks_pair rfl (fun i H' B' e1 e2 hi => ?_) (fun H' B' e1 e2 => ?_) fun i H' H2 B' v e1 e2 y => ?_)⟩⟩
          · have l1 := p.length
            have l2 := p'.length
            have h1 : i < vs.length := by omega
            have h2 : i < ws.length := by omega
            exact ⟨vs, ws, vs[i], ws[i], .inl (same_rd e2 (same_rd e1 r)), .inl (same_rd e2 (same_rd e1 r')), by simp [h1], by simp [h2]⟩
          · exact ⟨vs, ws, .inl (same_rd e2 (same_rd e1 r)), .inl (same_rd e2 (same_rd e1 r')), by rw [p.length, p'.length]; omega⟩
          · obtain ⟨T, x, y, h1, h2, h3, h4, h5⟩ := y
            refine ⟨T, x, y, h1, h2, h3, fun d hd => ?_, fun d hd => ?_⟩
            · obtain ⟨z, h6, h7⟩ := Z.Paired.at p hd
              rw [h4 vs (.inl (same_rd e2 (same_rd e1 r)))] at h6
              cases h6
              exact h7
            · obtain ⟨z, h6, h7⟩ := Z.Paired.at p' hd
              rw [h5 ws (.inl (same_rd e2 (same_rd e1 r')))] at h6
              cases h6
              exact h7
    · cases h2)
end
end Z
namespace Z
open PySem L2
noncomputable instance keptDec (kp : Option Nat) (xs : List SV) (M : Mem) : Decidable (kept kp xs M) := Classical.propDecidable _
/-- a for: the items one after another; the source must stand as it was -/
noncomputable def forF (kp : Option Nat) (all : List SV) (g : Fg) (body : Fs) : List SV → Gm → Mem → Option (Out × Mem)
  | [], Γ, M => if kept kp all M then some (.nx Γ, M) else none
  | x :: r, Γ, M => if kept kp all M then
      (g x Γ M).bind fun p => (body p.1 p.2).bind fun q => match q.1 with
        | .nx Γ' => forF kp all g body r Γ' q.2
        | .ct Γ' => forF kp all g body r Γ' q.2
        | .bk Γ' => some (.nx Γ', q.2)
        | .rt s => some (.rt s, q.2)
    else none
noncomputable def fFor (src : Fi) (g : Fg) (body : Fs) : Fs := fun Γ M => (src Γ M).bind fun p => forF p.1.2 p.1.1 g body p.1.1 Γ p.2
/-- a while, at most n turns -/
def whileF (c : Ft) (body : Fs) : Nat → Gm → Mem → Option (Out × Mem)
  | 0, _, _ => none
  | n + 1, Γ, M => (c Γ M).bind fun p => if p.1 = true then
      (body Γ p.2).bind fun q => match q.1 with
        | .nx Γ' => whileF c body n Γ' q.2
        | .ct Γ' => whileF c body n Γ' q.2
        | .bk Γ' => some (.nx Γ', q.2)
        | .rt s => some (.rt s, q.2)
    else some (.nx Γ, p.2)
section
variable {X : Cx} {K : PySem.W.Frag}
theorem forF_ok {J : It} {g : TG} {fg : Fg} {tb : TS} {fb : Fs} {kp : Option Nat} {all : List SV} (hg : Gd K g fg) (hb : Sd K tb fb) {Γ : Gm} {M : Mem} {o : Out} {M' : Mem} (h : forF kp all fg fb all Γ M = some (o, M'))
    {as : List Addr} {B H : Hp} {σ : L2.St} (R : Rel K as B M H) (G : GR K as B Γ σ) (w : Wks K J as B H kp all) {D : Ends} (q : ∀ (as' : List Addr) (B' H' : Hp), Lat as B H as' B' H' → Rel K as' B' M' H' → OK K D as' B' H' o) :
    ∃ W : Nat → Nat → L2.St → Hp → Prop, (∃ m, W 0 m σ H) ∧ ∀ i m σ H, W i m σ H →
      (J.stop i H ∧ D.nx σ H) ∨ (J.go i H ∧ ∃ N : L2.St → Hp → Prop, (∀ σ' H', N σ' H' → ∃ m', m' < m ∧ W (i + 1) m' σ' H') ∧ ∀ x H', J.yld i H x H' → g x σ H' fun σ2 H2 => tb { D with nx := N, ct := N, bk := D.nx } σ2 H2) := by
  refine ⟨fun i m σ' H' => m = all.length - i ∧ i ≤ all.length ∧ ∃ Γ' M1 as' B', forF kp all fg fb (all.drop i) Γ' M1 = some (o, M') ∧ Lat as B H as' B' H' ∧ Rel K as' B' M1 H' ∧ GR K as' B' Γ' σ', ⟨all.length, by omega, Nat.zero_le _, Γ, M, as, B, h, Lat.refl _ _ _, R, G⟩, ?_⟩
  rintro i m σ1 H1 ⟨rfl, hi, Γ1, M1, as1, B1, h1, L1, R1, G1⟩
  by_cases hlt : i < all.length
  · have e1 : all.drop i = all[i] :: all.drop (i + 1) := List.drop_eq_getElem_cons hlt
    rw [e1] at h1
    simp only [forF] at h1
    obtain ⟨hk, h1⟩ := ite_opt h1
    simp only [Option.bind_eq_some_iff] at h1
    obtain ⟨⟨Γ2, M2⟩, h2, ⟨o3, M3⟩, h3, h4⟩ := h1
    refine .inr ⟨w.go i as1 B1 H1 M1 L1 R1 hk hlt, fun σ' H' => ∃ Γ' M1 as' B', forF kp all fg fb (all.drop (i + 1)) Γ' M1 = some (o, M') ∧ Lat as B H as' B' H' ∧ Rel K as' B' M1 H' ∧ GR K as' B' Γ' σ',
      fun σ' H' p => ⟨all.length - (i + 1), by omega, rfl, hlt, p⟩, fun v H2 y => ?_⟩
    obtain ⟨B2, L2, R2, r2⟩ := w.yld i as1 B1 H1 M1 v H2 all[i] L1 R1 hk (List.getElem?_eq_getElem hlt) y
    refine hg _ Γ1 M1 Γ2 M2 h2 as1 B2 σ1 H2 v R2 (G1.mono L2) r2 _ fun σ3 as3 B3 H3 L3 R3 G3 => ?_
    refine hb Γ2 M2 o3 M3 h3 as3 B3 σ3 H3 R3 G3 _ fun as4 B4 H4 L4 R4 => ?_
    have L := ((L1.trans L2).trans L3).trans L4
    cases o3 with
    | nx Γ4 => exact fun σ4 G4 => ⟨Γ4, M3, as4, B4, h4, L, R4, G4⟩
    | ct Γ4 => exact fun σ4 G4 => ⟨Γ4, M3, as4, B4, h4, L, R4, G4⟩
    | bk Γ4 => cases h4; exact q as4 B4 H4 L R4
    | rt s => cases h4; exact q as4 B4 H4 L R4
  · have e : i = all.length := by omega
    subst e
    rw [List.drop_length] at h1
    simp only [forF] at h1
    obtain ⟨hk, h1⟩ := ite_opt h1
    cases h1
    exact .inl ⟨w.stop as1 B1 H1 _ L1 R1 hk, q as1 B1 H1 L1 R1 σ1 G1⟩
theorem zsfor {tg iter : Expr} {body : List Stmt} {fi : Fi} {fg : Fg} {fb : Fs} {pos : Pos} (hp : PassesOwn (model X.prog X.w) X.A X.env X.xe) (hc : X.calm = true) (hi : PId X tg iter fi) (hg : PGd X tg fg) (hb : PSsd X body fb)
    (hs : ∀ x, foldedSetIterable iter X.env x = pure x := by intro _; rfl) : PSd X (.For tg iter body [] pos) (fFor fi fg fb) :=
  .of (ps_for hp hc hi.pe hg.pe hb.pe hs) (fun Γ M o M' h as B σ H R G D q => by
    simp only [fFor, Option.bind_eq_some_iff] at h
    obtain ⟨⟨⟨xs, kp⟩, M1⟩, h1, h2⟩ := h
    refine hi.j Γ M xs kp M1 h1 as B σ H R G _ fun J as1 B1 H1 L1 R1 w => ?_
    exact forF_ok hg.j hb.j h2 R1 (G.mono L1) w fun as2 B2 H2 L2 R2 => q as2 B2 H2 (L1.trans L2) R2)
def fWhile (n : Nat) (c : Ft) (body : Fs) : Fs := fun Γ M => whileF c body n Γ M
theorem zswhile {c : Expr} {body : List Stmt} {fc : Ft} {fb : Fs} {pos : Pos} (n : Nat) (hp : PassesOwn (model X.prog X.w) X.A X.env X.xe) (hc : PTd X c fc) (hb : PSsd X body fb) : PSd X (.While c body [] pos) (fWhile n fc fb) :=
  .of (ps_while hp hc.pe hb.pe) (fun Γ M o M' h as B σ H R G D q => by
    refine ⟨fun m σ1 H1 => ∃ Γ1 M1 as1 B1, whileF fc fb m Γ1 M1 = some (o, M') ∧ Lat as B H as1 B1 H1 ∧ Rel X.K as1 B1 M1 H1 ∧ GR X.K as1 B1 Γ1 σ1, ⟨n, Γ, M, as, B, h, Lat.refl _ _ _, R, G⟩, ?_⟩
    rintro m σ1 H1 ⟨Γ1, M1, as1, B1, h1, L1, R1, G1⟩
    cases m with
    | zero => cases h1
    | succ m =>
      simp only [whileF, Option.bind_eq_some_iff] at h1
      obtain ⟨⟨b, M2⟩, h2, h3⟩ := h1
      refine hc.j Γ1 M1 b M2 h2 as1 B1 σ1 H1 R1 G1 _ fun b' as2 B2 H2 L2 R2 r2 => ?_
      cases (show b = b' from r2)
      cases b with
      | false =>
        cases h3
        exact q as2 B2 H2 (L1.trans L2) R2 σ1 (G1.mono L2)
      | true =>
        simp only [if_true, Option.bind_eq_some_iff] at h3
        obtain ⟨⟨o3, M3⟩, h3, h4⟩ := h3
        refine ⟨fun σ1 H1 => ∃ Γ1 M1 as1 B1, whileF fc fb m Γ1 M1 = some (o, M') ∧ Lat as B H as1 B1 H1 ∧ Rel X.K as1 B1 M1 H1 ∧ GR X.K as1 B1 Γ1 σ1, fun σ' H' p => ⟨m, Nat.lt_succ_self _, p⟩, ?_⟩
        refine hb.j Γ1 M2 o3 M3 h3 as2 B2 σ1 H2 R2 (G1.mono L2) _ fun as4 B4 H4 L4 R4 => ?_
        have L := (L1.trans L2).trans L4
        cases o3 with
        | nx Γ4 => exact fun σ4 G4 => ⟨Γ4, M3, as4, B4, h4, L, R4, G4⟩
        | ct Γ4 => exact fun σ4 G4 => ⟨Γ4, M3, as4, B4, h4, L, R4, G4⟩
        | bk Γ4 => cases h4; exact q as4 B4 H4 L R4
        | rt s => cases h4; exact q as4 B4 H4 L R4)
end
/-! ### comprehensions -/
def wipeG (Γ : Gm) : List Nat → Gm
  | [] => Γ
  | v :: vs => (wipeG Γ vs).set v none
/-- targets that store into the names vs alone -/
def Gwd (K : PySem.W.Frag) (vs : List Nat) (g : TG) (f : Fg) : Prop :=
  ∀ (x : SV) (Γ : Gm) (M : Mem) (Γ' : Gm) (M' : Mem), f x Γ M = some (Γ', M') → ∀ (as : List Addr) (B : Hp) (σ : L2.St) (H : Hp) (v : V), Rel K as B M H → GR K as B Γ σ → VR K as B x v → ∀ Q : L2.St → Hp → Prop,
    (∀ σ' : L2.St, M' = M → GR K as B Γ' σ' → wipe σ' vs = wipe σ vs → Q σ' H) → g v σ H Q
def Gwsd (K : PySem.W.Frag) (vs : List Nat) (g : TGs) (f : Fgs) : Prop :=
  ∀ (x : List SV) (Γ : Gm) (M : Mem) (Γ' : Gm) (M' : Mem), f x Γ M = some (Γ', M') → ∀ (as : List Addr) (B : Hp) (σ : L2.St) (H : Hp) (v : List V), Rel K as B M H → GR K as B Γ σ → Paired (VR K as B) x v → ∀ Q : L2.St → Hp → Prop,
    (∀ σ' : L2.St, M' = M → GR K as B Γ' σ' → wipe σ' vs = wipe σ vs → Q σ' H) → g v σ H Q
def cgw (K : PySem.W.Frag) (vs : List Nat) (f : Fg) : TG := fun v σ H Q => ∃ (x : SV) (Γ : Gm) (M : Mem) (Γ' : Gm) (M' : Mem) (as : List Addr) (B : Hp), f x Γ M = some (Γ', M') ∧ Rel K as B M H ∧ GR K as B Γ σ ∧ VR K as B x v ∧
  ∀ σ' : L2.St, M' = M → GR K as B Γ' σ' → wipe σ' vs = wipe σ vs → Q σ' H
def cgws (K : PySem.W.Frag) (vs : List Nat) (f : Fgs) : TGs := fun v σ H Q => ∃ (x : List SV) (Γ : Gm) (M : Mem) (Γ' : Gm) (M' : Mem) (as : List Addr) (B : Hp), f x Γ M = some (Γ', M') ∧ Rel K as B M H ∧ GR K as B Γ σ ∧ Paired (VR K as B) x v ∧
  ∀ σ' : L2.St, M' = M → GR K as B Γ' σ' → wipe σ' vs = wipe σ vs → Q σ' H
structure PGwd (X : Cx) (vs : List Nat) (e : Expr) (f : Fg) : Prop where
  pe : PG X e (cgw X.K vs f)
structure PGwsd (X : Cx) (vs : List Nat) (es : List Expr) (f : Fgs) : Prop where
  pe : PGs X es (cgws X.K vs f)
theorem PGwd.of {X : Cx} {vs : List Nat} {e : Expr} {t : TG} {f : Fg} (h : PG X e t) (j : Gwd X.K vs t f) : PGwd X vs e f := ⟨⟨fun pins s σ H v u Q I rv c => h.run pins s σ H v u Q I rv (by
  obtain ⟨x, Γ, M, Γ', M', as, B, h1, r, g, rv, q⟩ := c
  exact j x Γ M Γ' M' h1 as B σ H v r g rv Q q)⟩⟩
theorem PGwsd.of {X : Cx} {vs : List Nat} {e : List Expr} {t : TGs} {f : Fgs} (h : PGs X e t) (j : Gwsd X.K vs t f) : PGwsd X vs e f := ⟨⟨fun pins s σ H v u Q I rv c => h.run pins s σ H v u Q I rv (by
  obtain ⟨x, Γ, M, Γ', M', as, B, h1, r, g, rv, q⟩ := c
  exact j x Γ M Γ' M' h1 as B σ H v r g rv Q q)⟩⟩
theorem PGwd.j {X : Cx} {vs : List Nat} {e : Expr} {f : Fg} (_ : PGwd X vs e f) : Gwd X.K vs (cgw X.K vs f) f := fun x Γ M Γ' M' h as B σ H v r g rv Q q => ⟨x, Γ, M, Γ', M', as, B, h, r, g, rv, q⟩
theorem PGwsd.j {X : Cx} {vs : List Nat} {e : List Expr} {f : Fgs} (_ : PGwsd X vs e f) : Gwsd X.K vs (cgws X.K vs f) f := fun x Γ M Γ' M' h as B σ H v r g rv Q q => ⟨x, Γ, M, Γ', M', as, B, h, r, g, rv, q⟩
theorem wipe_set {σ : L2.St} {i : Nat} {v : Option V} : ∀ {vs : List Nat}, i ∈ vs → wipe (σ.set i v) vs = wipe σ vs
  | w :: vs, h => by
    unfold wipe
    by_cases q : i = w
    · subst q
      by_cases m : i ∈ vs
      · rw [wipe_set m]
      · have comm : ∀ vs : List Nat, i ∉ vs → wipe (σ.set i v) vs = (wipe σ vs).set i v := fun vs => by
          induction vs with
          | nil => intro _; rfl
          | cons a r ih =>
            intro hm
            unfold wipe
            rw [ih fun k => hm (List.mem_cons_of_mem _ k), List.set_comm _ _ fun e => hm (by rw [e]; exact List.mem_cons_self)]
        rw [comm vs m, List.set_set]
    · rw [wipe_set ((List.mem_cons.mp h).resolve_left q)]
theorem wipe_wipe {σ : L2.St} : ∀ {vs : List Nat}, wipe (wipe σ vs) vs = wipe σ vs := fun {vs} => by
  have gen : ∀ ws : List Nat, (∀ w ∈ ws, w ∈ vs) → wipe (wipe σ ws) vs = wipe σ vs := fun ws => by
    induction ws with
    | nil => intro _; rfl
    | cons a r ih =>
      intro h
      show wipe ((wipe σ r).set a none) vs = wipe σ vs
      rw [wipe_set (h a List.mem_cons_self)]
      exact ih fun w k => h w (List.mem_cons_of_mem _ k)
  exact gen vs fun _ h => h
section
variable {X : Cx} {K : PySem.W.Frag}
theorem GR.wipe {as : List Addr} {B : Hp} {Γ : Gm} {σ : L2.St} (G : GR K as B Γ σ) : ∀ vs : List Nat, GR K as B (wipeG Γ vs) (L2.wipe σ vs)
  | [] => G
  | v :: vs => Z.Paired.set' (fun s e => nomatch e) v (GR.wipe G vs)
theorem zgwname {vs : List Nat} {i : Nat} {x : Str} {pos : Pos} (hN : X.N.Nodup) (hi : X.N[i]? = some x) (hx : Loc X.env.scope x) (hv : i ∈ vs) (hf : X.fn x = true ∨ X.env.scope.names.lookup x = some .local := by first | exact .inl rfl | exact .inr rfl | assumption) : PGwd X vs (.Name x pos) (tgName i) :=
  .of (pg_name hN hi hx hf) (fun x Γ M Γ' M' h as B σ H v R G r Q q => by
    cases h
    exact q _ rfl (G.set r) (wipe_set hv))
theorem zgwnil {vs : List Nat} : PGwsd X vs [] tgNil := .of (pgs_nil) (fun x Γ M Γ' M' h as B σ H v R G r Q q => by
  cases x with
  | nil =>
    cases h
    cases r
    exact ⟨rfl, q _ rfl G rfl⟩
  | cons _ _ => cases h)
theorem zgwcons {vs : List Nat} {e : Expr} {es : List Expr} {fg : Fg} {fgs : Fgs} (h1 : PGwd X vs e fg) (h2 : PGwsd X vs es fgs) (hs : (assignEach (e :: es) X.env).map (·.2) = assign e X.env :: (assignEach es X.env).map (·.2) := by rfl) : PGwsd X vs (e :: es) (tgCons fg fgs) :=
  .of (pgs_cons h1.pe h2.pe hs) (fun x Γ M Γ' M' h as B σ H v R G r Q q => by
    cases x with
    | nil => cases h
    | cons x xr =>
      simp only [tgCons, Option.bind_eq_some_iff] at h
      obtain ⟨⟨Γ1, M1⟩, k1, k2⟩ := h
      cases r with
      | cons r rr =>
        refine ⟨_, _, rfl, h1.j x Γ M Γ1 M1 k1 as B σ H _ R G r _ fun σ1 e1 G1 w1 => ?_⟩
        subst e1
        exact h2.j xr Γ1 M1 Γ' M' k2 as B σ1 H _ R G1 rr Q fun σ2 e2 G2 w2 => q σ2 e2 G2 (w2.trans w1))
theorem zgwtup {vs : List Nat} {es : List Expr} {kk : Nat} {fgs : Fgs} {n : Nat} {pos : Pos} (hc : X.calm = true) (h : PGwsd X vs es fgs) (hn : (assignEach es X.env).length = n := by rfl) (hst : (assignEach es X.env).findIdx? (·.1) = none := by rfl) : PGwd X vs (.Tuple es kk pos) (tgTup n fgs) :=
  .of (pg_tup hc h.pe hn hst) (fun x Γ M Γ' M' h1 as B σ H v R G r Q q => by
    simp only [tgTup, Option.bind_eq_some_iff] at h1
    obtain ⟨xs, k1, k2⟩ := h1
    obtain ⟨k2, k3⟩ := ite_opt k2
    obtain ⟨a, vs, rfl, r1, p⟩ := tupOf_ok R r k1
    exact ⟨a, vs, rfl, r1, by rw [← Paired.length p]; exact k2, h.j xs Γ M Γ' M' k3 as B σ H vs R G p Q q⟩)
structure PTsd (X : Cx) (ifs : List Expr) (f : Ft) : Prop where
  pe : PTs X ifs (cn X.K RB f)
theorem PTsd.of {X : Cx} {ifs : List Expr} {t : TT} {f : Ft} (h : PTs X ifs t) (j : J X.K RB t f) : PTsd X ifs f := ⟨⟨fun pins s σ H Q I c => h.run pins s σ H Q I (j.use c)⟩⟩
theorem PTsd.j {X : Cx} {ifs : List Expr} {f : Ft} (_ : PTsd X ifs f) : J X.K RB (cn X.K RB f) f := j_cn
def fYes : Ft := fun _ M => some (true, M)
theorem ztsnil : PTsd X [] fYes := .of (pts_nil) (fun Γ M x M' h as B σ H R G Q q => by
  cases h
  exact q _ as B H (Lat.refl _ _ _) R rfl)
theorem ztsone {c : Expr} {f : Ft} (h : PTd X c f) : PTsd X [c] f := .of (pts_one h.pe) (h.j)
end
/-- the new list's items -/
noncomputable def lcF (kp : Option Nat) (all : List SV) (vs : List Nat) (g : Fg) (tt : Ft) (te : Fe) : List SV → List SV → Gm → Mem → Option (List SV × Mem)
  | [], acc, _, M => if kept kp all M then some (acc, M) else none
  | x :: r, acc, Γ, M => if kept kp all M then
      (g x (wipeG Γ vs) M).bind fun p => (tt p.1 p.2).bind fun b => if b.1 = true then
        (te p.1 b.2).bind fun y => if acc.length < sizeLine then lcF kp all vs g tt te r (acc ++ [y.1]) Γ y.2 else none
        else lcF kp all vs g tt te r acc Γ b.2
    else none
noncomputable def fLc (src : Fi) (vs : List Nat) (g : Fg) (tt : Ft) (te : Fe) : Fe := fun Γ M => (src Γ M).bind fun p => (lcF p.1.2 p.1.1 vs g tt te p.1.1 [] Γ p.2).bind fun q => (allD q.1).map fun ds => (.d (.list ds), q.2)
noncomputable def fLcM (src : Fi) (vs : List Nat) (g : Fg) (tt : Ft) (te : Fe) : Fe := fun Γ M => (src Γ M).bind fun p => (lcF p.1.2 p.1.1 vs g tt te p.1.1 [] Γ p.2).map fun q => (.loc q.2.length, q.2 ++ [.lst q.1])
section
variable {X : Cx} {K : PySem.W.Frag} {as as1 : List Addr} {B B1 H H1 : Hp} {M : Mem} {D : Addr} {o : HO}
/-- an object that neither data nor memory knows may change -/
theorem Rel.outside (R : Rel K as B M H) (ha : D ∉ as) (hB : B D = none) : Rel K as B M (upd H D o) where
  len := R.len
  nd := R.nd
  ex := fun b u e => by
    rw [upd_ne (fun q => by rw [q, hB] at e; cases e)]
    exact R.ex b u e
  sep := R.sep
  obj := fun n a mo ea em => by
    have ne : a ≠ D := fun q => ha (by rw [← q]; exact List.mem_of_getElem? ea)
    have h := R.obj n a mo ea em
    cases mo with
    | lst xs =>
      obtain ⟨vs, h1, h2⟩ := h
      exact ⟨vs, by rw [upd_ne ne]; exact h1, h2⟩
    | dct xs =>
      obtain ⟨vs, h1, h2⟩ := h
      exact ⟨vs, by rw [upd_ne ne]; exact h1, h2⟩
    | ins C fs =>
      obtain ⟨dx, vs, h1, h2⟩ := h
      exact ⟨dx, vs, by rw [upd_ne ne]; exact h1, h2⟩
    | gone => trivial
  all := fun a m => by
    rw [upd_ne (fun q => ha (by rw [← q]; exact m))]
    exact R.all a m
theorem Lat.outside (L : Lat as B H as1 B1 H1) (hD : H D = none) : Lat as B H as1 B1 (upd H1 D o) :=
  ⟨L.pre, L.ex, fun a u e n => by rw [upd_ne (ne_of_none e hD)]; exact L.fr a u e n, L.new, L.nb⟩
theorem Lat.keepB (L : Lat as B H as1 B1 H1) (hD : H D ≠ none) (ha : D ∉ as) (hB : B D = none) : B1 D = none ∧ D ∉ as1 := by
  refine ⟨?_, fun m => hD (L.new D m ha)⟩
  cases q : B1 D with
  | none => rfl
  | some u =>
    rcases L.nb D (by rw [q]; exact fun z => nomatch z) with k | k | k
    · exact absurd hB k
    · exact absurd k hD
    · exact absurd k ha
theorem lcF_ok {J : It} {g : TG} {fg : Fg} {tt : TT} {ft : Ft} {te : TE} {fe : Fe} {vs : List Nat} {kp : Option Nat} {all : List SV} (hg : Gwd K vs g fg) (ht : J.1 = J.1 ∧ Z.J K RB tt ft) (he : Z.J K (VR K) te fe) {Γ : Gm} {M : Mem} {ys : List SV} {M' : Mem} (h : lcF kp all vs fg ft fe all [] Γ M = some (ys, M'))
    {σ : L2.St} (R : Rel K as B M H) (G : GR K as B Γ σ) (w : Wks K J as B H kp all) (hD : H D = none) {Q : VK}
    (q : ∀ (as' : List Addr) (B' H' : Hp) (us : List V), Lat as B H as' B' H' → Rel K as' B' M' H' → H' D = some (.lst us) → Paired (VR K as' B') ys us → B' D = none → D ∉ as' → Q (.ref D) H') :
    ∃ W : Nat → Nat → Hp → Prop, (∃ m, W 0 m (upd H D (.lst []))) ∧ ∀ i m H, W i m H →
      (J.stop i H ∧ Q (.ref D) H) ∨ (J.go i H ∧ ∃ Nx : Hp → Prop, (∀ H', Nx H' → ∃ m', m' < m ∧ W (i + 1) m' H') ∧ ∀ x H', J.yld i H x H' → g x (wipe σ vs) H' fun σ2 H2 => wipe σ2 vs = wipe σ vs ∧ tt σ2 H2 fun b H3 =>
        if b = true then te σ2 H3 fun y H4 => ∃ acc, H4 D = some (.lst acc) ∧ acc.length < sizeLine ∧ Nx (upd H4 D (.lst (acc ++ [y]))) else Nx H3) := by
  have BD : B D = none := R.ex.free hD
  have aD : D ∉ as := fun m => R.all D m hD
  refine ⟨fun i m H' => m = all.length - i ∧ i ≤ all.length ∧ ∃ acc us M1 as' B', lcF kp all vs fg ft fe (all.drop i) acc Γ M1 = some (ys, M') ∧ Lat as B H as' B' H' ∧ Rel K as' B' M1 H' ∧ H' D = some (.lst us) ∧ Paired (VR K as' B') acc us ∧ B' D = none ∧ D ∉ as',
    ⟨all.length, by omega, Nat.zero_le _, [], [], M, as, B, h, (Lat.refl as B H).outside hD, R.outside aD BD, upd_same, .nil, BD, aD⟩, ?_⟩
  rintro i m H1 ⟨rfl, hi, acc, us, M1, as1, B1, h1, L1, R1, hd1, p1, b1, a1⟩
  by_cases hlt : i < all.length
  · have e1 : all.drop i = all[i] :: all.drop (i + 1) := List.drop_eq_getElem_cons hlt
    rw [e1] at h1
    simp only [lcF] at h1
    obtain ⟨hk, h1⟩ := ite_opt h1
    simp only [Option.bind_eq_some_iff] at h1
    obtain ⟨⟨Γ2, M2⟩, h2, ⟨b, M3⟩, h3, h4⟩ := h1
    refine .inr ⟨w.go i as1 B1 H1 M1 L1 R1 hk hlt, fun H' => ∃ acc us M1 as' B', lcF kp all vs fg ft fe (all.drop (i + 1)) acc Γ M1 = some (ys, M') ∧ Lat as B H as' B' H' ∧ Rel K as' B' M1 H' ∧ H' D = some (.lst us) ∧ Paired (VR K as' B') acc us ∧ B' D = none ∧ D ∉ as',
      fun H' p => ⟨all.length - (i + 1), by omega, rfl, hlt, p⟩, fun v H2 y => ?_⟩
    obtain ⟨B2, L2, R2, r2⟩ := w.yld i as1 B1 H1 M1 v H2 all[i] L1 R1 hk (List.getElem?_eq_getElem hlt) y
    have hd1' : H1 D ≠ none := by rw [hd1]; exact fun z => nomatch z
    obtain ⟨b2, a2⟩ := L2.keepB hd1' a1 b1
    have hd2 : H2 D = some (.lst us) := L2.fr D _ hd1 a1
    refine hg _ (wipeG Γ vs) M1 Γ2 M2 h2 as1 B2 (wipe σ vs) H2 v R2 (((G.mono L1).mono L2).wipe vs) r2 _ fun σ3 e3 G3 w3 => ⟨w3.trans wipe_wipe, ?_⟩
    subst e3
    refine ht.2 Γ2 M2 b M3 h3 as1 B2 σ3 H2 R2 G3 _ fun b' as3 B3 H3 L3 R3 r3 => ?_
    cases (show b = b' from r3)
    have hd2' : H2 D ≠ none := by rw [hd2]; exact fun z => nomatch z
    obtain ⟨b3, a3⟩ := L3.keepB hd2' a2 b2
    have hd3 : H3 D = some (.lst us) := L3.fr D _ hd2 a2
    have L := (L1.trans L2).trans L3
    cases b with
    | false => exact ⟨acc, us, M3, as3, B3, h4, L, R3, hd3, VR.monos L3 (VR.monos L2 p1), b3, a3⟩
    | true =>
      simp only [if_true, Option.bind_eq_some_iff] at h4
      obtain ⟨⟨y, M4⟩, h4, h5⟩ := h4
      obtain ⟨hz, h5⟩ := ite_opt h5
      refine he Γ2 M3 y M4 h4 as3 B3 σ3 H3 R3 (G3.mono L3) _ fun yv as4 B4 H4 L4 R4 r4 => ?_
      have hd3' : H3 D ≠ none := by rw [hd3]; exact fun z => nomatch z
      obtain ⟨b4, a4⟩ := L4.keepB hd3' a3 b3
      have hd4 : H4 D = some (.lst us) := L4.fr D _ hd3 a3
      have p4 := VR.monos L4 (VR.monos L3 (VR.monos L2 p1))
      exact ⟨us, hd4, by rw [← Paired.length p4]; exact hz, acc ++ [y], us ++ [yv], M4, as4, B4, h5, (L.trans L4).outside hD, R4.outside a4 b4, upd_same, Z.Paired.app p4 (.cons r4 .nil), b4, a4⟩
  · have e : i = all.length := by omega
    subst e
    rw [List.drop_length] at h1
    simp only [lcF] at h1
    obtain ⟨hk, h1⟩ := ite_some h1
    cases h1
    exact .inl ⟨w.stop as1 B1 H1 _ L1 R1 hk, q as1 B1 H1 us L1 R1 hd1 p1 b1 a1⟩
/-- it is data from now on -/
theorem Rel.freeze {us : List V} {ds : List PyData} (R : Rel K as B M H) (hd : H D = some (.lst us)) (hB : B D = none) (ha : D ∉ as) (p : Paired (DR K B) ds us) : Rel K as (upd B D (.lst us)) M H ∧ Same B (upd B D (.lst us)) ∧ VR K as (upd B D (.lst us)) (.d (.list ds)) (.ref D) := by
  have sB : Same B (upd B D (.lst us)) := fun b u e => by
    rw [upd_ne (fun q => by rw [q, hB] at e; cases e)]
    exact e
  have vm : ∀ {xs : List SV} {vs : List V}, Paired (VR K as B) xs vs → Paired (VR K as (upd B D (.lst us))) xs vs := fun h => L2.Paired.mapP h fun s v r => by
    cases s with
    | d x => exact DR.mono sB _ _ r
    | loc n => exact r
  refine ⟨⟨R.len, R.nd, fun b u e => ?_, fun n a mo ea em hg => ?_, fun n a mo ea em => ?_, R.all⟩, sB, .lst (.inl upd_same) (DR.monos sB _ _ p)⟩
  · by_cases q : b = D
    · subst q
      rw [upd_same] at e
      rw [hd]
      exact e
    · rw [upd_ne q] at e
      exact R.ex b u e
  · rw [upd_ne (fun q => ha (by rw [← q]; exact List.mem_of_getElem? ea))]
    exact R.sep n a mo ea em hg
  · have h := R.obj n a mo ea em
    cases mo with
    | lst xs =>
      obtain ⟨vs, h1, h2⟩ := h
      exact ⟨vs, h1, vm h2⟩
    | dct xs =>
      obtain ⟨vs, h1, h2⟩ := h
      exact ⟨vs, h1, L2.Paired.mapP h2 fun s v r => ⟨r.1, by
        cases q : s.2 with
        | d x => have := r.2; rw [q] at this; exact DR.mono sB _ _ this
        | loc n => have := r.2; rw [q] at this; exact this⟩⟩
    | ins C fs =>
      obtain ⟨dx, vs, h1, h2⟩ := h
      exact ⟨dx, vs, h1, L2.Paired.mapP h2 fun s v r => ⟨r.1, by
        cases q : s.2 with
        | d x => have := r.2; rw [q] at this; exact DR.mono sB _ _ this
        | loc n => have := r.2; rw [q] at this; exact this⟩⟩
    | gone => trivial
theorem j_lc {wi : TI} {fi : Fi} {g : TG} {fg : Fg} {tt : TT} {ft : Ft} {te : TE} {fe : Fe} {vs : List Nat} (hi : Id_ K wi fi) (hg : Gwd K vs g fg) (ht : Z.J K RB tt ft) (he : Z.J K (VR K) te fe) : Z.J K (VR K) (tLc wi g tt te vs) (fLc fi vs fg ft fe) := fun Γ M z M' h as B σ H R G Q q => by
  simp only [fLc, Option.bind_eq_some_iff, Option.map_eq_some_iff] at h
  obtain ⟨⟨⟨xs, kp⟩, M1⟩, h1, ⟨ys, M2⟩, h2, ds, h3, h4⟩ := h
  cases h4
  refine hi Γ M xs kp M1 h1 as B σ H R G _ fun J as1 B1 H1 L1 R1 w D hD => ?_
  refine lcF_ok hg ⟨rfl, ht⟩ he h2 R1 (G.mono L1) w hD fun as2 B2 H2 us L2 R2 hd p b2 a2 => ?_
  have pp : Paired (DR K B2) ds us := drs_of (as := as2) (by rw [← allD_some h3]; exact p)
  obtain ⟨R3, sB, w3⟩ := R2.freeze hd b2 a2 pp
  refine q _ as2 _ H2 (L1.trans ⟨L2.pre, L2.ex.trans sB, L2.fr, L2.new, fun a k => ?_⟩) R3 w3
  by_cases e : a = D
  · rw [e]
    exact .inr (.inl hD)
  · rw [upd_ne e] at k
    exact L2.nb a k
/-- the new list is a place of the memory -/
theorem Rel.own {us : List V} {ys : List SV} (R : Rel K as B M H) (hd : H D = some (.lst us)) (hB : B D = none) (ha : D ∉ as) (p : Paired (VR K as B) ys us) : Rel K (as ++ [D]) B (M ++ [.lst ys]) H := by
  have vm : ∀ {s : SV} {v : V}, VR K as B s v → VR K (as ++ [D]) B s v := fun {s v} r => by
    cases s with
    | d x => exact r
    | loc n =>
      obtain ⟨a, e, rfl⟩ := r
      exact ⟨a, by rw [List.getElem?_append_left ((List.getElem?_eq_some_iff.mp e).1)]; exact e, rfl⟩
  refine ⟨by rw [List.length_append, List.length_append, R.len]; rfl, ?_, R.ex, fun n a mo ea em hg => ?_, fun n a mo ea em => ?_, fun a m => ?_⟩
  · rw [List.nodup_append]
    exact ⟨R.nd, by simp, fun a ha' b hb => by rw [List.mem_singleton.mp hb]; exact fun q => ha (by rw [← q]; exact ha')⟩
  · by_cases hn : n < as.length
    · rw [List.getElem?_append_left hn] at ea
      rw [List.getElem?_append_left (by rw [← R.len]; exact hn)] at em
      exact R.sep n a mo ea em hg
    · rw [List.getElem?_append_right (by omega)] at ea
      rw [List.mem_singleton.mp (List.mem_of_getElem? ea)]
      exact hB
  · by_cases hn : n < as.length
    · rw [List.getElem?_append_left hn] at ea
      rw [List.getElem?_append_left (by rw [← R.len]; exact hn)] at em
      have h := R.obj n a mo ea em
      cases mo with
      | lst xs =>
        obtain ⟨vs, h1, h2⟩ := h
        exact ⟨vs, h1, L2.Paired.mapP h2 fun _ _ r => vm r⟩
      | dct xs =>
        obtain ⟨vs, h1, h2⟩ := h
        exact ⟨vs, h1, L2.Paired.mapP h2 fun _ _ r => ⟨r.1, vm r.2⟩⟩
      | ins C fs =>
        obtain ⟨dx, vs, h1, h2⟩ := h
        exact ⟨dx, vs, h1, L2.Paired.mapP h2 fun _ _ r => ⟨r.1, vm r.2⟩⟩
      | gone => trivial
    · rw [List.getElem?_append_right (by omega)] at ea
      rw [List.getElem?_append_right (by rw [← R.len]; omega)] at em
      have e1 : a = D := List.mem_singleton.mp (List.mem_of_getElem? ea)
      have e2 : mo = .lst ys := List.mem_singleton.mp (List.mem_of_getElem? em)
      rw [e1, e2]
      exact ⟨us, hd, L2.Paired.mapP p fun _ _ r => vm r⟩
  · rcases List.mem_append.mp m with k | k
    · exact R.all a k
    · rw [List.mem_singleton.mp k, hd]
      exact fun z => nomatch z
theorem j_lcM {wi : TI} {fi : Fi} {g : TG} {fg : Fg} {tt : TT} {ft : Ft} {te : TE} {fe : Fe} {vs : List Nat} (hi : Id_ K wi fi) (hg : Gwd K vs g fg) (ht : Z.J K RB tt ft) (he : Z.J K (VR K) te fe) : Z.J K (VR K) (tLc wi g tt te vs) (fLcM fi vs fg ft fe) := fun Γ M z M' h as B σ H R G Q q => by
  simp only [fLcM, Option.bind_eq_some_iff, Option.map_eq_some_iff] at h
  obtain ⟨⟨⟨xs, kp⟩, M1⟩, h1, ⟨ys, M2⟩, h2, h4⟩ := h
  cases h4
  refine hi Γ M xs kp M1 h1 as B σ H R G _ fun J as1 B1 H1 L1 R1 w D hD => ?_
  refine lcF_ok hg ⟨rfl, ht⟩ he h2 R1 (G.mono L1) w hD fun as2 B2 H2 us L2 R2 hd p b2 a2 => ?_
  refine q _ (as2 ++ [D]) B2 H2 (L1.trans ⟨L2.pre.trans (List.prefix_append _ _), L2.ex, L2.fr, fun a m n => ?_, L2.nb⟩) (R2.own hd b2 a2 p) ⟨D, ?_, rfl⟩
  · rcases List.mem_append.mp m with k | k
    · exact L2.new a k n
    · rw [List.mem_singleton.mp k]
      exact hD
  · rw [← R2.len, List.getElem?_append_right (Nat.le_refl _), Nat.sub_self]
    rfl
variable {elt tg iter : Expr} {ifs : List Expr} {scope : Scope} {own : List (Str × Nat)} {pos : Pos} {wi : TI} {fi : Fi} {g : TG} {fg : Fg} {tt : TT} {ft : Ft} {te : TE} {fe : Fe}
theorem zlc (hc : X.calm = true) (hN : X.N.Nodup) (hi : PId X tg iter fi) (ok : BlkOk X.N X.env.scope scope own)
    (hg : ∀ (s : Shared) (H : Hp) (C : Addr) (cl : List (Str × Addr)) (fp : List Addr), PGwd (X.blk s H scope (compEnvC scope cl C X.env) fp) (own.map (·.2)) tg fg) (ht : ∀ (s : Shared) (H : Hp) (C : Addr) (cl : List (Str × Addr)) (fp : List Addr), PTsd (X.blk s H scope (compEnvC scope cl C X.env) fp) ifs ft)
    (he : ∀ (s : Shared) (H : Hp) (C : Addr) (cl : List (Str × Addr)) (fp : List Addr), PEd (X.blk s H scope (compEnvC scope cl C X.env) fp) elt fe) (hs : ∀ x, foldedSetIterable iter X.env x = pure x := by intro _; rfl) :
    PEd X (.ListComp elt [⟨tg, iter, ifs, 0⟩] scope pos) (fLc fi (own.map (·.2)) fg ft fe) :=
  .of (pe_lc hc hN hi.pe ok (fun s H C cl fp => (hg s H C cl fp).pe) (fun s H C cl fp => (ht s H C cl fp).pe) (fun s H C cl fp => (he s H C cl fp).pe) hs) (j_lc hi.j (hg X.s_0 X.H_0 0 [] []).j (ht X.s_0 X.H_0 0 [] []).j (he X.s_0 X.H_0 0 [] []).j)
theorem zlcM (hc : X.calm = true) (hN : X.N.Nodup) (hi : PId X tg iter fi) (ok : BlkOk X.N X.env.scope scope own)
    (hg : ∀ (s : Shared) (H : Hp) (C : Addr) (cl : List (Str × Addr)) (fp : List Addr), PGwd (X.blk s H scope (compEnvC scope cl C X.env) fp) (own.map (·.2)) tg fg) (ht : ∀ (s : Shared) (H : Hp) (C : Addr) (cl : List (Str × Addr)) (fp : List Addr), PTsd (X.blk s H scope (compEnvC scope cl C X.env) fp) ifs ft)
    (he : ∀ (s : Shared) (H : Hp) (C : Addr) (cl : List (Str × Addr)) (fp : List Addr), PEd (X.blk s H scope (compEnvC scope cl C X.env) fp) elt fe) (hs : ∀ x, foldedSetIterable iter X.env x = pure x := by intro _; rfl) :
    PEd X (.ListComp elt [⟨tg, iter, ifs, 0⟩] scope pos) (fLcM fi (own.map (·.2)) fg ft fe) :=
  .of (pe_lc hc hN hi.pe ok (fun s H C cl fp => (hg s H C cl fp).pe) (fun s H C cl fp => (ht s H C cl fp).pe) (fun s H C cl fp => (he s H C cl fp).pe) hs) (j_lcM hi.j (hg X.s_0 X.H_0 0 [] []).j (ht X.s_0 X.H_0 0 [] []).j (he X.s_0 X.H_0 0 [] []).j)
theorem zssetLc {i : Nat} {y : Str} {py spos : Pos} (hc : X.calm = true) (hN : X.N.Nodup) (hy : X.N[i]? = some y) (hyl : X.env.scope.names.lookup y = some .local)
    (hsw : swapsWith (.ListComp elt [⟨tg, iter, ifs, 0⟩] scope pos) (some (.Name y py)) spos.line X.env = pure true) (hi : PId X tg iter fi) (ok : BlkOk X.N X.env.scope scope own)
    (hg : ∀ (s : Shared) (H : Hp) (C : Addr) (cl : List (Str × Addr)) (fp : List Addr), PGwd (X.blk s H scope (compEnvC scope cl C X.env) fp) (own.map (·.2)) tg fg) (ht : ∀ (s : Shared) (H : Hp) (C : Addr) (cl : List (Str × Addr)) (fp : List Addr), PTsd (X.blk s H scope (compEnvC scope cl C X.env) fp) ifs ft)
    (he : ∀ (s : Shared) (H : Hp) (C : Addr) (cl : List (Str × Addr)) (fp : List Addr), PEd (X.blk s H scope (compEnvC scope cl C X.env) fp) elt fe) (hs : ∀ x, foldedSetIterable iter X.env x = pure x := by intro _; rfl) :
    PSd X (.Assign [.Name y py] (.ListComp elt [⟨tg, iter, ifs, 0⟩] scope pos) spos) (fAsg (fLc fi (own.map (·.2)) fg ft fe) (tgName i)) :=
  .of (ps_setLc hc hN hy hyl hsw hi.pe ok (fun s H C cl fp => (hg s H C cl fp).pe) (fun s H C cl fp => (ht s H C cl fp).pe) (fun s H C cl fp => (he s H C cl fp).pe) hs) (s_asg (j_lc hi.j (hg X.s_0 X.H_0 0 [] []).j (ht X.s_0 X.H_0 0 [] []).j (he X.s_0 X.H_0 0 [] []).j) g_name)
theorem zssetLcM {i : Nat} {y : Str} {py spos : Pos} (hc : X.calm = true) (hN : X.N.Nodup) (hy : X.N[i]? = some y) (hyl : X.env.scope.names.lookup y = some .local)
    (hsw : swapsWith (.ListComp elt [⟨tg, iter, ifs, 0⟩] scope pos) (some (.Name y py)) spos.line X.env = pure true) (hi : PId X tg iter fi) (ok : BlkOk X.N X.env.scope scope own)
    (hg : ∀ (s : Shared) (H : Hp) (C : Addr) (cl : List (Str × Addr)) (fp : List Addr), PGwd (X.blk s H scope (compEnvC scope cl C X.env) fp) (own.map (·.2)) tg fg) (ht : ∀ (s : Shared) (H : Hp) (C : Addr) (cl : List (Str × Addr)) (fp : List Addr), PTsd (X.blk s H scope (compEnvC scope cl C X.env) fp) ifs ft)
    (he : ∀ (s : Shared) (H : Hp) (C : Addr) (cl : List (Str × Addr)) (fp : List Addr), PEd (X.blk s H scope (compEnvC scope cl C X.env) fp) elt fe) (hs : ∀ x, foldedSetIterable iter X.env x = pure x := by intro _; rfl) :
    PSd X (.Assign [.Name y py] (.ListComp elt [⟨tg, iter, ifs, 0⟩] scope pos) spos) (fAsg (fLcM fi (own.map (·.2)) fg ft fe) (tgName i)) :=
  .of (ps_setLc hc hN hy hyl hsw hi.pe ok (fun s H C cl fp => (hg s H C cl fp).pe) (fun s H C cl fp => (ht s H C cl fp).pe) (fun s H C cl fp => (he s H C cl fp).pe) hs) (s_asg (j_lcM hi.j (hg X.s_0 X.H_0 0 [] []).j (ht X.s_0 X.H_0 0 [] []).j (he X.s_0 X.H_0 0 [] []).j) g_name)
end
/-! ### a def -/
def lowS (n : Nat) : SV → Bool
  | .d _ => true
  | .loc k => decide (k < n)
def lowM (n : Nat) : MO → Bool
  | .lst xs => xs.all (lowS n)
  | .dct kvs => kvs.all fun p => lowS n p.2
  | .ins _ fs => fs.all fun p => lowS n p.2
  | .gone => true
/-- places above n are let go, where nothing speaks of them -/
def trunc (n : Nat) (s : SV) (M : Mem) : SV × Mem := if (lowS n s && (M.take n).all (lowM n)) = true then (s, M.take n) else (s, M)
theorem Rel.trunc {K : PySem.W.Frag} {as0 as : List Addr} {B0 H0 B H : Hp} {M : Mem} {s : SV} {v : V} {n : Nat} (R : Rel K as B M H) (L : Lat as0 B0 H0 as B H) (r : VR K as B s v) (hn : as0.length = n) :
    ∃ as', Rel K as' B (Z.trunc n s M).2 H ∧ Lat as0 B0 H0 as' B H ∧ VR K as' B (Z.trunc n s M).1 v := by
  unfold Z.trunc
  by_cases c : (lowS n s && (M.take n).all (lowM n)) = true
  · rw [if_pos c]
    simp only [Bool.and_eq_true, List.all_eq_true] at c
    obtain ⟨c1, c2⟩ := c
    have tk : ∀ {k : Nat}, k < n → (as.take n)[k]? = as[k]? := fun h => by rw [List.getElem?_take, if_pos h]
    have vm : ∀ {s : SV} {v : V}, lowS n s = true → VR K as B s v → VR K (as.take n) B s v := fun {s v} h r => by
      cases s with
      | d x => exact r
      | loc k =>
        obtain ⟨a, e, rfl⟩ := r
        exact ⟨a, by rw [tk (of_decide_eq_true h)]; exact e, rfl⟩
    have vms : ∀ {xs : List SV} {vs : List V}, xs.all (lowS n) = true → Paired (VR K as B) xs vs → Paired (VR K (as.take n) B) xs vs := fun {xs vs} h p => by
      induction p with
      | nil => exact .nil
      | cons a b ih =>
        simp only [List.all_cons, Bool.and_eq_true] at h
        exact .cons (vm h.1 a) (ih h.2)
    have kms : ∀ {κ : Type} {xs : List (κ × SV)} {vs : List (κ × V)}, (xs.all fun p => lowS n p.2) = true → Paired (KR K as B) xs vs → Paired (KR K (as.take n) B) xs vs := fun {κ xs vs} h p => by
      induction p with
      | nil => exact .nil
      | cons a b ih =>
        simp only [List.all_cons, Bool.and_eq_true] at h
        exact .cons ⟨a.1, vm h.1 a.2⟩ (ih h.2)
    have low : ∀ {k : Nat} {a : Addr}, (as.take n)[k]? = some a → k < n := fun {k a} e => by
      have := (List.getElem?_eq_some_iff.mp e).1
      rw [List.length_take] at this
      omega
    refine ⟨as.take n, ⟨by rw [List.length_take, List.length_take, R.len], R.nd.sublist (List.take_sublist _ _), R.ex, fun k a mo ea em hg => ?_, fun k a mo ea em => ?_, fun a m => R.all a (List.mem_of_mem_take m)⟩, ⟨?_, L.ex, L.fr, fun a m => L.new a (List.mem_of_mem_take m), L.nb⟩, vm c1 r⟩
    · have hk := low ea
      rw [tk hk] at ea
      rw [List.getElem?_take, if_pos hk] at em
      exact R.sep k a mo ea em hg
    · have hk := low ea
      have hm := c2 mo (List.mem_of_getElem? em)
      rw [tk hk] at ea
      rw [List.getElem?_take, if_pos hk] at em
      have h := R.obj k a mo ea em
      cases mo with
      | lst xs =>
        obtain ⟨vs, h1, h2⟩ := h
        exact ⟨vs, h1, vms hm h2⟩
      | dct xs =>
        obtain ⟨vs, h1, h2⟩ := h
        exact ⟨vs, h1, kms hm h2⟩
      | ins C fs =>
        obtain ⟨dx, vs, h1, h2⟩ := h
        exact ⟨dx, vs, h1, kms hm h2⟩
      | gone => trivial
    · obtain ⟨t, e⟩ := L.pre
      refine ⟨[], ?_⟩
      rw [List.append_nil, ← e, ← hn]
      simp
  · rw [if_neg c]
    exact ⟨as, R, L, r⟩
def runF (N : Nat) (fb : Fs) : Fn := fun xs M => (fb (xs.map some ++ List.replicate (N - xs.length) none) M).bind fun p => match p.1 with
  | .nx _ => some (trunc M.length (.d .none) p.2)
  | .rt s => some (trunc M.length s p.2)
  | _ => none
theorem gr_start {K : PySem.W.Frag} {as : List Addr} {B : Hp} {xs : List SV} {vs : List V} (p : Paired (VR K as B) xs vs) (n : Nat) : GR K as B (xs.map some ++ List.replicate n none) (vs.map some ++ List.replicate n none) := by
  refine Paired.app ?_ ?_
  · induction p with
    | nil => exact .nil
    | cons a b ih => exact .cons (fun s e => by cases e; exact ⟨_, rfl, a⟩) ih
  · induction n with
    | zero => exact .nil
    | succ n ih => exact .cons (fun s e => nomatch e) ih
section
variable {P : Program} {w : World} {K : PySem.W.Frag} {mg : Str → Option Value} {base : Heap}
theorem fnd {x qual : Str} {st : Stmt} {f : Addr} {fd : FuncData} {N ps : List Str} {k n : Nat} {fb : Fs} (F : Fun K x qual st f fd) (S : FnScope N ps (defScope st)) (hn : ps.length = n)
    (hb : ∀ (cdv : Value) (A : Around) (outer : List Env) (s : Shared) (H : Hp) (E : XK), Room k (A.deeper (PyProof.Rows.envOfC qual (defScope st) s.heap.objs.size f cdv)) → PSsd (cxOf CX0 P w K mg base N qual (defScope st) f cdv A outer s H E).nox (defBody st) fb) :
    FnOk P w K mg base CX0 (k + 1) f fd ps (spF K n (runF N.length fb)) := by
  refine F.ok S (fun vs H Q E h => ?_) (fun cdv A outer s H vs Q E hr h => ?_)
  · obtain ⟨_, _, _, _, _, _, e, _⟩ := h
    rw [e, hn]
  · obtain ⟨as, B, M, xs, r, M', e, h1, R, p, q⟩ := h
    have ht := hb cdv A outer s H E hr
    refine ⟨_, ht.pe, ?_⟩
    simp only [runF, Option.bind_eq_some_iff] at h1
    obtain ⟨⟨o, M1⟩, h2, h3⟩ := h1
    have G : GR K as B (xs.map some ++ List.replicate (N.length - xs.length) none) (L2.start N vs) := by
      unfold L2.start
      rw [← p.length]
      exact gr_start p _
    refine ht.j _ M o M1 h2 as B (L2.start N vs) H R G _ fun as1 B1 H1 L1 R1 => ?_
    cases o with
    | nx Γ =>
      intro σ _
      obtain ⟨as2, R2, L2, r2⟩ := R1.trunc (s := .d .none) (v := .non) (n := M.length) L1 .non R.len
      injection h3 with h3
      rw [h3] at R2 r2
      exact q _ as2 B1 H1 L2 R2 r2
    | rt s =>
      intro v rv
      obtain ⟨as2, R2, L2, r2⟩ := R1.trunc (s := s) (v := v) (n := M.length) L1 rv R.len
      injection h3 with h3
      rw [h3] at R2 r2
      exact q _ as2 B1 H1 L2 R2 r2
    | bk Γ => cases h3
    | ct Γ => cases h3
/-- the law's end -/
def scr (ns : List Int) : SV := .d (.dict (ns.map fun n => (.none, .int n)))
theorem law_end {f : Fn} {H : Hp} {a : Addr} {ns : List Int} (h : ∃ M', f [scr ns] [] = some (.d (.bool true), M')) (hS : SqL K H a (ns.map V.int)) {E : XK} : spF K 1 f [.ref a] H (fun v _ => v = .bl true) E := by
  obtain ⟨M', h⟩ := h
  exact ⟨[], H, [], [scr ns], _, M', rfl, h, ⟨rfl, List.nodup_nil, Same.refl _, fun n a mo e => by simp at e, fun n a mo e => by simp at e, fun a h => by simp at h⟩, .cons (.ro ns hS) .nil, fun v _ _ _ _ _ r => vr_bl r⟩
end
end Z
namespace Z
open PySem L2
theorem bb_len : bootBuiltins ("len" : Str) = some (.builtin "len") := by decide +kernel
theorem bb_all : bootBuiltins ("all" : Str) = some (.builtin "all") := by decide +kernel
theorem bb_any : bootBuiltins ("any" : Str) = some (.builtin "any") := by decide +kernel
theorem bb_abs : bootBuiltins ("abs" : Str) = some (.builtin "abs") := by decide +kernel
theorem bb_min : bootBuiltins ("min" : Str) = some (.builtin "min") := by decide +kernel
theorem bb_max : bootBuiltins ("max" : Str) = some (.builtin "max") := by decide +kernel
theorem bb_int : bootBuiltins ("int" : Str) = some (.type "int") := by decide +kernel
theorem bb_str : bootBuiltins ("str" : Str) = some (.type "str") := by decide +kernel
theorem bb_bool : bootBuiltins ("bool" : Str) = some (.type "bool") := by decide +kernel
theorem bb_list : bootBuiltins ("list" : Str) = some (.type "list") := by decide +kernel
theorem bb_tuple : bootBuiltins ("tuple" : Str) = some (.type "tuple") := by decide +kernel
theorem room65 {k : Nat} {A : Around} (r : Room k A) : A.units + 65 < cLine := by have := r.un; omega
/-- a def of the text -/
structure Df (K : PySem.W.Frag) (mg : Str → Option Value) (x qual : Str) (st : Stmt) (ps : List Str) where
  a : Addr
  fd : FuncData
  F : Fun K x qual st a fd
  g : mg x = some (.ref a)
  b : Binds K fd ps []
theorem Fun.kb {K : PySem.W.Frag} {x qual : Str} {st : Stmt} {f : Addr} {fd : FuncData} {ps ks : List Str} {m : Nat} {perm : List Nat} (F : Fun K x qual st f fd) (hne : ps ≠ [])
    (h : ∀ (kV doc pm : Value) (an : Option Addr) (cdv ct : Value) (us ws : List Value), us.length = m → (us ++ perm.filterMap fun i => ws[i]?).length = ps.length → bindArgs (PySem.W.fnOf x qual (defArgs st) (defBody st) (defScope st) .none kV doc pm an cdv ct) ⟨us, ks.zip ws⟩ = pure (ps.zip (us ++ perm.filterMap fun i => ws[i]?))) : KBinds K fd ps ks (gpm m perm) (gpm m perm) := by
  obtain ⟨oc, od, kV, doc, pm, an, cdv, ct, osl, rfl, lk, hcd⟩ := F.ex
  exact kbinds_of hne (h kV doc pm an cdv ct)
section
variable {X : Cx} {K : PySem.W.Frag} {ta tb tc : TE} {fa fb fc : Fe} {a b c : Expr} {pos : Pos}
/-- a < b < c -/
def fChain (g g' : SV → SV → Mem → Option (SV × Mem)) (a b c : Fe) : Fe := fun Γ M => (a Γ M).bind fun p => (b Γ p.2).bind fun q => (g p.1 q.1 q.2).bind fun r => (boolOf r.1).bind fun k =>
  if k = true then (c Γ r.2).bind fun s => g' q.1 s.1 s.2 else some (.d (.bool false), r.2)
theorem j_chain {r r' : R2} {g g' : SV → SV → Mem → Option (SV × Mem)} (hg : G2 K r g) (hg' : G2 K r' g') (ha : J K (VR K) ta fa) (hb : J K (VR K) tb fb) (hc : J K (VR K) tc fc) : J K (VR K) (tChain r r' ta tb tc) (fChain g g' fa fb fc) := fun Γ M z M' h as B σ H R G Q q => by
  simp only [fChain, Option.bind_eq_some_iff] at h
  obtain ⟨⟨x, M1⟩, h1, ⟨y, M2⟩, h2, ⟨w, M3⟩, h3, k, h4, h5⟩ := h
  refine ha Γ M x M1 h1 as B σ H R G _ fun u as1 B1 H1 L1 R1 r1 => ?_
  refine hb Γ M1 y M2 h2 as1 B1 σ H1 R1 (G.mono L1) _ fun v as2 B2 H2 L2 R2 r2 => ?_
  refine hg x y M2 w M3 h3 as2 B2 H2 R2 u v (r1.mono L2) r2 _ fun w' as3 B3 H3 L3 R3 r3 => ⟨k, boolOf_ok r3 h4, ?_⟩
  cases k with
  | false => cases h5; exact q _ as3 B3 H3 ((L1.trans L2).trans L3) R3 (.bl _)
  | true =>
    simp only [if_true, Option.bind_eq_some_iff] at h5
    obtain ⟨⟨s, M4⟩, h6, h7⟩ := h5
    refine hc Γ M3 s M4 h6 as3 B3 σ H3 R3 (((G.mono L1).mono L2).mono L3) _ fun s' as4 B4 H4 L4 R4 r4 => ?_
    exact hg' y s M4 z M' h7 as4 B4 H4 R4 v s' ((r2.mono L3).mono L4) r4 Q fun z' as5 B5 H5 L5 R5 r5 => q z' as5 B5 H5 ((((L1.trans L2).trans L3).trans L4).trans L5) R5 r5
theorem zchain {op op' : CmpOp} {r r' : R2} {g g' : SV → SV → Mem → Option (SV × Mem)} (ho : OpR X (compareOp op) r) (ho' : OpR X (compareOp op') r') (hg : G2 X.K r g) (hg' : G2 X.K r' g') (ha : PEd X a fa) (hb : PEd X b fb) (hc : PEd X c fc)
    (hm : lastMarks [op, op'] [b, c] = false := by with_unfolding_all rfl) : PEd X (.Compare a [op, op'] [b, c] pos) (fChain g g' fa fb fc) := .of (pe_chain ho ho' ha.pe hb.pe hc.pe hm) (j_chain hg hg' ha.j hb.j hc.j)
theorem ztchain {op op' : CmpOp} {r r' : R2} {g g' : SV → SV → Mem → Option (SV × Mem)} (ho : OpR X (compareOp op) r) (ho' : OpR X (compareOp op') r') (hg : G2 X.K r g) (hg' : G2 X.K r' g') (ha : PEd X a fa) (hb : PEd X b fb) (hc : PEd X c fc)
    (hm : lastMarks [op, op'] [b, c] = false := by with_unfolding_all rfl) : PTd X (.Compare a [op, op'] [b, c] pos) (fBool (fChain g g' fa fb fc)) := .of (pt_chain ho ho' ha.pe hb.pe hc.pe hm) (j_tt (j_chain hg hg' ha.j hb.j hc.j))
end
theorem piOr {X : Cx} {tg l : Expr} {w1 w2 : TI} (h1 : PI X tg l w1) (h2 : PI X tg l w2) : PI X tg l (fun σ H R => w1 σ H R ∨ w2 σ H R) := ⟨fun pins s σ H R I h => by
  rcases h with h | h
  · exact h1.run pins s σ H R I h
  · exact h2.run pins s σ H R I h⟩
def fItS (a : Fe) : Fi := fun Γ M => (a Γ M).bind fun p => match p.1 with
  | .d (.tuple xs) => some ((xs.map .d, none), p.2)
  | .d (.list xs) => some ((xs.map .d, none), p.2)
  | .loc n => match p.2[n]? with
    | some (.lst xs) => some ((xs, some n), p.2)
    | _ => none
  | _ => none
theorem zi_seq {X : Cx} {tg l : Expr} {fl : Fe} (h : PEd X l fl) : PId X tg l (fItS fl) := .of (piOr (pi_list h.pe) (pi_tup h.pe)) (fun Γ M xs kp M' e as B σ H R G Q q => by
  simp only [fItS, Option.bind_eq_some_iff] at e
  obtain ⟨⟨s, M1⟩, h1, h2⟩ := e
  split at h2
  · rename_i s' ds e'
    cases h2
    refine .inr (h.j Γ M s _ h1 as B σ H R G _ fun v as1 B1 H1 L1 R1 r1 => ?_)
    rw [show s = _ from e'] at r1
    cases r1 with
    | tup r p => exact ⟨_, rfl, ⟨_, same_t R1.ex r⟩, q _ as1 B1 H1 L1 R1 (wks_tup r p)⟩
  · rename_i s' ds e'
    cases h2
    refine .inl (h.j Γ M s _ h1 as B σ H R G _ fun v as1 B1 H1 L1 R1 r1 => ?_)
    rw [show s = _ from e'] at r1
    cases r1 with
    | lst r p => exact ⟨_, rfl, ⟨_, .inl (same_rd R1.ex r)⟩, q _ as1 B1 H1 L1 R1 (wks_list r p)⟩
  · rename_i s' n e'
    split at h2
    · rename_i ys em
      cases h2
      refine .inl (h.j Γ M s _ h1 as B σ H R G _ fun v as1 B1 H1 L1 R1 r1 => ?_)
      rw [show s = _ from e'] at r1
      obtain ⟨a, ea, rfl⟩ := r1
      obtain ⟨vs, h3, h4⟩ := R1.obj n a _ ea em
      exact ⟨a, rfl, ⟨vs, .inl (.inl h3)⟩, q _ as1 B1 H1 L1 R1 (wks_loc ea)⟩
    · cases h2
  · cases h2)
theorem zlstM {X : Cx} {es : List Expr} {f1 : Fa} {pos : Pos} (h : PAd X es f1) : PEd X (.List es pos) (fLstM f1) := .of (pe_lst h.pe) (fun Γ M z M' h0 as B σ H R G Q q => by
  simp only [fLstM, Option.bind_eq_some_iff] at h0
  obtain ⟨⟨x, M1⟩, h1, h3⟩ := h0
  obtain ⟨hsz, h3⟩ := ite_some h3
  cases h3
  refine h.j Γ M x _ h1 as B σ H R G _ fun u as1 B1 H1 L1 R1 r1 => ?_
  refine ⟨by rw [← Paired.length r1]; exact hsz, fun p hp => ?_⟩
  obtain ⟨R', L'⟩ := R1.newL (o := .lst u) (mo := .lst x) hp ⟨u, upd_same, r1⟩
  refine q _ _ _ _ (L1.trans L') R' ⟨p, ?_, rfl⟩
  show (as1 ++ [p])[M1.length]? = some p
  rw [← R1.len, List.getElem?_append_right (Nat.le_refl _), Nat.sub_self]
  rfl)
theorem fnd_zero {P : Program} {w : World} {K : PySem.W.Frag} {mg : Str → Option Value} {base : Heap} {x qual : Str} {st : Stmt} {f : Addr} {fd : FuncData} {N ps : List Str} {k n : Nat} (_ : Fun K x qual st f fd) (_ : FnScope N ps (defScope st)) (hn : ps.length = n) (_ : 0 ≤ k) :
    FnOk P w K mg base CX0 k f fd ps (spF K n fun _ _ => none) :=
  ⟨(fun _ _ _ _ h => by
    obtain ⟨_, _, _, _, _, _, _, h1, _⟩ := h
    cases h1), (fun _ _ _ _ _ _ _ _ _ _ _ _ _ h => by
    obtain ⟨_, _, _, _, _, _, _, h1, _⟩ := h
    cases h1)⟩
/-- a list that may change is data from now on -/
def fFrz (a : Fe) : Fe := fun Γ M => (a Γ M).bind fun p => match p.1 with
  | .loc n => match p.2[n]? with
    | some (.lst xs) => (allD xs).map fun ds => (.d (.list ds), p.2.set n .gone)
    | _ => none
  | s => some (s, p.2)
theorem zfrz {X : Cx} {e : Expr} {fa : Fe} (h : PEd X e fa) : PEd X e (fFrz fa) := .of h.pe fun Γ M z M' h0 as B σ H R G Q q => by
  simp only [fFrz, Option.bind_eq_some_iff] at h0
  obtain ⟨⟨s, M1⟩, h1, h2⟩ := h0
  refine h.j Γ M s _ h1 as B σ H R G _ fun v as1 B1 H1 L1 R1 r1 => ?_
  split at h2
  · rename_i s' n e'
    rw [show s = _ from e'] at r1
    obtain ⟨D, ea, rfl⟩ := r1
    split at h2
    · rename_i xs em
      simp only [Option.map_eq_some_iff] at h2
      obtain ⟨ds, h3, h4⟩ := h2
      cases h4
      obtain ⟨us, hd, p⟩ := R1.obj n D _ ea em
      rw [allD_some h3] at p
      have pp := drs_of p
      have BD := R1.sep n D _ ea em (fun z => nomatch z)
      have sB : Same B1 (upd B1 D (.lst us)) := fun b u e => by
        rw [upd_ne (fun q => by rw [q, BD] at e; cases e)]
        exact e
      have vm : ∀ {s : SV} {v : V}, VR X.K as1 B1 s v → VR X.K as1 (upd B1 D (.lst us)) s v := fun {s v} r => by
        cases s with
        | d x => exact DR.mono sB _ _ r
        | loc n => exact r
      have hn : n < M1.length := (List.getElem?_eq_some_iff.mp em).1
      have nd : ∀ (m : Nat) (b : Addr), as1[m]? = some b → m ≠ n → b ≠ D := fun m b eb ne q => by
        subst q
        obtain ⟨h1, h2⟩ := List.getElem?_eq_some_iff.mp eb
        obtain ⟨h3, h4⟩ := List.getElem?_eq_some_iff.mp ea
        rcases Nat.lt_or_gt_of_ne ne with k | k
        · exact (List.pairwise_iff_getElem.mp R1.nd) m n h1 h3 k (h2.trans h4.symm)
        · exact (List.pairwise_iff_getElem.mp R1.nd) n m h3 h1 k (h4.trans h2.symm)
      refine q _ as1 (upd B1 D (.lst us)) H1 (L1.trans ⟨List.prefix_refl _, sB, fun _ _ e _ => e, fun a m k => absurd m k, fun a k => ?_⟩) ⟨by rw [List.length_set]; exact R1.len, R1.nd, fun b u e => ?_, fun m b mo eb emo hg => ?_, fun m b mo eb emo => ?_, R1.all⟩ (.lst (.inl upd_same) (DR.monos sB _ _ pp))
      · by_cases c : a = D
        · exact .inr (.inr (by rw [c]; exact List.mem_of_getElem? ea))
        · rw [upd_ne c] at k
          exact .inl k
      · by_cases c : b = D
        · subst c
          rw [upd_same] at e
          rw [hd]
          exact e
        · rw [upd_ne c] at e
          exact R1.ex b u e
      · by_cases c : m = n
        · subst c
          rw [List.getElem?_set_self hn] at emo
          cases emo
          exact absurd rfl hg
        · rw [List.getElem?_set_ne (Ne.symm c)] at emo
          rw [upd_ne (nd m b eb c)]
          exact R1.sep m b mo eb emo hg
      · by_cases c : m = n
        · subst c
          rw [List.getElem?_set_self hn] at emo
          cases emo
          trivial
        · rw [List.getElem?_set_ne (Ne.symm c)] at emo
          have h := R1.obj m b mo eb emo
          cases mo with
          | lst xs =>
            obtain ⟨vs, h1, h2⟩ := h
            exact ⟨vs, h1, L2.Paired.mapP h2 fun _ _ r => vm r⟩
          | dct xs =>
            obtain ⟨vs, h1, h2⟩ := h
            exact ⟨vs, h1, L2.Paired.mapP h2 fun _ _ r => ⟨r.1, vm r.2⟩⟩
          | ins C fs =>
            obtain ⟨dx, vs, h1, h2⟩ := h
            exact ⟨dx, vs, h1, L2.Paired.mapP h2 fun _ _ r => ⟨r.1, vm r.2⟩⟩
          | gone => trivial
    · cases h2
  · cases h2
    exact q _ as1 B1 H1 L1 R1 r1
end Z
/-! Lemmas about the functions of data and memory. -/
namespace Z
open PySem L2
/-- a chain whose rest is not looked into before its head is known -/
structure Shut {α : Type} (f : α) : Type where
def bnd {α β : Type} (f : α → Option β) (_ : Shut f) (o : Option α) : Option β := o.bind f
def bmp {α β : Type} (f : α → β) (_ : Shut f) (o : Option α) : Option β := o.map f
theorem to_bnd {α β : Type} {o : Option α} {f : α → Option β} : o.bind f = bnd f ⟨⟩ o := rfl
theorem to_bmp {α β : Type} {o : Option α} {f : α → β} : o.map f = bmp f ⟨⟩ o := rfl
theorem bnd_some {α β : Type} {a : α} {f : α → Option β} {u : Shut f} : bnd f u (some a) = f a := rfl
theorem bnd_none {α β : Type} {f : α → Option β} {u : Shut f} : bnd f u none = none := rfl
theorem bmp_some {α β : Type} {a : α} {f : α → β} {u : Shut f} : bmp f u (some a) = some (f a) := rfl
theorem bmp_none {α β : Type} {f : α → β} {u : Shut f} : bmp f u none = none := rfl
theorem ixN_nat {n i : Nat} (h : i < n) : ixN n (i : Int) = some i := by
  unfold ixN
  rw [if_pos (by omega), if_pos (by omega), Int.toNat_natCast]
theorem ixN_int {n : Nat} {i : Int} (h0 : 0 ≤ i) (h : i < n) : ixN n i = some i.toNat := by
  unfold ixN
  rw [if_pos h0, if_pos h]
theorem atI_nat' {α : Type} {xs : List α} {i : Nat} (h : i < xs.length) : atI xs (i : Int) = xs[i]? := by
  unfold atI
  rw [ixN_nat h]
  rfl
theorem atI_int {α : Type} {xs : List α} {i : Int} (h0 : 0 ≤ i) (h : i < xs.length) : atI xs i = some (xs[i.toNat]'(by omega)) := by
  unfold atI
  rw [ixN_int h0 h]
  exact List.getElem?_eq_getElem _
theorem ixN_30 : ixN 3 0 = some 0 := by decide
theorem ixN_31 : ixN 3 1 = some 1 := by decide
theorem ixN_32 : ixN 3 2 = some 2 := by decide
theorem atI_0 {α : Type} {x : α} {r : List α} : atI (x :: r) 0 = some x := atI_nat' (i := 0) (by simp)
theorem atI_1 {α : Type} {x y : α} {r : List α} : atI (x :: y :: r) 1 = some y := atI_nat' (i := 1) (by simp)
theorem atI_2 {α : Type} {x y z : α} {r : List α} : atI (x :: y :: z :: r) 2 = some z := atI_nat' (i := 2) (by simp)
theorem atI_3 {α : Type} {x y z u : α} {r : List α} : atI (x :: y :: z :: u :: r) 3 = some u := atI_nat' (i := 3) (by simp)
theorem atI_4 {α : Type} {x y z u v : α} {r : List α} : atI (x :: y :: z :: u :: v :: r) 4 = some v := atI_nat' (i := 4) (by simp)
theorem atI_5 {α : Type} {x y z u v w : α} {r : List α} : atI (x :: y :: z :: u :: v :: w :: r) 5 = some w := atI_nat' (i := 5) (by simp)
theorem trunc_id {n : Nat} {s : SV} {M : Mem} (h : M.length ≤ n) : trunc n s M = (s, M) := by
  unfold trunc
  rw [List.take_of_length_le h]
  split <;> rfl
theorem trunc_same {s : SV} {M : Mem} : trunc M.length s M = (s, M) := trunc_id (Nat.le_refl _)
theorem trunc_set {s : SV} {M : Mem} {l : Nat} {o : MO} : trunc M.length s (M.set l o) = (s, M.set l o) := trunc_id (by rw [List.length_set]; exact Nat.le_refl _)
/-- a place that the def made goes -/
theorem trunc_app {x : PyData} {M G : Mem} {n : Nat} (hn : M.length = n) (h : M.all (lowM n) = true) : trunc n (.d x) (M ++ G) = (.d x, M) := by
  unfold trunc
  subst hn
  rw [List.take_left', if_pos]
  · simp [lowS, h]
  · rfl
theorem trunc_loc {n : Nat} {M : Mem} : trunc n (.loc n) M = (.loc n, M) := by
  unfold trunc
  rw [if_neg (by simp [lowS])]
theorem cmulr {i j : Int} (h : -(2 ^ 64) < j ∧ j < 2 ^ 64) : CMul i j ∨ CMulW i j := .inl (.inr h)
theorem cmull {i j : Int} (h : -(2 ^ 64) < i ∧ i < 2 ^ 64) : CMul i j ∨ CMulW i j := .inl (.inl h)
theorem cdivw {i j : Int} (h : 0 < j) (h2 : j < 2 ^ 60) : CDivW i j := wide_div (b := 60) h (by omega) (by decide) (by decide)
theorem kept_none {xs : List SV} {M : Mem} : kept none xs M := fun _ h => nomatch h
theorem kept_some {n : Nat} {xs : List SV} {M : Mem} (h : M[n]? = some (.lst xs)) : kept (some n) xs M := fun _ e => by cases e; exact h
/-! sequences -/
theorem gLen_seq {M : Mem} {s : SV} {xs : List SV} (h : seqOf M s = some xs) : gLen [s] M = some (.d (.int xs.length), M) := by
  cases s with
  | loc n =>
    show (seqOf M (.loc n)).map _ = _
    rw [h]
    rfl
  | d x => cases x with
    | list ys => cases h; rfl
    | tuple ys => cases h; rfl
    | _ => cases h
theorem gIx_seq {M : Mem} {s : SV} {xs : List SV} {i : Int} (h : seqOf M s = some xs) (h0 : 0 ≤ i) (h1 : i < xs.length) : gIx s (.d (.int i)) M = some (xs[i.toNat]'(by omega), M) := by
  cases s with
  | loc n =>
    have h : lstOf M (.loc n) = some xs := h
    show (lstOf M (.loc n)).bind _ = _
    rw [h]
    show (atI xs i).map _ = _
    rw [atI_int h0 h1]
    rfl
  | d x => cases x with
    | list ys =>
      cases h
      show (atI (ys.map SV.d) i).map _ = _
      rw [atI_int h0 h1]
      rfl
    | tuple ys =>
      cases h
      show (atI ys i).map _ = _
      rw [List.length_map] at h1
      rw [atI_int h0 h1]
      simp
    | _ => cases h
/-! loops that go on to their end -/
theorem forF_inv {kp : Option Nat} {all : List SV} {g : Fg} {body : Fs} (I : List SV → Gm → Mem → Prop) (hk : ∀ r Γ M, I r Γ M → kept kp all M)
    (step : ∀ x r Γ M, I (x :: r) Γ M → ∃ Γ1 M1 Γ2 M2, g x Γ M = some (Γ1, M1) ∧ body Γ1 M1 = some (.nx Γ2, M2) ∧ I r Γ2 M2) : ∀ (xs : List SV) (Γ : Gm) (M : Mem), I xs Γ M → ∃ Γ' M', forF kp all g body xs Γ M = some (.nx Γ', M') ∧ I [] Γ' M'
  | [], Γ, M, h => ⟨Γ, M, by unfold forF; rw [if_pos (hk _ _ _ h)], h⟩
  | x :: r, Γ, M, h => by
    obtain ⟨Γ1, M1, Γ2, M2, h1, h2, h3⟩ := step x r Γ M h
    obtain ⟨Γ', M', h4, h5⟩ := forF_inv I hk step r Γ2 M2 h3
    refine ⟨Γ', M', ?_, h5⟩
    unfold forF
    rw [if_pos (hk _ _ _ h), h1, Option.bind_some, h2, Option.bind_some]
    exact h4
/-- a comprehension whose turns change nothing -/
theorem lcF_map {kp : Option Nat} {all : List SV} {vs : List Nat} {g : Fg} {tt : Ft} {te : Fe} {Γ : Gm} {M : Mem} (hk : kept kp all M) (b : SV → Bool) (v : SV → SV) : ∀ (xs acc : List SV),
    (∀ x ∈ xs, ∃ Γ1, g x (wipeG Γ vs) M = some (Γ1, M) ∧ tt Γ1 M = some (b x, M) ∧ (b x = true → te Γ1 M = some (v x, M))) → acc.length + xs.length ≤ sizeLine →
    lcF kp all vs g tt te xs acc Γ M = some (acc ++ (xs.filter b).map v, M)
  | [], acc, _, _ => by
    unfold lcF
    rw [if_pos hk]
    simp
  | x :: r, acc, h, hz => by
    obtain ⟨Γ1, h1, h2, h3⟩ := h x List.mem_cons_self
    have hz' : acc.length + (r.length + 1) ≤ sizeLine := hz
    unfold lcF
    rw [if_pos hk, h1, Option.bind_some]
    simp only
    rw [h2, Option.bind_some]
    simp only
    cases e : b x with
    | false =>
      rw [if_neg (by simp), lcF_map hk b v r acc (fun y hy => h y (List.mem_cons_of_mem _ hy)) (by omega), List.filter_cons_of_neg (by simp [e])]
    | true =>
      rw [if_pos rfl, h3 e, Option.bind_some, if_pos (show acc.length < sizeLine by omega)]
      simp only
      rw [lcF_map hk b v r _ (fun y hy => h y (List.mem_cons_of_mem _ hy)) (by rw [List.length_append]; simp; omega), List.filter_cons_of_pos e]
      simp
theorem boolsOf_map : ∀ bs : List Bool, boolsOf (bs.map fun b => .d (.bool b)) = some bs
  | [] => rfl
  | b :: r => by
    show (boolsOf (r.map fun b => .d (.bool b))).map (b :: ·) = _
    rw [boolsOf_map r]
    rfl
theorem allD_mapf {α : Type} (f : α → PyData) : ∀ xs : List α, allD (xs.map fun x => .d (f x)) = some (xs.map f)
  | [] => rfl
  | x :: r => by
    show (allD (r.map fun x => .d (f x))).map (f x :: ·) = _
    rw [allD_mapf f r]
    rfl
theorem boolsOf_mapf {α : Type} (f : α → Bool) : ∀ xs : List α, boolsOf ((xs.map fun x => PyData.bool (f x)).map SV.d) = some (xs.map f)
  | [] => rfl
  | x :: r => by
    show (boolsOf ((r.map fun x => PyData.bool (f x)).map SV.d)).map (f x :: ·) = _
    rw [boolsOf_mapf f r]
    rfl
/-! data -/
theorem eqv_ints : ∀ (a b : List Int), PyData.eqvAll (a.map .int) (b.map .int) = decide (a = b)
  | [], [] => by simp [PyData.eqvAll]
  | [], _ :: _ => by simp [PyData.eqvAll]
  | _ :: _, [] => by simp [PyData.eqvAll]
  | x :: a, y :: b => by
    simp only [List.map_cons, PyData.eqvAll, PyData.eqv, eqv_ints a b]
    rw [Bool.eq_iff_iff]
    simp
theorem lay_ints : ∀ a : List Int, PyData.canLayAll0 (a.map .int) = true
  | [] => by simp [PyData.canLayAll0]
  | x :: a => by simp [PyData.canLayAll0, PyData.canLay0, lay_ints a]
theorem depth_ints : ∀ a : List Int, PyData.depthAll (a.map .int) = 0
  | [] => by simp [PyData.depthAll]
  | x :: a => by simp [PyData.depthAll, PyData.depth, depth_ints a]
theorem sh_ints (a : List Int) : SeqAt.shaped (.tuple (a.map .int)) = true ∧ SeqAt.shaped (.list (a.map .int)) = true := by
  constructor <;> simp [SeqAt.shaped, PyData.canLay0, PyData.depth, lay_ints, depth_ints]
theorem sh_int (a : Int) : SeqAt.shaped (.int a) = true := by simp [SeqAt.shaped, PyData.canLay0, PyData.depth]
theorem eqD_ii {i j : Int} : eqD (.int i) (.int j) = some (decide (i = j)) := rfl
theorem eqD_ss {i j : Str} : eqD (.str i) (.str j) = some (decide (i = j)) := rfl
theorem eqD_bb {i j : Bool} : eqD (.bool i) (.bool j) = some (decide (i = j)) := rfl
theorem eqD_nn : eqD .none .none = some true := rfl
theorem eqD_in {i : Int} : eqD (.int i) .none = some false := rfl
theorem eqD_ni {i : Int} : eqD .none (.int i) = some false := rfl
theorem eqD_bn {i : Bool} : eqD (.bool i) .none = some false := rfl
theorem eqD_nb {i : Bool} : eqD .none (.bool i) = some false := rfl
theorem eqD_sn {i : Str} : eqD (.str i) .none = some false := rfl
theorem eqD_ns {i : Str} : eqD .none (.str i) = some false := rfl
theorem eqD_is {i : Int} {j : Str} : eqD (.int i) (.str j) = some false := rfl
theorem eqD_si {i : Int} {j : Str} : eqD (.str j) (.int i) = some false := rfl
theorem eqD_bs {i : Bool} {j : Str} : eqD (.bool i) (.str j) = some false := rfl
theorem eqD_sb {i : Bool} {j : Str} : eqD (.str j) (.bool i) = some false := rfl
/-- tuples, lists of numbers -/
theorem eqD_tt {a b : List Int} : eqD (.tuple (a.map .int)) (.tuple (b.map .int)) = some (decide (a = b)) := by
  show (if SeqAt.shaped _ = true ∧ SeqAt.shaped _ = true then some (PyData.eqv _ _) else none) = _
  rw [if_pos ⟨(sh_ints a).1, (sh_ints b).1⟩, PyData.eqv, eqv_ints]
theorem eqD_ll {a b : List Int} : eqD (.list (a.map .int)) (.list (b.map .int)) = some (decide (a = b)) := by
  show (if SeqAt.shaped _ = true ∧ SeqAt.shaped _ = true then some (PyData.eqv _ _) else none) = _
  rw [if_pos ⟨(sh_ints a).2, (sh_ints b).2⟩, PyData.eqv, eqv_ints]
theorem cut_take {α : Type} {xs : List α} {n : Nat} : cutG xs none (some (n : Int)) = xs.take n := by
  unfold cutG
  rw [HT.sIx_none, HT.sIx_nat, List.drop_zero, Nat.sub_zero]
  rcases Nat.le_total n xs.length with h | h
  · rw [Nat.min_eq_left h]
  · rw [Nat.min_eq_right h, List.take_of_length_le (Nat.le_refl _), List.take_of_length_le h]
theorem eqD_refl {x : PyData} (h : SeqAt.shaped x = true) : eqD x x = some true := by
  cases x with
  | int i => simp [eqD]
  | str i => simp [eqD]
  | bool i => simp [eqD]
  | none => rfl
  | list xs =>
    show (if _ ∧ _ then some (PyData.eqv _ _) else none) = _
    rw [if_pos ⟨h, h⟩, SeqAt.eqv_refl _ (SeqAt.canLay_of_shaped h)]
  | tuple xs =>
    show (if _ ∧ _ then some (PyData.eqv _ _) else none) = _
    rw [if_pos ⟨h, h⟩, SeqAt.eqv_refl _ (SeqAt.canLay_of_shaped h)]
  | dict xs => simp [SeqAt.shaped, PyData.canLay0] at h
end Z
/-! dicts with keys ints and texts, places of the memory -/
namespace Z
open PySem PySem.Spec PyProof.Rows L2
section
variable {K : PySem.W.Frag} {as : List Addr} {B H : Hp}
def valG {β : Type} (kvs : List (Key × β)) (k : Key) : Option β := (kvs.find? fun kv => decide (kv.1 = k)).map (·.2)
def putG {β : Type} (kvs : List (Key × β)) (k : Key) (v : β) : List (Key × β) :=
  if (kvs.any fun kv => decide (kv.1 = k)) = true then kvs.map (fun kv => if kv.1 = k then (kv.1, v) else kv) else kvs ++ [(k, v)]
theorem valG_pos {β : Type} {p : Key × β} {r : List (Key × β)} {k : Key} (e : p.1 = k) : valG (p :: r) k = some p.2 := by
  unfold valG
  rw [List.find?_cons_of_pos (by simpa using e)]
  rfl
theorem valG_neg {β : Type} {p : Key × β} {r : List (Key × β)} {k : Key} (e : ¬ p.1 = k) : valG (p :: r) k = valG r k := by
  unfold valG
  rw [List.find?_cons_of_neg (by simpa using e)]
def keyS : SV → Option Key
  | .d (.int i) => some (.inl i)
  | .d (.str z) => some (.inr z)
  | _ => none
theorem key_vr {s : SV} {k : Key} {v : V} (h : keyS s = some k) (r : VR K as B s v) : v = kV k := by
  unfold keyS at h
  split at h
  · cases h; exact vr_int r
  · cases h; exact vr_str r
  · cases h
theorem kr_any {kvs : List (Key × SV)} {us : List (Key × V)} (p : Paired (KR K as B) kvs us) (k : Key) : (kvs.any fun kv => decide (kv.1 = k)) = (us.any fun kv => decide (kv.1 = k)) := by
  induction p with
  | nil => rfl
  | cons h _ ih => rw [List.any_cons, List.any_cons, ih, h.1]
theorem kr_val {kvs : List (Key × SV)} {us : List (Key × V)} (p : Paired (KR K as B) kvs us) {k : Key} {s : SV} (e : valG kvs k = some s) : ∃ v, valV us k = some v ∧ VR K as B s v := by
  show ∃ v, valG us k = some v ∧ VR K as B s v
  induction p with
  | nil => cases e
  | @cons x y xs ys h _ ih =>
    by_cases c : x.1 = k
    · rw [valG_pos c] at e
      cases e
      exact ⟨y.2, valG_pos (h.1.symm.trans c), h.2⟩
    · rw [valG_neg c] at e
      rw [valG_neg fun q => c (h.1.trans q)]
      exact ih e
theorem kr_map {kvs : List (Key × SV)} {us : List (Key × V)} (p : Paired (KR K as B) kvs us) (k : Key) {s : SV} {v : V} (r : VR K as B s v) :
    Paired (KR K as B) (kvs.map fun kv => if kv.1 = k then (kv.1, s) else kv) (us.map fun kv => if kv.1 = k then (kv.1, v) else kv) := by
  induction p with
  | nil => exact .nil
  | @cons x y xs ys h _ ih =>
    rw [List.map_cons, List.map_cons]
    refine .cons ?_ ih
    by_cases c : x.1 = k
    · rw [if_pos c, if_pos (h.1.symm.trans c)]
      exact ⟨h.1, r⟩
    · rw [if_neg c, if_neg fun q => c (h.1.trans q)]
      exact h
theorem kr_put {kvs : List (Key × SV)} {us : List (Key × V)} (p : Paired (KR K as B) kvs us) (k : Key) {s : SV} {v : V} (r : VR K as B s v) :
    Paired (KR K as B) (putG kvs k s) (putK us k v) := by
  unfold putG putK
  rw [← kr_any p k]
  split
  · exact kr_map p k r
  · exact Z.Paired.app p (.cons ⟨rfl, r⟩ .nil)
theorem kr_merge {kvs : List (Key × SV)} {us : List (Key × V)} {ms : List (Key × SV)} {ns : List (Key × V)} (p : Paired (KR K as B) kvs us) (q : Paired (KR K as B) ms ns) :
    Paired (KR K as B) (ms.foldl (fun acc kv => putG acc kv.1 kv.2) kvs) (mergeK us ns) := by
  unfold mergeK
  induction q generalizing kvs us with
  | nil => exact p
  | @cons x y xs ys h _ ih =>
    rw [List.foldl_cons, List.foldl_cons]
    refine ih ?_
    rw [← h.1]
    exact kr_put p x.1 h.2
end
/-! d[k] -/
def rIxK : R2 := fun x y H Q => ∃ a v, x = .ref a ∧ DGet H a y (some v) ∧ Q v H
theorem ix_dk {X : Cx} (hu : X.A.units + 1 < cLine) : IxR X rIxK := by
  intro value slice pins s σ H x y v u Q I rx ry q hs
  obtain ⟨a, w, rfl, g, q⟩ := q
  obtain rfl : v = Value.ref a := rx
  exact tail_any (dict_typeIs I g) PySem.F.slot_dict_getitem.lookup (d_getItem hu I g ry fun w' s3 I3 rw' => ⟨w, H, I3, rw', q⟩) hs
def gIxD : SV → SV → Mem → Option (SV × Mem)
  | .loc n, y, M => match M[n]? with
    | some (.dct kvs) => (keyS y).bind fun k => (valG kvs k).map fun c => (c, M)
    | _ => none
  | _, _, _ => none
theorem g_ixd {K : PySem.W.Frag} : G2 K rIxK gIxD := fun x y M z M' h as B H R u v rx ry Q q => by
  unfold gIxD at h
  split at h
  · rename_i n
    obtain ⟨a, ea, rfl⟩ := rx
    split at h
    · rename_i kvs em
      simp only [Option.bind_eq_some_iff, Option.map_eq_some_iff] at h
      obtain ⟨k, h1, c, h2, h3⟩ := h
      cases h3
      obtain ⟨us, h4, h5⟩ := R.obj n a _ ea em
      obtain ⟨w, h6, h7⟩ := kr_val h5 h2
      rw [key_vr h1 ry]
      exact ⟨a, w, rfl, by rw [← h6]; exact DGet.k h4, q w as B H (Lat.refl _ _ _) R h7⟩
    · cases h
  · cases h
/-! d[k] = v -/
def stD (o i v : SV) (M : Mem) : Option Mem := match o with
  | .loc n => match M[n]? with
    | some (.dct kvs) => (keyS i).bind fun k => if kvs.length < sizeLine then some (M.set n (.dct (putG kvs k v))) else none
    | _ => none
  | _ => none
theorem st_d {K : PySem.W.Frag} : Std K rSetD stD := fun o i v M M' h as B H a b c R ro ri rv Q q => by
  unfold stD at h
  split at h
  · rename_i n
    obtain ⟨l, ea, rfl⟩ := ro
    split at h
    · rename_i kvs em
      simp only [Option.bind_eq_some_iff] at h
      obtain ⟨k, h1, h2⟩ := h
      obtain ⟨hsz, h3⟩ := ite_some h2
      cases h3
      obtain ⟨us, h4, h5⟩ := R.obj n l _ ea em
      rw [key_vr h1 ri]
      obtain ⟨R', L'⟩ := R.put (o := .dK (putK us k c)) (mo' := .dct (putG kvs k v)) ea em (fun z => nomatch z) ⟨_, upd_same, kr_put h5 k rv⟩
      unfold rSetD
      exact ⟨l, _, rfl, DPut.k h4 (by rw [← PySem.Paired.length h5]; exact hsz), q _ _ _ L' R'⟩
    · cases h
  · cases h
/-! {k: v, ..}, keys ints and texts that stand in the text -/
def CK (X : Cx) (e : Expr) (k : Key) : Prop := PE X e (tC (kV k))
theorem ck_str {X : Cx} {x : Str} {j} {pos : Pos} : CK X (.Constant (.str x) j pos) (.inr x) := pe_str
theorem ck_int {X : Cx} {x : Int} {j} {pos : Pos} : CK X (.Constant (.int x) j pos) (.inl x) := pe_int
/-- the pairs: the keys are known, the values are read -/
structure PDs (X : Cx) (pos : Pos) (keys : List (Option Expr)) (values : List Expr) (ks : List Key) (f : Fa) : Prop where
  ex : ∃ trs : List (TE × TE), PPs X pos keys values trs ∧ J X.K (fun as B (xs : List SV) (ps : List (V × V)) => ∃ vs, ps = (ks.zip vs).map (fun q => (kV q.1, q.2)) ∧ Paired (VR X.K as B) xs vs ∧ ks.length = vs.length) (tPairs trs) f
theorem zdnil {X : Cx} {pos : Pos} : PDs X pos [] [] [] fNil := ⟨[], pps_nil, fun Γ M x M' h as B σ H R G Q q => by
  cases h
  exact q [] as B H (Lat.refl _ _ _) R ⟨[], rfl, .nil, rfl⟩⟩
theorem zdcons {X : Cx} {pos : Pos} {k v : Expr} {ks : List (Option Expr)} {vs : List Expr} {kk : Key} {kks : List Key} {fv : Fe} {fr : Fa} (hk : CK X k kk) (hv : PEd X v fv) (hr : PDs X pos ks vs kks fr) :
    PDs X pos (some k :: ks) (v :: vs) (kk :: kks) (fCons fv fr) := by
  obtain ⟨trs, h1, h2⟩ := hr.ex
  refine ⟨(tC (kV kk), cn X.K (VR X.K) fv) :: trs, pps_cons hk hv.pe h1, fun Γ M z M' h as B σ H R G Q q => ?_⟩
  simp only [fCons, Option.bind_eq_some_iff, Option.map_eq_some_iff] at h
  obtain ⟨⟨x, M1⟩, h3, ⟨xs, M2⟩, h4, h5⟩ := h
  cases h5
  show tC (kV kk) σ H _
  show cn X.K (VR X.K) fv σ H _
  refine hv.j Γ M x M1 h3 as B σ H R G _ fun u as1 B1 H1 L1 R1 r1 => ?_
  refine h2 Γ M1 xs _ h4 as1 B1 σ H1 R1 (G.mono L1) _ fun ps as2 B2 H2 L2 R2 r2 => ?_
  obtain ⟨ws, rfl, p, l⟩ := r2
  exact q _ as2 B2 H2 (L1.trans L2) R2 ⟨u :: ws, rfl, .cons (r1.mono L2) p, by rw [List.length_cons, List.length_cons, l]⟩
/-- a dict display: a new place; it stands empty while the values are made -/
def fDisp (ks : List Key) (f : Fa) : Fe := fun Γ M => (f Γ (M ++ [.dct []])).bind fun p => match p.2[M.length]? with
  | some (.dct []) => if ks.length ≤ 15 then some (.loc M.length, p.2.set M.length (.dct ((ks.zip p.1).foldl (fun acc kv => putG acc kv.1 kv.2) []))) else none
  | _ => none
theorem kr_zip {K : PySem.W.Frag} {as : List Addr} {B : Hp} : ∀ (ks : List Key) {xs : List SV} {vs : List V}, Paired (VR K as B) xs vs → Paired (KR K as B) (ks.zip xs) (ks.zip vs)
  | [], _, _, _ => .nil
  | k :: ks, _, _, .nil => .nil
  | k :: ks, _, _, .cons h p => .cons ⟨rfl, h⟩ (kr_zip ks p)
theorem zdisp {X : Cx} {pos : Pos} {keys : List (Option Expr)} {values : List Expr} {ks : List Key} {f : Fa} (h : PDs X pos keys values ks f) (hall : keys.all (·.isSome) = true := by rfl) (hl : keys.length = values.length := by rfl) (h0 : keys ≠ [] := by simp)
    (h15 : keys.length ≤ 15 := by decide) : PEd X (.Dict keys values pos) (fDisp ks f) := by
  obtain ⟨trs, h1, h2⟩ := h.ex
  refine .of (pe_disp h1 hall hl h0 h15) (fun Γ M z M' h as B σ H R G Q q => ?_)
  simp only [fDisp, Option.bind_eq_some_iff] at h
  obtain ⟨⟨xs, M1⟩, h3, h4⟩ := h
  split at h4
  · rename_i em
    obtain ⟨hk, h5⟩ := ite_some h4
    cases h5
    intro p hp
    obtain ⟨R1, L1⟩ := R.newL (o := .dK []) (mo := .dct []) hp ⟨_, upd_same, .nil⟩
    refine h2 Γ _ xs M1 h3 _ _ σ _ R1 (G.mono L1) _ fun ps as2 B2 H2 L2 R2 r2 => ?_
    obtain ⟨vs, rfl, pv, lv⟩ := r2
    have ea : as2[M.length]? = some p := by
      obtain ⟨t, ht⟩ := L2.pre
      rw [← ht, ← R.len]
      simp
    obtain ⟨us, h6, h7⟩ := R2.obj M.length p _ ea em
    cases h7
    refine ⟨h6, ks.zip vs, rfl, by rw [List.length_zip]; omega, ?_⟩
    obtain ⟨R3, L3⟩ := R2.put (o := .dK (mergeK [] (ks.zip vs))) (mo' := .dct ((ks.zip xs).foldl (fun acc kv => putG acc kv.1 kv.2) [])) ea em (fun z => nomatch z) ⟨_, upd_same, kr_merge .nil (kr_zip ks pv)⟩
    exact q _ as2 B2 _ ((L1.trans L2).trans L3) R3 ⟨p, ea, rfl⟩
  · cases h4
end Z
/-! enumerate of a tuple -/
namespace Z
open PySem PySem.Spec PyProof.Rows L2
def enumO (it : Addr) : Obj := { cls := .type "enumerate", data := .fields #[.none, .bool false, .ref it, rawInt 0, .none, .none] }
theorem mt_enum {v : Value} {o : Obj} {P : Heap → Prop} (B : Begins v o P) :
    Meets (Builtin.«enumerate.__new__» ⟨[.type "enumerate", v], []⟩) (fun _ R s => P s.heap ∧ R (.ok (.ret (.ref (s.heap.push o).objs.size))) { s with heap := (s.heap.push o).push (enumO s.heap.objs.size) }) :=
  .of_wp fun prog w A R s ⟨h1, h⟩ => by
    obtain ⟨hp, g, d, tk, os⟩ := s
    have hsub := sub_enumerate
    have q1 : ∀ {A' : Around} {E Q : Value → Shared → Prop}, Q (.ref hp.objs.size) ⟨hp.push o, g, d, tk, os⟩ → wpAny (model prog w) A' (pyIter v) Q E ⟨hp, g, d, tk, os⟩ := fun q => B.iter prog w _ _ _ _ h1 q
    wp_walk using q1
    refine wpAny_stack_any fun st => wpAny_pure ?_
    split
    · rename_i c _ _ _ _ _
      cases (c == Value.type "enumerate") <;> (wp_walk using q1; exact ⟨_, rfl, h⟩)
    · wp_walk using q1
      exact ⟨_, rfl, h⟩
section
variable {prog : Program} {w : World} {A : Around} {E Q : Value → Shared → Prop} {s : Shared}
theorem call_enum {v : Value} {o : Obj} {P : Heap → Prop} (B : Begins v o P) (h1 : P s.heap)
    (h : ∀ h2 : Heap, IsEnum h2 (s.heap.objs.size + 1) s.heap.objs.size 0 .none → h2.get? s.heap.objs.size = some o → (∀ b q, s.heap.get? b = some q → h2.get? b = some q) → Q (.ref (s.heap.objs.size + 1)) { s with heap := h2 }) :
    wpAny (model prog w) A (call (.type "enumerate") [v]) Q E s := by
  refine callType_new F.called_enumerate (by decide) (F.typeCall_enumerate_1 _) (F.newCall_enumerate_1 _) (fun ob => F.args_object_init_2 ob _) F.entry_enumerate_new (mt_enum B) ⟨h1, ?_⟩
  have sz : (s.heap.push o).objs.size = s.heap.objs.size + 1 := Heap.size_push ..
  show _ ∧ _
  rw [sz]
  have en : IsEnum ((s.heap.push o).push (enumO s.heap.objs.size)) (s.heap.objs.size + 1) s.heap.objs.size 0 .none := by
    have z := Heap.get?_push_size (s.heap.push o) (o := enumO s.heap.objs.size) rfl
    rw [sz] at z
    exact z
  exact ⟨⟨_, en, rfl⟩, h _ en (Heap.get?_push_of_some _ (Heap.get?_push_size _ B.free)) fun b q x => Heap.get?_push_of_some _ (Heap.get?_push_of_some _ x)⟩
end
/-- the tuple at a, each item in a new pair -/
def IteT (K : PySem.W.Frag) (a : Addr) : It where
  go := fun i H => ∃ (xs : List V) (x : V), SqT K H a xs ∧ xs[i]? = some x
  yld := fun i H v H2 => ∃ T x, v = .ref T ∧ H T = none ∧ H2 = upd H T (.tup [.int (i : Nat), x]) ∧ ∀ xs, SqT K H a xs → xs[i]? = some x
  stop := fun i H => ∃ xs : List V, SqT K H a xs ∧ xs.length = i
theorem turn_enumT {P : Program} {w : World} {K : PySem.W.Frag} {es : List Expr} {kk : Nat} {tp : Pos} (a e it : Addr) (na : a ≠ it) (ne : e ≠ a) (hne : e ≠ it) :
    Turn P w K (.Tuple es kk tp) (IteT K a) [e, it] e (fun i h => (∃ old, IsEnum h e it ((i : Nat) : Int) old) ∧ h.IsTupleIter it a i) where
  mem := by simp
  obj := fun i h st b hb => by
    obtain ⟨⟨old, he⟩, o, ho, hc, hd⟩ := st
    rcases List.mem_cons.mp hb with z | z
    · rw [z]
      exact ⟨_, he, fun v q => nomatch q⟩
    · rw [List.mem_singleton.mp z]
      exact ⟨o, ho, fun v q => by rw [hd] at q; cases q⟩
  keep := fun i h h2 st k => by
    obtain ⟨⟨old, he⟩, hi⟩ := st
    exact ⟨⟨old, k e (by simp) _ he⟩, hi.at fun o q => k it (by simp) o q⟩
  item := fun X hP hw hK hc i pins s σ H E I hf st sg => by
    obtain ⟨⟨old, he⟩, hit⟩ := st
    obtain ⟨xs, x, hq, hx⟩ := sg
    subst hP hw hK
    obtain ⟨its, rv, p, hz⟩ := I.tuple hq
    obtain ⟨u, hu, ru⟩ := rv.get hx
    have hi : i < its.toArray.size := by
      rw [List.size_toArray]
      exact (List.getElem?_eq_some_iff.mp hu).1
    have D : Draws X.prog X.w X.A.in1 it [it, a] its.toArray.size (fun i v => its.toArray[i]? = some v) (fun i h => h.IsTupleIter it a i ∧ h.IsTuple a its.toArray) := Draws.tuple (show X.A.in1.handled = none from I.ok.hd hc) it a na its.toArray
    refine wpAny_pyNext_enum_itemD D he ⟨hit, p⟩ hi hne (by simp [hne, ne]) fun y h2 tk hy ho st2 hT hsz hk => ?_
    obtain rfl : u = y := by
      have hy2 : its.toArray[i]? = some y := hy
      rw [List.getElem?_toArray, hu] at hy2
      exact Option.some.inj hy2
    refine ⟨_, rfl, wpAny_letOwnedTupleGo_enum (s := { s with heap := h2, toks := tk + 1 }) ho fun h3 he3 sb => ?_⟩
    have le : e < s.heap.objs.size := Heap.lt_size he
    have li : it < s.heap.objs.size := by
      obtain ⟨_, q, _⟩ := hit
      exact Heap.lt_size q
    have T3 : h3.get? s.heap.objs.size = some { cls := .type "tuple", data := .seq #[.int i tk, u] } := (sb.2 _ (Nat.ne_of_gt le)).trans hT
    have ok : ObjOk X.prog X.w (upd H s.heap.objs.size (.tup [.int (i : Nat), x])) h3 s.heap.objs.size (.tup [.int (i : Nat), x]) :=
      ⟨by show 2 ≤ sizeLine; decide, [.int i tk, u], .cons ⟨_, rfl⟩ (.cons ru .nil), _, T3, rfl, _, rfl⟩
    have old3 : ∀ b ob, b ∉ [e, it] → s.heap.get? b = some ob → h3.get? b = some ob := fun b ob hb q => by
      have b1 : b ≠ e := fun z => hb (by simp [z])
      have b2 : b ≠ it := fun z => hb (by simp [z])
      exact (sb.2 b b1).trans (hk b ob b1 b2 q)
    have I3 : Inv X pins σ (upd H s.heap.objs.size (.tup [.int (i : Nat), x])) { s with heap := h3, toks := tk + 1 } := I.turnedNew (ch := [e, it]) old3 hf (Nat.le_refl _) ok
    refine ⟨.ref s.heap.objs.size, _, I3, rfl, ⟨_, x, rfl, I.hok.fresh (Nat.le_refl _), rfl, fun ys hy => by rw [I.tuple_inj hy hq]; exact hx⟩, ⟨⟨u, ?_⟩, st2.1.at fun o q => (sb.2 it (Ne.symm hne)).trans q⟩, fun b hb => ?_⟩
    · rw [show ((i + 1 : Nat) : Int) = (i : Int) + 1 by omega]
      exact he3
    · have lb : b < s.heap.objs.size := by
        rcases List.mem_cons.mp hb with z | z
        · rw [z]
          exact le
        · rw [List.mem_singleton.mp z]
          exact li
      rw [upd_ne (Nat.ne_of_lt lb)]
      exact (hf b hb).1
  done := fun X hP hw hK hc i pins s σ H E I hf st sg => by
    obtain ⟨⟨old, he⟩, hit⟩ := st
    obtain ⟨xs, hq, hx⟩ := sg
    subst hP hw hK
    obtain ⟨its, rv, p, hz⟩ := I.tuple hq
    obtain ⟨f0, f1, f2, f3, f4, f5⟩ := hf it (by simp)
    have hl := rv.length
    have D : Draws X.prog X.w X.A.in1 it [it, a] its.toArray.size (fun i v => its.toArray[i]? = some v) (fun i h => h.IsTupleIter it a i ∧ h.IsTuple a its.toArray) := Draws.tuple (show X.A.in1.handled = none from I.ok.hd hc) it a na its.toArray
    have en : its.toArray.size = i := by rw [List.size_toArray]; omega
    exact wpAny_pyNext_enum_endD D he ⟨by rw [en]; exact hit, p⟩ fun h2 eb => ⟨rfl, I.turned (t' := s.toks) (fun b o hb q => eb b o hb q) f0 f1 f3 f4 f5⟩
  self := fun A i s Q E st h => by
    obtain ⟨⟨_, he⟩, _⟩ := st
    exact wpAny_pyIter_enum he h
/-- enumerate of a list or of a tuple -/
def iEnA (K : PySem.W.Frag) (ta : TA) : TI := fun σ H R => ta σ H fun vs H1 => ∃ a xs, vs = [.ref a] ∧ ((SqL K H1 a xs ∧ R (Ite K a) H1) ∨ (SqT K H1 a xs ∧ R (IteT K a) H1))
theorem pi_enA {X : Cx} {e : Expr} {ta : TA} {p pos tpos : Pos} {elts : List Expr} {kk : Nat} (hg : Gl X "enumerate") (hm : X.mg "enumerate" = none) (ha : PA X [e] ta) (hs : starEach [e] X.env = [(false, eval e X.env)] := by rfl) :
    PI X (.Tuple elts kk tpos) (.Call (.Name "enumerate" p) [e] [] pos) (iEnA X.K ta) := ⟨fun pins s σ H R I h => by
  refine Call_ (ld_blt I hg hm boot_enumerate (PyProof.Rows.callWith_type1 (thn (ha.run pos pins s σ H _ I h) fun us s1 hu => ?_) hs rfl))
  obtain ⟨vs, H1, I1, r1, a, xs, rfl, q⟩ := hu
  cases r1 with
  | cons r rr =>
  cases rr
  cases r
  have two : ∀ b, b ∈ [s1.heap.objs.size + 1, s1.heap.objs.size] → s1.heap.objs.size ≤ b := fun b hb => by
    rcases List.mem_cons.mp hb with z | z
    · omega
    · have := List.mem_singleton.mp z
      omega
  rcases q with ⟨hq, q⟩ | ⟨hq, q⟩
  · obtain ⟨its, rv, pl, hz⟩ := I1.list hq
    refine call_enum (begins_list a its.toArray) pl.isList fun h2 he hi hk => wpAny_pyIter_enum he ?_
    have I2 : Inv X pins σ H1 { s1 with heap := h2 } := I1.kept (t' := s1.toks) hk
    exact ⟨_, _, _, _, H1, rfl, I2, turn_enum a (s1.heap.objs.size + 1) s1.heap.objs.size, ⟨⟨.none, he⟩, ⟨_, hi, rfl, rfl⟩, Nat.succ_ne_self _⟩, fun b hb => I1.fpOk (two b hb) (I1.hok.fresh (two b hb)), q⟩
  · obtain ⟨its, rv, pt, hz⟩ := I1.tuple hq
    refine call_enum (begins_tuple a its.toArray) (show s1.heap.IsTuple a its.toArray from pt) fun h2 he hi hk => wpAny_pyIter_enum he ?_
    have I2 : Inv X pins σ H1 { s1 with heap := h2 } := I1.kept (t' := s1.toks) hk
    have la : a < s1.heap.objs.size := by
      obtain ⟨o, ho, _⟩ := pt
      exact Heap.lt_size ho
    exact ⟨_, _, _, _, H1, rfl, I2, turn_enumT a (s1.heap.objs.size + 1) s1.heap.objs.size (Nat.ne_of_lt la) (Nat.ne_of_gt (Nat.lt_succ_of_lt la)) (Nat.succ_ne_self _), ⟨⟨.none, he⟩, ⟨_, hi, rfl, rfl⟩⟩, fun b hb => I1.fpOk (two b hb) (I1.hok.fresh (two b hb)), q⟩⟩
/-- its items; only data may stand in a new pair -/
def enD (xs : List PyData) : List SV := (List.range xs.length).map fun i => .d (.tuple [.int (i : Nat), xs.getD i .none])
def fEnum (t : Fa) : Fi := fun Γ M => (t Γ M).bind fun p => match p.1 with
  | [.d (.tuple xs)] => some ((enD xs, none), p.2)
  | [.d (.list xs)] => some ((enD xs, none), p.2)
  | _ => none
theorem enD_len {xs : List PyData} : (enD xs).length = xs.length := by
  unfold enD
  rw [List.length_map, List.length_range]
theorem enD_at {xs : List PyData} {i : Nat} {x : SV} (h : (enD xs)[i]? = some x) : ∃ y, xs[i]? = some y ∧ x = .d (.tuple [.int (i : Nat), y]) := by
  have hi : i < xs.length := by
    have := (List.getElem?_eq_some_iff.mp h).1
    rw [enD_len] at this
    exact this
  refine ⟨xs[i], List.getElem?_eq_getElem hi, ?_⟩
  unfold enD at h
  rw [List.getElem?_map, List.getElem?_range hi] at h
  cases h
  show SV.d (PyData.tuple [PyData.int (i : Nat), xs.getD i PyData.none]) = _
  rw [List.getD_eq_getElem?_getD, List.getElem?_eq_getElem hi]
  rfl
theorem wks_en {K : PySem.W.Frag} {J : It} {as : List Addr} {B H : Hp} {xs : List PyData}
    (go : ∀ (i : Nat) (H' B' : Hp), Same B B' → Same B' H' → i < xs.length → J.go i H') (stop : ∀ (H' B' : Hp), Same B B' → Same B' H' → J.stop xs.length H')
    (yld : ∀ (i : Nat) (H' H2 B' : Hp) (v : V), Same B B' → Same B' H' → J.yld i H' v H2 → ∃ T x, v = .ref T ∧ H' T = none ∧ H2 = upd H' T (.tup [.int (i : Nat), x]) ∧ ∀ d, xs[i]? = some d → DR K B d x) :
    Wks K J as B H none (enD xs) where
  go := fun i as' B' H' M' L R k hi => go i H' B' L.ex R.ex (by rw [enD_len] at hi; exact hi)
  stop := fun as' B' H' M' L R k => by
    rw [enD_len]
    exact stop H' B' L.ex R.ex
  yld := fun i as' B' H' M' v H2 x L R k hx y => by
    obtain ⟨d, h1, rfl⟩ := enD_at hx
    obtain ⟨T, a, rfl, hT, rfl, ha⟩ := yld i H' H2 B' v L.ex R.ex y
    obtain ⟨B2, R2, L2, w⟩ := R.tupD hT (ds := [.int (i : Nat), d]) (vs := [.int (i : Nat), a]) (.cons (.int _) (.cons (DR.mono L.ex _ _ (ha d h1)) .nil))
    exact ⟨B2, L2, R2, w⟩
theorem sqL_same {K : PySem.W.Frag} {H H' : Hp} {a : Addr} {xs : List V} (e : Same H H') (h : Rd H a (.lst xs)) : SqL K H' a xs := .inl (same_rd e h)
theorem zienum {X : Cx} {e : Expr} {fa : Fa} {p pos tpos : Pos} {elts : List Expr} {kk : Nat} (hg : Gl X "enumerate") (hm : X.mg "enumerate" = none) (ha : PAd X [e] fa) (hs : starEach [e] X.env = [(false, eval e X.env)] := by rfl) :
    PId X (.Tuple elts kk tpos) (.Call (.Name "enumerate" p) [e] [] pos) (fEnum fa) :=
  .of (pi_enA hg hm ha.pe hs) (fun Γ M xs kp M' e as B σ H R G Q q => by
    simp only [fEnum, Option.bind_eq_some_iff] at e
    obtain ⟨⟨s, M1⟩, h1, h2⟩ := e
    refine ha.j Γ M s M1 h1 as B σ H R G _ fun v as1 B1 H1 L1 R1 r1 => ?_
    split at h2
    · rename_i s' ys e'
      cases h2
      rw [show s = _ from e'] at r1
      obtain ⟨w, rfl, r⟩ := pr1 r1
      cases r with
      | @tup a vs _ r p =>
        refine ⟨a, vs, rfl, .inr ⟨same_t R1.ex r, q _ as1 B1 H1 L1 R1 (wks_en (fun i H' B' e1 e2 hi => ?_) (fun H' B' e1 e2 => ⟨vs, same_t e2 (same_t e1 r), p.length.symm⟩) fun i H' H2 B' v e1 e2 y => ?_)⟩⟩
        · obtain ⟨z, h3, _⟩ := Z.Paired.at p (List.getElem?_eq_getElem hi)
          exact ⟨vs, z, same_t e2 (same_t e1 r), h3⟩
        · obtain ⟨T, x, h3, h4, h5, h6⟩ := y
          refine ⟨T, x, h3, h4, h5, fun d hd => ?_⟩
          obtain ⟨z, h7, h8⟩ := Z.Paired.at p hd
          rw [h6 vs (same_t e2 (same_t e1 r))] at h7
          cases h7
          exact h8
    · rename_i s' ys e'
      cases h2
      rw [show s = _ from e'] at r1
      obtain ⟨w, rfl, r⟩ := pr1 r1
      cases r with
      | @lst a vs _ r p =>
        have sq : ∀ H' B' : Hp, Same B1 B' → Same B' H' → SqL X.K H' a vs := fun H' B' e1 e2 => .inl (same_rd e2 (same_rd e1 r))
        refine ⟨a, vs, rfl, .inl ⟨.inl (same_rd R1.ex r), q _ as1 B1 H1 L1 R1 (wks_en (fun i H' B' e1 e2 hi => ?_) (fun H' B' e1 e2 => ⟨vs, sq H' B' e1 e2, by rw [p.length]; exact Nat.le_refl _⟩) fun i H' H2 B' v e1 e2 y => ?_)⟩⟩
        · obtain ⟨z, h3, _⟩ := Z.Paired.at p (List.getElem?_eq_getElem hi)
          exact ⟨vs, z, sq H' B' e1 e2, h3⟩
        · obtain ⟨T, x, h3, h4, h5, h6⟩ := y
          refine ⟨T, x, h3, h4, h5, fun d hd => ?_⟩
          obtain ⟨z, h7, h8⟩ := Z.Paired.at p hd
          rw [h6 vs (sq H' B' e1 e2)] at h7
          cases h7
          exact h8
    · cases h2)
end Z
/-! a call that only looks: everything stands still for it, and goes on to change behind it -/
namespace Z
open PySem PySem.Spec PyProof.Rows L2
def snapAll (f : SV → Option PyData) : List SV → Option (List PyData)
  | [] => some []
  | x :: r => (f x).bind fun d => (snapAll f r).map fun ds => d :: ds
/-- a value as it stands now -/
def snap : Nat → Mem → SV → Option PyData
  | _, _, .d x => some x
  | 0, _, .loc _ => none
  | n + 1, M, .loc l => match M[l]? with
    | some (.lst ys) => (snapAll (snap n M) ys).map .list
    | _ => none
theorem snapAll_dr {K : PySem.W.Frag} {as : List Addr} {B H : Hp} {f : SV → Option PyData} (h : ∀ s x v, f s = some x → VR K as B s v → DR K H x v) : ∀ {xs : List SV} {ds : List PyData} {vs : List V}, snapAll f xs = some ds → Paired (VR K as B) xs vs → Paired (DR K H) ds vs
  | [], _, _, e, .nil => by cases e; exact .nil
  | x :: r, _, _, e, .cons p q => by
    simp only [snapAll, Option.bind_eq_some_iff, Option.map_eq_some_iff] at e
    obtain ⟨d, h1, ds, h2, rfl⟩ := e
    exact .cons (h x d _ h1 p) (snapAll_dr h h2 q)
theorem snap_dr {K : PySem.W.Frag} {as : List Addr} {B H : Hp} {M : Mem} (R : Rel K as B M H) : ∀ (n : Nat) (s : SV) (x : PyData) (v : V), snap n M s = some x → VR K as B s v → DR K H x v
  | n, .d y, x, v, e, r => by
    have e2 : y = x := by cases n <;> exact Option.some.inj e
    subst e2
    exact DR.mono R.ex _ _ r
  | 0, .loc l, x, v, e, r => by cases e
  | n + 1, .loc l, x, v, e, r => by
    obtain ⟨a, ea, rfl⟩ := r
    unfold snap at e
    split at e
    · rename_i ys em
      simp only [Option.map_eq_some_iff] at e
      obtain ⟨ds, h1, rfl⟩ := e
      obtain ⟨vs, h2, h3⟩ := R.obj l a _ ea em
      exact .lst (.inl h2) (snapAll_dr (fun s x v => snap_dr R n s x v) h1 h3)
    · cases e
def fBor (n : Nat) (f : Fn) (t : Fa) : Fe := fun Γ M => (t Γ M).bind fun p => (snapAll (snap 4 p.2) p.1).bind fun ds => (arity n f (ds.map .d) (p.2.map fun _ => .gone)).bind fun r => match r.1 with
  | .d (.bool b) => some (.d (.bool b), p.2)
  | .d .none => some (.d .none, p.2)
  | .d (.int i) => some (.d (.int i), p.2)
  | _ => none
theorem Rel.still {K : PySem.W.Frag} {as : List Addr} {B H : Hp} {M : Mem} (R : Rel K as B M H) : Rel K as H (M.map fun _ => .gone) H where
  len := by rw [List.length_map]; exact R.len
  nd := R.nd
  ex := Same.refl _
  sep := fun n a mo _ em hg => by
    rw [List.getElem?_map, Option.map_eq_some_iff] at em
    obtain ⟨_, _, rfl⟩ := em
    exact absurd rfl hg
  obj := fun n a mo _ em => by
    rw [List.getElem?_map, Option.map_eq_some_iff] at em
    obtain ⟨_, _, rfl⟩ := em
    exact trivial
  all := R.all
theorem Rel.later {K : PySem.W.Frag} {as : List Addr} {B H H2 : Hp} {M : Mem} (R : Rel K as B M H) (e : Same H H2) : Rel K as B M H2 ∧ Lat as B H as B H2 := by
  refine ⟨⟨R.len, R.nd, R.ex.trans e, R.sep, fun n a mo ea em => ?_, fun a ha => ?_⟩, List.prefix_refl _, Same.refl _, fun a o h _ => e a o h, fun a m n => absurd m n, fun a h => .inl h⟩
  · have q := R.obj n a mo ea em
    cases mo with
    | lst xs =>
      obtain ⟨vs, h1, h2⟩ := q
      exact ⟨vs, e _ _ h1, h2⟩
    | dct xs =>
      obtain ⟨vs, h1, h2⟩ := q
      exact ⟨vs, e _ _ h1, h2⟩
    | ins C fs =>
      obtain ⟨dx, us, h1, h2⟩ := q
      exact ⟨dx, us, e _ _ h1, h2⟩
    | gone => trivial
  · cases q : H a with
    | none => exact absurd q (R.all a ha)
    | some o =>
      rw [e a o q]
      exact fun z => nomatch z
section
variable {X : Cx} {K : PySem.W.Frag}
theorem paired_d {as : List Addr} {H : Hp} : ∀ {ds : List PyData} {vs : List V}, Paired (DR K H) ds vs → Paired (VR K as H) (ds.map .d) vs
  | [], _, .nil => .nil
  | _ :: _, _, .cons p q => .cons p (paired_d q)
theorem j_bor {n : Nat} {f : Fn} {t : TA} {g : Fa} (ht : J K (RA K) t g) : J K (VR K) (tCall (spF K n f) [] E0 t) (fBor n f g) := fun Γ M z M' h as B σ H R G Q q => by
  simp only [fBor, arity, Option.bind_eq_some_iff] at h
  obtain ⟨⟨x, M1⟩, h1, ds, h2, ⟨s, M3⟩, h3, h4⟩ := h
  obtain ⟨hn, h3⟩ := ite_opt h3
  refine ht Γ M x _ h1 as B σ H R G _ fun u as1 B1 H1 L1 R1 r1 => ?_
  have pd : Paired (DR K H1) ds u := snapAll_dr (fun s x v => snap_dr R1 4 s x v) h2 r1
  refine ⟨as1, H1, _, ds.map .d, s, M3, ?_, h3, R1.still, ?_, fun v as2 B2 H2 L2 R2 r2 => ?_⟩
  · rw [List.append_nil, ← Paired.length pd]
    rw [List.length_map] at hn
    exact hn
  · rw [List.append_nil]
    exact paired_d pd
  · obtain ⟨R3, L3⟩ := R1.later (L2.ex.trans R2.ex)
    have LL := L1.trans L3
    split at h4
    · rename_i b e
      cases h4
      rw [show s = _ from e] at r2
      rw [vr_bl r2]
      exact q _ as1 B1 H2 LL R3 (.bl _)
    · rename_i e
      cases h4
      rw [show s = _ from e] at r2
      rw [vr_non r2]
      exact q _ as1 B1 H2 LL R3 .non
    · rename_i b e
      cases h4
      rw [show s = _ from e] at r2
      rw [vr_int r2]
      exact q _ as1 B1 H2 LL R3 (.int _)
    · cases h4
variable {k n : Nat} {f : Addr} {fd : FuncData} {ps ks : List Str} {g : Fn} {x : Str} {p pos : Pos} {e : Expr} {es : List Expr} {ft : Fa}
theorem zbor (F : FnOk X.prog X.w X.K X.mg X.base CX0 k f fd ps (spF X.K n g)) (hr : Room k X.A) (hg : Gl X x) (hm : X.mg x = some (.ref f)) (hk : PySem.W.keepIn X.K (.ref f) = true) (hb : Binds X.K fd ps [])
    (ha : PAd X (e :: es) ft) (hdb : (x == ("__debug__" : Str)) = false := by decide) (he : starEach (e :: es) X.env = (false, eval e X.env) :: starEach es X.env := by rfl) (hpl : (backTo pos (starEach es X.env)).any (·.1) = false := by rfl) :
    PEd X (.Call (.Name x p) (e :: es) [] pos) (fBor n g ft) :=
  .of (pe_call F hr hg hm hk hb .nil pass0 ha.pe hdb he hpl) (j_bor ha.j)
end
theorem un1 {n : Nat} (h : n + 64 < cLine) : n + 1 < cLine := by omega
end Z
/-! a, b = a list or a tuple -/
namespace Z
open PySem PySem.Spec PyProof.Rows L2
def gEi (K : PySem.W.Frag) (n : Nat) (t : TGs) : TG := fun v σ H Q => gTup K n t v σ H Q ∨ gUnl K n t v σ H Q
section
variable {X : Cx} {pos : Pos} {K : PySem.W.Frag} {es : List Expr}
theorem pg_ei {k : Nat} {t : TGs} {n : Nat} (hc : X.calm = true) (h : PGs X es t) (hn : (assignEach es X.env).length = n := by rfl) (hst : (assignEach es X.env).findIdx? (·.1) = none := by rfl) : PG X (.Tuple es k pos) (gEi X.K n t) :=
  ⟨fun pins s σ H v u Q I r hw => by
    rcases hw with hw | hw
    · exact (pg_tup hc h hn hst).run pins s σ H v u Q I r hw
    · exact (pg_unl hc h hn hst).run pins s σ H v u Q I r hw⟩
def tgSeq (n : Nat) (g : Fgs) : Fg := fun x Γ M => (seqOf M x).bind fun xs => if xs.length = n then g xs Γ M else none
theorem zgseq {kk : Nat} {fgs : Fgs} {n : Nat} (hc : X.calm = true) (h : PGsd X es fgs) (hn : (assignEach es X.env).length = n := by rfl) (hst : (assignEach es X.env).findIdx? (·.1) = none := by rfl) : PGd X (.Tuple es kk pos) (tgSeq n fgs) :=
  .of (pg_ei hc h.pe hn hst) (fun x Γ M Γ' M' h1 as B σ H v R G r Q q => by
    simp only [tgSeq, Option.bind_eq_some_iff] at h1
    obtain ⟨xs, k1, k2⟩ := h1
    obtain ⟨k2, k3⟩ := ite_opt k2
    cases x with
    | loc m =>
      obtain ⟨a, ea, rfl⟩ := r
      cases em : M[m]? with
      | none => simp [seqOf, lstOf, em] at k1
      | some o =>
        cases o with
        | lst ys =>
          obtain ⟨vs, h3, h4⟩ := R.obj m a _ ea em
          have e1 : ys = xs := by simpa [seqOf, lstOf, em] using k1
          subst e1
          exact .inr ⟨a, vs, rfl, .inl (.inl h3), by rw [← h4.length]; exact k2, h.j ys Γ M Γ' M' k3 as B σ H vs R G h4 Q q⟩
        | dct ys => simp [seqOf, lstOf, em] at k1
        | ins C ys => simp [seqOf, lstOf, em] at k1
        | gone => simp [seqOf, lstOf, em] at k1
    | d y =>
      cases y with
      | tuple ys =>
        cases k1
        cases r with
        | @tup a vs _ r p =>
          have p2 : Paired (VR X.K as B) (ys.map .d) vs := paired_d p
          exact .inl ⟨a, vs, rfl, same_t R.ex r, by rw [← p2.length]; exact k2, h.j _ Γ M Γ' M' k3 as B σ H vs R G p2 Q q⟩
      | list ys =>
        cases k1
        cases r with
        | @lst a vs _ r p =>
          have p2 : Paired (VR X.K as B) (ys.map .d) vs := paired_d p
          exact .inr ⟨a, vs, rfl, .inl (same_rd R.ex r), by rw [← p2.length]; exact k2, h.j _ Γ M Γ' M' k3 as B σ H vs R G p2 Q q⟩
      | none => cases k1
      | bool b => cases k1
      | int b => cases k1
      | str b => cases k1
      | dict b => cases k1)
end
end Z
/-! The helpers that the laws share, as functions of data and memory. -/
namespace ZL
open PySem L2 Z
noncomputable def box : Fn := runF 3 (fSeq (fAsg (fIf (fBool (fOp gLt (fVar 1) (fCB gLen (fCons (fVar 0) fNil)))) (fOp gIx (fVar 0) (fVar 1)) (fC (.int 0))) (tgName 2))
    (fRet (fLstM (fCons (fOp gMul (fCB gAbs (fCons (fVar 2) fNil)) (fCB gInt (fCons (fOp gGe (fCB gAbs (fCons (fVar 2) fNil)) (fOp gPow (fC (.int 10)) (fC (.int 18)))) fNil))) (fCons (fOp gAdd (fOp gAdd (fOp gMod (fCB gInt (fCons (fVar 2) fNil)) (fC (.int 2305843009213693951))) (fOp gMul (fC (.int 39373)) (fVar 1))) (fC (.int 101))) (fCons (fC (.int 0)) fNil))))))
noncomputable def take : Fn := runF 6 (fSeq (fIfS (fBool (fOp gGt (fOp gIx (fVar 0) (fC (.int 0))) (fC (.int 0)))) (fSeq (fAsg (fOp gMod (fCB gInt (fCons (fOp gIx (fVar 0) (fC (.int 0))) fNil)) (fVar 1)) (tgName 2))
    (fSeq (fAsg (fOp gDiv (fOp gIx (fVar 0) (fC (.int 0))) (fVar 1)) (tgSub (fVar 0) (fC (.int 0)) stL))
    (fRet (fVar 2)))) fNext)
    (fSeq (fAsg (fOp gAdd (fOp gIx (fVar 0) (fC (.int 2))) (fC (.int 1))) (tgSub (fVar 0) (fC (.int 2)) stL))
    (fSeq (fAsg (fOp gMod (fCB gInt (fCons (fOp gMul (fOp gAdd (fOp gIx (fVar 0) (fC (.int 1))) (fOp gMul (fC (.int 48271)) (fOp gIx (fVar 0) (fC (.int 2))))) (fOp gAdd (fC (.int 39373)) (fOp gIx (fVar 0) (fC (.int 2))))) fNil)) (fC (.int 2147483647))) (tgName 3))
    (fSeq (fAsg (fOp gAdd (fOp gMod (fCB gInt (fCons (fVar 3) fNil)) (fC (.int 40009))) (fC (.int 7))) (tgName 4))
    (fSeq (fAsg (fOp gMod (fCB gInt (fCons (fOp gMul (fOp gAdd (fOp gAdd (fVar 3) (fOp gIx (fVar 0) (fC (.int 2)))) (fOp gDiv (fOp gIx (fVar 0) (fC (.int 1))) (fC (.int 1000003)))) (fVar 4)) fNil)) (fC (.int 2147483629))) (tgName 5))
    (fRet (fOp gMod (fCB gInt (fCons (fOp gDiv (fOp gMod (fCB gInt (fCons (fOp gAdd (fOp gMul (fVar 5) (fC (.int 48271))) (fVar 3)) fNil)) (fC (.int 2147483587))) (fC (.int 64))) fNil)) (fVar 1))))))))
noncomputable def pick : Fn := runF 2 (fRet (fOp gIx (fVar 1) (fCall 2 take (fCons (fVar 0) (fCons (fCB gLen (fCons (fVar 1) fNil)) fNil)))))
noncomputable def same : Nat → Fn
  | 0 => fun _ _ => none
  | n + 1 => runF 4 (fSeq (fIfS (fTru (fIsi2 .list .tuple (fVar 1))) (fSeq (fIfS (fOrT (fBool (fOp gNe (fIsi .list (fVar 0)) (fIsi .list (fVar 1)))) (fBool (fOp gNe (fIsi .tuple (fVar 0)) (fIsi .tuple (fVar 1))))) (fRet (fC (.bool false))) fNext)
    (fRet (fAndV (fOp gEq (fCB gLen (fCons (fVar 0) fNil)) (fCB gLen (fCons (fVar 1) fNil))) (fCB gAll (fCons (fLc (fZip (fCons (fVar 0) (fCons (fVar 1) fNil))) [2, 3] (tgTup 2 (tgCons (tgName 2) (tgCons (tgName 3) tgNil))) fYes (fCall 2 (same n) (fCons (fVar 2) (fCons (fVar 3) fNil)))) fNil))))) fNext)
    (fSeq (fIfS (fOrT (fBool (fOp gIsN (fVar 1) (fC .none))) (fTru (fIsi2 .bool .str (fVar 1)))) (fRet (fAndV (fOp gEq (fVar 0) (fVar 1)) (fAndV (fOp gEq (fIsi .bool (fVar 0)) (fIsi .bool (fVar 1))) (fOp gEq (fOp gIsN (fVar 0) (fC .none)) (fOp gIsN (fVar 1) (fC .none)))))) fNext)
    (fRet (fAndV (fIsi .int (fVar 0)) (fAndV (fNotV (fIsi .bool (fVar 0))) (fOp gEq (fVar 0) (fVar 1)))))))
def Box (a b c : Int) : MO := .lst [.d (.int a), .d (.int b), .d (.int c)]
/-- a source of draws: c tells how many draws it has given at most -/
def BoxOk (M : Mem) (l : Nat) (n : Int) : Prop := ∃ a b c, M[l]? = some (Box a b c) ∧ 0 ≤ a ∧ 0 ≤ b ∧ b < 2 ^ 63 ∧ 0 ≤ c ∧ c ≤ n
theorem BoxOk.mono {M : Mem} {l : Nat} {n m : Int} (h : BoxOk M l n) (k : n ≤ m) : BoxOk M l m := by
  obtain ⟨a, b, c, h1, h2, h3, h4, h5, h6⟩ := h
  exact ⟨a, b, c, h1, h2, h3, h4, h5, by omega⟩
/-- the box was drawn from, nothing else was touched -/
def Drawn (M : Mem) (l : Nat) (n : Int) (M' : Mem) : Prop := ∃ o, M' = M.set l o ∧ BoxOk M' l n
theorem take_ok {M : Mem} {l : Nat} {n k : Int} (hB : BoxOk M l n) (hn : n < 2 ^ 40) (hk : 0 < k) (hk2 : k < 2 ^ 30) :
    ∃ r M', 0 ≤ r ∧ r < k ∧ take [.loc l, .d (.int k)] M = some (.d (.int r), M') ∧ Drawn M l (n + 1) M' := by
  obtain ⟨a, b, c, hM, ha, hb, hb2, hc, hcn⟩ := hB
  have hl : l < M.length := (List.getElem?_eq_some_iff.mp hM).1
  have hc2 : c < 2 ^ 40 := by omega
  suffices h : ∃ r a' c', 0 ≤ r ∧ r < k ∧ 0 ≤ a' ∧ c ≤ c' ∧ c' ≤ c + 1 ∧ take [.loc l, .d (.int k)] M = some (.d (.int r), M.set l (Box a' b c')) by
    obtain ⟨r, a', c', h1, h2, h3, h4, h5, h6⟩ := h
    exact ⟨r, _, h1, h2, h6, _, rfl, a', b, c', List.getElem?_set_self hl, h3, hb, hb2, by omega, by omega⟩
  unfold Box at *
  by_cases h0 : 0 < a
  · refine ⟨a % k, a / k, c, Int.emod_nonneg _ (by omega), Int.emod_lt_of_pos _ hk, Int.ediv_nonneg ha (by omega), by omega, by omega, ?_⟩
    have hd : CDivW a k := cdivw hk (by omega)
    simp only [take, runF, fVar, fC, fOp, fUn, fTru, fBool, fNotT, fAndT, fOrT, fAndV, fOrV, fNotV, fIf, fNil, fCons, fTup, fLst, fLstM, mkT, mkL, fCB, fCall, fCallK, arity, fSl, fNoP, fPart, fIsi, fIsi2, fNext, fSeq, fBreak, fCont, fRet, fRetN, fExpr, fIfS, fAsg, fPar, tgName, tgNil, tgCons, tgTup, tgSub, fBM, fFor, fLc, fLcM, fRng1, fRng2, fItS, fZip, fYes, fChain, boolOf, truth, intOf, gI, gIC, gAdd, Z.gSub, gMul, gDiv, gMod, gLt, gLe, gGt, gGe, gNeg, gEq, gNe, gIsN, gNotN, isN, gIn, gIx, gSl, gLen, gAbs, gInt, gMin2, gMax2, gListOf, gListM, gTupOf, gAll, gAny, boolsOf, gApp, stL, tyOk, tyS, isTy, rdD, seqD, seqOf, lstOf, tupOf, allD, allD_map, eqD_ii, eqD_ss, eqD_bb, eqD_nn, eqD_in, eqD_ni, eqD_bn, eqD_nb, eqD_sn, eqD_ns, eqD_is, eqD_si, eqD_bs, eqD_sb, eqD_tt, eqD_ll, gpm, ↓to_bnd, ↓to_bmp, bnd_some, bnd_none, bmp_some, bmp_none, List.getElem?_cons_zero, List.getElem?_cons_succ, List.set_cons_zero, List.set_cons_succ, List.map_cons, List.map_nil, List.replicate, List.cons_append, List.nil_append, List.append_nil, List.length_cons, List.length_nil, atI_0, atI_1, atI_2, atI_3, atI_4, atI_5, ixN_30, ixN_31, ixN_32, decide_eq_true_eq, Bool.not_true, Bool.not_false, Bool.true_and, Bool.false_and, Bool.and_true, Bool.and_false, Bool.or_true, Bool.true_or, Bool.or_false, Bool.false_or, Bool.false_eq_true, ↓reduceIte, decide_true, decide_false, reduceCtorEq, Nat.reduceAdd, Nat.reduceSub, Nat.reduceEqDiff, hM, h0, hk, hd, trunc_set]
  · have e0 : a = 0 := by omega
    subst e0
    have hb' : ∀ x : Int, 0 ≤ x % k ∧ x % k < k := fun x => ⟨Int.emod_nonneg _ (by omega), Int.emod_lt_of_pos _ hk⟩
    have d1 : CDivW b 1000003 := cdivw (by decide) (by decide)
    have d2 : ∀ x : Int, CDivW x 64 := fun x => cdivw (by decide) (by decide)
    have m1 : ∀ x : Int, CMul 48271 x ∨ CMulW 48271 x := fun x => cmull (by decide)
    have m2 : ∀ x : Int, CMul x (39373 + (c + 1)) ∨ CMulW x (39373 + (c + 1)) := fun x => cmulr (by omega)
    have m3 : ∀ x y : Int, CMul x (y % 40009 + 7) ∨ CMulW x (y % 40009 + 7) := fun x y => cmulr (by have := Int.emod_nonneg y (show (40009 : Int) ≠ 0 by decide); have := Int.emod_lt_of_pos y (show (0 : Int) < 40009 by decide); omega)
    have m4 : ∀ x : Int, CMul x 48271 ∨ CMulW x 48271 := fun x => cmulr (by decide)
    have p1 : (0 : Int) < 2147483647 := by decide
    have p2 : (0 : Int) < 40009 := by decide
    have p3 : (0 : Int) < 2147483629 := by decide
    have p4 : (0 : Int) < 2147483587 := by decide
    obtain ⟨p, e⟩ : ∃ p, take [.loc l, .d (.int k)] M = p := ⟨_, rfl⟩
    have e0 := e
    simp only [take, runF, fVar, fC, fOp, fUn, fTru, fBool, fNotT, fAndT, fOrT, fAndV, fOrV, fNotV, fIf, fNil, fCons, fTup, fLst, fLstM, mkT, mkL, fCB, fCall, fCallK, arity, fSl, fNoP, fPart, fIsi, fIsi2, fNext, fSeq, fBreak, fCont, fRet, fRetN, fExpr, fIfS, fAsg, fPar, tgName, tgNil, tgCons, tgTup, tgSub, fBM, fFor, fLc, fLcM, fRng1, fRng2, fItS, fZip, fYes, fChain, boolOf, truth, intOf, gI, gIC, gAdd, Z.gSub, gMul, gDiv, gMod, gLt, gLe, gGt, gGe, gNeg, gEq, gNe, gIsN, gNotN, isN, gIn, gIx, gSl, gLen, gAbs, gInt, gMin2, gMax2, gListOf, gListM, gTupOf, gAll, gAny, boolsOf, gApp, stL, tyOk, tyS, isTy, rdD, seqD, seqOf, lstOf, tupOf, allD, allD_map, eqD_ii, eqD_ss, eqD_bb, eqD_nn, eqD_in, eqD_ni, eqD_bn, eqD_nb, eqD_sn, eqD_ns, eqD_is, eqD_si, eqD_bs, eqD_sb, eqD_tt, eqD_ll, gpm, ↓to_bnd, ↓to_bmp, bnd_some, bnd_none, bmp_some, bmp_none, List.getElem?_cons_zero, List.getElem?_cons_succ, List.set_cons_zero, List.set_cons_succ, List.map_cons, List.map_nil, List.replicate, List.cons_append, List.nil_append, List.append_nil, List.length_cons, List.length_nil, atI_0, atI_1, atI_2, atI_3, atI_4, atI_5, ixN_30, ixN_31, ixN_32, decide_eq_true_eq, Bool.not_true, Bool.not_false, Bool.true_and, Bool.false_and, Bool.and_true, Bool.and_false, Bool.or_true, Bool.true_or, Bool.or_false, Bool.false_or, Bool.false_eq_true, ↓reduceIte, decide_true, decide_false, reduceCtorEq, Nat.reduceAdd, Nat.reduceSub, Nat.reduceEqDiff, hM, Int.lt_irrefl, hk, d1, d2, m1, m2, m3, m4, p1, p2, p3, p4, List.getElem?_set_self hl, trunc_set] at e
    rw [← e] at e0
    exact ⟨_, 0, c + 1, (hb' _).1, (hb' _).2, by omega, by omega, by omega, e0⟩
theorem Drawn.trans {M M1 M2 : Mem} {l : Nat} {n m : Int} (h : Drawn M l n M1) (k : Drawn M1 l m M2) : Drawn M l m M2 := by
  obtain ⟨o, rfl, h1⟩ := h
  obtain ⟨o', rfl, h2⟩ := k
  exact ⟨o', by rw [List.set_set], h2⟩
theorem Drawn.box {M M' : Mem} {l : Nat} {n : Int} (h : Drawn M l n M') : BoxOk M' l n := by
  obtain ⟨o, rfl, h1⟩ := h
  exact h1
theorem Drawn.len {M M' : Mem} {l : Nat} {n : Int} (h : Drawn M l n M') : M'.length = M.length := by
  obtain ⟨o, rfl, h1⟩ := h
  rw [List.length_set]
theorem Drawn.other {M M' : Mem} {l m : Nat} {n : Int} (h : Drawn M l n M') (k : m ≠ l) : M'[m]? = M[m]? := by
  obtain ⟨o, rfl, h1⟩ := h
  rw [List.getElem?_set_ne (Ne.symm k)]
theorem Drawn.mono {M M' : Mem} {l : Nat} {n m : Int} (h : Drawn M l n M') (k : n ≤ m) : Drawn M l m M' := by
  obtain ⟨o, rfl, h1⟩ := h
  exact ⟨o, rfl, h1.mono k⟩
theorem Drawn.seq {M M' : Mem} {l : Nat} {n : Int} {s : SV} {xs : List SV} (h : Drawn M l n M') (hs : s ≠ .loc l) (e : seqOf M s = some xs) : seqOf M' s = some xs := by
  cases s with
  | d x => cases x <;> exact e
  | loc m =>
    have hm : m ≠ l := fun q => hs (by rw [q])
    show (match M'[m]? with | some (.lst xs) => some xs | _ => none) = _
    rw [h.other hm]
    exact e
theorem pick_ok {M : Mem} {l : Nat} {n : Int} {s : SV} {xs : List SV} (hB : BoxOk M l n) (hn : n < 2 ^ 40) (hs : seqOf M s = some xs) (hl : s ≠ .loc l) (h0 : xs ≠ []) (h1 : xs.length < 2 ^ 30) :
    ∃ x M', x ∈ xs ∧ pick [.loc l, s] M = some (x, M') ∧ Drawn M l (n + 1) M' := by
  have hp : 0 < xs.length := List.length_pos_iff.mpr h0
  obtain ⟨r, M', k0, k1, k2, k3⟩ := take_ok (k := (xs.length : Int)) hB hn (by omega) (by omega)
  have lo : r.toNat < xs.length := by omega
  refine ⟨xs[r.toNat], M', List.getElem_mem lo, ?_, k3⟩
  have e2 := gIx_seq (k3.seq hl hs) k0 k1
  have tr : ∀ s : SV, trunc M.length s M' = (s, M') := fun s => trunc_id (by rw [k3.len]; exact Nat.le_refl _)
  simp only [pick, runF, fRet, fOp, fCall, arity, fCons, fNil, fVar, fCB, List.map_cons, List.map_nil, List.cons_append, List.nil_append, List.getElem?_cons_zero, List.getElem?_cons_succ, Option.bind_some, Option.map_some, List.length_cons, List.length_nil, Nat.reduceAdd, ↓reduceIte, gLen_seq hs, k2, e2, tr]
theorem box_ok {ns : List Int} {k : Nat} {M : Mem} (hk : k < 64) : ∃ M', box [scr ns, .d (.int k)] M = some (.loc M.length, M') ∧ M'.length = M.length + 1 ∧ (∀ m, m < M.length → M'[m]? = M[m]?) ∧ BoxOk M' M.length 0 := by
  have lenE : (ns.map fun n => ((.none, .int n) : PyData × PyData)).length = ns.length := List.length_map _
  obtain ⟨y, hy⟩ : ∃ y : Int, fIf (fBool (fOp gLt (fVar 1) (fCB gLen (fCons (fVar 0) fNil)))) (fOp gIx (fVar 0) (fVar 1)) (fC (.int 0)) [some (scr ns), some (.d (.int k)), none] M = some (.d (.int y), M) := by
    by_cases h : (k : Int) < (ns.length : Int)
    · have hk' : k < (ns.map fun n => ((.none, .int n) : PyData × PyData)).length := by rw [lenE]; omega
      refine ⟨ns[k]'(by omega), ?_⟩
      simp only [fVar, fC, fOp, fUn, fTru, fBool, fNotT, fAndT, fOrT, fAndV, fOrV, fNotV, fIf, fNil, fCons, fTup, fLst, fLstM, mkT, mkL, fCB, fCall, fCallK, arity, fSl, fNoP, fPart, fIsi, fIsi2, fNext, fSeq, fBreak, fCont, fRet, fRetN, fExpr, fIfS, fAsg, fPar, tgName, tgNil, tgCons, tgTup, tgSub, fBM, fFor, fLc, fLcM, fRng1, fRng2, fItS, fZip, fYes, fChain, boolOf, truth, intOf, gI, gIC, gAdd, Z.gSub, gMul, gDiv, gMod, gLt, gLe, gGt, gGe, gNeg, gEq, gNe, gIsN, gNotN, isN, gIn, gIx, gSl, gLen, gAbs, gInt, gMin2, gMax2, gListOf, gListM, gTupOf, gAll, gAny, boolsOf, gApp, stL, tyOk, tyS, isTy, rdD, seqD, seqOf, lstOf, tupOf, allD, allD_map, eqD_ii, eqD_ss, eqD_bb, eqD_nn, eqD_in, eqD_ni, eqD_bn, eqD_nb, eqD_sn, eqD_ns, eqD_is, eqD_si, eqD_bs, eqD_sb, eqD_tt, eqD_ll, gpm, ↓to_bnd, ↓to_bmp, bnd_some, bnd_none, bmp_some, bmp_none, List.getElem?_cons_zero, List.getElem?_cons_succ, List.set_cons_zero, List.set_cons_succ, List.map_cons, List.map_nil, List.replicate, List.cons_append, List.nil_append, List.append_nil, List.length_cons, List.length_nil, atI_0, atI_1, atI_2, atI_3, atI_4, atI_5, ixN_30, ixN_31, ixN_32, decide_eq_true_eq, Bool.not_true, Bool.not_false, Bool.true_and, Bool.false_and, Bool.and_true, Bool.and_false, Bool.or_true, Bool.true_or, Bool.or_false, Bool.false_or, Bool.false_eq_true, ↓reduceIte, decide_true, decide_false, reduceCtorEq, Nat.reduceAdd, Nat.reduceSub, Nat.reduceEqDiff, scr, List.length_map, h, atI_nat' hk', List.getElem?_map, List.getElem?_eq_getElem (show k < ns.length by omega)]
    · refine ⟨0, ?_⟩
      simp only [fVar, fC, fOp, fUn, fTru, fBool, fNotT, fAndT, fOrT, fAndV, fOrV, fNotV, fIf, fNil, fCons, fTup, fLst, fLstM, mkT, mkL, fCB, fCall, fCallK, arity, fSl, fNoP, fPart, fIsi, fIsi2, fNext, fSeq, fBreak, fCont, fRet, fRetN, fExpr, fIfS, fAsg, fPar, tgName, tgNil, tgCons, tgTup, tgSub, fBM, fFor, fLc, fLcM, fRng1, fRng2, fItS, fZip, fYes, fChain, boolOf, truth, intOf, gI, gIC, gAdd, Z.gSub, gMul, gDiv, gMod, gLt, gLe, gGt, gGe, gNeg, gEq, gNe, gIsN, gNotN, isN, gIn, gIx, gSl, gLen, gAbs, gInt, gMin2, gMax2, gListOf, gListM, gTupOf, gAll, gAny, boolsOf, gApp, stL, tyOk, tyS, isTy, rdD, seqD, seqOf, lstOf, tupOf, allD, allD_map, eqD_ii, eqD_ss, eqD_bb, eqD_nn, eqD_in, eqD_ni, eqD_bn, eqD_nb, eqD_sn, eqD_ns, eqD_is, eqD_si, eqD_bs, eqD_sb, eqD_tt, eqD_ll, gpm, ↓to_bnd, ↓to_bmp, bnd_some, bnd_none, bmp_some, bmp_none, List.getElem?_cons_zero, List.getElem?_cons_succ, List.set_cons_zero, List.set_cons_succ, List.map_cons, List.map_nil, List.replicate, List.cons_append, List.nil_append, List.append_nil, List.length_cons, List.length_nil, atI_0, atI_1, atI_2, atI_3, atI_4, atI_5, ixN_30, ixN_31, ixN_32, decide_eq_true_eq, Bool.not_true, Bool.not_false, Bool.true_and, Bool.false_and, Bool.and_true, Bool.and_false, Bool.or_true, Bool.true_or, Bool.or_false, Bool.false_or, Bool.false_eq_true, ↓reduceIte, decide_true, decide_false, reduceCtorEq, Nat.reduceAdd, Nat.reduceSub, Nat.reduceEqDiff, scr, List.length_map, h]
  have m1 : ∀ (z : Int) (q : Prop) [Decidable q], CMul z (if q then 1 else 0) ∨ CMulW z (if q then 1 else 0) := fun z q _ => cmulr (by split <;> decide)
  have m2 : CMul 39373 (k : Int) ∨ CMulW 39373 (k : Int) := cmull (by decide)
  have pw : CPow 10 18 := by decide
  have p1 : (0 : Int) < 2305843009213693951 := by decide
  have sz : 3 ≤ sizeLine := by decide
  have ab : 0 ≤ (if y < 0 then -y else y) := by split <;> omega
  have em0 := Int.emod_nonneg y (show (2305843009213693951 : Int) ≠ 0 by decide)
  have em1 := Int.emod_lt_of_pos y p1
  obtain ⟨p, e⟩ : ∃ p, box [scr ns, .d (.int k)] M = p := ⟨_, rfl⟩
  have e0 := e
  unfold box runF at e
  rw [show ([scr ns, SV.d (.int k)].map some ++ List.replicate (3 - [scr ns, SV.d (.int k)].length) none) = [some (scr ns), some (.d (.int k)), none] from rfl] at e
  unfold fSeq fAsg at e
  rw [hy] at e
  simp only [fVar, fC, fOp, fUn, fTru, fBool, fNotT, fAndT, fOrT, fAndV, fOrV, fNotV, fIf, fNil, fCons, fTup, fLst, fLstM, mkT, mkL, fCB, fCall, fCallK, arity, fSl, fNoP, fPart, fIsi, fIsi2, fNext, fSeq, fBreak, fCont, fRet, fRetN, fExpr, fIfS, fAsg, fPar, tgName, tgNil, tgCons, tgTup, tgSub, fBM, fFor, fLc, fLcM, fRng1, fRng2, fItS, fZip, fYes, fChain, boolOf, truth, intOf, gI, gIC, gAdd, Z.gSub, gMul, gDiv, gMod, gLt, gLe, gGt, gGe, gNeg, gEq, gNe, gIsN, gNotN, isN, gIn, gIx, gSl, gLen, gAbs, gInt, gMin2, gMax2, gListOf, gListM, gTupOf, gAll, gAny, boolsOf, gApp, stL, tyOk, tyS, isTy, rdD, seqD, seqOf, lstOf, tupOf, allD, allD_map, eqD_ii, eqD_ss, eqD_bb, eqD_nn, eqD_in, eqD_ni, eqD_bn, eqD_nb, eqD_sn, eqD_ns, eqD_is, eqD_si, eqD_bs, eqD_sb, eqD_tt, eqD_ll, gpm, ↓to_bnd, ↓to_bmp, bnd_some, bnd_none, bmp_some, bmp_none, List.getElem?_cons_zero, List.getElem?_cons_succ, List.set_cons_zero, List.set_cons_succ, List.map_cons, List.map_nil, List.replicate, List.cons_append, List.nil_append, List.append_nil, List.length_cons, List.length_nil, atI_0, atI_1, atI_2, atI_3, atI_4, atI_5, ixN_30, ixN_31, ixN_32, decide_eq_true_eq, Bool.not_true, Bool.not_false, Bool.true_and, Bool.false_and, Bool.and_true, Bool.and_false, Bool.or_true, Bool.true_or, Bool.or_false, Bool.false_or, Bool.false_eq_true, ↓reduceIte, decide_true, decide_false, reduceCtorEq, Nat.reduceAdd, Nat.reduceSub, Nat.reduceEqDiff, gPow, m1, m2, pw, p1, sz, trunc_loc] at e
  rw [← e] at e0
  refine ⟨_, e0, by rw [List.length_append]; rfl, fun m hm => List.getElem?_append_left hm, _, _, _, by rw [List.getElem?_append_right (Nat.le_refl _), Nat.sub_self]; rfl, ?_, ?_, ?_, Int.le_refl _, Int.le_refl _⟩
  · have hq : ∀ (q : Prop) [Decidable q], (0 : Int) ≤ if q then 1 else 0 := fun q _ => by split <;> decide
    exact Int.mul_nonneg ab (hq _)
  · omega
  · omega
/-- data without dicts, at most n deep -/
def plainD : Nat → PyData → Bool
  | 0, _ => false
  | n + 1, .list xs => decide (xs.length ≤ sizeLine) && xs.all (plainD n)
  | n + 1, .tuple xs => decide (xs.length ≤ sizeLine) && xs.all (plainD n)
  | _, .dict _ => false
  | _, _ => true
theorem zip_self {α : Type} : ∀ xs : List α, xs.zip xs = xs.map fun x => (x, x)
  | [] => rfl
  | x :: r => by rw [List.zip_cons_cons, zip_self r]; rfl
theorem same_refl : ∀ (n : Nat) (x : PyData) (M : Mem), plainD n x = true → same n [.d x, .d x] M = some (.d (.bool true), M)
  | 0, _, _, h => by cases h
  | n + 1, x, M, h => by
    have seq : ∀ xs : List PyData, xs.length ≤ sizeLine → xs.all (plainD n) = true → ∀ (Γ : Gm),
        lcF none (zipD xs xs) [2, 3] (tgTup 2 (tgCons (tgName 2) (tgCons (tgName 3) tgNil))) fYes (fCall 2 (same n) (fCons (fVar 2) (fCons (fVar 3) fNil))) (zipD xs xs) [] [some (Γ.getD 0 none |>.getD (.d .none)), some (Γ.getD 1 none |>.getD (.d .none)), none, none] M = some (xs.map fun _ => .d (.bool true), M) := fun xs hz hx Γ => by
      have hz2 : zipD xs xs = xs.map fun x => .d (.tuple [x, x]) := by
        unfold zipD
        rw [zip_self, List.map_map]
        rfl
      rw [hz2, lcF_map kept_none (fun _ => true) (fun _ => .d (.bool true)) _ [] (fun y hy => ?_) (by simpa using hz)]
      · rw [List.filter_eq_self.mpr (fun _ _ => rfl), List.map_map, List.nil_append]
        rfl
      · obtain ⟨z, hz, rfl⟩ := List.mem_map.mp hy
        have ih := same_refl n z M (List.all_eq_true.mp hx z hz)
        refine ⟨[some (Γ.getD 0 none |>.getD (.d .none)), some (Γ.getD 1 none |>.getD (.d .none)), some (.d z), some (.d z)], ?_, rfl, fun _ => ?_⟩
        · simp only [fVar, fC, fOp, fUn, fTru, fBool, fNotT, fAndT, fOrT, fAndV, fOrV, fNotV, fIf, fNil, fCons, fTup, fLst, fLstM, mkT, mkL, fCB, fCall, fCallK, arity, fSl, fNoP, fPart, fIsi, fIsi2, fNext, fSeq, fBreak, fCont, fRet, fRetN, fExpr, fIfS, fAsg, fPar, tgName, tgNil, tgCons, tgTup, tgSub, fBM, fFor, fLc, fLcM, fRng1, fRng2, fItS, fZip, fYes, fChain, boolOf, truth, intOf, gI, gIC, gAdd, Z.gSub, gMul, gDiv, gMod, gLt, gLe, gGt, gGe, gNeg, gEq, gNe, gIsN, gNotN, isN, gIn, gIx, gSl, gLen, gAbs, gInt, gMin2, gMax2, gListOf, gListM, gTupOf, gAll, gAny, boolsOf, gApp, stL, tyOk, tyS, isTy, rdD, seqD, seqOf, lstOf, tupOf, allD, allD_map, eqD_ii, eqD_ss, eqD_bb, eqD_nn, eqD_in, eqD_ni, eqD_bn, eqD_nb, eqD_sn, eqD_ns, eqD_is, eqD_si, eqD_bs, eqD_sb, eqD_tt, eqD_ll, gpm, ↓to_bnd, ↓to_bmp, bnd_some, bnd_none, bmp_some, bmp_none, List.getElem?_cons_zero, List.getElem?_cons_succ, List.set_cons_zero, List.set_cons_succ, List.map_cons, List.map_nil, List.replicate, List.cons_append, List.nil_append, List.append_nil, List.length_cons, List.length_nil, atI_0, atI_1, atI_2, atI_3, atI_4, atI_5, ixN_30, ixN_31, ixN_32, decide_eq_true_eq, Bool.not_true, Bool.not_false, Bool.true_and, Bool.false_and, Bool.and_true, Bool.and_false, Bool.or_true, Bool.true_or, Bool.or_false, Bool.false_or, Bool.false_eq_true, ↓reduceIte, decide_true, decide_false, reduceCtorEq, Nat.reduceAdd, Nat.reduceSub, Nat.reduceEqDiff, wipeG]
        · simp only [fVar, fC, fOp, fUn, fTru, fBool, fNotT, fAndT, fOrT, fAndV, fOrV, fNotV, fIf, fNil, fCons, fTup, fLst, fLstM, mkT, mkL, fCB, fCall, fCallK, arity, fSl, fNoP, fPart, fIsi, fIsi2, fNext, fSeq, fBreak, fCont, fRet, fRetN, fExpr, fIfS, fAsg, fPar, tgName, tgNil, tgCons, tgTup, tgSub, fBM, fFor, fLc, fLcM, fRng1, fRng2, fItS, fZip, fYes, fChain, boolOf, truth, intOf, gI, gIC, gAdd, Z.gSub, gMul, gDiv, gMod, gLt, gLe, gGt, gGe, gNeg, gEq, gNe, gIsN, gNotN, isN, gIn, gIx, gSl, gLen, gAbs, gInt, gMin2, gMax2, gListOf, gListM, gTupOf, gAll, gAny, boolsOf, gApp, stL, tyOk, tyS, isTy, rdD, seqD, seqOf, lstOf, tupOf, allD, allD_map, eqD_ii, eqD_ss, eqD_bb, eqD_nn, eqD_in, eqD_ni, eqD_bn, eqD_nb, eqD_sn, eqD_ns, eqD_is, eqD_si, eqD_bs, eqD_sb, eqD_tt, eqD_ll, gpm, ↓to_bnd, ↓to_bmp, bnd_some, bnd_none, bmp_some, bmp_none, List.getElem?_cons_zero, List.getElem?_cons_succ, List.set_cons_zero, List.set_cons_succ, List.map_cons, List.map_nil, List.replicate, List.cons_append, List.nil_append, List.append_nil, List.length_cons, List.length_nil, atI_0, atI_1, atI_2, atI_3, atI_4, atI_5, ixN_30, ixN_31, ixN_32, decide_eq_true_eq, Bool.not_true, Bool.not_false, Bool.true_and, Bool.false_and, Bool.and_true, Bool.and_false, Bool.or_true, Bool.true_or, Bool.or_false, Bool.false_or, Bool.false_eq_true, ↓reduceIte, decide_true, decide_false, reduceCtorEq, Nat.reduceAdd, Nat.reduceSub, Nat.reduceEqDiff, ih]
    cases x with
    | none => simp only [same, runF, fVar, fC, fOp, fUn, fTru, fBool, fNotT, fAndT, fOrT, fAndV, fOrV, fNotV, fIf, fNil, fCons, fTup, fLst, fLstM, mkT, mkL, fCB, fCall, fCallK, arity, fSl, fNoP, fPart, fIsi, fIsi2, fNext, fSeq, fBreak, fCont, fRet, fRetN, fExpr, fIfS, fAsg, fPar, tgName, tgNil, tgCons, tgTup, tgSub, fBM, fFor, fLc, fLcM, fRng1, fRng2, fItS, fZip, fYes, fChain, boolOf, truth, intOf, gI, gIC, gAdd, Z.gSub, gMul, gDiv, gMod, gLt, gLe, gGt, gGe, gNeg, gEq, gNe, gIsN, gNotN, isN, gIn, gIx, gSl, gLen, gAbs, gInt, gMin2, gMax2, gListOf, gListM, gTupOf, gAll, gAny, boolsOf, gApp, stL, tyOk, tyS, isTy, rdD, seqD, seqOf, lstOf, tupOf, allD, allD_map, eqD_ii, eqD_ss, eqD_bb, eqD_nn, eqD_in, eqD_ni, eqD_bn, eqD_nb, eqD_sn, eqD_ns, eqD_is, eqD_si, eqD_bs, eqD_sb, eqD_tt, eqD_ll, gpm, ↓to_bnd, ↓to_bmp, bnd_some, bnd_none, bmp_some, bmp_none, List.getElem?_cons_zero, List.getElem?_cons_succ, List.set_cons_zero, List.set_cons_succ, List.map_cons, List.map_nil, List.replicate, List.cons_append, List.nil_append, List.append_nil, List.length_cons, List.length_nil, atI_0, atI_1, atI_2, atI_3, atI_4, atI_5, ixN_30, ixN_31, ixN_32, decide_eq_true_eq, Bool.not_true, Bool.not_false, Bool.true_and, Bool.false_and, Bool.and_true, Bool.and_false, Bool.or_true, Bool.true_or, Bool.or_false, Bool.false_or, Bool.false_eq_true, ↓reduceIte, decide_true, decide_false, reduceCtorEq, Nat.reduceAdd, Nat.reduceSub, Nat.reduceEqDiff, trunc_same]
    | bool b => simp only [same, runF, fVar, fC, fOp, fUn, fTru, fBool, fNotT, fAndT, fOrT, fAndV, fOrV, fNotV, fIf, fNil, fCons, fTup, fLst, fLstM, mkT, mkL, fCB, fCall, fCallK, arity, fSl, fNoP, fPart, fIsi, fIsi2, fNext, fSeq, fBreak, fCont, fRet, fRetN, fExpr, fIfS, fAsg, fPar, tgName, tgNil, tgCons, tgTup, tgSub, fBM, fFor, fLc, fLcM, fRng1, fRng2, fItS, fZip, fYes, fChain, boolOf, truth, intOf, gI, gIC, gAdd, Z.gSub, gMul, gDiv, gMod, gLt, gLe, gGt, gGe, gNeg, gEq, gNe, gIsN, gNotN, isN, gIn, gIx, gSl, gLen, gAbs, gInt, gMin2, gMax2, gListOf, gListM, gTupOf, gAll, gAny, boolsOf, gApp, stL, tyOk, tyS, isTy, rdD, seqD, seqOf, lstOf, tupOf, allD, allD_map, eqD_ii, eqD_ss, eqD_bb, eqD_nn, eqD_in, eqD_ni, eqD_bn, eqD_nb, eqD_sn, eqD_ns, eqD_is, eqD_si, eqD_bs, eqD_sb, eqD_tt, eqD_ll, gpm, ↓to_bnd, ↓to_bmp, bnd_some, bnd_none, bmp_some, bmp_none, List.getElem?_cons_zero, List.getElem?_cons_succ, List.set_cons_zero, List.set_cons_succ, List.map_cons, List.map_nil, List.replicate, List.cons_append, List.nil_append, List.append_nil, List.length_cons, List.length_nil, atI_0, atI_1, atI_2, atI_3, atI_4, atI_5, ixN_30, ixN_31, ixN_32, decide_eq_true_eq, Bool.not_true, Bool.not_false, Bool.true_and, Bool.false_and, Bool.and_true, Bool.and_false, Bool.or_true, Bool.true_or, Bool.or_false, Bool.false_or, Bool.false_eq_true, ↓reduceIte, decide_true, decide_false, reduceCtorEq, Nat.reduceAdd, Nat.reduceSub, Nat.reduceEqDiff, trunc_same]
    | int i => simp only [same, runF, fVar, fC, fOp, fUn, fTru, fBool, fNotT, fAndT, fOrT, fAndV, fOrV, fNotV, fIf, fNil, fCons, fTup, fLst, fLstM, mkT, mkL, fCB, fCall, fCallK, arity, fSl, fNoP, fPart, fIsi, fIsi2, fNext, fSeq, fBreak, fCont, fRet, fRetN, fExpr, fIfS, fAsg, fPar, tgName, tgNil, tgCons, tgTup, tgSub, fBM, fFor, fLc, fLcM, fRng1, fRng2, fItS, fZip, fYes, fChain, boolOf, truth, intOf, gI, gIC, gAdd, Z.gSub, gMul, gDiv, gMod, gLt, gLe, gGt, gGe, gNeg, gEq, gNe, gIsN, gNotN, isN, gIn, gIx, gSl, gLen, gAbs, gInt, gMin2, gMax2, gListOf, gListM, gTupOf, gAll, gAny, boolsOf, gApp, stL, tyOk, tyS, isTy, rdD, seqD, seqOf, lstOf, tupOf, allD, allD_map, eqD_ii, eqD_ss, eqD_bb, eqD_nn, eqD_in, eqD_ni, eqD_bn, eqD_nb, eqD_sn, eqD_ns, eqD_is, eqD_si, eqD_bs, eqD_sb, eqD_tt, eqD_ll, gpm, ↓to_bnd, ↓to_bmp, bnd_some, bnd_none, bmp_some, bmp_none, List.getElem?_cons_zero, List.getElem?_cons_succ, List.set_cons_zero, List.set_cons_succ, List.map_cons, List.map_nil, List.replicate, List.cons_append, List.nil_append, List.append_nil, List.length_cons, List.length_nil, atI_0, atI_1, atI_2, atI_3, atI_4, atI_5, ixN_30, ixN_31, ixN_32, decide_eq_true_eq, Bool.not_true, Bool.not_false, Bool.true_and, Bool.false_and, Bool.and_true, Bool.and_false, Bool.or_true, Bool.true_or, Bool.or_false, Bool.false_or, Bool.false_eq_true, ↓reduceIte, decide_true, decide_false, reduceCtorEq, Nat.reduceAdd, Nat.reduceSub, Nat.reduceEqDiff, trunc_same]
    | str z => simp only [same, runF, fVar, fC, fOp, fUn, fTru, fBool, fNotT, fAndT, fOrT, fAndV, fOrV, fNotV, fIf, fNil, fCons, fTup, fLst, fLstM, mkT, mkL, fCB, fCall, fCallK, arity, fSl, fNoP, fPart, fIsi, fIsi2, fNext, fSeq, fBreak, fCont, fRet, fRetN, fExpr, fIfS, fAsg, fPar, tgName, tgNil, tgCons, tgTup, tgSub, fBM, fFor, fLc, fLcM, fRng1, fRng2, fItS, fZip, fYes, fChain, boolOf, truth, intOf, gI, gIC, gAdd, Z.gSub, gMul, gDiv, gMod, gLt, gLe, gGt, gGe, gNeg, gEq, gNe, gIsN, gNotN, isN, gIn, gIx, gSl, gLen, gAbs, gInt, gMin2, gMax2, gListOf, gListM, gTupOf, gAll, gAny, boolsOf, gApp, stL, tyOk, tyS, isTy, rdD, seqD, seqOf, lstOf, tupOf, allD, allD_map, eqD_ii, eqD_ss, eqD_bb, eqD_nn, eqD_in, eqD_ni, eqD_bn, eqD_nb, eqD_sn, eqD_ns, eqD_is, eqD_si, eqD_bs, eqD_sb, eqD_tt, eqD_ll, gpm, ↓to_bnd, ↓to_bmp, bnd_some, bnd_none, bmp_some, bmp_none, List.getElem?_cons_zero, List.getElem?_cons_succ, List.set_cons_zero, List.set_cons_succ, List.map_cons, List.map_nil, List.replicate, List.cons_append, List.nil_append, List.append_nil, List.length_cons, List.length_nil, atI_0, atI_1, atI_2, atI_3, atI_4, atI_5, ixN_30, ixN_31, ixN_32, decide_eq_true_eq, Bool.not_true, Bool.not_false, Bool.true_and, Bool.false_and, Bool.and_true, Bool.and_false, Bool.or_true, Bool.true_or, Bool.or_false, Bool.false_or, Bool.false_eq_true, ↓reduceIte, decide_true, decide_false, reduceCtorEq, Nat.reduceAdd, Nat.reduceSub, Nat.reduceEqDiff, trunc_same]
    | dict kvs => cases h
    | list xs =>
      simp only [plainD, Bool.and_eq_true, decide_eq_true_eq] at h
      have e := seq xs h.1 h.2 [some (.d (.list xs)), some (.d (.list xs))]
      simp only [List.getD_cons_zero, List.getD_cons_succ, Option.getD_some] at e
      simp only [same, runF, fVar, fC, fOp, fUn, fTru, fBool, fNotT, fAndT, fOrT, fAndV, fOrV, fNotV, fIf, fNil, fCons, fTup, fLst, fLstM, mkT, mkL, fCB, fCall, fCallK, arity, fSl, fNoP, fPart, fIsi, fIsi2, fNext, fSeq, fBreak, fCont, fRet, fRetN, fExpr, fIfS, fAsg, fPar, tgName, tgNil, tgCons, tgTup, tgSub, fBM, fFor, fLc, fLcM, fRng1, fRng2, fItS, fZip, fYes, fChain, boolOf, truth, intOf, gI, gIC, gAdd, Z.gSub, gMul, gDiv, gMod, gLt, gLe, gGt, gGe, gNeg, gEq, gNe, gIsN, gNotN, isN, gIn, gIx, gSl, gLen, gAbs, gInt, gMin2, gMax2, gListOf, gListM, gTupOf, gAll, gAny, boolsOf, gApp, stL, tyOk, tyS, isTy, rdD, seqD, seqOf, lstOf, tupOf, allD, allD_map, eqD_ii, eqD_ss, eqD_bb, eqD_nn, eqD_in, eqD_ni, eqD_bn, eqD_nb, eqD_sn, eqD_ns, eqD_is, eqD_si, eqD_bs, eqD_sb, eqD_tt, eqD_ll, gpm, ↓to_bnd, ↓to_bmp, bnd_some, bnd_none, bmp_some, bmp_none, List.getElem?_cons_zero, List.getElem?_cons_succ, List.set_cons_zero, List.set_cons_succ, List.map_cons, List.map_nil, List.replicate, List.cons_append, List.nil_append, List.append_nil, List.length_cons, List.length_nil, atI_0, atI_1, atI_2, atI_3, atI_4, atI_5, ixN_30, ixN_31, ixN_32, decide_eq_true_eq, Bool.not_true, Bool.not_false, Bool.true_and, Bool.false_and, Bool.and_true, Bool.and_false, Bool.or_true, Bool.true_or, Bool.or_false, Bool.false_or, Bool.false_eq_true, ↓reduceIte, decide_true, decide_false, reduceCtorEq, Nat.reduceAdd, Nat.reduceSub, Nat.reduceEqDiff, trunc_same, e]
      rw [allD_mapf (fun _ => PyData.bool true)]
      simp only [fVar, fC, fOp, fUn, fTru, fBool, fNotT, fAndT, fOrT, fAndV, fOrV, fNotV, fIf, fNil, fCons, fTup, fLst, fLstM, mkT, mkL, fCB, fCall, fCallK, arity, fSl, fNoP, fPart, fIsi, fIsi2, fNext, fSeq, fBreak, fCont, fRet, fRetN, fExpr, fIfS, fAsg, fPar, tgName, tgNil, tgCons, tgTup, tgSub, fBM, fFor, fLc, fLcM, fRng1, fRng2, fItS, fZip, fYes, fChain, boolOf, truth, intOf, gI, gIC, gAdd, Z.gSub, gMul, gDiv, gMod, gLt, gLe, gGt, gGe, gNeg, gEq, gNe, gIsN, gNotN, isN, gIn, gIx, gSl, gLen, gAbs, gInt, gMin2, gMax2, gListOf, gListM, gTupOf, gAll, gAny, boolsOf, gApp, stL, tyOk, tyS, isTy, rdD, seqD, seqOf, lstOf, tupOf, allD, allD_map, eqD_ii, eqD_ss, eqD_bb, eqD_nn, eqD_in, eqD_ni, eqD_bn, eqD_nb, eqD_sn, eqD_ns, eqD_is, eqD_si, eqD_bs, eqD_sb, eqD_tt, eqD_ll, gpm, ↓to_bnd, ↓to_bmp, bnd_some, bnd_none, bmp_some, bmp_none, List.getElem?_cons_zero, List.getElem?_cons_succ, List.set_cons_zero, List.set_cons_succ, List.map_cons, List.map_nil, List.replicate, List.cons_append, List.nil_append, List.append_nil, List.length_cons, List.length_nil, atI_0, atI_1, atI_2, atI_3, atI_4, atI_5, ixN_30, ixN_31, ixN_32, decide_eq_true_eq, Bool.not_true, Bool.not_false, Bool.true_and, Bool.false_and, Bool.and_true, Bool.and_false, Bool.or_true, Bool.true_or, Bool.or_false, Bool.false_or, Bool.false_eq_true, ↓reduceIte, decide_true, decide_false, reduceCtorEq, Nat.reduceAdd, Nat.reduceSub, Nat.reduceEqDiff, boolsOf_mapf (fun _ => true)]
      rw [List.all_map, show (xs.all (id ∘ fun _ => true)) = true from by simp [Function.comp], trunc_same]
    | tuple xs =>
      simp only [plainD, Bool.and_eq_true, decide_eq_true_eq] at h
      have e := seq xs h.1 h.2 [some (.d (.tuple xs)), some (.d (.tuple xs))]
      simp only [List.getD_cons_zero, List.getD_cons_succ, Option.getD_some] at e
      simp only [same, runF, fVar, fC, fOp, fUn, fTru, fBool, fNotT, fAndT, fOrT, fAndV, fOrV, fNotV, fIf, fNil, fCons, fTup, fLst, fLstM, mkT, mkL, fCB, fCall, fCallK, arity, fSl, fNoP, fPart, fIsi, fIsi2, fNext, fSeq, fBreak, fCont, fRet, fRetN, fExpr, fIfS, fAsg, fPar, tgName, tgNil, tgCons, tgTup, tgSub, fBM, fFor, fLc, fLcM, fRng1, fRng2, fItS, fZip, fYes, fChain, boolOf, truth, intOf, gI, gIC, gAdd, Z.gSub, gMul, gDiv, gMod, gLt, gLe, gGt, gGe, gNeg, gEq, gNe, gIsN, gNotN, isN, gIn, gIx, gSl, gLen, gAbs, gInt, gMin2, gMax2, gListOf, gListM, gTupOf, gAll, gAny, boolsOf, gApp, stL, tyOk, tyS, isTy, rdD, seqD, seqOf, lstOf, tupOf, allD, allD_map, eqD_ii, eqD_ss, eqD_bb, eqD_nn, eqD_in, eqD_ni, eqD_bn, eqD_nb, eqD_sn, eqD_ns, eqD_is, eqD_si, eqD_bs, eqD_sb, eqD_tt, eqD_ll, gpm, ↓to_bnd, ↓to_bmp, bnd_some, bnd_none, bmp_some, bmp_none, List.getElem?_cons_zero, List.getElem?_cons_succ, List.set_cons_zero, List.set_cons_succ, List.map_cons, List.map_nil, List.replicate, List.cons_append, List.nil_append, List.append_nil, List.length_cons, List.length_nil, atI_0, atI_1, atI_2, atI_3, atI_4, atI_5, ixN_30, ixN_31, ixN_32, decide_eq_true_eq, Bool.not_true, Bool.not_false, Bool.true_and, Bool.false_and, Bool.and_true, Bool.and_false, Bool.or_true, Bool.true_or, Bool.or_false, Bool.false_or, Bool.false_eq_true, ↓reduceIte, decide_true, decide_false, reduceCtorEq, Nat.reduceAdd, Nat.reduceSub, Nat.reduceEqDiff, trunc_same, e]
      rw [allD_mapf (fun _ => PyData.bool true)]
      simp only [fVar, fC, fOp, fUn, fTru, fBool, fNotT, fAndT, fOrT, fAndV, fOrV, fNotV, fIf, fNil, fCons, fTup, fLst, fLstM, mkT, mkL, fCB, fCall, fCallK, arity, fSl, fNoP, fPart, fIsi, fIsi2, fNext, fSeq, fBreak, fCont, fRet, fRetN, fExpr, fIfS, fAsg, fPar, tgName, tgNil, tgCons, tgTup, tgSub, fBM, fFor, fLc, fLcM, fRng1, fRng2, fItS, fZip, fYes, fChain, boolOf, truth, intOf, gI, gIC, gAdd, Z.gSub, gMul, gDiv, gMod, gLt, gLe, gGt, gGe, gNeg, gEq, gNe, gIsN, gNotN, isN, gIn, gIx, gSl, gLen, gAbs, gInt, gMin2, gMax2, gListOf, gListM, gTupOf, gAll, gAny, boolsOf, gApp, stL, tyOk, tyS, isTy, rdD, seqD, seqOf, lstOf, tupOf, allD, allD_map, eqD_ii, eqD_ss, eqD_bb, eqD_nn, eqD_in, eqD_ni, eqD_bn, eqD_nb, eqD_sn, eqD_ns, eqD_is, eqD_si, eqD_bs, eqD_sb, eqD_tt, eqD_ll, gpm, ↓to_bnd, ↓to_bmp, bnd_some, bnd_none, bmp_some, bmp_none, List.getElem?_cons_zero, List.getElem?_cons_succ, List.set_cons_zero, List.set_cons_succ, List.map_cons, List.map_nil, List.replicate, List.cons_append, List.nil_append, List.append_nil, List.length_cons, List.length_nil, atI_0, atI_1, atI_2, atI_3, atI_4, atI_5, ixN_30, ixN_31, ixN_32, decide_eq_true_eq, Bool.not_true, Bool.not_false, Bool.true_and, Bool.false_and, Bool.and_true, Bool.and_false, Bool.or_true, Bool.true_or, Bool.or_false, Bool.false_or, Bool.false_eq_true, ↓reduceIte, decide_true, decide_false, reduceCtorEq, Nat.reduceAdd, Nat.reduceSub, Nat.reduceEqDiff, boolsOf_mapf (fun _ => true)]
      rw [List.all_map, show (xs.all (id ∘ fun _ => true)) = true from by simp [Function.comp], trunc_same]
end ZL
namespace P
open PySem L2 Z
def topS (i : Nat) : Stmt := PySem.Challenge.pw_hiddenforks_k03_looks_and_adds.main.body.getD i (.Pass ⟨0, 0, 0, 0⟩)
abbrev s_events_called : Stmt := topS 3
abbrev s_looks : Stmt := topS 1
abbrev s_adds : Stmt := topS 2
abbrev s_law_box : Stmt := topS 5
abbrev s_law_take : Stmt := topS 6
abbrev s_law_same : Stmt := topS 7
abbrev s_law_lists : Stmt := topS 8
abbrev s_law_event : Stmt := topS 9
abbrev s_law_table : Stmt := topS 10
abbrev s_law_due : Stmt := topS 11
abbrev s_law_right : Stmt := topS 12
abbrev s_law : Stmt := topS 13
/-! what the defs do, as functions of data and memory -/
noncomputable def m_events_called : Fn := runF 6 (fSeq (fAsg (fVar 1) (tgSeq 2 (tgCons (tgName 2) (tgCons (tgName 3) tgNil))))
    (fRet (fLcM (fEnum (fCons (fVar 3) fNil)) [4, 5] (tgTup 2 (tgCons (tgName 4) (tgCons (tgName 5) tgNil))) (fBool (fOp gEq (fOp gIx (fVar 5) (fC (.int 0))) (fVar 0))) (fTup (fCons (fVar 4) (fCons (fOp gIx (fVar 5) (fC (.int 1))) fNil))))))
noncomputable def m_looks : Fn := runF 1 (fRet (fCall 2 m_events_called (fCons (fC (.str "look")) (fCons (fVar 0) fNil))))
noncomputable def m_adds : Fn := runF 1 (fRet (fCall 2 m_events_called (fCons (fC (.str "add")) (fCons (fVar 0) fNil))))
noncomputable def m_law_box : Fn := runF 3 (fSeq (fAsg (fIf (fBool (fOp gLt (fVar 1) (fCB gLen (fCons (fVar 0) fNil)))) (fOp gIx (fVar 0) (fVar 1)) (fC (.int 0))) (tgName 2))
    (fRet (fLstM (fCons (fOp gMul (fCB gAbs (fCons (fVar 2) fNil)) (fCB gInt (fCons (fOp gGe (fCB gAbs (fCons (fVar 2) fNil)) (fOp gPow (fC (.int 10)) (fC (.int 18)))) fNil))) (fCons (fOp gAdd (fOp gAdd (fOp gMod (fCB gInt (fCons (fVar 2) fNil)) (fC (.int 2305843009213693951))) (fOp gMul (fC (.int 39373)) (fVar 1))) (fC (.int 101))) (fCons (fC (.int 0)) fNil))))))
noncomputable def m_law_take : Fn := runF 6 (fSeq (fIfS (fBool (fOp gGt (fOp gIx (fVar 0) (fC (.int 0))) (fC (.int 0)))) (fSeq (fAsg (fOp gMod (fCB gInt (fCons (fOp gIx (fVar 0) (fC (.int 0))) fNil)) (fVar 1)) (tgName 2))
    (fSeq (fAsg (fOp gDiv (fOp gIx (fVar 0) (fC (.int 0))) (fVar 1)) (tgSub (fVar 0) (fC (.int 0)) stL))
    (fRet (fVar 2)))) fNext)
    (fSeq (fAsg (fOp gAdd (fOp gIx (fVar 0) (fC (.int 2))) (fC (.int 1))) (tgSub (fVar 0) (fC (.int 2)) stL))
    (fSeq (fAsg (fOp gMod (fCB gInt (fCons (fOp gMul (fOp gAdd (fOp gIx (fVar 0) (fC (.int 1))) (fOp gMul (fC (.int 48271)) (fOp gIx (fVar 0) (fC (.int 2))))) (fOp gAdd (fC (.int 39373)) (fOp gIx (fVar 0) (fC (.int 2))))) fNil)) (fC (.int 2147483647))) (tgName 3))
    (fSeq (fAsg (fOp gAdd (fOp gMod (fCB gInt (fCons (fVar 3) fNil)) (fC (.int 40009))) (fC (.int 7))) (tgName 4))
    (fSeq (fAsg (fOp gMod (fCB gInt (fCons (fOp gMul (fOp gAdd (fOp gAdd (fVar 3) (fOp gIx (fVar 0) (fC (.int 2)))) (fOp gDiv (fOp gIx (fVar 0) (fC (.int 1))) (fC (.int 1000003)))) (fVar 4)) fNil)) (fC (.int 2147483629))) (tgName 5))
    (fRet (fOp gMod (fCB gInt (fCons (fOp gDiv (fOp gMod (fCB gInt (fCons (fOp gAdd (fOp gMul (fVar 5) (fC (.int 48271))) (fVar 3)) fNil)) (fC (.int 2147483587))) (fC (.int 64))) fNil)) (fVar 1))))))))
noncomputable def m_law_same : Nat → Fn
  | 0 => fun _ _ => none
  | n + 1 => runF 4 (fSeq (fIfS (fTru (fIsi2 .list .tuple (fVar 1))) (fSeq (fIfS (fOrT (fBool (fOp gNe (fIsi .list (fVar 0)) (fIsi .list (fVar 1)))) (fBool (fOp gNe (fIsi .tuple (fVar 0)) (fIsi .tuple (fVar 1))))) (fRet (fC (.bool false))) fNext)
    (fRet (fAndV (fOp gEq (fCB gLen (fCons (fVar 0) fNil)) (fCB gLen (fCons (fVar 1) fNil))) (fCB gAll (fCons (fLc (fZip (fCons (fVar 0) (fCons (fVar 1) fNil))) [2, 3] (tgTup 2 (tgCons (tgName 2) (tgCons (tgName 3) tgNil))) fYes (fCall 2 (m_law_same n) (fCons (fVar 2) (fCons (fVar 3) fNil)))) fNil))))) fNext)
    (fSeq (fIfS (fOrT (fBool (fOp gIsN (fVar 1) (fC .none))) (fTru (fIsi2 .bool .str (fVar 1)))) (fRet (fAndV (fOp gEq (fVar 0) (fVar 1)) (fAndV (fOp gEq (fIsi .bool (fVar 0)) (fIsi .bool (fVar 1))) (fOp gEq (fOp gIsN (fVar 0) (fC .none)) (fOp gIsN (fVar 1) (fC .none)))))) fNext)
    (fRet (fAndV (fIsi .int (fVar 0)) (fAndV (fNotV (fIsi .bool (fVar 0))) (fOp gEq (fVar 0) (fVar 1)))))))
noncomputable def m_law_lists : Nat → Fn
  | 0 => fun _ _ => none
  | n + 1 => runF 2 (fRet (fIf (fTru (fIsi2 .list .tuple (fVar 0))) (fLc (fItS (fVar 0)) [1] (tgName 1) fYes (fCall 1 (m_law_lists n) (fCons (fVar 1) fNil))) (fVar 0)))
noncomputable def m_law_event : Fn := runF 5 (fSeq (fPar 3 4 (fCons (fCall 2 m_law_take (fCons (fVar 0) (fCons (fVar 1) fNil))) (fCons (fOp gIx (fVar 2) (fCall 2 m_law_take (fCons (fVar 0) (fCons (fCB gLen (fCons (fVar 2) fNil)) fNil)))) fNil)))
    (fSeq (fIfS (fBool (fOp gEq (fVar 4) (fC (.str "a")))) (fRet (fTup (fCons (fC (.str "add")) (fCons (fVar 3) fNil)))) fNext)
    (fSeq (fIfS (fOrT (fBool (fOp gEq (fVar 4) (fC (.str "l")))) (fBool (fOp gEq (fVar 1) (fC (.int 1))))) (fRet (fTup (fCons (fC (.str "look")) (fCons (fVar 3) fNil)))) fNext)
    (fRet (fTup (fCons (fIf (fBool (fOp gEq (fVar 4) (fC (.str "m")))) (fC (.str "meet")) (fC (.str "tell"))) (fCons (fVar 3) (fCons (fOp gMod (fCB gInt (fCons (fOp gAdd (fOp gAdd (fVar 3) (fC (.int 1))) (fCall 2 m_law_take (fCons (fVar 0) (fCons (fOp gSub (fVar 1) (fC (.int 1))) fNil)))) fNil)) (fVar 1)) fNil))))))))
noncomputable def b1_law_table : Fs := fSeq (fAsg (fCall 3 m_law_event (fCons (fVar 0) (fCons (fVar 1) (fCons (fVar 3) fNil)))) (tgName 7))
    (fSeq (fAsg (fOp gAdd (fOp gIxD (fVar 5) (fC (.str "meet"))) (fOp gIxD (fVar 5) (fC (.str "tell")))) (tgName 8))
    (fIfS (fOrT (fBool (fOp gEq (fOp gIx (fVar 7) (fC (.int 0))) (fC (.str "add")))) (fOrT (fAndT (fBool (fOp gEq (fOp gIx (fVar 7) (fC (.int 0))) (fC (.str "look")))) (fBool (fOp gLt (fOp gIxD (fVar 5) (fC (.str "look"))) (fC (.int 8))))) (fAndT (fBool (fOp gGt (fCB gLen (fCons (fVar 7) fNil)) (fC (.int 2)))) (fBool (fOp gLt (fVar 8) (fC (.int 8))))))) (fSeq (fAsg (fOp gAdd (fOp gIxD (fVar 5) (fOp gIx (fVar 7) (fC (.int 0)))) (fC (.int 1))) (tgSub (fVar 5) (fOp gIx (fVar 7) (fC (.int 0))) stD))
    (fExpr (fBM "list" gApp (fVar 4) (fCons (fVar 7) fNil)))) fNext))
noncomputable def m_law_table : Fn := runF 9 (fSeq (fPar 4 5 (fCons (fLstM fNil) (fCons (fDisp [.inr "look", .inr "add", .inr "meet", .inr "tell"] (fCons (fC (.int 0)) (fCons (fC (.int 0)) (fCons (fC (.int 0)) (fCons (fC (.int 0)) fNil))))) fNil)))
    (fSeq (fFor (fRng1 (fCons (fVar 2) fNil)) (tgName 6) b1_law_table)
    (fRet (fTup (fCons (fVar 1) (fCons (fCB gTupOf (fCons (fVar 4) fNil)) fNil))))))
noncomputable def b1_law_due : Fs := fIfS (fBool (fOp gEq (fOp gIx (fVar 4) (fC (.int 0))) (fVar 1))) (fExpr (fBM "list" gApp (fVar 2) (fCons (fTup (fCons (fVar 3) (fCons (fOp gIx (fVar 4) (fC (.int 1))) fNil))) fNil))) fNext
noncomputable def m_law_due : Fn := runF 5 (fSeq (fAsg (fLstM fNil) (tgName 2))
    (fSeq (fFor (fEnum (fCons (fOp gIx (fVar 0) (fC (.int 1))) fNil)) (tgTup 2 (tgCons (tgName 3) (tgCons (tgName 4) tgNil))) b1_law_due)
    (fRet (fFrz (fVar 2)))))
noncomputable def b1_law_right : Fs := fSeq (fAsg (fCall 4 m_law_table (fCons (fVar 0) (fCons (fOp gAdd (fC (.int 1)) (fCall 2 m_law_take (fCons (fVar 0) (fCons (fC (.int 5)) fNil)))) (fCons (fCall 2 m_law_take (fCons (fVar 0) (fCons (fC (.int 17)) fNil))) (fCons (fC (.str "llaammt")) fNil))))) (tgName 2))
    (fSeq (fPar 3 4 (fCons (fCall 1 (m_law_lists 6) (fCons (fVar 2) fNil)) (fCons (fLst (fCons (fCall 2 m_law_due (fCons (fVar 2) (fCons (fC (.str "look")) fNil))) (fCons (fCall 2 m_law_due (fCons (fVar 2) (fCons (fC (.str "add")) fNil))) fNil))) fNil)))
    (fSeq (fAsg (fLstM (fCons (fCall 1 m_looks (fCons (fVar 2) fNil)) (fCons (fCall 1 m_adds (fCons (fVar 2) fNil)) (fCons (fCallK 1 0 [0] m_looks fNil (fCons (fVar 3) fNil)) (fCons (fCallK 1 0 [0] m_adds fNil (fCons (fVar 3) fNil)) fNil))))) (tgName 5))
    (fSeq (fIfS (fOrT (fNotT (fTru (fBor 2 (m_law_same 6) (fCons (fVar 5) (fCons (fOp gAdd (fVar 4) (fVar 4)) fNil))))) (fBool (fOp gNe (fVar 3) (fCall 1 (m_law_lists 6) (fCons (fVar 2) fNil))))) (fRet (fC (.bool false))) fNext)
    (fSeq (fExpr (fBM "list" gApp (fOp gIx (fVar 5) (fC (.int 0))) (fCons (fC (.str "more")) fNil)))
    (fSeq (fExpr (fBM "list" gApp (fOp gIx (fVar 5) (fC (.int 3))) (fCons (fC (.str "more")) fNil)))
    (fIfS (fNotT (fTru (fBor 2 (m_law_same 6) (fCons (fLstM (fCons (fCall 1 m_looks (fCons (fVar 2) fNil)) (fCons (fCall 1 m_adds (fCons (fVar 3) fNil)) fNil))) (fCons (fVar 4) fNil))))) (fRet (fC (.bool false))) fNext))))))
noncomputable def m_law_right : Fn := runF 6 (fSeq (fFor (fRng1 (fCons (fC (.int 8)) fNil)) (tgName 1) b1_law_right)
    (fRet (fC (.bool true))))
noncomputable def b1_law : Fs := fIfS (fNotT (fTru (fCall 1 m_law_right (fCons (fCall 2 m_law_box (fCons (fVar 0) (fCons (fVar 1) fNil))) fNil)))) (fRet (fC (.bool false))) fNext
noncomputable def m_law : Fn := runF 2 (fSeq (fFor (fRng1 (fCons (fOp gAdd (fC (.int 1)) (fCB gMin2 (fCons (fC (.int 2)) (fCons (fCB gLen (fCons (fVar 0) fNil)) fNil)))) fNil)) (tgName 1) b1_law)
    (fRet (fC (.bool true))))
structure Txt (mg : Str → Option Value) : Prop where
  b_abs : mg "abs" = none
  b_all : mg "all" = none
  b_bool : mg "bool" = none
  b_enumerate : mg "enumerate" = none
  b_int : mg "int" = none
  b_isinstance : mg "isinstance" = none
  b_len : mg "len" = none
  b_list : mg "list" = none
  b_min : mg "min" = none
  b_range : mg "range" = none
  b_str : mg "str" = none
  b_tuple : mg "tuple" = none
  b_zip : mg "zip" = none
section
variable {P : Program} {w : World} {K : PySem.W.Frag} {mg : Str → Option Value} {base : Heap}
theorem sc_events_called : FnScope ["word", "timetable", "_", "events", "place", "event"] ["word", "timetable"] (defScope s_events_called) := ⟨rfl, rfl, rfl, by decide +kernel, rfl, by decide +kernel, by decide +kernel⟩
theorem sc_looks : FnScope ["timetable"] ["timetable"] (defScope s_looks) := ⟨rfl, rfl, rfl, by decide +kernel, rfl, by decide +kernel, by decide +kernel⟩
theorem sc_adds : FnScope ["timetable"] ["timetable"] (defScope s_adds) := ⟨rfl, rfl, rfl, by decide +kernel, rfl, by decide +kernel, by decide +kernel⟩
theorem sc_law_box : FnScope ["_law_script", "_law_k", "_law_cell"] ["_law_script", "_law_k"] (defScope s_law_box) := ⟨rfl, rfl, rfl, by decide +kernel, rfl, by decide +kernel, by decide +kernel⟩
theorem sc_law_take : FnScope ["_law_box_here", "_law_below", "_law_drawn", "_law_once", "_law_far", "_law_twice"] ["_law_box_here", "_law_below"] (defScope s_law_take) := ⟨rfl, rfl, rfl, by decide +kernel, rfl, by decide +kernel, by decide +kernel⟩
theorem sc_law_same : FnScope ["_law_found", "_law_due_here", "_law_mine", "_law_its"] ["_law_found", "_law_due_here"] (defScope s_law_same) := ⟨rfl, rfl, rfl, by decide +kernel, rfl, by decide +kernel, by decide +kernel⟩
theorem sc_law_lists : FnScope ["_law_part", "_law_bit"] ["_law_part"] (defScope s_law_lists) := ⟨rfl, rfl, rfl, by decide +kernel, rfl, by decide +kernel, by decide +kernel⟩
theorem sc_law_event : FnScope ["_law_box_here", "_law_folk", "_law_letters", "_law_p", "_law_way"] ["_law_box_here", "_law_folk", "_law_letters"] (defScope s_law_event) := ⟨rfl, rfl, rfl, by decide +kernel, rfl, by decide +kernel, by decide +kernel⟩
theorem sc_law_table : FnScope ["_law_box_here", "_law_folk", "_law_many", "_law_letters", "_law_found", "_law_count", "_law_turn", "_law_event_here", "_law_paired"] ["_law_box_here", "_law_folk", "_law_many", "_law_letters"] (defScope s_law_table) := ⟨rfl, rfl, rfl, by decide +kernel, rfl, by decide +kernel, by decide +kernel⟩
theorem sc_law_due : FnScope ["_law_table_here", "_law_word_so", "_law_found", "_law_k", "_law_event_here"] ["_law_table_here", "_law_word_so"] (defScope s_law_due) := ⟨rfl, rfl, rfl, by decide +kernel, rfl, by decide +kernel, by decide +kernel⟩
theorem sc_law_right : FnScope ["_law_box_here", "_law_turn", "_law_table_here", "_law_soft", "_law_due_here", "_law_told_so"] ["_law_box_here"] (defScope s_law_right) := ⟨rfl, rfl, rfl, by decide +kernel, rfl, by decide +kernel, by decide +kernel⟩
theorem sc_law : FnScope ["_law_script", "_law_k"] ["_law_script"] (defScope s_law) := ⟨rfl, rfl, rfl, by decide +kernel, rfl, by decide +kernel, by decide +kernel⟩
theorem kb_looks_0_timetable {f : Addr} {fd : FuncData} (F : Fun K "looks" "looks" s_looks f fd) : KBinds K fd ["timetable"] ["timetable"] (gpm 0 [0]) (gpm 0 [0]) :=
  Fun.kb F (by decide) fun kV doc pm an cdv ct us ws h1 h2 => by
    match us, h1, h2 with
    | [], _, h2 =>
      match ws, h2 with
      | [], h2 => exact absurd h2 (by simp)
      | _ :: _, _ => rfl
theorem kb_adds_0_timetable {f : Addr} {fd : FuncData} (F : Fun K "adds" "adds" s_adds f fd) : KBinds K fd ["timetable"] ["timetable"] (gpm 0 [0]) (gpm 0 [0]) :=
  Fun.kb F (by decide) fun kV doc pm an cdv ct us ws h1 h2 => by
    match us, h1, h2 with
    | [], _, h2 =>
      match ws, h2 with
      | [], h2 => exact absurd h2 (by simp)
      | _ :: _, _ => rfl
theorem ok_events_called (D_events_called : Df K mg "events_called" "events_called" s_events_called ["word", "timetable"]) (T : Txt mg) : FnOk P w K mg base CX0 1 D_events_called.a D_events_called.fd ["word", "timetable"] (spF K 2 m_events_called) := by
  refine fnd (k := 0) D_events_called.F sc_events_called rfl fun cdv A outer s H E hr => ?_
  have nd := sc_events_called.nd
  exact zscons (zsasg (zvar 1) (zgseq rfl (zgcons (zgname (i := 2) nd rfl (Or.inl rfl)) (zgcons (zgname (i := 3) nd rfl (Or.inl rfl)) zgnil))))
    (zsone (zsret (zlcM (own := [("place", 4), ("event", 5)]) rfl nd (zienum (by rfl) T.b_enumerate (zcons (zvar 3) znil)) (blkOk_by (N := ["word", "timetable", "_", "events", "place", "event"]) (sc := (defScope s_events_called)) (own := [("place", 4), ("event", 5)]) (by decide +kernel)) (fun _ _ _ _ _ => zgwtup rfl (zgwcons (zgwname (i := 4) nd rfl (Or.inl rfl) (by decide)) (zgwcons (zgwname (i := 5) nd rfl (Or.inl rfl) (by decide)) zgwnil))) (fun _ _ _ _ _ => ztsone (ztcmp (op_eqZ hr.units) g_eq (zix ix_seq g_ix (zvar 5) zint (fun _ _ => rfl)) (zvar 0) (nomark _))) (fun _ _ _ _ _ => ztup (zcons (zvar 4) (zcons (zix ix_seq g_ix (zvar 5) zint (fun _ _ => rfl)) znil))))))
theorem ok_looks (D_looks : Df K mg "looks" "looks" s_looks ["timetable"]) (D_events_called : Df K mg "events_called" "events_called" s_events_called ["word", "timetable"]) (T : Txt mg) : FnOk P w K mg base CX0 2 D_looks.a D_looks.fd ["timetable"] (spF K 1 m_looks) := by
  refine fnd (k := 1) D_looks.F sc_looks rfl fun cdv A outer s H E hr => ?_
  have nd := sc_looks.nd
  exact zsone (zsret (zcall (g := m_events_called) (ok_events_called D_events_called T) (hr.mono (by omega)) (by rfl) D_events_called.g D_events_called.F.kp D_events_called.b (zcons zstr (zcons (zvar 0) znil))))
theorem ok_adds (D_adds : Df K mg "adds" "adds" s_adds ["timetable"]) (D_events_called : Df K mg "events_called" "events_called" s_events_called ["word", "timetable"]) (T : Txt mg) : FnOk P w K mg base CX0 2 D_adds.a D_adds.fd ["timetable"] (spF K 1 m_adds) := by
  refine fnd (k := 1) D_adds.F sc_adds rfl fun cdv A outer s H E hr => ?_
  have nd := sc_adds.nd
  exact zsone (zsret (zcall (g := m_events_called) (ok_events_called D_events_called T) (hr.mono (by omega)) (by rfl) D_events_called.g D_events_called.F.kp D_events_called.b (zcons zstr (zcons (zvar 0) znil))))
theorem ok_law_box (D_law_box : Df K mg "_law_box" "_law_box" s_law_box ["_law_script", "_law_k"]) (T : Txt mg) : FnOk P w K mg base CX0 1 D_law_box.a D_law_box.fd ["_law_script", "_law_k"] (spF K 2 m_law_box) := by
  refine fnd (k := 0) D_law_box.F sc_law_box rfl fun cdv A outer s H E hr => ?_
  have nd := sc_law_box.nd
  exact zscons (zsset (i := 2) nd rfl (Or.inl rfl) (zif (ztcmp op_lt g_lt (zvar 1) (zcb call_lenZ g_len (by rfl) T.b_len bb_len (zcons (zvar 0) znil)) (nomark _)) (zix ix_seq g_ix (zvar 0) (zvar 1) (fun _ _ => rfl)) zint))
    (zsone (zsret (zlstM (zcons (zop op_mulZ g_mul (zcb call_abs g_abs (by rfl) T.b_abs bb_abs (zcons (zvar 2) znil)) (zcty call_int1 g_int (by rfl) T.b_int bb_int (zcons (zcmp op_ge g_ge (zcb call_abs g_abs (by rfl) T.b_abs bb_abs (zcons (zvar 2) znil)) (zop op_pow g_pow zint zint) (nomark _)) znil))) (zcons (zop op_addZ g_add (zop op_addZ g_add (zop op_mod g_mod (zcty call_int1 g_int (by rfl) T.b_int bb_int (zcons (zvar 2) znil)) zint) (zop op_mulZ g_mul zint (zvar 1))) zint) (zcons zint znil))))))
theorem ok_law_take (D_law_take : Df K mg "_law_take" "_law_take" s_law_take ["_law_box_here", "_law_below"]) (T : Txt mg) : FnOk P w K mg base CX0 1 D_law_take.a D_law_take.fd ["_law_box_here", "_law_below"] (spF K 2 m_law_take) := by
  refine fnd (k := 0) D_law_take.F sc_law_take rfl fun cdv A outer s H E hr => ?_
  have nd := sc_law_take.nd
  exact zscons (zsif (ztcmp op_gt g_gt (zix ix_seq g_ix (zvar 0) zint (fun _ _ => rfl)) zint (nomark _)) (zscons (zsset (i := 2) nd rfl (Or.inl rfl) (zop op_mod g_mod (zcty call_int1 g_int (by rfl) T.b_int bb_int (zcons (zix ix_seq g_ix (zvar 0) zint (fun _ _ => rfl)) znil)) (zvar 1)))
    (zscons (zsasg (zop op_fdivW g_div (zix ix_seq g_ix (zvar 0) zint (fun _ _ => rfl)) (zvar 1)) (zgsub (zvar 0) zint set_list st_l))
    (zsone (zsret (zvar 2))))) zsnil)
    (zscons (zsasg (zop op_addZ g_add (zix ix_seq g_ix (zvar 0) zint (fun _ _ => rfl)) zint) (zgsub (zvar 0) zint set_list st_l))
    (zscons (zsset (i := 3) nd rfl (Or.inl rfl) (zop op_mod g_mod (zcty call_int1 g_int (by rfl) T.b_int bb_int (zcons (zop op_mulZ g_mul (zop op_addZ g_add (zix ix_seq g_ix (zvar 0) zint (fun _ _ => rfl)) (zop op_mulZ g_mul zint (zix ix_seq g_ix (zvar 0) zint (fun _ _ => rfl)))) (zop op_addZ g_add zint (zix ix_seq g_ix (zvar 0) zint (fun _ _ => rfl)))) znil)) zint))
    (zscons (zsset (i := 4) nd rfl (Or.inl rfl) (zop op_addZ g_add (zop op_mod g_mod (zcty call_int1 g_int (by rfl) T.b_int bb_int (zcons (zvar 3) znil)) zint) zint))
    (zscons (zsset (i := 5) nd rfl (Or.inl rfl) (zop op_mod g_mod (zcty call_int1 g_int (by rfl) T.b_int bb_int (zcons (zop op_mulZ g_mul (zop op_addZ g_add (zop op_addZ g_add (zvar 3) (zix ix_seq g_ix (zvar 0) zint (fun _ _ => rfl))) (zop op_fdivW g_div (zix ix_seq g_ix (zvar 0) zint (fun _ _ => rfl)) zint)) (zvar 4)) znil)) zint))
    (zsone (zsret (zop op_mod g_mod (zcty call_int1 g_int (by rfl) T.b_int bb_int (zcons (zop op_fdivW g_div (zop op_mod g_mod (zcty call_int1 g_int (by rfl) T.b_int bb_int (zcons (zop op_addZ g_add (zop op_mulZ g_mul (zvar 5) zint) (zvar 3)) znil)) zint) zint) znil)) (zvar 1))))))))
theorem ok_law_same (n : Nat) (D_law_same : Df K mg "_law_same" "_law_same" s_law_same ["_law_found", "_law_due_here"]) (T : Txt mg) : FnOk P w K mg base CX0 (n + 1) D_law_same.a D_law_same.fd ["_law_found", "_law_due_here"] (spF K 2 (m_law_same n)) := by
  induction n with
  | zero => exact fnd_zero (n := 2) D_law_same.F sc_law_same rfl (by decide)
  | succ n IH =>
    have e : n + 1 + 1 = (n + 1) + 1 := by omega
    rw [e]
    refine fnd D_law_same.F sc_law_same rfl fun cdv A outer s H E hr => ?_
    have nd := sc_law_same.nd
    exact zscons (zsif (zttr (zisi2 (t := .list) (t' := .tuple) (x := "isinstance") (by decide) (by decide) (by rfl) T.b_isinstance (by rfl) T.b_list bb_list (by rfl) T.b_tuple bb_tuple (zvar 1))) (zscons (zsif (PWd.pt (zwor (ztcmp (op_neZ hr.units) g_ne (zisi (t := .list) (x := "isinstance") (by decide) (by rfl) T.b_isinstance (by rfl) T.b_list bb_list (zvar 0)) (zisi (t := .list) (x := "isinstance") (by decide) (by rfl) T.b_isinstance (by rfl) T.b_list bb_list (zvar 1)) (nomark _)) (zwor1 (ztcmp (op_neZ hr.units) g_ne (zisi (t := .tuple) (x := "isinstance") (by decide) (by rfl) T.b_isinstance (by rfl) T.b_tuple bb_tuple (zvar 0)) (zisi (t := .tuple) (x := "isinstance") (by decide) (by rfl) T.b_isinstance (by rfl) T.b_tuple bb_tuple (zvar 1)) (nomark _))))) (zsone (zsret zbl)) zsnil)
      (zsone (zsret (zand (zcmp (op_eqZ hr.units) g_eq (zcb call_lenZ g_len (by rfl) T.b_len bb_len (zcons (zvar 0) znil)) (zcb call_lenZ g_len (by rfl) T.b_len bb_len (zcons (zvar 1) znil)) (nomark _)) (zone (zcb (cr_all rfl) g_all (by rfl) T.b_all bb_all (zcons (zlc (own := [("_law_mine", 2), ("_law_its", 3)]) rfl nd (zizip (by rfl) T.b_zip (zcons (zvar 0) (zcons (zvar 1) znil))) (blkOk_by (N := ["_law_found", "_law_due_here", "_law_mine", "_law_its"]) (sc := (defScope s_law_same)) (own := [("_law_mine", 2), ("_law_its", 3)]) (by decide +kernel)) (fun _ _ _ _ _ => zgwtup rfl (zgwcons (zgwname (i := 2) nd rfl (Or.inl rfl) (by decide)) (zgwcons (zgwname (i := 3) nd rfl (Or.inl rfl) (by decide)) zgwnil))) (fun _ _ _ _ _ => ztsnil) (fun _ _ _ _ _ => zcall (g := m_law_same n) IH (hr.mono (by omega)) (by rfl) D_law_same.g D_law_same.F.kp D_law_same.b (zcons (zvar 2) (zcons (zvar 3) znil)))) znil))))))) zsnil)
      (zscons (zsif (PWd.pt (zwor (ztcmp op_isN g_isN (zvar 1) znon (nomark _)) (zwor1 (zttr (zisi2 (t := .bool) (t' := .str) (x := "isinstance") (by decide) (by decide) (by rfl) T.b_isinstance (by rfl) T.b_bool bb_bool (by rfl) T.b_str bb_str (zvar 1)))))) (zsone (zsret (zand (zcmp (op_eqZ hr.units) g_eq (zvar 0) (zvar 1) (nomark _)) (zand (zcmp (op_eqZ hr.units) g_eq (zisi (t := .bool) (x := "isinstance") (by decide) (by rfl) T.b_isinstance (by rfl) T.b_bool bb_bool (zvar 0)) (zisi (t := .bool) (x := "isinstance") (by decide) (by rfl) T.b_isinstance (by rfl) T.b_bool bb_bool (zvar 1)) (nomark _)) (zone (zcmp (op_eqZ hr.units) g_eq (zcmp op_isN g_isN (zvar 0) znon (nomark _)) (zcmp op_isN g_isN (zvar 1) znon (nomark _)) (nomark _))))))) zsnil)
      (zsone (zsret (zand (zisi (t := .int) (x := "isinstance") (by decide) (by rfl) T.b_isinstance (by rfl) T.b_int bb_int (zvar 0)) (zand (znot (zisi (t := .bool) (x := "isinstance") (by decide) (by rfl) T.b_isinstance (by rfl) T.b_bool bb_bool (zvar 0))) (zone (zcmp (op_eqZ hr.units) g_eq (zvar 0) (zvar 1) (nomark _))))))))
theorem ok_law_lists (n : Nat) (D_law_lists : Df K mg "_law_lists" "_law_lists" s_law_lists ["_law_part"]) (T : Txt mg) : FnOk P w K mg base CX0 (n + 1) D_law_lists.a D_law_lists.fd ["_law_part"] (spF K 1 (m_law_lists n)) := by
  induction n with
  | zero => exact fnd_zero (n := 1) D_law_lists.F sc_law_lists rfl (by decide)
  | succ n IH =>
    have e : n + 1 + 1 = (n + 1) + 1 := by omega
    rw [e]
    refine fnd D_law_lists.F sc_law_lists rfl fun cdv A outer s H E hr => ?_
    have nd := sc_law_lists.nd
    exact zsone (zsret (zif (zttr (zisi2 (t := .list) (t' := .tuple) (x := "isinstance") (by decide) (by decide) (by rfl) T.b_isinstance (by rfl) T.b_list bb_list (by rfl) T.b_tuple bb_tuple (zvar 0))) (zlc (own := [("_law_bit", 1)]) rfl nd (zi_seq (zvar 0)) (blkOk_by (N := ["_law_part", "_law_bit"]) (sc := (defScope s_law_lists)) (own := [("_law_bit", 1)]) (by decide +kernel)) (fun _ _ _ _ _ => zgwname (i := 1) nd rfl (Or.inl rfl) (by decide)) (fun _ _ _ _ _ => ztsnil) (fun _ _ _ _ _ => zcall (g := m_law_lists n) IH (hr.mono (by omega)) (by rfl) D_law_lists.g D_law_lists.F.kp D_law_lists.b (zcons (zvar 1) znil))) (zvar 0)))
theorem ok_law_event (D_law_event : Df K mg "_law_event" "_law_event" s_law_event ["_law_box_here", "_law_folk", "_law_letters"]) (D_law_take : Df K mg "_law_take" "_law_take" s_law_take ["_law_box_here", "_law_below"]) (T : Txt mg) : FnOk P w K mg base CX0 2 D_law_event.a D_law_event.fd ["_law_box_here", "_law_folk", "_law_letters"] (spF K 3 m_law_event) := by
  refine fnd (k := 1) D_law_event.F sc_law_event rfl fun cdv A outer s H E hr => ?_
  have nd := sc_law_event.nd
  exact zscons (zspar (i := 3) (j := 4) rfl nd rfl rfl (by decide) rfl rfl (zcons (zcall (g := m_law_take) (ok_law_take D_law_take T) (hr.mono (by omega)) (by rfl) D_law_take.g D_law_take.F.kp D_law_take.b (zcons (zvar 0) (zcons (zvar 1) znil))) (zcons (zix ix_seq g_ix (zvar 2) (zcall (g := m_law_take) (ok_law_take D_law_take T) (hr.mono (by omega)) (by rfl) D_law_take.g D_law_take.F.kp D_law_take.b (zcons (zvar 0) (zcons (zcb call_lenZ g_len (by rfl) T.b_len bb_len (zcons (zvar 2) znil)) znil))) (fun _ _ => rfl)) znil)) (by rfl))
    (zscons (zsif (ztcmp (op_eqZ hr.units) g_eq (zvar 4) zstr (nomark _)) (zsone (zsret (ztup (zcons zstr (zcons (zvar 3) znil))))) zsnil)
    (zscons (zsif (PWd.pt (zwor (ztcmp (op_eqZ hr.units) g_eq (zvar 4) zstr (nomark _)) (zwor1 (ztcmp (op_eqZ hr.units) g_eq (zvar 1) zint (nomark _))))) (zsone (zsret (ztup (zcons zstr (zcons (zvar 3) znil))))) zsnil)
    (zsone (zsret (ztup (zcons (zif (ztcmp (op_eqZ hr.units) g_eq (zvar 4) zstr (nomark _)) zstr zstr) (zcons (zvar 3) (zcons (zop op_mod g_mod (zcty call_int1 g_int (by rfl) T.b_int bb_int (zcons (zop op_addZ g_add (zop op_addZ g_add (zvar 3) zint) (zcall (g := m_law_take) (ok_law_take D_law_take T) (hr.mono (by omega)) (by rfl) D_law_take.g D_law_take.F.kp D_law_take.b (zcons (zvar 0) (zcons (zop op_sub g_sub (zvar 1) zint) znil)))) znil)) (zvar 1)) znil))))))))
theorem ok_law_table (D_law_table : Df K mg "_law_table" "_law_table" s_law_table ["_law_box_here", "_law_folk", "_law_many", "_law_letters"]) (D_law_take : Df K mg "_law_take" "_law_take" s_law_take ["_law_box_here", "_law_below"]) (D_law_event : Df K mg "_law_event" "_law_event" s_law_event ["_law_box_here", "_law_folk", "_law_letters"]) (T : Txt mg) : FnOk P w K mg base CX0 3 D_law_table.a D_law_table.fd ["_law_box_here", "_law_folk", "_law_many", "_law_letters"] (spF K 4 m_law_table) := by
  refine fnd (k := 2) D_law_table.F sc_law_table rfl fun cdv A outer s H E hr => ?_
  have nd := sc_law_table.nd
  exact zscons (zspar (i := 4) (j := 5) rfl nd rfl rfl (by decide) rfl rfl (zcons (zlstM znil) (zcons (zdisp (zdcons ck_str zint (zdcons ck_str zint (zdcons ck_str zint (zdcons ck_str zint zdnil))))) znil)) (by rfl))
    (zscons (zsfor PassesOwn.never rfl (zirng1 rfl T.b_range (zcons (zvar 2) znil)) (zgname (i := 6) nd rfl (Or.inl rfl)) (zscons (zsset (i := 7) nd rfl (Or.inl rfl) (zcall (g := m_law_event) (ok_law_event D_law_event D_law_take T) (hr.mono (by omega)) (by rfl) D_law_event.g D_law_event.F.kp D_law_event.b (zcons (zvar 0) (zcons (zvar 1) (zcons (zvar 3) znil)))))
    (zscons (zsset (i := 8) nd rfl (Or.inl rfl) (zop op_addZ g_add (zix (ix_dk (un1 hr.units)) g_ixd (zvar 5) zstr (fun _ _ => rfl)) (zix (ix_dk (un1 hr.units)) g_ixd (zvar 5) zstr (fun _ _ => rfl))))
    (zsone (zsif (PWd.pt (zwor (ztcmp (op_eqZ hr.units) g_eq (zix ix_seq g_ix (zvar 7) zint (fun _ _ => rfl)) zstr (nomark _)) (zwor (PWd.pt (zwand (ztcmp (op_eqZ hr.units) g_eq (zix ix_seq g_ix (zvar 7) zint (fun _ _ => rfl)) zstr (nomark _)) (zwand1 (ztcmp op_lt g_lt (zix (ix_dk (un1 hr.units)) g_ixd (zvar 5) zstr (fun _ _ => rfl)) zint (nomark _))))) (zwor1 (PWd.pt (zwand (ztcmp op_gt g_gt (zcb call_lenZ g_len (by rfl) T.b_len bb_len (zcons (zvar 7) znil)) zint (nomark _)) (zwand1 (ztcmp op_lt g_lt (zvar 8) zint (nomark _))))))))) (zscons (zsasg (zop op_addZ g_add (zix (ix_dk (un1 hr.units)) g_ixd (zvar 5) (zix ix_seq g_ix (zvar 7) zint (fun _ _ => rfl)) (fun _ _ => rfl)) zint) (zgsub (zvar 5) (zix ix_seq g_ix (zvar 7) zint (fun _ _ => rfl)) (set_dict (un1 hr.units)) st_d))
    (zsone (zsexpr (zbm PySem.F.plainAttrs_list PySem.F.slot_list_append PySem.F.type_list_append mt_append g_app (zvar 4) (zcons (zvar 7) znil))))) zsnil)))))
    (zsone (zsret (ztup (zcons (zvar 1) (zcons (zcty call_tuple_of g_tupOf (by rfl) T.b_tuple bb_tuple (zcons (zvar 4) znil)) znil))))))
theorem ok_law_due (D_law_due : Df K mg "_law_due" "_law_due" s_law_due ["_law_table_here", "_law_word_so"]) (T : Txt mg) : FnOk P w K mg base CX0 1 D_law_due.a D_law_due.fd ["_law_table_here", "_law_word_so"] (spF K 2 m_law_due) := by
  refine fnd (k := 0) D_law_due.F sc_law_due rfl fun cdv A outer s H E hr => ?_
  have nd := sc_law_due.nd
  exact zscons (zsset (i := 2) nd rfl (Or.inl rfl) (zlstM znil))
    (zscons (zsfor PassesOwn.never rfl (zienum (by rfl) T.b_enumerate (zcons (zix ix_seq g_ix (zvar 0) zint (fun _ _ => rfl)) znil)) (zgtup rfl (zgcons (zgname (i := 3) nd rfl (Or.inl rfl)) (zgcons (zgname (i := 4) nd rfl (Or.inl rfl)) zgnil))) (zsone (zsif (ztcmp (op_eqZ hr.units) g_eq (zix ix_seq g_ix (zvar 4) zint (fun _ _ => rfl)) (zvar 1) (nomark _)) (zsone (zsexpr (zbm PySem.F.plainAttrs_list PySem.F.slot_list_append PySem.F.type_list_append mt_append g_app (zvar 2) (zcons (ztup (zcons (zvar 3) (zcons (zix ix_seq g_ix (zvar 4) zint (fun _ _ => rfl)) znil))) znil)))) zsnil)))
    (zsone (zsret (zfrz (zvar 2)))))
theorem ok_law_right (D_law_right : Df K mg "_law_right" "_law_right" s_law_right ["_law_box_here"]) (D_events_called : Df K mg "events_called" "events_called" s_events_called ["word", "timetable"]) (D_looks : Df K mg "looks" "looks" s_looks ["timetable"]) (D_adds : Df K mg "adds" "adds" s_adds ["timetable"]) (D_law_take : Df K mg "_law_take" "_law_take" s_law_take ["_law_box_here", "_law_below"]) (D_law_same : Df K mg "_law_same" "_law_same" s_law_same ["_law_found", "_law_due_here"]) (D_law_lists : Df K mg "_law_lists" "_law_lists" s_law_lists ["_law_part"]) (D_law_event : Df K mg "_law_event" "_law_event" s_law_event ["_law_box_here", "_law_folk", "_law_letters"]) (D_law_table : Df K mg "_law_table" "_law_table" s_law_table ["_law_box_here", "_law_folk", "_law_many", "_law_letters"]) (D_law_due : Df K mg "_law_due" "_law_due" s_law_due ["_law_table_here", "_law_word_so"]) (T : Txt mg) : FnOk P w K mg base CX0 8 D_law_right.a D_law_right.fd ["_law_box_here"] (spF K 1 m_law_right) := by
  refine fnd (k := 7) D_law_right.F sc_law_right rfl fun cdv A outer s H E hr => ?_
  have nd := sc_law_right.nd
  exact zscons (zsfor PassesOwn.never rfl (zirng1 rfl T.b_range (zcons zint znil)) (zgname (i := 1) nd rfl (Or.inl rfl)) (zscons (zsset (i := 2) nd rfl (Or.inl rfl) (zcall (g := m_law_table) (ok_law_table D_law_table D_law_take D_law_event T) (hr.mono (by omega)) (by rfl) D_law_table.g D_law_table.F.kp D_law_table.b (zcons (zvar 0) (zcons (zop op_addZ g_add zint (zcall (g := m_law_take) (ok_law_take D_law_take T) (hr.mono (by omega)) (by rfl) D_law_take.g D_law_take.F.kp D_law_take.b (zcons (zvar 0) (zcons zint znil)))) (zcons (zcall (g := m_law_take) (ok_law_take D_law_take T) (hr.mono (by omega)) (by rfl) D_law_take.g D_law_take.F.kp D_law_take.b (zcons (zvar 0) (zcons zint znil))) (zcons zstr znil))))))
    (zscons (zspar (i := 3) (j := 4) rfl nd rfl rfl (by decide) rfl rfl (zcons (zcall (g := m_law_lists 6) (ok_law_lists 6 D_law_lists T) (hr.mono (by omega)) (by rfl) D_law_lists.g D_law_lists.F.kp D_law_lists.b (zcons (zvar 2) znil)) (zcons (zlst (zcons (zcall (g := m_law_due) (ok_law_due D_law_due T) (hr.mono (by omega)) (by rfl) D_law_due.g D_law_due.F.kp D_law_due.b (zcons (zvar 2) (zcons zstr znil))) (zcons (zcall (g := m_law_due) (ok_law_due D_law_due T) (hr.mono (by omega)) (by rfl) D_law_due.g D_law_due.F.kp D_law_due.b (zcons (zvar 2) (zcons zstr znil))) znil))) znil)) (by rfl))
    (zscons (zsset (i := 5) nd rfl (Or.inl rfl) (zlstM (zcons (zcall (g := m_looks) (ok_looks D_looks D_events_called T) (hr.mono (by omega)) (by rfl) D_looks.g D_looks.F.kp D_looks.b (zcons (zvar 2) znil)) (zcons (zcall (g := m_adds) (ok_adds D_adds D_events_called T) (hr.mono (by omega)) (by rfl) D_adds.g D_adds.F.kp D_adds.b (zcons (zvar 2) znil)) (zcons (zcallK0 (g := m_looks) (m := 0) (perm := [0]) (ok_looks D_looks D_events_called T) (hr.mono (by omega)) (by rfl) D_looks.g D_looks.F.kp (kb_looks_0_timetable D_looks.F) (zkcons (zvar 3) zknil)) (zcons (zcallK0 (g := m_adds) (m := 0) (perm := [0]) (ok_adds D_adds D_events_called T) (hr.mono (by omega)) (by rfl) D_adds.g D_adds.F.kp (kb_adds_0_timetable D_adds.F) (zkcons (zvar 3) zknil)) znil))))))
    (zscons (zsif (PWd.pt (zwor (ztnot (zttr (zbor (g := m_law_same 6) (ok_law_same 6 D_law_same T) (hr.mono (by omega)) (by rfl) D_law_same.g D_law_same.F.kp D_law_same.b (zcons (zvar 5) (zcons (zop op_addZ g_add (zvar 4) (zvar 4)) znil))))) (zwor1 (ztcmp (op_neZ hr.units) g_ne (zvar 3) (zcall (g := m_law_lists 6) (ok_law_lists 6 D_law_lists T) (hr.mono (by omega)) (by rfl) D_law_lists.g D_law_lists.F.kp D_law_lists.b (zcons (zvar 2) znil)) (nomark _))))) (zsone (zsret zbl)) zsnil)
    (zscons (zsexpr (zbm PySem.F.plainAttrs_list PySem.F.slot_list_append PySem.F.type_list_append mt_append g_app (zix ix_seq g_ix (zvar 5) zint (fun _ _ => rfl)) (zcons zstr znil)))
    (zscons (zsexpr (zbm PySem.F.plainAttrs_list PySem.F.slot_list_append PySem.F.type_list_append mt_append g_app (zix ix_seq g_ix (zvar 5) zint (fun _ _ => rfl)) (zcons zstr znil)))
    (zsone (zsif (ztnot (zttr (zbor (g := m_law_same 6) (ok_law_same 6 D_law_same T) (hr.mono (by omega)) (by rfl) D_law_same.g D_law_same.F.kp D_law_same.b (zcons (zlstM (zcons (zcall (g := m_looks) (ok_looks D_looks D_events_called T) (hr.mono (by omega)) (by rfl) D_looks.g D_looks.F.kp D_looks.b (zcons (zvar 2) znil)) (zcons (zcall (g := m_adds) (ok_adds D_adds D_events_called T) (hr.mono (by omega)) (by rfl) D_adds.g D_adds.F.kp D_adds.b (zcons (zvar 3) znil)) znil))) (zcons (zvar 4) znil))))) (zsone (zsret zbl)) zsnil)))))))))
    (zsone (zsret zbl))
theorem ok_law (D_law : Df K mg "law" "law" s_law ["_law_script"]) (D_events_called : Df K mg "events_called" "events_called" s_events_called ["word", "timetable"]) (D_looks : Df K mg "looks" "looks" s_looks ["timetable"]) (D_adds : Df K mg "adds" "adds" s_adds ["timetable"]) (D_law_box : Df K mg "_law_box" "_law_box" s_law_box ["_law_script", "_law_k"]) (D_law_take : Df K mg "_law_take" "_law_take" s_law_take ["_law_box_here", "_law_below"]) (D_law_same : Df K mg "_law_same" "_law_same" s_law_same ["_law_found", "_law_due_here"]) (D_law_lists : Df K mg "_law_lists" "_law_lists" s_law_lists ["_law_part"]) (D_law_event : Df K mg "_law_event" "_law_event" s_law_event ["_law_box_here", "_law_folk", "_law_letters"]) (D_law_table : Df K mg "_law_table" "_law_table" s_law_table ["_law_box_here", "_law_folk", "_law_many", "_law_letters"]) (D_law_due : Df K mg "_law_due" "_law_due" s_law_due ["_law_table_here", "_law_word_so"]) (D_law_right : Df K mg "_law_right" "_law_right" s_law_right ["_law_box_here"]) (T : Txt mg) : FnOk P w K mg base CX0 9 D_law.a D_law.fd ["_law_script"] (spF K 1 m_law) := by
  refine fnd (k := 8) D_law.F sc_law rfl fun cdv A outer s H E hr => ?_
  have nd := sc_law.nd
  exact zscons (zsfor PassesOwn.never rfl (zirng1 rfl T.b_range (zcons (zop op_addZ g_add zint (zcb (call_min2 rfl) g_min2 (by rfl) T.b_min bb_min (zcons zint (zcons (zcb call_lenZ g_len (by rfl) T.b_len bb_len (zcons (zvar 0) znil)) znil)))) znil)) (zgname (i := 1) nd rfl (Or.inl rfl)) (zsone (zsif (ztnot (zttr (zcall (g := m_law_right) (ok_law_right D_law_right D_events_called D_looks D_adds D_law_take D_law_same D_law_lists D_law_event D_law_table D_law_due T) (hr.mono (by omega)) (by rfl) D_law_right.g D_law_right.F.kp D_law_right.b (zcons (zcall (g := m_law_box) (ok_law_box D_law_box T) (hr.mono (by omega)) (by rfl) D_law_box.g D_law_box.F.kp D_law_box.b (zcons (zvar 0) (zcons (zvar 1) znil))) znil)))) (zsone (zsret zbl)) zsnil)))
    (zsone (zsret zbl))
end
end P
namespace P
open PySem L2 Z
theorem take_eq : m_law_take = ZL.take := rfl
theorem box_eq : m_law_box = ZL.box := rfl
theorem same_eq : m_law_same = ZL.same := by
  funext n
  induction n with
  | zero => rfl
  | succ n ih =>
    unfold m_law_same ZL.same
    rw [ih]
theorem trunc_d (n : Nat) (x : PyData) (M : Mem) : ∃ M', trunc n (.d x) M = (.d x, M') ∧ (M' = M ∨ M' = M.take n) := by
  unfold trunc
  split
  · exact ⟨_, rfl, .inr rfl⟩
  · exact ⟨_, rfl, .inl rfl⟩
/-- the box at l went on, all other places of before stand -/
structure Go (M : Mem) (l : Nat) (n : Int) (M' : Mem) : Prop where
  lt : l < M.length
  len : M.length ≤ M'.length
  old : ∀ m, m < M.length → m ≠ l → M'[m]? = M[m]?
  box : ZL.BoxOk M' l n
theorem box_lt {M : Mem} {l : Nat} {n : Int} (h : ZL.BoxOk M l n) : l < M.length := by
  obtain ⟨a, b, c, w, _⟩ := h
  exact (List.getElem?_eq_some_iff.mp w).1
theorem Go.of {M M' : Mem} {l : Nat} {n : Int} (hl : l < M.length) (h : ZL.Drawn M l n M') : Go M l n M' := ⟨hl, by rw [h.len]; exact Nat.le_refl _, fun m _ k => h.other k, h.box⟩
theorem Go.refl {M : Mem} {l : Nat} {n : Int} (h : ZL.BoxOk M l n) : Go M l n M := ⟨box_lt h, Nat.le_refl _, fun _ _ _ => rfl, h⟩
theorem Go.trans {M M1 M2 : Mem} {l : Nat} {n k : Int} (h : Go M l n M1) (g : Go M1 l k M2) : Go M l k M2 := ⟨h.lt, Nat.le_trans h.len g.len, fun m hm k => by rw [g.old m (Nat.lt_of_lt_of_le hm h.len) k, h.old m hm k], g.box⟩
theorem Go.mono {M M' : Mem} {l : Nat} {n k : Int} (h : Go M l n M') (e : n ≤ k) : Go M l k M' := ⟨h.lt, h.len, h.old, h.box.mono e⟩
theorem box_of {M M' : Mem} {l : Nat} {n : Int} (h : ZL.BoxOk M l n) (e : M'[l]? = M[l]?) : ZL.BoxOk M' l n := by
  obtain ⟨a, b, c, w, k⟩ := h
  exact ⟨a, b, c, by rw [e]; exact w, k⟩
theorem Go.cut {M M' M2 : Mem} {l : Nat} {n : Int} (h : Go M l n M') (e : M2 = M' ∨ M2 = M'.take M.length) : Go M l n M2 := by
  rcases e with rfl | rfl
  · exact h
  · have q : ∀ m, m < M.length → (M'.take M.length)[m]? = M'[m]? := fun m hm => List.getElem?_take_of_lt hm
    exact ⟨h.lt, by rw [List.length_take]; exact Nat.le_min.mpr ⟨Nat.le_refl _, h.len⟩, fun m hm k => by rw [q m hm]; exact h.old m hm k, box_of h.box (q l h.lt)⟩
/-- new places -/
theorem Go.app {M : Mem} {l : Nat} {n : Int} (h : ZL.BoxOk M l n) (G : Mem) : Go M l n (M ++ G) := ⟨box_lt h, by rw [List.length_append]; omega, fun m hm _ => List.getElem?_append_left hm, box_of h (List.getElem?_append_left (box_lt h))⟩
theorem s1 : ¬ (("l" : Str) = "a") := by decide
theorem s2 : ¬ (("m" : Str) = "a") := by decide
theorem s3 : ¬ (("m" : Str) = "l") := by decide
/-! events -/
structure Ev where
  w : Str
  p : Int
  q : Option Int
def Ev.ps (e : Ev) : List PyData := .str e.w :: .int e.p :: (match e.q with | none => [] | some q => [.int q])
def evT (e : Ev) : PyData := .tuple e.ps
def evL (e : Ev) : PyData := .list e.ps
def EvOk (e : Ev) : Prop := (e.q = none ∧ (e.w = "look" ∨ e.w = "add")) ∨ ((∃ q, e.q = some q) ∧ (e.w = "meet" ∨ e.w = "tell"))
theorem event_ok {M : Mem} {l : Nat} {n folk : Int} (hB : ZL.BoxOk M l n) (hn : n < 2 ^ 30) (h1 : 1 ≤ folk) (h5 : folk ≤ 5) :
    ∃ e M', m_law_event [.loc l, .d (.int folk), .d (.str "llaammt")] M = some (.d (evT e), M') ∧ EvOk e ∧ ZL.Drawn M l (n + 3) M' := by
  obtain ⟨p, M1, p0, p1, e1, D1⟩ := ZL.take_ok (k := folk) hB (by omega) (by omega) (by omega)
  obtain ⟨i, M2, i0, i1, e2, D2⟩ := ZL.take_ok (k := 7) D1.box (by omega) (by omega) (by omega)
  rw [← take_eq] at e1 e2
  have D12 := D1.trans D2
  have h0 : 0 < folk := by omega
  have sl : ((("llaammt" : Str).length : Nat) : Int) = 7 := by rfl
  have sz : ("llaammt" : Str).length ≤ sizeLine := by
    show 7 ≤ sizeLine
    decide
  have sz2 : 2 ≤ sizeLine := by decide
  have sz3 : 3 ≤ sizeLine := by decide
  obtain ⟨c, hc⟩ : ∃ c, L2.atI ("llaammt" : Str).cps.toList i = some c := by
    obtain ⟨j, rfl⟩ : ∃ j : Nat, i = j := ⟨i.toNat, by omega⟩
    have hj : j < 7 := by omega
    match j, hj with
    | 0, _ => exact ⟨_, rfl⟩
    | 1, _ => exact ⟨_, rfl⟩
    | 2, _ => exact ⟨_, rfl⟩
    | 3, _ => exact ⟨_, rfl⟩
    | 4, _ => exact ⟨_, rfl⟩
    | 5, _ => exact ⟨_, rfl⟩
    | 6, _ => exact ⟨_, rfl⟩
  by_cases c1 : (⟨#[c]⟩ : Str) = "a"
  · refine ⟨⟨"add", p, none⟩, M2, ?_, .inl ⟨rfl, .inr rfl⟩, D12.mono (by omega)⟩
    unfold m_law_event runF
    simp only [fVar, fC, fOp, fUn, fTru, fBool, fNotT, fAndT, fOrT, fAndV, fOrV, fNotV, fIf, fNil, fCons, fTup, fLst, fLstM, mkT, mkL, fCB, fCall, fCallK, arity, fSl, fNoP, fPart, fIsi, fIsi2, fNext, fSeq, fBreak, fCont, fRet, fRetN, fExpr, fIfS, fAsg, fPar, tgName, tgNil, tgCons, tgTup, tgSeq, tgSub, fBM, fFor, fLc, fLcM, fRng1, fRng2, fItS, fZip, fYes, fChain, boolOf, truth, intOf, gI, gIC, gAdd, Z.gSub, gMul, gDiv, gMod, gLt, gLe, gGt, gGe, gNeg, gEq, gNe, gIsN, gNotN, isN, gIn, gIx, gSl, gLen, gAbs, gInt, gMin2, gMax2, gListOf, gListM, gTupOf, gAll, gAny, boolsOf, gApp, stL, tyOk, tyS, isTy, rdD, seqD, seqOf, lstOf, tupOf, allD, allD_map, eqD_ii, eqD_ss, eqD_bb, eqD_nn, eqD_in, eqD_ni, eqD_bn, eqD_nb, eqD_sn, eqD_ns, eqD_is, eqD_si, eqD_bs, eqD_sb, eqD_tt, eqD_ll, gpm, ↓to_bnd, ↓to_bmp, bnd_some, bnd_none, bmp_some, bmp_none, List.getElem?_cons_zero, List.getElem?_cons_succ, List.set_cons_zero, List.set_cons_succ, List.map_cons, List.map_nil, List.replicate, List.cons_append, List.nil_append, List.append_nil, List.length_cons, List.length_nil, atI_0, atI_1, atI_2, atI_3, atI_4, atI_5, ixN_30, ixN_31, ixN_32, decide_eq_true_eq, Bool.not_true, Bool.not_false, Bool.true_and, Bool.false_and, Bool.and_true, Bool.and_false, Bool.or_true, Bool.true_or, Bool.or_false, Bool.false_or, Bool.false_eq_true, ↓reduceIte, decide_true, decide_false, reduceCtorEq, Nat.reduceAdd, Nat.reduceSub, Nat.reduceEqDiff, e1, e2, sl, sz, sz2, hc, c1, evT, Ev.ps, trunc_id (Nat.le_of_eq D12.len)]
  · by_cases c2 : (⟨#[c]⟩ : Str) = "l"
    · refine ⟨⟨"look", p, none⟩, M2, ?_, .inl ⟨rfl, .inl rfl⟩, D12.mono (by omega)⟩
      unfold m_law_event runF
      simp only [fVar, fC, fOp, fUn, fTru, fBool, fNotT, fAndT, fOrT, fAndV, fOrV, fNotV, fIf, fNil, fCons, fTup, fLst, fLstM, mkT, mkL, fCB, fCall, fCallK, arity, fSl, fNoP, fPart, fIsi, fIsi2, fNext, fSeq, fBreak, fCont, fRet, fRetN, fExpr, fIfS, fAsg, fPar, tgName, tgNil, tgCons, tgTup, tgSeq, tgSub, fBM, fFor, fLc, fLcM, fRng1, fRng2, fItS, fZip, fYes, fChain, boolOf, truth, intOf, gI, gIC, gAdd, Z.gSub, gMul, gDiv, gMod, gLt, gLe, gGt, gGe, gNeg, gEq, gNe, gIsN, gNotN, isN, gIn, gIx, gSl, gLen, gAbs, gInt, gMin2, gMax2, gListOf, gListM, gTupOf, gAll, gAny, boolsOf, gApp, stL, tyOk, tyS, isTy, rdD, seqD, seqOf, lstOf, tupOf, allD, allD_map, eqD_ii, eqD_ss, eqD_bb, eqD_nn, eqD_in, eqD_ni, eqD_bn, eqD_nb, eqD_sn, eqD_ns, eqD_is, eqD_si, eqD_bs, eqD_sb, eqD_tt, eqD_ll, gpm, ↓to_bnd, ↓to_bmp, bnd_some, bnd_none, bmp_some, bmp_none, List.getElem?_cons_zero, List.getElem?_cons_succ, List.set_cons_zero, List.set_cons_succ, List.map_cons, List.map_nil, List.replicate, List.cons_append, List.nil_append, List.append_nil, List.length_cons, List.length_nil, atI_0, atI_1, atI_2, atI_3, atI_4, atI_5, ixN_30, ixN_31, ixN_32, decide_eq_true_eq, Bool.not_true, Bool.not_false, Bool.true_and, Bool.false_and, Bool.and_true, Bool.and_false, Bool.or_true, Bool.true_or, Bool.or_false, Bool.false_or, Bool.false_eq_true, ↓reduceIte, decide_true, decide_false, reduceCtorEq, Nat.reduceAdd, Nat.reduceSub, Nat.reduceEqDiff, e1, e2, sl, sz, sz2, hc, c1, c2, s1, evT, Ev.ps, trunc_id (Nat.le_of_eq D12.len)]
    · by_cases c3 : folk = 1
      · refine ⟨⟨"look", p, none⟩, M2, ?_, .inl ⟨rfl, .inl rfl⟩, D12.mono (by omega)⟩
        subst c3
        unfold m_law_event runF
        simp only [fVar, fC, fOp, fUn, fTru, fBool, fNotT, fAndT, fOrT, fAndV, fOrV, fNotV, fIf, fNil, fCons, fTup, fLst, fLstM, mkT, mkL, fCB, fCall, fCallK, arity, fSl, fNoP, fPart, fIsi, fIsi2, fNext, fSeq, fBreak, fCont, fRet, fRetN, fExpr, fIfS, fAsg, fPar, tgName, tgNil, tgCons, tgTup, tgSeq, tgSub, fBM, fFor, fLc, fLcM, fRng1, fRng2, fItS, fZip, fYes, fChain, boolOf, truth, intOf, gI, gIC, gAdd, Z.gSub, gMul, gDiv, gMod, gLt, gLe, gGt, gGe, gNeg, gEq, gNe, gIsN, gNotN, isN, gIn, gIx, gSl, gLen, gAbs, gInt, gMin2, gMax2, gListOf, gListM, gTupOf, gAll, gAny, boolsOf, gApp, stL, tyOk, tyS, isTy, rdD, seqD, seqOf, lstOf, tupOf, allD, allD_map, eqD_ii, eqD_ss, eqD_bb, eqD_nn, eqD_in, eqD_ni, eqD_bn, eqD_nb, eqD_sn, eqD_ns, eqD_is, eqD_si, eqD_bs, eqD_sb, eqD_tt, eqD_ll, gpm, ↓to_bnd, ↓to_bmp, bnd_some, bnd_none, bmp_some, bmp_none, List.getElem?_cons_zero, List.getElem?_cons_succ, List.set_cons_zero, List.set_cons_succ, List.map_cons, List.map_nil, List.replicate, List.cons_append, List.nil_append, List.append_nil, List.length_cons, List.length_nil, atI_0, atI_1, atI_2, atI_3, atI_4, atI_5, ixN_30, ixN_31, ixN_32, decide_eq_true_eq, Bool.not_true, Bool.not_false, Bool.true_and, Bool.false_and, Bool.and_true, Bool.and_false, Bool.or_true, Bool.true_or, Bool.or_false, Bool.false_or, Bool.false_eq_true, ↓reduceIte, decide_true, decide_false, reduceCtorEq, Nat.reduceAdd, Nat.reduceSub, Nat.reduceEqDiff, e1, e2, sl, sz, sz2, hc, c1, c2, s1, evT, Ev.ps, trunc_id (Nat.le_of_eq D12.len)]
      · obtain ⟨t, M3, t0, t1, e3, D3⟩ := ZL.take_ok (k := folk - 1) D2.box (by omega) (by omega) (by omega)
        rw [← take_eq] at e3
        have D := D12.trans D3
        by_cases c4 : (⟨#[c]⟩ : Str) = "m"
        · refine ⟨⟨"meet", p, some ((p + 1 + t) % folk)⟩, M3, ?_, .inr ⟨⟨_, rfl⟩, .inl rfl⟩, D.mono (by omega)⟩
          unfold m_law_event runF
          simp only [fVar, fC, fOp, fUn, fTru, fBool, fNotT, fAndT, fOrT, fAndV, fOrV, fNotV, fIf, fNil, fCons, fTup, fLst, fLstM, mkT, mkL, fCB, fCall, fCallK, arity, fSl, fNoP, fPart, fIsi, fIsi2, fNext, fSeq, fBreak, fCont, fRet, fRetN, fExpr, fIfS, fAsg, fPar, tgName, tgNil, tgCons, tgTup, tgSeq, tgSub, fBM, fFor, fLc, fLcM, fRng1, fRng2, fItS, fZip, fYes, fChain, boolOf, truth, intOf, gI, gIC, gAdd, Z.gSub, gMul, gDiv, gMod, gLt, gLe, gGt, gGe, gNeg, gEq, gNe, gIsN, gNotN, isN, gIn, gIx, gSl, gLen, gAbs, gInt, gMin2, gMax2, gListOf, gListM, gTupOf, gAll, gAny, boolsOf, gApp, stL, tyOk, tyS, isTy, rdD, seqD, seqOf, lstOf, tupOf, allD, allD_map, eqD_ii, eqD_ss, eqD_bb, eqD_nn, eqD_in, eqD_ni, eqD_bn, eqD_nb, eqD_sn, eqD_ns, eqD_is, eqD_si, eqD_bs, eqD_sb, eqD_tt, eqD_ll, gpm, ↓to_bnd, ↓to_bmp, bnd_some, bnd_none, bmp_some, bmp_none, List.getElem?_cons_zero, List.getElem?_cons_succ, List.set_cons_zero, List.set_cons_succ, List.map_cons, List.map_nil, List.replicate, List.cons_append, List.nil_append, List.append_nil, List.length_cons, List.length_nil, atI_0, atI_1, atI_2, atI_3, atI_4, atI_5, ixN_30, ixN_31, ixN_32, decide_eq_true_eq, Bool.not_true, Bool.not_false, Bool.true_and, Bool.false_and, Bool.and_true, Bool.and_false, Bool.or_true, Bool.true_or, Bool.or_false, Bool.false_or, Bool.false_eq_true, ↓reduceIte, decide_true, decide_false, reduceCtorEq, Nat.reduceAdd, Nat.reduceSub, Nat.reduceEqDiff, e1, e2, e3, sl, sz, sz2, sz3, hc, c1, c2, c3, c4, s2, s3, h0, evT, Ev.ps, trunc_id (Nat.le_of_eq D.len)]
        · refine ⟨⟨"tell", p, some ((p + 1 + t) % folk)⟩, M3, ?_, .inr ⟨⟨_, rfl⟩, .inr rfl⟩, D.mono (by omega)⟩
          unfold m_law_event runF
          simp only [fVar, fC, fOp, fUn, fTru, fBool, fNotT, fAndT, fOrT, fAndV, fOrV, fNotV, fIf, fNil, fCons, fTup, fLst, fLstM, mkT, mkL, fCB, fCall, fCallK, arity, fSl, fNoP, fPart, fIsi, fIsi2, fNext, fSeq, fBreak, fCont, fRet, fRetN, fExpr, fIfS, fAsg, fPar, tgName, tgNil, tgCons, tgTup, tgSeq, tgSub, fBM, fFor, fLc, fLcM, fRng1, fRng2, fItS, fZip, fYes, fChain, boolOf, truth, intOf, gI, gIC, gAdd, Z.gSub, gMul, gDiv, gMod, gLt, gLe, gGt, gGe, gNeg, gEq, gNe, gIsN, gNotN, isN, gIn, gIx, gSl, gLen, gAbs, gInt, gMin2, gMax2, gListOf, gListM, gTupOf, gAll, gAny, boolsOf, gApp, stL, tyOk, tyS, isTy, rdD, seqD, seqOf, lstOf, tupOf, allD, allD_map, eqD_ii, eqD_ss, eqD_bb, eqD_nn, eqD_in, eqD_ni, eqD_bn, eqD_nb, eqD_sn, eqD_ns, eqD_is, eqD_si, eqD_bs, eqD_sb, eqD_tt, eqD_ll, gpm, ↓to_bnd, ↓to_bmp, bnd_some, bnd_none, bmp_some, bmp_none, List.getElem?_cons_zero, List.getElem?_cons_succ, List.set_cons_zero, List.set_cons_succ, List.map_cons, List.map_nil, List.replicate, List.cons_append, List.nil_append, List.append_nil, List.length_cons, List.length_nil, atI_0, atI_1, atI_2, atI_3, atI_4, atI_5, ixN_30, ixN_31, ixN_32, decide_eq_true_eq, Bool.not_true, Bool.not_false, Bool.true_and, Bool.false_and, Bool.and_true, Bool.and_false, Bool.or_true, Bool.true_or, Bool.or_false, Bool.false_or, Bool.false_eq_true, ↓reduceIte, decide_true, decide_false, reduceCtorEq, Nat.reduceAdd, Nat.reduceSub, Nat.reduceEqDiff, e1, e2, e3, sl, sz, sz2, sz3, hc, c1, c2, c3, c4, s2, s3, h0, evT, Ev.ps, trunc_id (Nat.le_of_eq D.len)]
/-! the table -/
def dctO (a b c d : Int) : MO := .dct [(.inr "look", .d (.int a)), (.inr "add", .d (.int b)), (.inr "meet", .d (.int c)), (.inr "tell", .d (.int d))]
section
variable {N : Mem} {D : Nat} {a b c d v : Int}
theorem rd_look (h : N[D]? = some (dctO a b c d)) : gIxD (.loc D) (.d (.str "look")) N = some (.d (.int a), N) := by
  unfold dctO at h
  simp only [gIxD, h]
  rfl
theorem rd_add (h : N[D]? = some (dctO a b c d)) : gIxD (.loc D) (.d (.str "add")) N = some (.d (.int b), N) := by
  unfold dctO at h
  simp only [gIxD, h]
  rfl
theorem rd_meet (h : N[D]? = some (dctO a b c d)) : gIxD (.loc D) (.d (.str "meet")) N = some (.d (.int c), N) := by
  unfold dctO at h
  simp only [gIxD, h]
  rfl
theorem rd_tell (h : N[D]? = some (dctO a b c d)) : gIxD (.loc D) (.d (.str "tell")) N = some (.d (.int d), N) := by
  unfold dctO at h
  simp only [gIxD, h]
  rfl
theorem four : 4 < sizeLine := by decide
theorem st_look (h : N[D]? = some (dctO a b c d)) : stD (.loc D) (.d (.str "look")) (.d (.int v)) N = some (N.set D (dctO v b c d)) := by
  unfold dctO at *
  simp only [stD, h, keyS, Option.bind_some]
  exact (if_pos four).trans rfl
theorem st_add (h : N[D]? = some (dctO a b c d)) : stD (.loc D) (.d (.str "add")) (.d (.int v)) N = some (N.set D (dctO a v c d)) := by
  unfold dctO at *
  simp only [stD, h, keyS, Option.bind_some]
  exact (if_pos four).trans rfl
theorem st_meet (h : N[D]? = some (dctO a b c d)) : stD (.loc D) (.d (.str "meet")) (.d (.int v)) N = some (N.set D (dctO a b v d)) := by
  unfold dctO at *
  simp only [stD, h, keyS, Option.bind_some]
  exact (if_pos four).trans rfl
theorem st_tell (h : N[D]? = some (dctO a b c d)) : stD (.loc D) (.d (.str "tell")) (.d (.int v)) N = some (N.set D (dctO a b c v)) := by
  unfold dctO at *
  simp only [stD, h, keyS, Option.bind_some]
  exact (if_pos four).trans rfl
end
theorem t1 : ¬ (("look" : Str) = "add") := by decide
theorem t2 : ¬ (("meet" : Str) = "add") := by decide
theorem t3 : ¬ (("meet" : Str) = "look") := by decide
theorem t4 : ¬ (("tell" : Str) = "add") := by decide
theorem t5 : ¬ (("tell" : Str) = "look") := by decide
theorem t6 : ¬ (("add" : Str) = "look") := by decide
def evs_ (es : List Ev) : MO := .lst (es.map fun e => .d (evT e))
theorem v1 (p : Int) : evT ⟨"look", p, none⟩ = .tuple [.str "look", .int p] := rfl
theorem v2 (p : Int) : evT ⟨"add", p, none⟩ = .tuple [.str "add", .int p] := rfl
theorem v3 (p q : Int) : evT ⟨"meet", p, some q⟩ = .tuple [.str "meet", .int p, .int q] := rfl
theorem v4 (p q : Int) : evT ⟨"tell", p, some q⟩ = .tuple [.str "tell", .int p, .int q] := rfl
theorem tturn {N N1 : Mem} {l F D : Nat} {folk many : Int} {es : List Ev} {e : Ev} {a b c d : Int} {g6 g7 g8 : Option SV} (he : EvOk e)
    (h1 : m_law_event [.loc l, .d (.int folk), .d (.str "llaammt")] N = some (.d (evT e), N1)) (hF : N1[F]? = some (evs_ es)) (hD : N1[D]? = some (dctO a b c d)) (hFD : F ≠ D) (hz : es.length < sizeLine) :
    ∃ g7' g8' N2, b1_law_table [some (.loc l), some (.d (.int folk)), some (.d (.int many)), some (.d (.str "llaammt")), some (.loc F), some (.loc D), g6, g7, g8] N =
      some (.nx [some (.loc l), some (.d (.int folk)), some (.d (.int many)), some (.d (.str "llaammt")), some (.loc F), some (.loc D), g6, g7', g8'], N2) ∧
      (N2 = N1 ∨ ∃ a b c d, N2 = (N1.set D (dctO a b c d)).set F (evs_ (es ++ [e]))) := by
  have hF2 : ∀ o, (N1.set D o)[F]? = some (.lst (es.map fun e => .d (evT e))) := fun o => by
    rw [List.getElem?_set_ne (Ne.symm hFD)]
    exact hF
  have hz2 : (es.map fun e => SV.d (evT e)).length < sizeLine := by rw [List.length_map]; exact hz
  have hm := rd_meet hD
  have ht := rd_tell hD
  have hl := rd_look hD
  have ha := rd_add hD
  have im : (2 : Int) < ((3 : Nat) : Int) := by decide
  have im2 : ¬ (2 : Int) < ((2 : Nat) : Int) := by decide
  have ap : ∀ x, evs_ (es ++ [x]) = .lst ((es.map fun e => .d (evT e)) ++ [.d (evT x)]) := fun x => by
    unfold evs_
    rw [List.map_append]
    rfl
  obtain ⟨w, p, q⟩ := e
  rcases he with ⟨hq, hw⟩ | ⟨⟨q', hq⟩, hw⟩
  · obtain rfl : q = _ := hq
    rcases hw with hw | hw
    · obtain rfl : w = _ := hw
      by_cases c1 : a < 8
      · refine ⟨some (.d (evT ⟨"look", p, none⟩)), some (.d (.int (c + d))), (N1.set D (dctO (a + 1) b c d)).set F (evs_ (es ++ [⟨"look", p, none⟩])), ?_, .inr ⟨a + 1, b, c, d, rfl⟩⟩
        unfold b1_law_table
        simp only [fVar, fC, fOp, fUn, fTru, fBool, fNotT, fAndT, fOrT, fAndV, fOrV, fNotV, fIf, fNil, fCons, fTup, fLst, fLstM, mkT, mkL, fCB, fCall, fCallK, arity, fSl, fNoP, fPart, fIsi, fIsi2, fNext, fSeq, fBreak, fCont, fRet, fRetN, fExpr, fIfS, fAsg, fPar, tgName, tgNil, tgCons, tgTup, tgSeq, tgSub, fBM, fFor, fLc, fLcM, fRng1, fRng2, fItS, fZip, fYes, fChain, boolOf, truth, intOf, gI, gIC, gAdd, Z.gSub, gMul, gDiv, gMod, gLt, gLe, gGt, gGe, gNeg, gEq, gNe, gIsN, gNotN, isN, gIn, gIx, gSl, gLen, gAbs, gInt, gMin2, gMax2, gListOf, gListM, gTupOf, gAll, gAny, boolsOf, gApp, stL, tyOk, tyS, isTy, rdD, seqD, seqOf, lstOf, tupOf, allD, allD_map, eqD_ii, eqD_ss, eqD_bb, eqD_nn, eqD_in, eqD_ni, eqD_bn, eqD_nb, eqD_sn, eqD_ns, eqD_is, eqD_si, eqD_bs, eqD_sb, eqD_tt, eqD_ll, gpm, ↓to_bnd, ↓to_bmp, bnd_some, bnd_none, bmp_some, bmp_none, List.getElem?_cons_zero, List.getElem?_cons_succ, List.set_cons_zero, List.set_cons_succ, List.map_cons, List.map_nil, List.replicate, List.cons_append, List.nil_append, List.append_nil, List.length_cons, List.length_nil, atI_0, atI_1, atI_2, atI_3, atI_4, atI_5, ixN_30, ixN_31, ixN_32, decide_eq_true_eq, Bool.not_true, Bool.not_false, Bool.true_and, Bool.false_and, Bool.and_true, Bool.and_false, Bool.or_true, Bool.true_or, Bool.or_false, Bool.false_or, Bool.false_eq_true, ↓reduceIte, decide_true, decide_false, reduceCtorEq, Nat.reduceAdd, Nat.reduceSub, Nat.reduceEqDiff, h1, v1, v2, v3, v4, im, im2, hm, ht, hl, t1, c1, st_look hD, hF2, hz2, ap]
      · refine ⟨some (.d (evT ⟨"look", p, none⟩)), some (.d (.int (c + d))), N1, ?_, .inl rfl⟩
        unfold b1_law_table
        simp only [fVar, fC, fOp, fUn, fTru, fBool, fNotT, fAndT, fOrT, fAndV, fOrV, fNotV, fIf, fNil, fCons, fTup, fLst, fLstM, mkT, mkL, fCB, fCall, fCallK, arity, fSl, fNoP, fPart, fIsi, fIsi2, fNext, fSeq, fBreak, fCont, fRet, fRetN, fExpr, fIfS, fAsg, fPar, tgName, tgNil, tgCons, tgTup, tgSeq, tgSub, fBM, fFor, fLc, fLcM, fRng1, fRng2, fItS, fZip, fYes, fChain, boolOf, truth, intOf, gI, gIC, gAdd, Z.gSub, gMul, gDiv, gMod, gLt, gLe, gGt, gGe, gNeg, gEq, gNe, gIsN, gNotN, isN, gIn, gIx, gSl, gLen, gAbs, gInt, gMin2, gMax2, gListOf, gListM, gTupOf, gAll, gAny, boolsOf, gApp, stL, tyOk, tyS, isTy, rdD, seqD, seqOf, lstOf, tupOf, allD, allD_map, eqD_ii, eqD_ss, eqD_bb, eqD_nn, eqD_in, eqD_ni, eqD_bn, eqD_nb, eqD_sn, eqD_ns, eqD_is, eqD_si, eqD_bs, eqD_sb, eqD_tt, eqD_ll, gpm, ↓to_bnd, ↓to_bmp, bnd_some, bnd_none, bmp_some, bmp_none, List.getElem?_cons_zero, List.getElem?_cons_succ, List.set_cons_zero, List.set_cons_succ, List.map_cons, List.map_nil, List.replicate, List.cons_append, List.nil_append, List.append_nil, List.length_cons, List.length_nil, atI_0, atI_1, atI_2, atI_3, atI_4, atI_5, ixN_30, ixN_31, ixN_32, decide_eq_true_eq, Bool.not_true, Bool.not_false, Bool.true_and, Bool.false_and, Bool.and_true, Bool.and_false, Bool.or_true, Bool.true_or, Bool.or_false, Bool.false_or, Bool.false_eq_true, ↓reduceIte, decide_true, decide_false, reduceCtorEq, Nat.reduceAdd, Nat.reduceSub, Nat.reduceEqDiff, h1, v1, v2, v3, v4, im, im2, hm, ht, hl, t1, c1]
    · obtain rfl : w = _ := hw
      refine ⟨some (.d (evT ⟨"add", p, none⟩)), some (.d (.int (c + d))), (N1.set D (dctO a (b + 1) c d)).set F (evs_ (es ++ [⟨"add", p, none⟩])), ?_, .inr ⟨a, b + 1, c, d, rfl⟩⟩
      unfold b1_law_table
      simp only [fVar, fC, fOp, fUn, fTru, fBool, fNotT, fAndT, fOrT, fAndV, fOrV, fNotV, fIf, fNil, fCons, fTup, fLst, fLstM, mkT, mkL, fCB, fCall, fCallK, arity, fSl, fNoP, fPart, fIsi, fIsi2, fNext, fSeq, fBreak, fCont, fRet, fRetN, fExpr, fIfS, fAsg, fPar, tgName, tgNil, tgCons, tgTup, tgSeq, tgSub, fBM, fFor, fLc, fLcM, fRng1, fRng2, fItS, fZip, fYes, fChain, boolOf, truth, intOf, gI, gIC, gAdd, Z.gSub, gMul, gDiv, gMod, gLt, gLe, gGt, gGe, gNeg, gEq, gNe, gIsN, gNotN, isN, gIn, gIx, gSl, gLen, gAbs, gInt, gMin2, gMax2, gListOf, gListM, gTupOf, gAll, gAny, boolsOf, gApp, stL, tyOk, tyS, isTy, rdD, seqD, seqOf, lstOf, tupOf, allD, allD_map, eqD_ii, eqD_ss, eqD_bb, eqD_nn, eqD_in, eqD_ni, eqD_bn, eqD_nb, eqD_sn, eqD_ns, eqD_is, eqD_si, eqD_bs, eqD_sb, eqD_tt, eqD_ll, gpm, ↓to_bnd, ↓to_bmp, bnd_some, bnd_none, bmp_some, bmp_none, List.getElem?_cons_zero, List.getElem?_cons_succ, List.set_cons_zero, List.set_cons_succ, List.map_cons, List.map_nil, List.replicate, List.cons_append, List.nil_append, List.append_nil, List.length_cons, List.length_nil, atI_0, atI_1, atI_2, atI_3, atI_4, atI_5, ixN_30, ixN_31, ixN_32, decide_eq_true_eq, Bool.not_true, Bool.not_false, Bool.true_and, Bool.false_and, Bool.and_true, Bool.and_false, Bool.or_true, Bool.true_or, Bool.or_false, Bool.false_or, Bool.false_eq_true, ↓reduceIte, decide_true, decide_false, reduceCtorEq, Nat.reduceAdd, Nat.reduceSub, Nat.reduceEqDiff, h1, v1, v2, v3, v4, im, im2, hm, ht, ha, st_add hD, hF2, hz2, ap]
  · obtain rfl : q = _ := hq
    rcases hw with hw | hw
    · obtain rfl : w = _ := hw
      by_cases c1 : c + d < 8
      · refine ⟨some (.d (evT ⟨"meet", p, some q'⟩)), some (.d (.int (c + d))), (N1.set D (dctO a b (c + 1) d)).set F (evs_ (es ++ [⟨"meet", p, some q'⟩])), ?_, .inr ⟨a, b, c + 1, d, rfl⟩⟩
        unfold b1_law_table
        simp only [fVar, fC, fOp, fUn, fTru, fBool, fNotT, fAndT, fOrT, fAndV, fOrV, fNotV, fIf, fNil, fCons, fTup, fLst, fLstM, mkT, mkL, fCB, fCall, fCallK, arity, fSl, fNoP, fPart, fIsi, fIsi2, fNext, fSeq, fBreak, fCont, fRet, fRetN, fExpr, fIfS, fAsg, fPar, tgName, tgNil, tgCons, tgTup, tgSeq, tgSub, fBM, fFor, fLc, fLcM, fRng1, fRng2, fItS, fZip, fYes, fChain, boolOf, truth, intOf, gI, gIC, gAdd, Z.gSub, gMul, gDiv, gMod, gLt, gLe, gGt, gGe, gNeg, gEq, gNe, gIsN, gNotN, isN, gIn, gIx, gSl, gLen, gAbs, gInt, gMin2, gMax2, gListOf, gListM, gTupOf, gAll, gAny, boolsOf, gApp, stL, tyOk, tyS, isTy, rdD, seqD, seqOf, lstOf, tupOf, allD, allD_map, eqD_ii, eqD_ss, eqD_bb, eqD_nn, eqD_in, eqD_ni, eqD_bn, eqD_nb, eqD_sn, eqD_ns, eqD_is, eqD_si, eqD_bs, eqD_sb, eqD_tt, eqD_ll, gpm, ↓to_bnd, ↓to_bmp, bnd_some, bnd_none, bmp_some, bmp_none, List.getElem?_cons_zero, List.getElem?_cons_succ, List.set_cons_zero, List.set_cons_succ, List.map_cons, List.map_nil, List.replicate, List.cons_append, List.nil_append, List.append_nil, List.length_cons, List.length_nil, atI_0, atI_1, atI_2, atI_3, atI_4, atI_5, ixN_30, ixN_31, ixN_32, decide_eq_true_eq, Bool.not_true, Bool.not_false, Bool.true_and, Bool.false_and, Bool.and_true, Bool.and_false, Bool.or_true, Bool.true_or, Bool.or_false, Bool.false_or, Bool.false_eq_true, ↓reduceIte, decide_true, decide_false, reduceCtorEq, Nat.reduceAdd, Nat.reduceSub, Nat.reduceEqDiff, h1, v1, v2, v3, v4, im, im2, hm, ht, t2, t3, c1, st_meet hD, hF2, hz2, ap]
      · refine ⟨some (.d (evT ⟨"meet", p, some q'⟩)), some (.d (.int (c + d))), N1, ?_, .inl rfl⟩
        unfold b1_law_table
        simp only [fVar, fC, fOp, fUn, fTru, fBool, fNotT, fAndT, fOrT, fAndV, fOrV, fNotV, fIf, fNil, fCons, fTup, fLst, fLstM, mkT, mkL, fCB, fCall, fCallK, arity, fSl, fNoP, fPart, fIsi, fIsi2, fNext, fSeq, fBreak, fCont, fRet, fRetN, fExpr, fIfS, fAsg, fPar, tgName, tgNil, tgCons, tgTup, tgSeq, tgSub, fBM, fFor, fLc, fLcM, fRng1, fRng2, fItS, fZip, fYes, fChain, boolOf, truth, intOf, gI, gIC, gAdd, Z.gSub, gMul, gDiv, gMod, gLt, gLe, gGt, gGe, gNeg, gEq, gNe, gIsN, gNotN, isN, gIn, gIx, gSl, gLen, gAbs, gInt, gMin2, gMax2, gListOf, gListM, gTupOf, gAll, gAny, boolsOf, gApp, stL, tyOk, tyS, isTy, rdD, seqD, seqOf, lstOf, tupOf, allD, allD_map, eqD_ii, eqD_ss, eqD_bb, eqD_nn, eqD_in, eqD_ni, eqD_bn, eqD_nb, eqD_sn, eqD_ns, eqD_is, eqD_si, eqD_bs, eqD_sb, eqD_tt, eqD_ll, gpm, ↓to_bnd, ↓to_bmp, bnd_some, bnd_none, bmp_some, bmp_none, List.getElem?_cons_zero, List.getElem?_cons_succ, List.set_cons_zero, List.set_cons_succ, List.map_cons, List.map_nil, List.replicate, List.cons_append, List.nil_append, List.append_nil, List.length_cons, List.length_nil, atI_0, atI_1, atI_2, atI_3, atI_4, atI_5, ixN_30, ixN_31, ixN_32, decide_eq_true_eq, Bool.not_true, Bool.not_false, Bool.true_and, Bool.false_and, Bool.and_true, Bool.and_false, Bool.or_true, Bool.true_or, Bool.or_false, Bool.false_or, Bool.false_eq_true, ↓reduceIte, decide_true, decide_false, reduceCtorEq, Nat.reduceAdd, Nat.reduceSub, Nat.reduceEqDiff, h1, v1, v2, v3, v4, im, im2, hm, ht, t2, t3, c1]
    · obtain rfl : w = _ := hw
      by_cases c1 : c + d < 8
      · refine ⟨some (.d (evT ⟨"tell", p, some q'⟩)), some (.d (.int (c + d))), (N1.set D (dctO a b c (d + 1))).set F (evs_ (es ++ [⟨"tell", p, some q'⟩])), ?_, .inr ⟨a, b, c, d + 1, rfl⟩⟩
        unfold b1_law_table
        simp only [fVar, fC, fOp, fUn, fTru, fBool, fNotT, fAndT, fOrT, fAndV, fOrV, fNotV, fIf, fNil, fCons, fTup, fLst, fLstM, mkT, mkL, fCB, fCall, fCallK, arity, fSl, fNoP, fPart, fIsi, fIsi2, fNext, fSeq, fBreak, fCont, fRet, fRetN, fExpr, fIfS, fAsg, fPar, tgName, tgNil, tgCons, tgTup, tgSeq, tgSub, fBM, fFor, fLc, fLcM, fRng1, fRng2, fItS, fZip, fYes, fChain, boolOf, truth, intOf, gI, gIC, gAdd, Z.gSub, gMul, gDiv, gMod, gLt, gLe, gGt, gGe, gNeg, gEq, gNe, gIsN, gNotN, isN, gIn, gIx, gSl, gLen, gAbs, gInt, gMin2, gMax2, gListOf, gListM, gTupOf, gAll, gAny, boolsOf, gApp, stL, tyOk, tyS, isTy, rdD, seqD, seqOf, lstOf, tupOf, allD, allD_map, eqD_ii, eqD_ss, eqD_bb, eqD_nn, eqD_in, eqD_ni, eqD_bn, eqD_nb, eqD_sn, eqD_ns, eqD_is, eqD_si, eqD_bs, eqD_sb, eqD_tt, eqD_ll, gpm, ↓to_bnd, ↓to_bmp, bnd_some, bnd_none, bmp_some, bmp_none, List.getElem?_cons_zero, List.getElem?_cons_succ, List.set_cons_zero, List.set_cons_succ, List.map_cons, List.map_nil, List.replicate, List.cons_append, List.nil_append, List.append_nil, List.length_cons, List.length_nil, atI_0, atI_1, atI_2, atI_3, atI_4, atI_5, ixN_30, ixN_31, ixN_32, decide_eq_true_eq, Bool.not_true, Bool.not_false, Bool.true_and, Bool.false_and, Bool.and_true, Bool.and_false, Bool.or_true, Bool.true_or, Bool.or_false, Bool.false_or, Bool.false_eq_true, ↓reduceIte, decide_true, decide_false, reduceCtorEq, Nat.reduceAdd, Nat.reduceSub, Nat.reduceEqDiff, h1, v1, v2, v3, v4, im, im2, hm, ht, t4, t5, c1, st_tell hD, hF2, hz2, ap]
      · refine ⟨some (.d (evT ⟨"tell", p, some q'⟩)), some (.d (.int (c + d))), N1, ?_, .inl rfl⟩
        unfold b1_law_table
        simp only [fVar, fC, fOp, fUn, fTru, fBool, fNotT, fAndT, fOrT, fAndV, fOrV, fNotV, fIf, fNil, fCons, fTup, fLst, fLstM, mkT, mkL, fCB, fCall, fCallK, arity, fSl, fNoP, fPart, fIsi, fIsi2, fNext, fSeq, fBreak, fCont, fRet, fRetN, fExpr, fIfS, fAsg, fPar, tgName, tgNil, tgCons, tgTup, tgSeq, tgSub, fBM, fFor, fLc, fLcM, fRng1, fRng2, fItS, fZip, fYes, fChain, boolOf, truth, intOf, gI, gIC, gAdd, Z.gSub, gMul, gDiv, gMod, gLt, gLe, gGt, gGe, gNeg, gEq, gNe, gIsN, gNotN, isN, gIn, gIx, gSl, gLen, gAbs, gInt, gMin2, gMax2, gListOf, gListM, gTupOf, gAll, gAny, boolsOf, gApp, stL, tyOk, tyS, isTy, rdD, seqD, seqOf, lstOf, tupOf, allD, allD_map, eqD_ii, eqD_ss, eqD_bb, eqD_nn, eqD_in, eqD_ni, eqD_bn, eqD_nb, eqD_sn, eqD_ns, eqD_is, eqD_si, eqD_bs, eqD_sb, eqD_tt, eqD_ll, gpm, ↓to_bnd, ↓to_bmp, bnd_some, bnd_none, bmp_some, bmp_none, List.getElem?_cons_zero, List.getElem?_cons_succ, List.set_cons_zero, List.set_cons_succ, List.map_cons, List.map_nil, List.replicate, List.cons_append, List.nil_append, List.append_nil, List.length_cons, List.length_nil, atI_0, atI_1, atI_2, atI_3, atI_4, atI_5, ixN_30, ixN_31, ixN_32, decide_eq_true_eq, Bool.not_true, Bool.not_false, Bool.true_and, Bool.false_and, Bool.and_true, Bool.and_false, Bool.or_true, Bool.true_or, Bool.or_false, Bool.false_or, Bool.false_eq_true, ↓reduceIte, decide_true, decide_false, reduceCtorEq, Nat.reduceAdd, Nat.reduceSub, Nat.reduceEqDiff, h1, v1, v2, v3, v4, im, im2, hm, ht, t4, t5, c1]
theorem rng1_ok {fa : Fa} {Γ : Gm} {M M' : Mem} {i : Int} {k : Nat} (e : fa Γ M = some ([.d (.int i)], M')) (h1 : -(2 ^ 62) ≤ i) (h2 : i < 2 ^ 62) (h3 : i.toNat = k) : fRng1 fa Γ M = some ((rng 0 k, none), M') := by
  unfold fRng1
  rw [e, Option.bind_some]
  show (if -(2 ^ 62) ≤ i ∧ i < 2 ^ 62 then some ((rng 0 i.toNat, none), M') else none) = _
  rw [if_pos ⟨h1, h2⟩, h3]
theorem rng_len {n : Nat} : (rng 0 n).length = n := by
  unfold rng
  rw [List.length_map, List.length_range]
def tabT (folk : Int) (es : List Ev) : PyData := .tuple [.int folk, .tuple (es.map evT)]
theorem allD_evs (es : List Ev) : allD (es.map fun e => .d (evT e)) = some (es.map evT) := by
  have := allD_mapf evT es
  exact this
theorem seq_nx {a b : Fs} {Γ Γ' : Gm} {M M' : Mem} (h : a Γ M = some (.nx Γ', M')) : fSeq a b Γ M = b Γ' M' := by
  unfold fSeq
  rw [h]
  rfl
theorem for_src {src : Fi} {g : Fg} {body : Fs} {Γ : Gm} {M M' : Mem} {xs : List SV} {kp : Option Nat} (h : src Γ M = some ((xs, kp), M')) : fFor src g body Γ M = forF kp xs g body xs Γ M' := by
  unfold fFor
  rw [h]
  rfl
theorem run_rt {N : Nat} {fb : Fs} {xs : List SV} {M M' : Mem} {s : SV} (h : fb (xs.map some ++ List.replicate (N - xs.length) none) M = some (.rt s, M')) : runF N fb xs M = some (trunc M.length s M') := by
  unfold runF
  rw [h]
  rfl
theorem tab_init {M : Mem} {l : Nat} {folk : Int} {many : Nat} : fPar 4 5 (fCons (fLstM fNil) (fCons (fDisp [.inr "look", .inr "add", .inr "meet", .inr "tell"] (fCons (fC (.int 0)) (fCons (fC (.int 0)) (fCons (fC (.int 0)) (fCons (fC (.int 0)) fNil))))) fNil)) [some (.loc l), some (.d (.int folk)), some (.d (.int many)), some (.d (.str "llaammt")), none, none, none, none, none] M =
    some (.nx [some (.loc l), some (.d (.int folk)), some (.d (.int many)), some (.d (.str "llaammt")), some (.loc M.length), some (.loc (M.length + 1)), none, none, none], M ++ [evs_ []] ++ [dctO 0 0 0 0]) := by
  have z0 : 0 ≤ sizeLine := by decide
  have w1 : (M ++ [MO.lst []] ++ [MO.dct []])[M.length + 1]? = some (.dct []) := by rw [List.getElem?_append_right (by simp)]; simp
  have w2 : ∀ o, (M ++ [MO.lst []] ++ [MO.dct []]).set (M.length + 1) o = M ++ [MO.lst []] ++ [o] := fun o => by
    rw [List.set_append_right _ _ (by simp)]
    simp
  have w3 : (M ++ [MO.lst []]).length = M.length + 1 := by simp
  simp only [fVar, fC, fOp, fUn, fTru, fBool, fNotT, fAndT, fOrT, fAndV, fOrV, fNotV, fIf, fNil, fCons, fTup, fLst, fLstM, mkT, mkL, fCB, fCall, fCallK, arity, fSl, fNoP, fPart, fIsi, fIsi2, fNext, fSeq, fBreak, fCont, fRet, fRetN, fExpr, fIfS, fAsg, fPar, tgName, tgNil, tgCons, tgTup, tgSeq, tgSub, fBM, fFor, fLc, fLcM, fRng1, fRng2, fItS, fZip, fYes, fChain, boolOf, truth, intOf, gI, gIC, gAdd, Z.gSub, gMul, gDiv, gMod, gLt, gLe, gGt, gGe, gNeg, gEq, gNe, gIsN, gNotN, isN, gIn, gIx, gSl, gLen, gAbs, gInt, gMin2, gMax2, gListOf, gListM, gTupOf, gAll, gAny, boolsOf, gApp, stL, tyOk, tyS, isTy, rdD, seqD, seqOf, lstOf, tupOf, allD, allD_map, eqD_ii, eqD_ss, eqD_bb, eqD_nn, eqD_in, eqD_ni, eqD_bn, eqD_nb, eqD_sn, eqD_ns, eqD_is, eqD_si, eqD_bs, eqD_sb, eqD_tt, eqD_ll, gpm, ↓to_bnd, ↓to_bmp, bnd_some, bnd_none, bmp_some, bmp_none, List.getElem?_cons_zero, List.getElem?_cons_succ, List.set_cons_zero, List.set_cons_succ, List.map_cons, List.map_nil, List.replicate, List.cons_append, List.nil_append, List.append_nil, List.length_cons, List.length_nil, atI_0, atI_1, atI_2, atI_3, atI_4, atI_5, ixN_30, ixN_31, ixN_32, decide_eq_true_eq, Bool.not_true, Bool.not_false, Bool.true_and, Bool.false_and, Bool.and_true, Bool.and_false, Bool.or_true, Bool.true_or, Bool.or_false, Bool.false_or, Bool.false_eq_true, ↓reduceIte, decide_true, decide_false, reduceCtorEq, Nat.reduceAdd, Nat.reduceSub, Nat.reduceEqDiff, fDisp, z0, w3, w1, w2]
  rfl
theorem tab_rng {l F D : Nat} {folk : Int} {many : Nat} {N : Mem} (hm : many ≤ 16) : fRng1 (fCons (fVar 2) fNil) [some (.loc l), some (.d (.int folk)), some (.d (.int many)), some (.d (.str "llaammt")), some (.loc F), some (.loc D), none, none, none] N = some ((rng 0 many, none), N) := by
  refine rng1_ok (i := many) (k := many) ?_ (by omega) (by omega) (by omega)
  simp only [fCons, fVar, fNil, List.getElem?_cons_zero, List.getElem?_cons_succ, Option.bind_some, Option.map_some]
theorem tab_end {l F D : Nat} {folk : Int} {many : Nat} {N : Mem} {es : List Ev} {g6 g7 g8 : Option SV} (hF : N[F]? = some (evs_ es)) : fRet (fTup (fCons (fVar 1) (fCons (fCB gTupOf (fCons (fVar 4) fNil)) fNil))) [some (.loc l), some (.d (.int folk)), some (.d (.int many)), some (.d (.str "llaammt")), some (.loc F), some (.loc D), g6, g7, g8] N = some (.rt (.d (tabT folk es)), N) := by
  have z2 : 2 ≤ sizeLine := by decide
  unfold evs_ at hF
  simp only [fVar, fC, fOp, fUn, fTru, fBool, fNotT, fAndT, fOrT, fAndV, fOrV, fNotV, fIf, fNil, fCons, fTup, fLst, fLstM, mkT, mkL, fCB, fCall, fCallK, arity, fSl, fNoP, fPart, fIsi, fIsi2, fNext, fSeq, fBreak, fCont, fRet, fRetN, fExpr, fIfS, fAsg, fPar, tgName, tgNil, tgCons, tgTup, tgSeq, tgSub, fBM, fFor, fLc, fLcM, fRng1, fRng2, fItS, fZip, fYes, fChain, boolOf, truth, intOf, gI, gIC, gAdd, Z.gSub, gMul, gDiv, gMod, gLt, gLe, gGt, gGe, gNeg, gEq, gNe, gIsN, gNotN, isN, gIn, gIx, gSl, gLen, gAbs, gInt, gMin2, gMax2, gListOf, gListM, gTupOf, gAll, gAny, boolsOf, gApp, stL, tyOk, tyS, isTy, rdD, seqD, seqOf, lstOf, tupOf, allD, allD_map, eqD_ii, eqD_ss, eqD_bb, eqD_nn, eqD_in, eqD_ni, eqD_bn, eqD_nb, eqD_sn, eqD_ns, eqD_is, eqD_si, eqD_bs, eqD_sb, eqD_tt, eqD_ll, gpm, ↓to_bnd, ↓to_bmp, bnd_some, bnd_none, bmp_some, bmp_none, List.getElem?_cons_zero, List.getElem?_cons_succ, List.set_cons_zero, List.set_cons_succ, List.map_cons, List.map_nil, List.replicate, List.cons_append, List.nil_append, List.append_nil, List.length_cons, List.length_nil, atI_0, atI_1, atI_2, atI_3, atI_4, atI_5, ixN_30, ixN_31, ixN_32, decide_eq_true_eq, Bool.not_true, Bool.not_false, Bool.true_and, Bool.false_and, Bool.and_true, Bool.and_false, Bool.or_true, Bool.true_or, Bool.or_false, Bool.false_or, Bool.false_eq_true, ↓reduceIte, decide_true, decide_false, reduceCtorEq, Nat.reduceAdd, Nat.reduceSub, Nat.reduceEqDiff, hF, allD_evs, z2, tabT]
theorem table_ok {M : Mem} {l : Nat} {n folk : Int} {many : Nat} (hB : ZL.BoxOk M l n) (hn : n < 2 ^ 20) (h1 : 1 ≤ folk) (h5 : folk ≤ 5) (hm : many ≤ 16) :
    ∃ es M', m_law_table [.loc l, .d (.int folk), .d (.int many), .d (.str "llaammt")] M = some (.d (tabT folk es), M') ∧ (∀ e ∈ es, EvOk e) ∧ es.length ≤ 16 ∧ Go M l (n + 48) M' := by
  have hl := box_lt hB
  have key := forF_inv (kp := none) (all := rng 0 many) (g := tgName 6) (body := b1_law_table) (fun r Γ N => ∃ es a b c d g6 g7 g8, Γ = [some (.loc l), some (.d (.int folk)), some (.d (.int many)), some (.d (.str "llaammt")), some (.loc M.length), some (.loc (M.length + 1)), g6, g7, g8] ∧
      N[M.length]? = some (evs_ es) ∧ N[M.length + 1]? = some (dctO a b c d) ∧ (∀ e ∈ es, EvOk e) ∧ es.length + r.length ≤ 16 ∧ Go M l (n + 3 * (16 - (r.length : Int))) N)
    (fun _ _ _ _ => kept_none) (fun x r Γ N ⟨es, a, b, c, d, g6, g7, g8, e, hF, hD, ho, hr, hG⟩ => by
      subst e
      rw [List.length_cons] at hr hG
      obtain ⟨e, N1, e1, he, D1⟩ := event_ok (folk := folk) hG.box (by omega) h1 h5
      have nF : M.length ≠ l := Nat.ne_of_gt hl
      have nD : M.length + 1 ≠ l := Nat.ne_of_gt (Nat.lt_succ_of_lt hl)
      have lN : l < N.length := box_lt hG.box
      obtain ⟨g7', g8', N2, e2, hN⟩ := tturn (many := many) (g6 := some x) (g7 := g7) (g8 := g8) he e1 (by rw [D1.other nF]; exact hF) (by rw [D1.other nD]; exact hD) (Nat.ne_of_lt (Nat.lt_succ_self _)) (Nat.lt_of_le_of_lt (show es.length ≤ 16 by omega) (by decide))
      have G1 := hG.trans (Go.of lN D1)
      have lF : M.length < N1.length := by
        rw [D1.len]
        exact (List.getElem?_eq_some_iff.mp hF).1
      have lD : M.length + 1 < N1.length := by
        rw [D1.len]
        exact (List.getElem?_eq_some_iff.mp hD).1
      rcases hN with rfl | ⟨a', b', c', d', rfl⟩
      · exact ⟨_, _, _, N2, rfl, e2, es, a, b, c, d, some x, g7', g8', rfl, by rw [D1.other nF]; exact hF, by rw [D1.other nD]; exact hD, ho, by omega, G1.mono (by omega)⟩
      · refine ⟨_, _, _, _, rfl, e2, es ++ [e], a', b', c', d', some x, g7', g8', rfl, ?_, ?_, fun y hy => ?_, ?_, ?_⟩
        · exact List.getElem?_set_self (by rw [List.length_set]; exact lF)
        · rw [List.getElem?_set_ne (Nat.ne_of_lt (Nat.lt_succ_self _))]
          exact List.getElem?_set_self lD
        · rcases List.mem_append.mp hy with k | k
          · exact ho y k
          · rw [List.mem_singleton.mp k]
            exact he
        · rw [List.length_append, List.length_singleton]
          omega
        · have q : ∀ m, m < M.length → ((N1.set (M.length + 1) (dctO a' b' c' d')).set M.length (evs_ (es ++ [e])))[m]? = N1[m]? := fun m hm => by
            rw [List.getElem?_set_ne (Nat.ne_of_gt hm), List.getElem?_set_ne (Nat.ne_of_gt (Nat.lt_succ_of_lt hm))]
          exact ⟨hl, by rw [List.length_set, List.length_set]; exact G1.len, fun m hm k => by rw [q m hm]; exact G1.old m hm k, (box_of G1.box (q l hl)).mono (by omega)⟩)
    (rng 0 many) [some (.loc l), some (.d (.int folk)), some (.d (.int many)), some (.d (.str "llaammt")), some (.loc M.length), some (.loc (M.length + 1)), none, none, none] (M ++ [evs_ []] ++ [dctO 0 0 0 0])
    ⟨[], 0, 0, 0, 0, none, none, none, rfl, by simp, by rw [List.getElem?_append_right (by simp)]; simp, (fun _ h => nomatch h), by rw [rng_len]; simp; omega, by
      rw [List.append_assoc]
      exact (Go.app hB _).mono (by rw [rng_len]; omega)⟩
  obtain ⟨Γ', M', e1, es, a, b, c, d, g6, g7, g8, rfl, hF, hD, ho, hr, hG⟩ := key
  obtain ⟨M2, et, hc⟩ := trunc_d M.length (tabT folk es) M'
  refine ⟨es, M2, ?_, ho, by simpa using hr, (hG.cut hc).mono (by simp)⟩
  have e0 := tab_init (M := M) (l := l) (folk := folk) (many := many)
  have e2 := tab_rng (l := l) (F := M.length) (D := M.length + 1) (folk := folk) (N := M ++ [evs_ []] ++ [dctO 0 0 0 0]) hm
  have e3 := tab_end (l := l) (D := M.length + 1) (folk := folk) (many := many) (g6 := g6) (g7 := g7) (g8 := g8) hF
  unfold m_law_table
  rw [run_rt (s := .d (tabT folk es)) (M' := M'), et]
  show fSeq _ _ [some (.loc l), some (.d (.int folk)), some (.d (.int many)), some (.d (.str "llaammt")), none, none, none, none, none] M = _
  rw [seq_nx e0, seq_nx ((for_src e2).trans e1)]
  exact e3
/-! what is asked for -/
def dE : Ev := ⟨"", 0, none⟩
def tabL (folk : Int) (es : List Ev) : PyData := .list [.int folk, .list (es.map evL)]
def dl (w : Str) (es : List Ev) : List PyData := ((List.range es.length).filter fun i => decide ((es.getD i dE).w = w)).map fun i => .tuple [.int (i : Nat), .int (es.getD i dE).p]
theorem enD_ev (f : Ev → PyData) (es : List Ev) : enD (es.map f) = (List.range es.length).map fun i => .d (.tuple [.int (i : Nat), f (es.getD i dE)]) := by
  unfold enD
  rw [List.length_map]
  refine List.map_congr_left fun i hi => ?_
  have h := List.mem_range.mp hi
  rw [List.getD_eq_getElem?_getD, List.getD_eq_getElem?_getD, List.getElem?_map, List.getElem?_eq_getElem h]
  rfl
def pE (w : Str) (es : List Ev) : SV → Bool
  | .d (.tuple [.int i, _]) => decide ((es.getD i.toNat dE).w = w)
  | _ => false
def fE (es : List Ev) : SV → SV
  | .d (.tuple [.int i, _]) => .d (.tuple [.int i, .int (es.getD i.toNat dE).p])
  | _ => .d .none
theorem en_dl (f : Ev → PyData) (w : Str) (es : List Ev) : ((enD (es.map f)).filter (pE w es)).map (fE es) = (dl w es).map .d := by
  rw [enD_ev, List.filter_map, List.map_map]
  unfold dl
  rw [List.map_map]
  rfl
theorem comp_ok {M : Mem} {w : Str} {es : List Ev} (f : Ev → PyData) (hf : f = evT ∨ f = evL) {x0 : Option SV} {g1 g2 g3 : Option SV} (hz : es.length ≤ 16) :
    lcF none (enD (es.map f)) [4, 5] (tgTup 2 (tgCons (tgName 4) (tgCons (tgName 5) tgNil))) (fBool (fOp gEq (fOp gIx (fVar 5) (fC (.int 0))) (fVar 0))) (fTup (fCons (fVar 4) (fCons (fOp gIx (fVar 5) (fC (.int 1))) fNil))) (enD (es.map f)) []
      [some (.d (.str w)), g1, g2, g3, none, none] M = some ((dl w es).map .d, M) := by
  have e := lcF_map (kp := none) (all := enD (es.map f)) (vs := [4, 5]) (g := tgTup 2 (tgCons (tgName 4) (tgCons (tgName 5) tgNil))) (tt := fBool (fOp gEq (fOp gIx (fVar 5) (fC (.int 0))) (fVar 0))) (te := fTup (fCons (fVar 4) (fCons (fOp gIx (fVar 5) (fC (.int 1))) fNil))) (Γ := [some (.d (.str w)), g1, g2, g3, none, none]) (M := M) kept_none (pE w es) (fE es) (enD (es.map f)) [] (fun x hx => by
    rw [enD_ev] at hx
    obtain ⟨i, hi, rfl⟩ := List.mem_map.mp hx
    refine ⟨[some (.d (.str w)), g1, g2, g3, some (.d (.int (i : Nat))), some (.d (f (es.getD i dE)))], ?_, ?_, fun _ => ?_⟩
    · simp only [fVar, fC, fOp, fUn, fTru, fBool, fNotT, fAndT, fOrT, fAndV, fOrV, fNotV, fIf, fNil, fCons, fTup, fLst, fLstM, mkT, mkL, fCB, fCall, fCallK, arity, fSl, fNoP, fPart, fIsi, fIsi2, fNext, fSeq, fBreak, fCont, fRet, fRetN, fExpr, fIfS, fAsg, fPar, tgName, tgNil, tgCons, tgTup, tgSeq, tgSub, fBM, fFor, fLc, fLcM, fRng1, fRng2, fItS, fZip, fYes, fChain, boolOf, truth, intOf, gI, gIC, gAdd, Z.gSub, gMul, gDiv, gMod, gLt, gLe, gGt, gGe, gNeg, gEq, gNe, gIsN, gNotN, isN, gIn, gIx, gSl, gLen, gAbs, gInt, gMin2, gMax2, gListOf, gListM, gTupOf, gAll, gAny, boolsOf, gApp, stL, tyOk, tyS, isTy, rdD, seqD, seqOf, lstOf, tupOf, allD, allD_map, eqD_ii, eqD_ss, eqD_bb, eqD_nn, eqD_in, eqD_ni, eqD_bn, eqD_nb, eqD_sn, eqD_ns, eqD_is, eqD_si, eqD_bs, eqD_sb, eqD_tt, eqD_ll, gpm, ↓to_bnd, ↓to_bmp, bnd_some, bnd_none, bmp_some, bmp_none, List.getElem?_cons_zero, List.getElem?_cons_succ, List.set_cons_zero, List.set_cons_succ, List.map_cons, List.map_nil, List.replicate, List.cons_append, List.nil_append, List.append_nil, List.length_cons, List.length_nil, atI_0, atI_1, atI_2, atI_3, atI_4, atI_5, ixN_30, ixN_31, ixN_32, decide_eq_true_eq, Bool.not_true, Bool.not_false, Bool.true_and, Bool.false_and, Bool.and_true, Bool.and_false, Bool.or_true, Bool.true_or, Bool.or_false, Bool.false_or, Bool.false_eq_true, ↓reduceIte, decide_true, decide_false, reduceCtorEq, Nat.reduceAdd, Nat.reduceSub, Nat.reduceEqDiff, wipeG]
    · have e1 : pE w es (.d (.tuple [.int (i : Nat), f (es.getD i dE)])) = decide ((es.getD i dE).w = w) := rfl
      rw [e1]
      rcases hf with rfl | rfl
      · simp only [fVar, fC, fOp, fUn, fTru, fBool, fNotT, fAndT, fOrT, fAndV, fOrV, fNotV, fIf, fNil, fCons, fTup, fLst, fLstM, mkT, mkL, fCB, fCall, fCallK, arity, fSl, fNoP, fPart, fIsi, fIsi2, fNext, fSeq, fBreak, fCont, fRet, fRetN, fExpr, fIfS, fAsg, fPar, tgName, tgNil, tgCons, tgTup, tgSeq, tgSub, fBM, fFor, fLc, fLcM, fRng1, fRng2, fItS, fZip, fYes, fChain, boolOf, truth, intOf, gI, gIC, gAdd, Z.gSub, gMul, gDiv, gMod, gLt, gLe, gGt, gGe, gNeg, gEq, gNe, gIsN, gNotN, isN, gIn, gIx, gSl, gLen, gAbs, gInt, gMin2, gMax2, gListOf, gListM, gTupOf, gAll, gAny, boolsOf, gApp, stL, tyOk, tyS, isTy, rdD, seqD, seqOf, lstOf, tupOf, allD, allD_map, eqD_ii, eqD_ss, eqD_bb, eqD_nn, eqD_in, eqD_ni, eqD_bn, eqD_nb, eqD_sn, eqD_ns, eqD_is, eqD_si, eqD_bs, eqD_sb, eqD_tt, eqD_ll, gpm, ↓to_bnd, ↓to_bmp, bnd_some, bnd_none, bmp_some, bmp_none, List.getElem?_cons_zero, List.getElem?_cons_succ, List.set_cons_zero, List.set_cons_succ, List.map_cons, List.map_nil, List.replicate, List.cons_append, List.nil_append, List.append_nil, List.length_cons, List.length_nil, atI_0, atI_1, atI_2, atI_3, atI_4, atI_5, ixN_30, ixN_31, ixN_32, decide_eq_true_eq, Bool.not_true, Bool.not_false, Bool.true_and, Bool.false_and, Bool.and_true, Bool.and_false, Bool.or_true, Bool.true_or, Bool.or_false, Bool.false_or, Bool.false_eq_true, ↓reduceIte, decide_true, decide_false, reduceCtorEq, Nat.reduceAdd, Nat.reduceSub, Nat.reduceEqDiff, evT, Ev.ps]
      · simp only [fVar, fC, fOp, fUn, fTru, fBool, fNotT, fAndT, fOrT, fAndV, fOrV, fNotV, fIf, fNil, fCons, fTup, fLst, fLstM, mkT, mkL, fCB, fCall, fCallK, arity, fSl, fNoP, fPart, fIsi, fIsi2, fNext, fSeq, fBreak, fCont, fRet, fRetN, fExpr, fIfS, fAsg, fPar, tgName, tgNil, tgCons, tgTup, tgSeq, tgSub, fBM, fFor, fLc, fLcM, fRng1, fRng2, fItS, fZip, fYes, fChain, boolOf, truth, intOf, gI, gIC, gAdd, Z.gSub, gMul, gDiv, gMod, gLt, gLe, gGt, gGe, gNeg, gEq, gNe, gIsN, gNotN, isN, gIn, gIx, gSl, gLen, gAbs, gInt, gMin2, gMax2, gListOf, gListM, gTupOf, gAll, gAny, boolsOf, gApp, stL, tyOk, tyS, isTy, rdD, seqD, seqOf, lstOf, tupOf, allD, allD_map, eqD_ii, eqD_ss, eqD_bb, eqD_nn, eqD_in, eqD_ni, eqD_bn, eqD_nb, eqD_sn, eqD_ns, eqD_is, eqD_si, eqD_bs, eqD_sb, eqD_tt, eqD_ll, gpm, ↓to_bnd, ↓to_bmp, bnd_some, bnd_none, bmp_some, bmp_none, List.getElem?_cons_zero, List.getElem?_cons_succ, List.set_cons_zero, List.set_cons_succ, List.map_cons, List.map_nil, List.replicate, List.cons_append, List.nil_append, List.append_nil, List.length_cons, List.length_nil, atI_0, atI_1, atI_2, atI_3, atI_4, atI_5, ixN_30, ixN_31, ixN_32, decide_eq_true_eq, Bool.not_true, Bool.not_false, Bool.true_and, Bool.false_and, Bool.and_true, Bool.and_false, Bool.or_true, Bool.true_or, Bool.or_false, Bool.false_or, Bool.false_eq_true, ↓reduceIte, decide_true, decide_false, reduceCtorEq, Nat.reduceAdd, Nat.reduceSub, Nat.reduceEqDiff, evL, Ev.ps]
    · have e1 : fE es (.d (.tuple [.int (i : Nat), f (es.getD i dE)])) = .d (.tuple [.int (i : Nat), .int (es.getD i dE).p]) := rfl
      rw [e1]
      have z2 : 2 ≤ sizeLine := by decide
      rcases hf with rfl | rfl
      · simp only [fVar, fC, fOp, fUn, fTru, fBool, fNotT, fAndT, fOrT, fAndV, fOrV, fNotV, fIf, fNil, fCons, fTup, fLst, fLstM, mkT, mkL, fCB, fCall, fCallK, arity, fSl, fNoP, fPart, fIsi, fIsi2, fNext, fSeq, fBreak, fCont, fRet, fRetN, fExpr, fIfS, fAsg, fPar, tgName, tgNil, tgCons, tgTup, tgSeq, tgSub, fBM, fFor, fLc, fLcM, fRng1, fRng2, fItS, fZip, fYes, fChain, boolOf, truth, intOf, gI, gIC, gAdd, Z.gSub, gMul, gDiv, gMod, gLt, gLe, gGt, gGe, gNeg, gEq, gNe, gIsN, gNotN, isN, gIn, gIx, gSl, gLen, gAbs, gInt, gMin2, gMax2, gListOf, gListM, gTupOf, gAll, gAny, boolsOf, gApp, stL, tyOk, tyS, isTy, rdD, seqD, seqOf, lstOf, tupOf, allD, allD_map, eqD_ii, eqD_ss, eqD_bb, eqD_nn, eqD_in, eqD_ni, eqD_bn, eqD_nb, eqD_sn, eqD_ns, eqD_is, eqD_si, eqD_bs, eqD_sb, eqD_tt, eqD_ll, gpm, ↓to_bnd, ↓to_bmp, bnd_some, bnd_none, bmp_some, bmp_none, List.getElem?_cons_zero, List.getElem?_cons_succ, List.set_cons_zero, List.set_cons_succ, List.map_cons, List.map_nil, List.replicate, List.cons_append, List.nil_append, List.append_nil, List.length_cons, List.length_nil, atI_0, atI_1, atI_2, atI_3, atI_4, atI_5, ixN_30, ixN_31, ixN_32, decide_eq_true_eq, Bool.not_true, Bool.not_false, Bool.true_and, Bool.false_and, Bool.and_true, Bool.and_false, Bool.or_true, Bool.true_or, Bool.or_false, Bool.false_or, Bool.false_eq_true, ↓reduceIte, decide_true, decide_false, reduceCtorEq, Nat.reduceAdd, Nat.reduceSub, Nat.reduceEqDiff, evT, Ev.ps, z2]
      · simp only [fVar, fC, fOp, fUn, fTru, fBool, fNotT, fAndT, fOrT, fAndV, fOrV, fNotV, fIf, fNil, fCons, fTup, fLst, fLstM, mkT, mkL, fCB, fCall, fCallK, arity, fSl, fNoP, fPart, fIsi, fIsi2, fNext, fSeq, fBreak, fCont, fRet, fRetN, fExpr, fIfS, fAsg, fPar, tgName, tgNil, tgCons, tgTup, tgSeq, tgSub, fBM, fFor, fLc, fLcM, fRng1, fRng2, fItS, fZip, fYes, fChain, boolOf, truth, intOf, gI, gIC, gAdd, Z.gSub, gMul, gDiv, gMod, gLt, gLe, gGt, gGe, gNeg, gEq, gNe, gIsN, gNotN, isN, gIn, gIx, gSl, gLen, gAbs, gInt, gMin2, gMax2, gListOf, gListM, gTupOf, gAll, gAny, boolsOf, gApp, stL, tyOk, tyS, isTy, rdD, seqD, seqOf, lstOf, tupOf, allD, allD_map, eqD_ii, eqD_ss, eqD_bb, eqD_nn, eqD_in, eqD_ni, eqD_bn, eqD_nb, eqD_sn, eqD_ns, eqD_is, eqD_si, eqD_bs, eqD_sb, eqD_tt, eqD_ll, gpm, ↓to_bnd, ↓to_bmp, bnd_some, bnd_none, bmp_some, bmp_none, List.getElem?_cons_zero, List.getElem?_cons_succ, List.set_cons_zero, List.set_cons_succ, List.map_cons, List.map_nil, List.replicate, List.cons_append, List.nil_append, List.append_nil, List.length_cons, List.length_nil, atI_0, atI_1, atI_2, atI_3, atI_4, atI_5, ixN_30, ixN_31, ixN_32, decide_eq_true_eq, Bool.not_true, Bool.not_false, Bool.true_and, Bool.false_and, Bool.and_true, Bool.and_false, Bool.or_true, Bool.true_or, Bool.or_false, Bool.false_or, Bool.false_eq_true, ↓reduceIte, decide_true, decide_false, reduceCtorEq, Nat.reduceAdd, Nat.reduceSub, Nat.reduceEqDiff, evL, Ev.ps, z2]) (by
    rw [enD_len, List.length_map]
    exact Nat.le_trans (show ([] : List SV).length + es.length ≤ 16 by simpa using hz) (by decide))
  rw [e, List.nil_append, en_dl]
theorem calledT {M : Mem} {w : Str} {folk : Int} {es : List Ev} (hz : es.length ≤ 16) : m_events_called [.d (.str w), .d (tabT folk es)] M = some (.loc M.length, M ++ [.lst ((dl w es).map .d)]) := by
  have e := comp_ok (M := M) (w := w) (es := es) evT (.inl rfl) (x0 := none) (g1 := some (.d (tabT folk es))) (g2 := some (.d (.int folk))) (g3 := some (.d (.tuple (es.map evT)))) hz
  unfold m_events_called runF tabT at *
  simp only [fVar, fC, fOp, fUn, fTru, fBool, fNotT, fAndT, fOrT, fAndV, fOrV, fNotV, fIf, fNil, fCons, fTup, fLst, fLstM, mkT, mkL, fCB, fCall, fCallK, arity, fSl, fNoP, fPart, fIsi, fIsi2, fNext, fSeq, fBreak, fCont, fRet, fRetN, fExpr, fIfS, fAsg, fPar, tgName, tgNil, tgCons, tgTup, tgSeq, tgSub, fBM, fFor, fLc, fLcM, fRng1, fRng2, fItS, fZip, fYes, fChain, boolOf, truth, intOf, gI, gIC, gAdd, Z.gSub, gMul, gDiv, gMod, gLt, gLe, gGt, gGe, gNeg, gEq, gNe, gIsN, gNotN, isN, gIn, gIx, gSl, gLen, gAbs, gInt, gMin2, gMax2, gListOf, gListM, gTupOf, gAll, gAny, boolsOf, gApp, stL, tyOk, tyS, isTy, rdD, seqD, seqOf, lstOf, tupOf, allD, allD_map, eqD_ii, eqD_ss, eqD_bb, eqD_nn, eqD_in, eqD_ni, eqD_bn, eqD_nb, eqD_sn, eqD_ns, eqD_is, eqD_si, eqD_bs, eqD_sb, eqD_tt, eqD_ll, gpm, ↓to_bnd, ↓to_bmp, bnd_some, bnd_none, bmp_some, bmp_none, List.getElem?_cons_zero, List.getElem?_cons_succ, List.set_cons_zero, List.set_cons_succ, List.map_cons, List.map_nil, List.replicate, List.cons_append, List.nil_append, List.append_nil, List.length_cons, List.length_nil, atI_0, atI_1, atI_2, atI_3, atI_4, atI_5, ixN_30, ixN_31, ixN_32, decide_eq_true_eq, Bool.not_true, Bool.not_false, Bool.true_and, Bool.false_and, Bool.and_true, Bool.and_false, Bool.or_true, Bool.true_or, Bool.or_false, Bool.false_or, Bool.false_eq_true, ↓reduceIte, decide_true, decide_false, reduceCtorEq, Nat.reduceAdd, Nat.reduceSub, Nat.reduceEqDiff, fEnum, e, trunc_loc]
theorem calledL {M : Mem} {w : Str} {folk : Int} {es : List Ev} (hz : es.length ≤ 16) : m_events_called [.d (.str w), .d (tabL folk es)] M = some (.loc M.length, M ++ [.lst ((dl w es).map .d)]) := by
  have e := comp_ok (M := M) (w := w) (es := es) evL (.inr rfl) (x0 := none) (g1 := some (.d (tabL folk es))) (g2 := some (.d (.int folk))) (g3 := some (.d (.list (es.map evL)))) hz
  unfold m_events_called runF tabL at *
  simp only [fVar, fC, fOp, fUn, fTru, fBool, fNotT, fAndT, fOrT, fAndV, fOrV, fNotV, fIf, fNil, fCons, fTup, fLst, fLstM, mkT, mkL, fCB, fCall, fCallK, arity, fSl, fNoP, fPart, fIsi, fIsi2, fNext, fSeq, fBreak, fCont, fRet, fRetN, fExpr, fIfS, fAsg, fPar, tgName, tgNil, tgCons, tgTup, tgSeq, tgSub, fBM, fFor, fLc, fLcM, fRng1, fRng2, fItS, fZip, fYes, fChain, boolOf, truth, intOf, gI, gIC, gAdd, Z.gSub, gMul, gDiv, gMod, gLt, gLe, gGt, gGe, gNeg, gEq, gNe, gIsN, gNotN, isN, gIn, gIx, gSl, gLen, gAbs, gInt, gMin2, gMax2, gListOf, gListM, gTupOf, gAll, gAny, boolsOf, gApp, stL, tyOk, tyS, isTy, rdD, seqD, seqOf, lstOf, tupOf, allD, allD_map, eqD_ii, eqD_ss, eqD_bb, eqD_nn, eqD_in, eqD_ni, eqD_bn, eqD_nb, eqD_sn, eqD_ns, eqD_is, eqD_si, eqD_bs, eqD_sb, eqD_tt, eqD_ll, gpm, ↓to_bnd, ↓to_bmp, bnd_some, bnd_none, bmp_some, bmp_none, List.getElem?_cons_zero, List.getElem?_cons_succ, List.set_cons_zero, List.set_cons_succ, List.map_cons, List.map_nil, List.replicate, List.cons_append, List.nil_append, List.append_nil, List.length_cons, List.length_nil, atI_0, atI_1, atI_2, atI_3, atI_4, atI_5, ixN_30, ixN_31, ixN_32, decide_eq_true_eq, Bool.not_true, Bool.not_false, Bool.true_and, Bool.false_and, Bool.and_true, Bool.and_false, Bool.or_true, Bool.true_or, Bool.or_false, Bool.false_or, Bool.false_eq_true, ↓reduceIte, decide_true, decide_false, reduceCtorEq, Nat.reduceAdd, Nat.reduceSub, Nat.reduceEqDiff, fEnum, e, trunc_loc]
theorem looksT {M : Mem} {folk : Int} {es : List Ev} (hz : es.length ≤ 16) : m_looks [.d (tabT folk es)] M = some (.loc M.length, M ++ [.lst ((dl "look" es).map .d)]) := by
  unfold m_looks runF
  simp only [fVar, fC, fOp, fUn, fTru, fBool, fNotT, fAndT, fOrT, fAndV, fOrV, fNotV, fIf, fNil, fCons, fTup, fLst, fLstM, mkT, mkL, fCB, fCall, fCallK, arity, fSl, fNoP, fPart, fIsi, fIsi2, fNext, fSeq, fBreak, fCont, fRet, fRetN, fExpr, fIfS, fAsg, fPar, tgName, tgNil, tgCons, tgTup, tgSeq, tgSub, fBM, fFor, fLc, fLcM, fRng1, fRng2, fItS, fZip, fYes, fChain, boolOf, truth, intOf, gI, gIC, gAdd, Z.gSub, gMul, gDiv, gMod, gLt, gLe, gGt, gGe, gNeg, gEq, gNe, gIsN, gNotN, isN, gIn, gIx, gSl, gLen, gAbs, gInt, gMin2, gMax2, gListOf, gListM, gTupOf, gAll, gAny, boolsOf, gApp, stL, tyOk, tyS, isTy, rdD, seqD, seqOf, lstOf, tupOf, allD, allD_map, eqD_ii, eqD_ss, eqD_bb, eqD_nn, eqD_in, eqD_ni, eqD_bn, eqD_nb, eqD_sn, eqD_ns, eqD_is, eqD_si, eqD_bs, eqD_sb, eqD_tt, eqD_ll, gpm, ↓to_bnd, ↓to_bmp, bnd_some, bnd_none, bmp_some, bmp_none, List.getElem?_cons_zero, List.getElem?_cons_succ, List.set_cons_zero, List.set_cons_succ, List.map_cons, List.map_nil, List.replicate, List.cons_append, List.nil_append, List.append_nil, List.length_cons, List.length_nil, atI_0, atI_1, atI_2, atI_3, atI_4, atI_5, ixN_30, ixN_31, ixN_32, decide_eq_true_eq, Bool.not_true, Bool.not_false, Bool.true_and, Bool.false_and, Bool.and_true, Bool.and_false, Bool.or_true, Bool.true_or, Bool.or_false, Bool.false_or, Bool.false_eq_true, ↓reduceIte, decide_true, decide_false, reduceCtorEq, Nat.reduceAdd, Nat.reduceSub, Nat.reduceEqDiff, calledT hz, trunc_loc]
theorem addsT {M : Mem} {folk : Int} {es : List Ev} (hz : es.length ≤ 16) : m_adds [.d (tabT folk es)] M = some (.loc M.length, M ++ [.lst ((dl "add" es).map .d)]) := by
  unfold m_adds runF
  simp only [fVar, fC, fOp, fUn, fTru, fBool, fNotT, fAndT, fOrT, fAndV, fOrV, fNotV, fIf, fNil, fCons, fTup, fLst, fLstM, mkT, mkL, fCB, fCall, fCallK, arity, fSl, fNoP, fPart, fIsi, fIsi2, fNext, fSeq, fBreak, fCont, fRet, fRetN, fExpr, fIfS, fAsg, fPar, tgName, tgNil, tgCons, tgTup, tgSeq, tgSub, fBM, fFor, fLc, fLcM, fRng1, fRng2, fItS, fZip, fYes, fChain, boolOf, truth, intOf, gI, gIC, gAdd, Z.gSub, gMul, gDiv, gMod, gLt, gLe, gGt, gGe, gNeg, gEq, gNe, gIsN, gNotN, isN, gIn, gIx, gSl, gLen, gAbs, gInt, gMin2, gMax2, gListOf, gListM, gTupOf, gAll, gAny, boolsOf, gApp, stL, tyOk, tyS, isTy, rdD, seqD, seqOf, lstOf, tupOf, allD, allD_map, eqD_ii, eqD_ss, eqD_bb, eqD_nn, eqD_in, eqD_ni, eqD_bn, eqD_nb, eqD_sn, eqD_ns, eqD_is, eqD_si, eqD_bs, eqD_sb, eqD_tt, eqD_ll, gpm, ↓to_bnd, ↓to_bmp, bnd_some, bnd_none, bmp_some, bmp_none, List.getElem?_cons_zero, List.getElem?_cons_succ, List.set_cons_zero, List.set_cons_succ, List.map_cons, List.map_nil, List.replicate, List.cons_append, List.nil_append, List.append_nil, List.length_cons, List.length_nil, atI_0, atI_1, atI_2, atI_3, atI_4, atI_5, ixN_30, ixN_31, ixN_32, decide_eq_true_eq, Bool.not_true, Bool.not_false, Bool.true_and, Bool.false_and, Bool.and_true, Bool.and_false, Bool.or_true, Bool.true_or, Bool.or_false, Bool.false_or, Bool.false_eq_true, ↓reduceIte, decide_true, decide_false, reduceCtorEq, Nat.reduceAdd, Nat.reduceSub, Nat.reduceEqDiff, calledT hz, trunc_loc]
theorem looksL {M : Mem} {folk : Int} {es : List Ev} (hz : es.length ≤ 16) : m_looks [.d (tabL folk es)] M = some (.loc M.length, M ++ [.lst ((dl "look" es).map .d)]) := by
  unfold m_looks runF
  simp only [fVar, fC, fOp, fUn, fTru, fBool, fNotT, fAndT, fOrT, fAndV, fOrV, fNotV, fIf, fNil, fCons, fTup, fLst, fLstM, mkT, mkL, fCB, fCall, fCallK, arity, fSl, fNoP, fPart, fIsi, fIsi2, fNext, fSeq, fBreak, fCont, fRet, fRetN, fExpr, fIfS, fAsg, fPar, tgName, tgNil, tgCons, tgTup, tgSeq, tgSub, fBM, fFor, fLc, fLcM, fRng1, fRng2, fItS, fZip, fYes, fChain, boolOf, truth, intOf, gI, gIC, gAdd, Z.gSub, gMul, gDiv, gMod, gLt, gLe, gGt, gGe, gNeg, gEq, gNe, gIsN, gNotN, isN, gIn, gIx, gSl, gLen, gAbs, gInt, gMin2, gMax2, gListOf, gListM, gTupOf, gAll, gAny, boolsOf, gApp, stL, tyOk, tyS, isTy, rdD, seqD, seqOf, lstOf, tupOf, allD, allD_map, eqD_ii, eqD_ss, eqD_bb, eqD_nn, eqD_in, eqD_ni, eqD_bn, eqD_nb, eqD_sn, eqD_ns, eqD_is, eqD_si, eqD_bs, eqD_sb, eqD_tt, eqD_ll, gpm, ↓to_bnd, ↓to_bmp, bnd_some, bnd_none, bmp_some, bmp_none, List.getElem?_cons_zero, List.getElem?_cons_succ, List.set_cons_zero, List.set_cons_succ, List.map_cons, List.map_nil, List.replicate, List.cons_append, List.nil_append, List.append_nil, List.length_cons, List.length_nil, atI_0, atI_1, atI_2, atI_3, atI_4, atI_5, ixN_30, ixN_31, ixN_32, decide_eq_true_eq, Bool.not_true, Bool.not_false, Bool.true_and, Bool.false_and, Bool.and_true, Bool.and_false, Bool.or_true, Bool.true_or, Bool.or_false, Bool.false_or, Bool.false_eq_true, ↓reduceIte, decide_true, decide_false, reduceCtorEq, Nat.reduceAdd, Nat.reduceSub, Nat.reduceEqDiff, calledL hz, trunc_loc]
theorem addsL {M : Mem} {folk : Int} {es : List Ev} (hz : es.length ≤ 16) : m_adds [.d (tabL folk es)] M = some (.loc M.length, M ++ [.lst ((dl "add" es).map .d)]) := by
  unfold m_adds runF
  simp only [fVar, fC, fOp, fUn, fTru, fBool, fNotT, fAndT, fOrT, fAndV, fOrV, fNotV, fIf, fNil, fCons, fTup, fLst, fLstM, mkT, mkL, fCB, fCall, fCallK, arity, fSl, fNoP, fPart, fIsi, fIsi2, fNext, fSeq, fBreak, fCont, fRet, fRetN, fExpr, fIfS, fAsg, fPar, tgName, tgNil, tgCons, tgTup, tgSeq, tgSub, fBM, fFor, fLc, fLcM, fRng1, fRng2, fItS, fZip, fYes, fChain, boolOf, truth, intOf, gI, gIC, gAdd, Z.gSub, gMul, gDiv, gMod, gLt, gLe, gGt, gGe, gNeg, gEq, gNe, gIsN, gNotN, isN, gIn, gIx, gSl, gLen, gAbs, gInt, gMin2, gMax2, gListOf, gListM, gTupOf, gAll, gAny, boolsOf, gApp, stL, tyOk, tyS, isTy, rdD, seqD, seqOf, lstOf, tupOf, allD, allD_map, eqD_ii, eqD_ss, eqD_bb, eqD_nn, eqD_in, eqD_ni, eqD_bn, eqD_nb, eqD_sn, eqD_ns, eqD_is, eqD_si, eqD_bs, eqD_sb, eqD_tt, eqD_ll, gpm, ↓to_bnd, ↓to_bmp, bnd_some, bnd_none, bmp_some, bmp_none, List.getElem?_cons_zero, List.getElem?_cons_succ, List.set_cons_zero, List.set_cons_succ, List.map_cons, List.map_nil, List.replicate, List.cons_append, List.nil_append, List.append_nil, List.length_cons, List.length_nil, atI_0, atI_1, atI_2, atI_3, atI_4, atI_5, ixN_30, ixN_31, ixN_32, decide_eq_true_eq, Bool.not_true, Bool.not_false, Bool.true_and, Bool.false_and, Bool.and_true, Bool.and_false, Bool.or_true, Bool.true_or, Bool.or_false, Bool.false_or, Bool.false_eq_true, ↓reduceIte, decide_true, decide_false, reduceCtorEq, Nat.reduceAdd, Nat.reduceSub, Nat.reduceEqDiff, calledL hz, trunc_loc]
theorem due_ok {M : Mem} {w : Str} {folk : Int} {es : List Ev} (hz : es.length ≤ 16) : ∃ M2, m_law_due [.d (tabT folk es), .d (.str w)] M = some (.d (.list (dl w es)), M2) ∧ (M2 = M ∨ M2 = M ++ [.gone]) := by
  have z16 : (16 : Nat) < sizeLine := by decide
  have z2 : 2 ≤ sizeLine := by decide
  have atM : ∀ o : MO, (M ++ [o])[M.length]? = some o := fun o => by simp
  have setM : ∀ o o' : MO, (M ++ [o]).set M.length o' = M ++ [o'] := fun o o' => by
    rw [List.set_append_right _ _ (Nat.le_refl _)]
    simp
  have key := forF_inv (kp := none) (all := enD (es.map evT)) (g := tgTup 2 (tgCons (tgName 3) (tgCons (tgName 4) tgNil))) (body := b1_law_due) (fun r Γ N => ∃ acc g3 g4, Γ = [some (.d (tabT folk es)), some (.d (.str w)), some (.loc M.length), g3, g4] ∧ N = M ++ [.lst acc] ∧
      acc ++ (r.filter (pE w es)).map (fE es) = (dl w es).map .d ∧ (∀ x ∈ r, ∃ i : Nat, x = .d (.tuple [.int (i : Nat), evT (es.getD i dE)])) ∧ acc.length + r.length ≤ 16)
    (fun _ _ _ _ => kept_none) (fun x r Γ N ⟨acc, g3, g4, e, eN, ha, hx, hl⟩ => by
      subst e eN
      obtain ⟨i, rfl⟩ := hx x List.mem_cons_self
      rw [List.length_cons] at hl
      have e1 : pE w es (.d (.tuple [.int (i : Nat), evT (es.getD i dE)])) = decide ((es.getD i dE).w = w) := rfl
      have e2 : fE es (.d (.tuple [.int (i : Nat), evT (es.getD i dE)])) = .d (.tuple [.int (i : Nat), .int (es.getD i dE).p]) := rfl
      have g1 : tgTup 2 (tgCons (tgName 3) (tgCons (tgName 4) tgNil)) (.d (.tuple [.int (i : Nat), evT (es.getD i dE)])) [some (.d (tabT folk es)), some (.d (.str w)), some (.loc M.length), g3, g4] (M ++ [.lst acc]) =
          some ([some (.d (tabT folk es)), some (.d (.str w)), some (.loc M.length), some (.d (.int (i : Nat))), some (.d (evT (es.getD i dE)))], M ++ [.lst acc]) := by simp only [fVar, fC, fOp, fUn, fTru, fBool, fNotT, fAndT, fOrT, fAndV, fOrV, fNotV, fIf, fNil, fCons, fTup, fLst, fLstM, mkT, mkL, fCB, fCall, fCallK, arity, fSl, fNoP, fPart, fIsi, fIsi2, fNext, fSeq, fBreak, fCont, fRet, fRetN, fExpr, fIfS, fAsg, fPar, tgName, tgNil, tgCons, tgTup, tgSeq, tgSub, fBM, fFor, fLc, fLcM, fRng1, fRng2, fItS, fZip, fYes, fChain, boolOf, truth, intOf, gI, gIC, gAdd, Z.gSub, gMul, gDiv, gMod, gLt, gLe, gGt, gGe, gNeg, gEq, gNe, gIsN, gNotN, isN, gIn, gIx, gSl, gLen, gAbs, gInt, gMin2, gMax2, gListOf, gListM, gTupOf, gAll, gAny, boolsOf, gApp, stL, tyOk, tyS, isTy, rdD, seqD, seqOf, lstOf, tupOf, allD, allD_map, eqD_ii, eqD_ss, eqD_bb, eqD_nn, eqD_in, eqD_ni, eqD_bn, eqD_nb, eqD_sn, eqD_ns, eqD_is, eqD_si, eqD_bs, eqD_sb, eqD_tt, eqD_ll, gpm, ↓to_bnd, ↓to_bmp, bnd_some, bnd_none, bmp_some, bmp_none, List.getElem?_cons_zero, List.getElem?_cons_succ, List.set_cons_zero, List.set_cons_succ, List.map_cons, List.map_nil, List.replicate, List.cons_append, List.nil_append, List.append_nil, List.length_cons, List.length_nil, atI_0, atI_1, atI_2, atI_3, atI_4, atI_5, ixN_30, ixN_31, ixN_32, decide_eq_true_eq, Bool.not_true, Bool.not_false, Bool.true_and, Bool.false_and, Bool.and_true, Bool.and_false, Bool.or_true, Bool.true_or, Bool.or_false, Bool.false_or, Bool.false_eq_true, ↓reduceIte, decide_true, decide_false, reduceCtorEq, Nat.reduceAdd, Nat.reduceSub, Nat.reduceEqDiff]
      have za : acc.length < sizeLine := Nat.lt_of_le_of_lt (show acc.length ≤ 16 by omega) z16
      have hx2 : ∀ y ∈ r, ∃ i : Nat, y = .d (.tuple [.int (i : Nat), evT (es.getD i dE)]) := fun y hy => hx y (List.mem_cons_of_mem _ hy)
      by_cases c : (es.getD i dE).w = w
      · refine ⟨_, _, [some (.d (tabT folk es)), some (.d (.str w)), some (.loc M.length), some (.d (.int (i : Nat))), some (.d (evT (es.getD i dE)))], M ++ [.lst (acc ++ [.d (.tuple [.int (i : Nat), .int (es.getD i dE).p])])], g1, ?_, _, _, _, rfl, rfl, ?_, hx2, by rw [List.length_append, List.length_singleton]; omega⟩
        · unfold b1_law_due
          simp only [fVar, fC, fOp, fUn, fTru, fBool, fNotT, fAndT, fOrT, fAndV, fOrV, fNotV, fIf, fNil, fCons, fTup, fLst, fLstM, mkT, mkL, fCB, fCall, fCallK, arity, fSl, fNoP, fPart, fIsi, fIsi2, fNext, fSeq, fBreak, fCont, fRet, fRetN, fExpr, fIfS, fAsg, fPar, tgName, tgNil, tgCons, tgTup, tgSeq, tgSub, fBM, fFor, fLc, fLcM, fRng1, fRng2, fItS, fZip, fYes, fChain, boolOf, truth, intOf, gI, gIC, gAdd, Z.gSub, gMul, gDiv, gMod, gLt, gLe, gGt, gGe, gNeg, gEq, gNe, gIsN, gNotN, isN, gIn, gIx, gSl, gLen, gAbs, gInt, gMin2, gMax2, gListOf, gListM, gTupOf, gAll, gAny, boolsOf, gApp, stL, tyOk, tyS, isTy, rdD, seqD, seqOf, lstOf, tupOf, allD, allD_map, eqD_ii, eqD_ss, eqD_bb, eqD_nn, eqD_in, eqD_ni, eqD_bn, eqD_nb, eqD_sn, eqD_ns, eqD_is, eqD_si, eqD_bs, eqD_sb, eqD_tt, eqD_ll, gpm, ↓to_bnd, ↓to_bmp, bnd_some, bnd_none, bmp_some, bmp_none, List.getElem?_cons_zero, List.getElem?_cons_succ, List.set_cons_zero, List.set_cons_succ, List.map_cons, List.map_nil, List.replicate, List.cons_append, List.nil_append, List.append_nil, List.length_cons, List.length_nil, atI_0, atI_1, atI_2, atI_3, atI_4, atI_5, ixN_30, ixN_31, ixN_32, decide_eq_true_eq, Bool.not_true, Bool.not_false, Bool.true_and, Bool.false_and, Bool.and_true, Bool.and_false, Bool.or_true, Bool.true_or, Bool.or_false, Bool.false_or, Bool.false_eq_true, ↓reduceIte, decide_true, decide_false, reduceCtorEq, Nat.reduceAdd, Nat.reduceSub, Nat.reduceEqDiff, evT, Ev.ps, c, z2, za, atM, setM]
        · rw [List.filter_cons_of_pos (by rw [e1]; exact decide_eq_true c), List.map_cons, e2] at ha
          rw [List.append_assoc]
          exact ha
      · refine ⟨_, _, [some (.d (tabT folk es)), some (.d (.str w)), some (.loc M.length), some (.d (.int (i : Nat))), some (.d (evT (es.getD i dE)))], M ++ [.lst acc], g1, ?_, _, _, _, rfl, rfl, ?_, hx2, by omega⟩
        · unfold b1_law_due
          simp only [fVar, fC, fOp, fUn, fTru, fBool, fNotT, fAndT, fOrT, fAndV, fOrV, fNotV, fIf, fNil, fCons, fTup, fLst, fLstM, mkT, mkL, fCB, fCall, fCallK, arity, fSl, fNoP, fPart, fIsi, fIsi2, fNext, fSeq, fBreak, fCont, fRet, fRetN, fExpr, fIfS, fAsg, fPar, tgName, tgNil, tgCons, tgTup, tgSeq, tgSub, fBM, fFor, fLc, fLcM, fRng1, fRng2, fItS, fZip, fYes, fChain, boolOf, truth, intOf, gI, gIC, gAdd, Z.gSub, gMul, gDiv, gMod, gLt, gLe, gGt, gGe, gNeg, gEq, gNe, gIsN, gNotN, isN, gIn, gIx, gSl, gLen, gAbs, gInt, gMin2, gMax2, gListOf, gListM, gTupOf, gAll, gAny, boolsOf, gApp, stL, tyOk, tyS, isTy, rdD, seqD, seqOf, lstOf, tupOf, allD, allD_map, eqD_ii, eqD_ss, eqD_bb, eqD_nn, eqD_in, eqD_ni, eqD_bn, eqD_nb, eqD_sn, eqD_ns, eqD_is, eqD_si, eqD_bs, eqD_sb, eqD_tt, eqD_ll, gpm, ↓to_bnd, ↓to_bmp, bnd_some, bnd_none, bmp_some, bmp_none, List.getElem?_cons_zero, List.getElem?_cons_succ, List.set_cons_zero, List.set_cons_succ, List.map_cons, List.map_nil, List.replicate, List.cons_append, List.nil_append, List.append_nil, List.length_cons, List.length_nil, atI_0, atI_1, atI_2, atI_3, atI_4, atI_5, ixN_30, ixN_31, ixN_32, decide_eq_true_eq, Bool.not_true, Bool.not_false, Bool.true_and, Bool.false_and, Bool.and_true, Bool.and_false, Bool.or_true, Bool.true_or, Bool.or_false, Bool.false_or, Bool.false_eq_true, ↓reduceIte, decide_true, decide_false, reduceCtorEq, Nat.reduceAdd, Nat.reduceSub, Nat.reduceEqDiff, evT, Ev.ps, c]
        · rw [List.filter_cons_of_neg (by rw [e1]; simpa using c)] at ha
          exact ha)
    (enD (es.map evT)) [some (.d (tabT folk es)), some (.d (.str w)), some (.loc M.length), none, none] (M ++ [.lst []])
    ⟨[], none, none, rfl, rfl, by rw [List.nil_append]; exact en_dl evT w es, fun x hx => by
      rw [enD_ev] at hx
      obtain ⟨i, _, rfl⟩ := List.mem_map.mp hx
      exact ⟨i, rfl⟩, by rw [enD_len, List.length_map]; simpa using hz⟩
  obtain ⟨Γ', M', e1, acc, g3, g4, rfl, rfl, ha, _, _⟩ := key
  have ha2 : acc = (dl w es).map .d := by simpa using ha
  subst ha2
  obtain ⟨M2, et, hc⟩ := trunc_d M.length (.list (dl w es)) (M ++ [.gone])
  refine ⟨M2, ?_, ?_⟩
  · have z0 : 0 ≤ sizeLine := by decide
    have e0 : fAsg (fLstM fNil) (tgName 2) [some (.d (tabT folk es)), some (.d (.str w)), none, none, none] M = some (.nx [some (.d (tabT folk es)), some (.d (.str w)), some (.loc M.length), none, none], M ++ [.lst []]) := by
      simp only [fVar, fC, fOp, fUn, fTru, fBool, fNotT, fAndT, fOrT, fAndV, fOrV, fNotV, fIf, fNil, fCons, fTup, fLst, fLstM, mkT, mkL, fCB, fCall, fCallK, arity, fSl, fNoP, fPart, fIsi, fIsi2, fNext, fSeq, fBreak, fCont, fRet, fRetN, fExpr, fIfS, fAsg, fPar, tgName, tgNil, tgCons, tgTup, tgSeq, tgSub, fBM, fFor, fLc, fLcM, fRng1, fRng2, fItS, fZip, fYes, fChain, boolOf, truth, intOf, gI, gIC, gAdd, Z.gSub, gMul, gDiv, gMod, gLt, gLe, gGt, gGe, gNeg, gEq, gNe, gIsN, gNotN, isN, gIn, gIx, gSl, gLen, gAbs, gInt, gMin2, gMax2, gListOf, gListM, gTupOf, gAll, gAny, boolsOf, gApp, stL, tyOk, tyS, isTy, rdD, seqD, seqOf, lstOf, tupOf, allD, allD_map, eqD_ii, eqD_ss, eqD_bb, eqD_nn, eqD_in, eqD_ni, eqD_bn, eqD_nb, eqD_sn, eqD_ns, eqD_is, eqD_si, eqD_bs, eqD_sb, eqD_tt, eqD_ll, gpm, ↓to_bnd, ↓to_bmp, bnd_some, bnd_none, bmp_some, bmp_none, List.getElem?_cons_zero, List.getElem?_cons_succ, List.set_cons_zero, List.set_cons_succ, List.map_cons, List.map_nil, List.replicate, List.cons_append, List.nil_append, List.append_nil, List.length_cons, List.length_nil, atI_0, atI_1, atI_2, atI_3, atI_4, atI_5, ixN_30, ixN_31, ixN_32, decide_eq_true_eq, Bool.not_true, Bool.not_false, Bool.true_and, Bool.false_and, Bool.and_true, Bool.and_false, Bool.or_true, Bool.true_or, Bool.or_false, Bool.false_or, Bool.false_eq_true, ↓reduceIte, decide_true, decide_false, reduceCtorEq, Nat.reduceAdd, Nat.reduceSub, Nat.reduceEqDiff, z0]
    have e2 : fEnum (fCons (fOp gIx (fVar 0) (fC (.int 1))) fNil) [some (.d (tabT folk es)), some (.d (.str w)), some (.loc M.length), none, none] (M ++ [.lst []]) = some ((enD (es.map evT), none), M ++ [.lst []]) := by
      unfold tabT
      simp only [fVar, fC, fOp, fUn, fTru, fBool, fNotT, fAndT, fOrT, fAndV, fOrV, fNotV, fIf, fNil, fCons, fTup, fLst, fLstM, mkT, mkL, fCB, fCall, fCallK, arity, fSl, fNoP, fPart, fIsi, fIsi2, fNext, fSeq, fBreak, fCont, fRet, fRetN, fExpr, fIfS, fAsg, fPar, tgName, tgNil, tgCons, tgTup, tgSeq, tgSub, fBM, fFor, fLc, fLcM, fRng1, fRng2, fItS, fZip, fYes, fChain, boolOf, truth, intOf, gI, gIC, gAdd, Z.gSub, gMul, gDiv, gMod, gLt, gLe, gGt, gGe, gNeg, gEq, gNe, gIsN, gNotN, isN, gIn, gIx, gSl, gLen, gAbs, gInt, gMin2, gMax2, gListOf, gListM, gTupOf, gAll, gAny, boolsOf, gApp, stL, tyOk, tyS, isTy, rdD, seqD, seqOf, lstOf, tupOf, allD, allD_map, eqD_ii, eqD_ss, eqD_bb, eqD_nn, eqD_in, eqD_ni, eqD_bn, eqD_nb, eqD_sn, eqD_ns, eqD_is, eqD_si, eqD_bs, eqD_sb, eqD_tt, eqD_ll, gpm, ↓to_bnd, ↓to_bmp, bnd_some, bnd_none, bmp_some, bmp_none, List.getElem?_cons_zero, List.getElem?_cons_succ, List.set_cons_zero, List.set_cons_succ, List.map_cons, List.map_nil, List.replicate, List.cons_append, List.nil_append, List.append_nil, List.length_cons, List.length_nil, atI_0, atI_1, atI_2, atI_3, atI_4, atI_5, ixN_30, ixN_31, ixN_32, decide_eq_true_eq, Bool.not_true, Bool.not_false, Bool.true_and, Bool.false_and, Bool.and_true, Bool.and_false, Bool.or_true, Bool.true_or, Bool.or_false, Bool.false_or, Bool.false_eq_true, ↓reduceIte, decide_true, decide_false, reduceCtorEq, Nat.reduceAdd, Nat.reduceSub, Nat.reduceEqDiff, fEnum]
    have e3 : fRet (fFrz (fVar 2)) [some (.d (tabT folk es)), some (.d (.str w)), some (.loc M.length), g3, g4] (M ++ [.lst ((dl w es).map .d)]) = some (.rt (.d (.list (dl w es))), M ++ [.gone]) := by
      simp only [fVar, fC, fOp, fUn, fTru, fBool, fNotT, fAndT, fOrT, fAndV, fOrV, fNotV, fIf, fNil, fCons, fTup, fLst, fLstM, mkT, mkL, fCB, fCall, fCallK, arity, fSl, fNoP, fPart, fIsi, fIsi2, fNext, fSeq, fBreak, fCont, fRet, fRetN, fExpr, fIfS, fAsg, fPar, tgName, tgNil, tgCons, tgTup, tgSeq, tgSub, fBM, fFor, fLc, fLcM, fRng1, fRng2, fItS, fZip, fYes, fChain, boolOf, truth, intOf, gI, gIC, gAdd, Z.gSub, gMul, gDiv, gMod, gLt, gLe, gGt, gGe, gNeg, gEq, gNe, gIsN, gNotN, isN, gIn, gIx, gSl, gLen, gAbs, gInt, gMin2, gMax2, gListOf, gListM, gTupOf, gAll, gAny, boolsOf, gApp, stL, tyOk, tyS, isTy, rdD, seqD, seqOf, lstOf, tupOf, allD, allD_map, eqD_ii, eqD_ss, eqD_bb, eqD_nn, eqD_in, eqD_ni, eqD_bn, eqD_nb, eqD_sn, eqD_ns, eqD_is, eqD_si, eqD_bs, eqD_sb, eqD_tt, eqD_ll, gpm, ↓to_bnd, ↓to_bmp, bnd_some, bnd_none, bmp_some, bmp_none, List.getElem?_cons_zero, List.getElem?_cons_succ, List.set_cons_zero, List.set_cons_succ, List.map_cons, List.map_nil, List.replicate, List.cons_append, List.nil_append, List.append_nil, List.length_cons, List.length_nil, atI_0, atI_1, atI_2, atI_3, atI_4, atI_5, ixN_30, ixN_31, ixN_32, decide_eq_true_eq, Bool.not_true, Bool.not_false, Bool.true_and, Bool.false_and, Bool.and_true, Bool.and_false, Bool.or_true, Bool.true_or, Bool.or_false, Bool.false_or, Bool.false_eq_true, ↓reduceIte, decide_true, decide_false, reduceCtorEq, Nat.reduceAdd, Nat.reduceSub, Nat.reduceEqDiff, fFrz, atM, setM]
    unfold m_law_due
    rw [run_rt (s := .d (.list (dl w es))) (M' := M ++ [.gone]), et]
    show fSeq _ _ [some (.d (tabT folk es)), some (.d (.str w)), none, none, none] M = _
    rw [seq_nx e0, seq_nx ((for_src e2).trans e1)]
    exact e3
  · rcases hc with rfl | rfl
    · exact .inr rfl
    · exact .inl (by simp)
/-! lists for tuples -/
theorem lists_leaf {n : Nat} {x : PyData} {M : Mem} (h : (∃ i, x = .int i) ∨ ∃ z, x = .str z) : m_law_lists (n + 1) [.d x] M = some (.d x, M) := by
  rcases h with ⟨i, rfl⟩ | ⟨z, rfl⟩
  · simp only [m_law_lists, runF, fVar, fC, fOp, fUn, fTru, fBool, fNotT, fAndT, fOrT, fAndV, fOrV, fNotV, fIf, fNil, fCons, fTup, fLst, fLstM, mkT, mkL, fCB, fCall, fCallK, arity, fSl, fNoP, fPart, fIsi, fIsi2, fNext, fSeq, fBreak, fCont, fRet, fRetN, fExpr, fIfS, fAsg, fPar, tgName, tgNil, tgCons, tgTup, tgSeq, tgSub, fBM, fFor, fLc, fLcM, fRng1, fRng2, fItS, fZip, fYes, fChain, boolOf, truth, intOf, gI, gIC, gAdd, Z.gSub, gMul, gDiv, gMod, gLt, gLe, gGt, gGe, gNeg, gEq, gNe, gIsN, gNotN, isN, gIn, gIx, gSl, gLen, gAbs, gInt, gMin2, gMax2, gListOf, gListM, gTupOf, gAll, gAny, boolsOf, gApp, stL, tyOk, tyS, isTy, rdD, seqD, seqOf, lstOf, tupOf, allD, allD_map, eqD_ii, eqD_ss, eqD_bb, eqD_nn, eqD_in, eqD_ni, eqD_bn, eqD_nb, eqD_sn, eqD_ns, eqD_is, eqD_si, eqD_bs, eqD_sb, eqD_tt, eqD_ll, gpm, ↓to_bnd, ↓to_bmp, bnd_some, bnd_none, bmp_some, bmp_none, List.getElem?_cons_zero, List.getElem?_cons_succ, List.set_cons_zero, List.set_cons_succ, List.map_cons, List.map_nil, List.replicate, List.cons_append, List.nil_append, List.append_nil, List.length_cons, List.length_nil, atI_0, atI_1, atI_2, atI_3, atI_4, atI_5, ixN_30, ixN_31, ixN_32, decide_eq_true_eq, Bool.not_true, Bool.not_false, Bool.true_and, Bool.false_and, Bool.and_true, Bool.and_false, Bool.or_true, Bool.true_or, Bool.or_false, Bool.false_or, Bool.false_eq_true, ↓reduceIte, decide_true, decide_false, reduceCtorEq, Nat.reduceAdd, Nat.reduceSub, Nat.reduceEqDiff, trunc_same]
  · simp only [m_law_lists, runF, fVar, fC, fOp, fUn, fTru, fBool, fNotT, fAndT, fOrT, fAndV, fOrV, fNotV, fIf, fNil, fCons, fTup, fLst, fLstM, mkT, mkL, fCB, fCall, fCallK, arity, fSl, fNoP, fPart, fIsi, fIsi2, fNext, fSeq, fBreak, fCont, fRet, fRetN, fExpr, fIfS, fAsg, fPar, tgName, tgNil, tgCons, tgTup, tgSeq, tgSub, fBM, fFor, fLc, fLcM, fRng1, fRng2, fItS, fZip, fYes, fChain, boolOf, truth, intOf, gI, gIC, gAdd, Z.gSub, gMul, gDiv, gMod, gLt, gLe, gGt, gGe, gNeg, gEq, gNe, gIsN, gNotN, isN, gIn, gIx, gSl, gLen, gAbs, gInt, gMin2, gMax2, gListOf, gListM, gTupOf, gAll, gAny, boolsOf, gApp, stL, tyOk, tyS, isTy, rdD, seqD, seqOf, lstOf, tupOf, allD, allD_map, eqD_ii, eqD_ss, eqD_bb, eqD_nn, eqD_in, eqD_ni, eqD_bn, eqD_nb, eqD_sn, eqD_ns, eqD_is, eqD_si, eqD_bs, eqD_sb, eqD_tt, eqD_ll, gpm, ↓to_bnd, ↓to_bmp, bnd_some, bnd_none, bmp_some, bmp_none, List.getElem?_cons_zero, List.getElem?_cons_succ, List.set_cons_zero, List.set_cons_succ, List.map_cons, List.map_nil, List.replicate, List.cons_append, List.nil_append, List.append_nil, List.length_cons, List.length_nil, atI_0, atI_1, atI_2, atI_3, atI_4, atI_5, ixN_30, ixN_31, ixN_32, decide_eq_true_eq, Bool.not_true, Bool.not_false, Bool.true_and, Bool.false_and, Bool.and_true, Bool.and_false, Bool.or_true, Bool.true_or, Bool.or_false, Bool.false_or, Bool.false_eq_true, ↓reduceIte, decide_true, decide_false, reduceCtorEq, Nat.reduceAdd, Nat.reduceSub, Nat.reduceEqDiff, trunc_same]
theorem lists_tup {n : Nat} {xs : List PyData} {M : Mem} (φ : PyData → PyData) (h : ∀ x ∈ xs, m_law_lists n [.d x] M = some (.d (φ x), M)) (hz : xs.length ≤ sizeLine) :
    m_law_lists (n + 1) [.d (.tuple xs)] M = some (.d (.list (xs.map φ)), M) := by
  have e := lcF_map (kp := none) (all := xs.map .d) (vs := [1]) (g := tgName 1) (tt := fYes) (te := fCall 1 (m_law_lists n) (fCons (fVar 1) fNil)) (Γ := [some (.d (.tuple xs)), none]) (M := M) kept_none (fun _ => true) (fun s => match s with | .d x => .d (φ x) | s => s) (xs.map .d) [] (fun s hs => by
    obtain ⟨x, hx, rfl⟩ := List.mem_map.mp hs
    refine ⟨[some (.d (.tuple xs)), some (.d x)], by simp only [fVar, fC, fOp, fUn, fTru, fBool, fNotT, fAndT, fOrT, fAndV, fOrV, fNotV, fIf, fNil, fCons, fTup, fLst, fLstM, mkT, mkL, fCB, fCall, fCallK, arity, fSl, fNoP, fPart, fIsi, fIsi2, fNext, fSeq, fBreak, fCont, fRet, fRetN, fExpr, fIfS, fAsg, fPar, tgName, tgNil, tgCons, tgTup, tgSeq, tgSub, fBM, fFor, fLc, fLcM, fRng1, fRng2, fItS, fZip, fYes, fChain, boolOf, truth, intOf, gI, gIC, gAdd, Z.gSub, gMul, gDiv, gMod, gLt, gLe, gGt, gGe, gNeg, gEq, gNe, gIsN, gNotN, isN, gIn, gIx, gSl, gLen, gAbs, gInt, gMin2, gMax2, gListOf, gListM, gTupOf, gAll, gAny, boolsOf, gApp, stL, tyOk, tyS, isTy, rdD, seqD, seqOf, lstOf, tupOf, allD, allD_map, eqD_ii, eqD_ss, eqD_bb, eqD_nn, eqD_in, eqD_ni, eqD_bn, eqD_nb, eqD_sn, eqD_ns, eqD_is, eqD_si, eqD_bs, eqD_sb, eqD_tt, eqD_ll, gpm, ↓to_bnd, ↓to_bmp, bnd_some, bnd_none, bmp_some, bmp_none, List.getElem?_cons_zero, List.getElem?_cons_succ, List.set_cons_zero, List.set_cons_succ, List.map_cons, List.map_nil, List.replicate, List.cons_append, List.nil_append, List.append_nil, List.length_cons, List.length_nil, atI_0, atI_1, atI_2, atI_3, atI_4, atI_5, ixN_30, ixN_31, ixN_32, decide_eq_true_eq, Bool.not_true, Bool.not_false, Bool.true_and, Bool.false_and, Bool.and_true, Bool.and_false, Bool.or_true, Bool.true_or, Bool.or_false, Bool.false_or, Bool.false_eq_true, ↓reduceIte, decide_true, decide_false, reduceCtorEq, Nat.reduceAdd, Nat.reduceSub, Nat.reduceEqDiff, wipeG], by simp only [fVar, fC, fOp, fUn, fTru, fBool, fNotT, fAndT, fOrT, fAndV, fOrV, fNotV, fIf, fNil, fCons, fTup, fLst, fLstM, mkT, mkL, fCB, fCall, fCallK, arity, fSl, fNoP, fPart, fIsi, fIsi2, fNext, fSeq, fBreak, fCont, fRet, fRetN, fExpr, fIfS, fAsg, fPar, tgName, tgNil, tgCons, tgTup, tgSeq, tgSub, fBM, fFor, fLc, fLcM, fRng1, fRng2, fItS, fZip, fYes, fChain, boolOf, truth, intOf, gI, gIC, gAdd, Z.gSub, gMul, gDiv, gMod, gLt, gLe, gGt, gGe, gNeg, gEq, gNe, gIsN, gNotN, isN, gIn, gIx, gSl, gLen, gAbs, gInt, gMin2, gMax2, gListOf, gListM, gTupOf, gAll, gAny, boolsOf, gApp, stL, tyOk, tyS, isTy, rdD, seqD, seqOf, lstOf, tupOf, allD, allD_map, eqD_ii, eqD_ss, eqD_bb, eqD_nn, eqD_in, eqD_ni, eqD_bn, eqD_nb, eqD_sn, eqD_ns, eqD_is, eqD_si, eqD_bs, eqD_sb, eqD_tt, eqD_ll, gpm, ↓to_bnd, ↓to_bmp, bnd_some, bnd_none, bmp_some, bmp_none, List.getElem?_cons_zero, List.getElem?_cons_succ, List.set_cons_zero, List.set_cons_succ, List.map_cons, List.map_nil, List.replicate, List.cons_append, List.nil_append, List.append_nil, List.length_cons, List.length_nil, atI_0, atI_1, atI_2, atI_3, atI_4, atI_5, ixN_30, ixN_31, ixN_32, decide_eq_true_eq, Bool.not_true, Bool.not_false, Bool.true_and, Bool.false_and, Bool.and_true, Bool.and_false, Bool.or_true, Bool.true_or, Bool.or_false, Bool.false_or, Bool.false_eq_true, ↓reduceIte, decide_true, decide_false, reduceCtorEq, Nat.reduceAdd, Nat.reduceSub, Nat.reduceEqDiff], fun _ => ?_⟩
    simp only [fVar, fC, fOp, fUn, fTru, fBool, fNotT, fAndT, fOrT, fAndV, fOrV, fNotV, fIf, fNil, fCons, fTup, fLst, fLstM, mkT, mkL, fCB, fCall, fCallK, arity, fSl, fNoP, fPart, fIsi, fIsi2, fNext, fSeq, fBreak, fCont, fRet, fRetN, fExpr, fIfS, fAsg, fPar, tgName, tgNil, tgCons, tgTup, tgSeq, tgSub, fBM, fFor, fLc, fLcM, fRng1, fRng2, fItS, fZip, fYes, fChain, boolOf, truth, intOf, gI, gIC, gAdd, Z.gSub, gMul, gDiv, gMod, gLt, gLe, gGt, gGe, gNeg, gEq, gNe, gIsN, gNotN, isN, gIn, gIx, gSl, gLen, gAbs, gInt, gMin2, gMax2, gListOf, gListM, gTupOf, gAll, gAny, boolsOf, gApp, stL, tyOk, tyS, isTy, rdD, seqD, seqOf, lstOf, tupOf, allD, allD_map, eqD_ii, eqD_ss, eqD_bb, eqD_nn, eqD_in, eqD_ni, eqD_bn, eqD_nb, eqD_sn, eqD_ns, eqD_is, eqD_si, eqD_bs, eqD_sb, eqD_tt, eqD_ll, gpm, ↓to_bnd, ↓to_bmp, bnd_some, bnd_none, bmp_some, bmp_none, List.getElem?_cons_zero, List.getElem?_cons_succ, List.set_cons_zero, List.set_cons_succ, List.map_cons, List.map_nil, List.replicate, List.cons_append, List.nil_append, List.append_nil, List.length_cons, List.length_nil, atI_0, atI_1, atI_2, atI_3, atI_4, atI_5, ixN_30, ixN_31, ixN_32, decide_eq_true_eq, Bool.not_true, Bool.not_false, Bool.true_and, Bool.false_and, Bool.and_true, Bool.and_false, Bool.or_true, Bool.true_or, Bool.or_false, Bool.false_or, Bool.false_eq_true, ↓reduceIte, decide_true, decide_false, reduceCtorEq, Nat.reduceAdd, Nat.reduceSub, Nat.reduceEqDiff, h x hx]) (by simpa using hz)
  rw [List.filter_eq_self.mpr (fun _ _ => rfl), List.map_map, List.nil_append] at e
  have e2 : allD (xs.map ((fun s => match s with | .d x => SV.d (φ x) | s => s) ∘ SV.d)) = some (xs.map φ) := allD_mapf φ xs
  simp only [m_law_lists, runF, fVar, fC, fOp, fUn, fTru, fBool, fNotT, fAndT, fOrT, fAndV, fOrV, fNotV, fIf, fNil, fCons, fTup, fLst, fLstM, mkT, mkL, fCB, fCall, fCallK, arity, fSl, fNoP, fPart, fIsi, fIsi2, fNext, fSeq, fBreak, fCont, fRet, fRetN, fExpr, fIfS, fAsg, fPar, tgName, tgNil, tgCons, tgTup, tgSeq, tgSub, fBM, fFor, fLc, fLcM, fRng1, fRng2, fItS, fZip, fYes, fChain, boolOf, truth, intOf, gI, gIC, gAdd, Z.gSub, gMul, gDiv, gMod, gLt, gLe, gGt, gGe, gNeg, gEq, gNe, gIsN, gNotN, isN, gIn, gIx, gSl, gLen, gAbs, gInt, gMin2, gMax2, gListOf, gListM, gTupOf, gAll, gAny, boolsOf, gApp, stL, tyOk, tyS, isTy, rdD, seqD, seqOf, lstOf, tupOf, allD, allD_map, eqD_ii, eqD_ss, eqD_bb, eqD_nn, eqD_in, eqD_ni, eqD_bn, eqD_nb, eqD_sn, eqD_ns, eqD_is, eqD_si, eqD_bs, eqD_sb, eqD_tt, eqD_ll, gpm, ↓to_bnd, ↓to_bmp, bnd_some, bnd_none, bmp_some, bmp_none, List.getElem?_cons_zero, List.getElem?_cons_succ, List.set_cons_zero, List.set_cons_succ, List.map_cons, List.map_nil, List.replicate, List.cons_append, List.nil_append, List.append_nil, List.length_cons, List.length_nil, atI_0, atI_1, atI_2, atI_3, atI_4, atI_5, ixN_30, ixN_31, ixN_32, decide_eq_true_eq, Bool.not_true, Bool.not_false, Bool.true_and, Bool.false_and, Bool.and_true, Bool.and_false, Bool.or_true, Bool.true_or, Bool.or_false, Bool.false_or, Bool.false_eq_true, ↓reduceIte, decide_true, decide_false, reduceCtorEq, Nat.reduceAdd, Nat.reduceSub, Nat.reduceEqDiff, e, e2, trunc_same]
def lv (x : PyData) : PyData := match x with | .tuple xs => .list xs | x => x
def lw (x : PyData) : PyData := match x with | .tuple xs => .list (xs.map lv) | x => x
theorem lists_ok {M : Mem} {folk : Int} {es : List Ev} (hz : es.length ≤ 16) : m_law_lists 6 [.d (tabT folk es)] M = some (.d (tabL folk es), M) := by
  have z2 : 2 ≤ sizeLine := by decide
  have z16 : (16 : Nat) ≤ sizeLine := by decide
  have ev : ∀ e : Ev, m_law_lists 4 [.d (evT e)] M = some (.d (evL e), M) := fun e => by
    have q := lists_tup (n := 3) (xs := e.ps) (M := M) id (fun x hx => by
      unfold Ev.ps at hx
      rcases List.mem_cons.mp hx with rfl | hx
      · exact lists_leaf (.inr ⟨_, rfl⟩)
      · rcases List.mem_cons.mp hx with rfl | hx
        · exact lists_leaf (.inl ⟨_, rfl⟩)
        · cases e2 : e.q with
          | none => rw [e2] at hx; cases hx
          | some i =>
            rw [e2] at hx
            rw [List.mem_singleton.mp hx]
            exact lists_leaf (.inl ⟨_, rfl⟩)) (by
      unfold Ev.ps
      cases e.q with
      | none => exact z2
      | some i => exact (by decide : 3 ≤ sizeLine))
    rw [List.map_id] at q
    exact q
  have evs : m_law_lists 5 [.d (.tuple (es.map evT))] M = some (.d (.list (es.map evL)), M) := by
    have q := lists_tup (n := 4) (xs := es.map evT) (M := M) lv (fun x hx => by
      obtain ⟨e, _, rfl⟩ := List.mem_map.mp hx
      exact ev e) (by rw [List.length_map]; exact Nat.le_trans hz z16)
    rw [List.map_map] at q
    exact q
  have top := lists_tup (n := 5) (xs := [.int folk, .tuple (es.map evT)]) (M := M) (fun x => match x with | .tuple _ => .list (es.map evL) | x => x) (fun x hx => by
    rcases List.mem_cons.mp hx with rfl | hx
    · exact lists_leaf (.inl ⟨_, rfl⟩)
    · rw [List.mem_singleton.mp hx]
      exact evs) z2
  exact top
/-! what is told is what is due -/
theorem snapAll_d {f : SV → Option PyData} (h : ∀ x, f (.d x) = some x) : ∀ ds : List PyData, snapAll f (ds.map .d) = some ds
  | [] => rfl
  | x :: r => by
    show ((f (.d x)).bind fun d => (snapAll f (r.map .d)).map fun ds => d :: ds) = _
    rw [h, snapAll_d h r]
    rfl
theorem snap_lst {k n : Nat} {M : Mem} {ds : List PyData} (h : M[n]? = some (.lst (ds.map .d))) : snap (k + 1) M (.loc n) = some (.list ds) := by
  have q : ∀ x, snap k M (.d x) = some x := fun x => by cases k <;> rfl
  simp only [snap, h, snapAll_d q]
  rfl
theorem bor_ok {t : Fa} {Γ : Gm} {M M' : Mem} {s : SV} {y : PyData} (e : t Γ M = some ([s, .d y], M')) (h : snap 4 M' s = some y) (hp : ZL.plainD 6 y = true) : fBor 2 (m_law_same 6) t Γ M = some (.d (.bool true), M') := by
  have e2 := ZL.same_refl 6 y (M'.map fun _ => MO.gone) hp
  rw [← same_eq] at e2
  have e3 : snap 4 M' (.d y) = some y := rfl
  unfold fBor
  rw [e]
  simp only [Option.bind_some, snapAll, h, e3, Option.map_some, arity, List.map_cons, List.map_nil, List.length_cons, List.length_nil, Nat.reduceAdd, ↓reduceIte, e2]
theorem dl_plain (n : Nat) (w : Str) (es : List Ev) (hz : es.length ≤ 16) : ZL.plainD (n + 3) (.list (dl w es)) = true := by
  have z2 : 2 ≤ sizeLine := by decide
  have z16 : (16 : Nat) ≤ sizeLine := by decide
  have hl : (dl w es).length ≤ 16 := by
    unfold dl
    rw [List.length_map]
    refine Nat.le_trans (List.length_filter_le _ _) ?_
    rw [List.length_range]
    exact hz
  unfold ZL.plainD
  rw [Bool.and_eq_true]
  refine ⟨decide_eq_true (Nat.le_trans hl z16), List.all_eq_true.mpr fun x hx => ?_⟩
  unfold dl at hx
  obtain ⟨i, _, rfl⟩ := List.mem_map.mp hx
  unfold ZL.plainD
  rw [Bool.and_eq_true]
  refine ⟨decide_eq_true z2, ?_⟩
  simp [ZL.plainD]
theorem canAll {f : Ev → PyData} : ∀ es : List Ev, (∀ e ∈ es, (f e).canLay0 = true) → PyData.canLayAll0 (es.map f) = true
  | [], _ => rfl
  | e :: es, h => by simp [PyData.canLayAll0, h e List.mem_cons_self, canAll es fun y hy => h y (List.mem_cons_of_mem _ hy)]
theorem depAll {f : Ev → PyData} {n : Nat} (h : ∀ e, (f e).depth ≤ n) : ∀ es : List Ev, PyData.depthAll (es.map f) ≤ n
  | [] => Nat.zero_le _
  | e :: es => by
    simp only [List.map_cons, PyData.depthAll]
    exact Nat.max_le.mpr ⟨h e, depAll h es⟩
theorem evL_can (e : Ev) (h : EvOk e) : (evL e).canLay0 = true := by
  have hw : PyData.strOk e.w = true := by
    rcases h with ⟨_, h | h⟩ | ⟨_, h | h⟩ <;> rw [h] <;> decide +kernel
  unfold evL Ev.ps
  cases e.q <;> simp [PyData.canLay0, PyData.canLayAll0, hw]
theorem evL_dep (e : Ev) : (evL e).depth ≤ 1 := by
  unfold evL Ev.ps
  cases e.q <;> simp [PyData.depth, PyData.depthAll]
theorem tabL_eq (folk : Int) (es : List Ev) (ho : ∀ e ∈ es, EvOk e) : eqD (tabL folk es) (tabL folk es) = some true := eqD_refl (by
  have h1 := canAll es fun e he => evL_can e (ho e he)
  have h2 := depAll evL_dep es
  unfold tabL SeqAt.shaped
  simp only [PyData.canLay0, PyData.canLayAll0, PyData.depth, PyData.depthAll, h1, Bool.and_eq_true, decide_eq_true_eq, Bool.and_self, true_and]
  exact decide_eq_true (by omega))
theorem at_app (M G : Mem) (i : Nat) : (M ++ G)[M.length + i]? = G[i]? := by
  rw [List.getElem?_append_right (Nat.le_add_right _ _), Nat.add_sub_cancel_left]
theorem set_app (M G : Mem) (i : Nat) (o : MO) : (M ++ G).set (M.length + i) o = M ++ G.set i o := by
  rw [List.set_append_right _ _ (Nat.le_add_right _ _), Nat.add_sub_cancel_left]
theorem turn_ok {M : Mem} {l : Nat} {n : Int} {g1 g2 g3 g4 g5 : Option SV} (hB : ZL.BoxOk M l n) (hn : n < 2 ^ 19) :
    ∃ g2' g3' g4' g5' M', b1_law_right [some (.loc l), g1, g2, g3, g4, g5] M = some (.nx [some (.loc l), g1, g2', g3', g4', g5'], M') ∧ Go M l (n + 50) M' := by
  have hl := box_lt hB
  obtain ⟨p, M1, p0, p1, e1, D1⟩ := ZL.take_ok (k := 5) hB (by omega) (by decide) (by decide)
  obtain ⟨q, M2, q0, q1, e2, D2⟩ := ZL.take_ok (k := 17) D1.box (by omega) (by decide) (by decide)
  rw [← take_eq] at e1 e2
  obtain ⟨m, rfl⟩ : ∃ m : Nat, q = m := ⟨q.toNat, by omega⟩
  have hm : m ≤ 16 := by omega
  obtain ⟨es, M3, e3, ho, hz, G3⟩ := table_ok (folk := 1 + p) (many := m) D2.box (by omega) (by omega) (by omega) hm
  obtain ⟨M4, e4, h4⟩ := due_ok (M := M3) (w := "look") (folk := 1 + p) hz
  obtain ⟨M5, e5, h5⟩ := due_ok (M := M4) (w := "add") (folk := 1 + p) hz
  have G5 : Go M l (n + 50) M5 := by
    have q : ∀ (A B : Mem), (B = A ∨ B = A ++ [.gone]) → ∀ k, ZL.BoxOk A l k → Go A l k B := fun A B h k hb => by
      rcases h with rfl | rfl
      · exact Go.refl hb
      · exact Go.app hb _
    have g3 : Go M l (n + 50) M3 := (((Go.of hl D1).trans (Go.of (box_lt D1.box) D2)).trans G3).mono (by omega)
    have g4 := g3.trans (q M3 M4 h4 _ g3.box)
    exact g4.trans (q M4 M5 h5 _ g4.box)
  generalize hT : tabT (1 + p) es = T at *
  have e6 : m_law_lists 6 [.d T] M3 = some (.d (tabL (1 + p) es), M3) := by rw [← hT]; exact lists_ok hz
  have e6' : ∀ N, m_law_lists 6 [.d T] N = some (.d (tabL (1 + p) es), N) := fun N => by rw [← hT]; exact lists_ok hz
  have lT : ∀ N, m_looks [.d T] N = some (.loc N.length, N ++ [.lst ((dl "look" es).map .d)]) := fun N => by rw [← hT]; exact looksT hz
  have aT : ∀ N, m_adds [.d T] N = some (.loc N.length, N ++ [.lst ((dl "add" es).map .d)]) := fun N => by rw [← hT]; exact addsT hz
  have lL : ∀ N, m_looks [.d (tabL (1 + p) es)] N = some (.loc N.length, N ++ [.lst ((dl "look" es).map .d)]) := fun N => looksL hz
  have aL : ∀ N, m_adds [.d (tabL (1 + p) es)] N = some (.loc N.length, N ++ [.lst ((dl "add" es).map .d)]) := fun N => addsL hz
  have eqS := tabL_eq (1 + p) es ho
  generalize hS : tabL (1 + p) es = S at *
  have plL := dl_plain 2 "look" es hz
  have plA := dl_plain 2 "add" es hz
  have lsz : (dl "look" es).length < sizeLine := Nat.lt_of_le_of_lt (m := 16) (by
    unfold dl
    rw [List.length_map]
    refine Nat.le_trans (List.length_filter_le _ _) ?_
    rw [List.length_range]
    exact hz) (by decide)
  have asz : (dl "add" es).length < sizeLine := Nat.lt_of_le_of_lt (m := 16) (by
    unfold dl
    rw [List.length_map]
    refine Nat.le_trans (List.length_filter_le _ _) ?_
    rw [List.length_range]
    exact hz) (by decide)
  generalize dl "look" es = dL at *
  generalize dl "add" es = dA at *
  have z2 : 2 ≤ sizeLine := by decide
  have z4 : 4 ≤ sizeLine := by decide
  have pl2 : ZL.plainD 6 (.list [.list dL, .list dA]) = true := by
    rw [show ZL.plainD 6 (.list [.list dL, .list dA]) = (decide (2 ≤ sizeLine) && (ZL.plainD 5 (.list dL) && (ZL.plainD 5 (.list dA) && true))) from rfl, plL, plA, decide_eq_true z2]
    rfl
  have pl4 : ZL.plainD 6 (.list [.list dL, .list dA, .list dL, .list dA]) = true := by
    rw [show ZL.plainD 6 (.list [.list dL, .list dA, .list dL, .list dA]) = (decide (4 ≤ sizeLine) && (ZL.plainD 5 (.list dL) && (ZL.plainD 5 (.list dA) && (ZL.plainD 5 (.list dL) && (ZL.plainD 5 (.list dA) && true))))) from rfl, plL, plA, decide_eq_true z4]
    rfl
  have s1 : fAsg (fCall 4 m_law_table (fCons (fVar 0) (fCons (fOp gAdd (fC (.int 1)) (fCall 2 m_law_take (fCons (fVar 0) (fCons (fC (.int 5)) fNil)))) (fCons (fCall 2 m_law_take (fCons (fVar 0) (fCons (fC (.int 17)) fNil))) (fCons (fC (.str "llaammt")) fNil))))) (tgName 2) [some (.loc l), g1, g2, g3, g4, g5] M =
      some (.nx [some (.loc l), g1, some (.d T), g3, g4, g5], M3) := by
    simp only [fVar, fC, fOp, fUn, fTru, fBool, fNotT, fAndT, fOrT, fAndV, fOrV, fNotV, fIf, fNil, fCons, fTup, fLst, fLstM, mkT, mkL, fCB, fCall, fCallK, arity, fSl, fNoP, fPart, fIsi, fIsi2, fNext, fSeq, fBreak, fCont, fRet, fRetN, fExpr, fIfS, fAsg, fPar, tgName, tgNil, tgCons, tgTup, tgSeq, tgSub, fBM, fFor, fLc, fLcM, fRng1, fRng2, fItS, fZip, fYes, fChain, boolOf, truth, intOf, gI, gIC, gAdd, Z.gSub, gMul, gDiv, gMod, gLt, gLe, gGt, gGe, gNeg, gEq, gNe, gIsN, gNotN, isN, gIn, gIx, gSl, gLen, gAbs, gInt, gMin2, gMax2, gListOf, gListM, gTupOf, gAll, gAny, boolsOf, gApp, stL, tyOk, tyS, isTy, rdD, seqD, seqOf, lstOf, tupOf, allD, allD_map, eqD_ii, eqD_ss, eqD_bb, eqD_nn, eqD_in, eqD_ni, eqD_bn, eqD_nb, eqD_sn, eqD_ns, eqD_is, eqD_si, eqD_bs, eqD_sb, eqD_tt, eqD_ll, gpm, ↓to_bnd, ↓to_bmp, bnd_some, bnd_none, bmp_some, bmp_none, List.getElem?_cons_zero, List.getElem?_cons_succ, List.set_cons_zero, List.set_cons_succ, List.map_cons, List.map_nil, List.replicate, List.cons_append, List.nil_append, List.append_nil, List.length_cons, List.length_nil, atI_0, atI_1, atI_2, atI_3, atI_4, atI_5, ixN_30, ixN_31, ixN_32, decide_eq_true_eq, Bool.not_true, Bool.not_false, Bool.true_and, Bool.false_and, Bool.and_true, Bool.and_false, Bool.or_true, Bool.true_or, Bool.or_false, Bool.false_or, Bool.false_eq_true, ↓reduceIte, decide_true, decide_false, reduceCtorEq, Nat.reduceAdd, Nat.reduceSub, Nat.reduceEqDiff, e1, e2, e3]
  have s2 : fPar 3 4 (fCons (fCall 1 (m_law_lists 6) (fCons (fVar 2) fNil)) (fCons (fLst (fCons (fCall 2 m_law_due (fCons (fVar 2) (fCons (fC (.str "look")) fNil))) (fCons (fCall 2 m_law_due (fCons (fVar 2) (fCons (fC (.str "add")) fNil))) fNil))) fNil)) [some (.loc l), g1, some (.d T), g3, g4, g5] M3 =
      some (.nx [some (.loc l), g1, some (.d T), some (.d S), some (.d (.list [.list dL, .list dA])), g5], M5) := by
    simp only [fVar, fC, fOp, fUn, fTru, fBool, fNotT, fAndT, fOrT, fAndV, fOrV, fNotV, fIf, fNil, fCons, fTup, fLst, fLstM, mkT, mkL, fCB, fCall, fCallK, arity, fSl, fNoP, fPart, fIsi, fIsi2, fNext, fSeq, fBreak, fCont, fRet, fRetN, fExpr, fIfS, fAsg, fPar, tgName, tgNil, tgCons, tgTup, tgSeq, tgSub, fBM, fFor, fLc, fLcM, fRng1, fRng2, fItS, fZip, fYes, fChain, boolOf, truth, intOf, gI, gIC, gAdd, Z.gSub, gMul, gDiv, gMod, gLt, gLe, gGt, gGe, gNeg, gEq, gNe, gIsN, gNotN, isN, gIn, gIx, gSl, gLen, gAbs, gInt, gMin2, gMax2, gListOf, gListM, gTupOf, gAll, gAny, boolsOf, gApp, stL, tyOk, tyS, isTy, rdD, seqD, seqOf, lstOf, tupOf, allD, allD_map, eqD_ii, eqD_ss, eqD_bb, eqD_nn, eqD_in, eqD_ni, eqD_bn, eqD_nb, eqD_sn, eqD_ns, eqD_is, eqD_si, eqD_bs, eqD_sb, eqD_tt, eqD_ll, gpm, ↓to_bnd, ↓to_bmp, bnd_some, bnd_none, bmp_some, bmp_none, List.getElem?_cons_zero, List.getElem?_cons_succ, List.set_cons_zero, List.set_cons_succ, List.map_cons, List.map_nil, List.replicate, List.cons_append, List.nil_append, List.append_nil, List.length_cons, List.length_nil, atI_0, atI_1, atI_2, atI_3, atI_4, atI_5, ixN_30, ixN_31, ixN_32, decide_eq_true_eq, Bool.not_true, Bool.not_false, Bool.true_and, Bool.false_and, Bool.and_true, Bool.and_false, Bool.or_true, Bool.true_or, Bool.or_false, Bool.false_or, Bool.false_eq_true, ↓reduceIte, decide_true, decide_false, reduceCtorEq, Nat.reduceAdd, Nat.reduceSub, Nat.reduceEqDiff, e6, e4, e5, z2]
  have ap : ∀ (N : Mem) (x y : MO), N ++ [x] ++ [y] = N ++ [x, y] := fun N x y => by simp
  have s3 : fAsg (fLstM (fCons (fCall 1 m_looks (fCons (fVar 2) fNil)) (fCons (fCall 1 m_adds (fCons (fVar 2) fNil)) (fCons (fCallK 1 0 [0] m_looks fNil (fCons (fVar 3) fNil)) (fCons (fCallK 1 0 [0] m_adds fNil (fCons (fVar 3) fNil)) fNil))))) (tgName 5) [some (.loc l), g1, some (.d T), some (.d S), some (.d (.list [.list dL, .list dA])), g5] M5 =
      some (.nx [some (.loc l), g1, some (.d T), some (.d S), some (.d (.list [.list dL, .list dA])), some (.loc (M5.length + 4))], M5 ++ [.lst (dL.map .d), .lst (dA.map .d), .lst (dL.map .d), .lst (dA.map .d), .lst [.loc M5.length, .loc (M5.length + 1), .loc (M5.length + 2), .loc (M5.length + 3)]]) := by
    have p1 : ∀ x : SV, List.filterMap (fun i => [x][i]?) [0] = [x] := fun _ => rfl
    simp only [fVar, fC, fOp, fUn, fTru, fBool, fNotT, fAndT, fOrT, fAndV, fOrV, fNotV, fIf, fNil, fCons, fTup, fLst, fLstM, mkT, mkL, fCB, fCall, fCallK, arity, fSl, fNoP, fPart, fIsi, fIsi2, fNext, fSeq, fBreak, fCont, fRet, fRetN, fExpr, fIfS, fAsg, fPar, tgName, tgNil, tgCons, tgTup, tgSeq, tgSub, fBM, fFor, fLc, fLcM, fRng1, fRng2, fItS, fZip, fYes, fChain, boolOf, truth, intOf, gI, gIC, gAdd, Z.gSub, gMul, gDiv, gMod, gLt, gLe, gGt, gGe, gNeg, gEq, gNe, gIsN, gNotN, isN, gIn, gIx, gSl, gLen, gAbs, gInt, gMin2, gMax2, gListOf, gListM, gTupOf, gAll, gAny, boolsOf, gApp, stL, tyOk, tyS, isTy, rdD, seqD, seqOf, lstOf, tupOf, allD, allD_map, eqD_ii, eqD_ss, eqD_bb, eqD_nn, eqD_in, eqD_ni, eqD_bn, eqD_nb, eqD_sn, eqD_ns, eqD_is, eqD_si, eqD_bs, eqD_sb, eqD_tt, eqD_ll, gpm, ↓to_bnd, ↓to_bmp, bnd_some, bnd_none, bmp_some, bmp_none, List.getElem?_cons_zero, List.getElem?_cons_succ, List.set_cons_zero, List.set_cons_succ, List.map_cons, List.map_nil, List.replicate, List.cons_append, List.nil_append, List.append_nil, List.length_cons, List.length_nil, atI_0, atI_1, atI_2, atI_3, atI_4, atI_5, ixN_30, ixN_31, ixN_32, decide_eq_true_eq, Bool.not_true, Bool.not_false, Bool.true_and, Bool.false_and, Bool.and_true, Bool.and_false, Bool.or_true, Bool.true_or, Bool.or_false, Bool.false_or, Bool.false_eq_true, ↓reduceIte, decide_true, decide_false, reduceCtorEq, Nat.reduceAdd, Nat.reduceSub, Nat.reduceEqDiff, lT, aT, lL, aL, p1, z4, List.length_append, List.append_assoc]
  have A0 := fun (G : Mem) => at_app M5 G 0
  have A4 := fun (G : Mem) => at_app M5 G 4
  rw [Nat.add_zero] at A0
  have S0 := fun (G : Mem) (o : MO) => set_app M5 G 0 o
  rw [Nat.add_zero] at S0
  have b1 : fBor 2 (m_law_same 6) (fCons (fVar 5) (fCons (fOp gAdd (fVar 4) (fVar 4)) fNil)) [some (.loc l), g1, some (.d T), some (.d S), some (.d (.list [.list dL, .list dA])), some (.loc (M5.length + 4))] (M5 ++ [.lst (dL.map .d), .lst (dA.map .d), .lst (dL.map .d), .lst (dA.map .d), .lst [.loc M5.length, .loc (M5.length + 1), .loc (M5.length + 2), .loc (M5.length + 3)]]) =
      some (.d (.bool true), M5 ++ [.lst (dL.map .d), .lst (dA.map .d), .lst (dL.map .d), .lst (dA.map .d), .lst [.loc M5.length, .loc (M5.length + 1), .loc (M5.length + 2), .loc (M5.length + 3)]]) := by
    refine bor_ok (y := .list [.list dL, .list dA, .list dL, .list dA]) (s := .loc (M5.length + 4)) ?_ ?_ pl4
    · simp only [fVar, fC, fOp, fUn, fTru, fBool, fNotT, fAndT, fOrT, fAndV, fOrV, fNotV, fIf, fNil, fCons, fTup, fLst, fLstM, mkT, mkL, fCB, fCall, fCallK, arity, fSl, fNoP, fPart, fIsi, fIsi2, fNext, fSeq, fBreak, fCont, fRet, fRetN, fExpr, fIfS, fAsg, fPar, tgName, tgNil, tgCons, tgTup, tgSeq, tgSub, fBM, fFor, fLc, fLcM, fRng1, fRng2, fItS, fZip, fYes, fChain, boolOf, truth, intOf, gI, gIC, gAdd, Z.gSub, gMul, gDiv, gMod, gLt, gLe, gGt, gGe, gNeg, gEq, gNe, gIsN, gNotN, isN, gIn, gIx, gSl, gLen, gAbs, gInt, gMin2, gMax2, gListOf, gListM, gTupOf, gAll, gAny, boolsOf, gApp, stL, tyOk, tyS, isTy, rdD, seqD, seqOf, lstOf, tupOf, allD, allD_map, eqD_ii, eqD_ss, eqD_bb, eqD_nn, eqD_in, eqD_ni, eqD_bn, eqD_nb, eqD_sn, eqD_ns, eqD_is, eqD_si, eqD_bs, eqD_sb, eqD_tt, eqD_ll, gpm, ↓to_bnd, ↓to_bmp, bnd_some, bnd_none, bmp_some, bmp_none, List.getElem?_cons_zero, List.getElem?_cons_succ, List.set_cons_zero, List.set_cons_succ, List.map_cons, List.map_nil, List.replicate, List.cons_append, List.nil_append, List.append_nil, List.length_cons, List.length_nil, atI_0, atI_1, atI_2, atI_3, atI_4, atI_5, ixN_30, ixN_31, ixN_32, decide_eq_true_eq, Bool.not_true, Bool.not_false, Bool.true_and, Bool.false_and, Bool.and_true, Bool.and_false, Bool.or_true, Bool.true_or, Bool.or_false, Bool.false_or, Bool.false_eq_true, ↓reduceIte, decide_true, decide_false, reduceCtorEq, Nat.reduceAdd, Nat.reduceSub, Nat.reduceEqDiff, z4]
    · have q0 := snap_lst (k := 2) (A0 [.lst (dL.map .d), .lst (dA.map .d), .lst (dL.map .d), .lst (dA.map .d), .lst [.loc M5.length, .loc (M5.length + 1), .loc (M5.length + 2), .loc (M5.length + 3)]])
      have q1 := snap_lst (k := 2) (at_app M5 [.lst (dL.map .d), .lst (dA.map .d), .lst (dL.map .d), .lst (dA.map .d), .lst [.loc M5.length, .loc (M5.length + 1), .loc (M5.length + 2), .loc (M5.length + 3)]] 1)
      have q2 := snap_lst (k := 2) (at_app M5 [.lst (dL.map .d), .lst (dA.map .d), .lst (dL.map .d), .lst (dA.map .d), .lst [.loc M5.length, .loc (M5.length + 1), .loc (M5.length + 2), .loc (M5.length + 3)]] 2)
      have q3 := snap_lst (k := 2) (at_app M5 [.lst (dL.map .d), .lst (dA.map .d), .lst (dL.map .d), .lst (dA.map .d), .lst [.loc M5.length, .loc (M5.length + 1), .loc (M5.length + 2), .loc (M5.length + 3)]] 3)
      rw [snap]
      simp only [A4, List.getElem?_cons_zero, List.getElem?_cons_succ, snapAll, q0, q1, q2, q3, Option.bind_some, Option.map_some]
  have s4 : fIfS (fOrT (fNotT (fTru (fBor 2 (m_law_same 6) (fCons (fVar 5) (fCons (fOp gAdd (fVar 4) (fVar 4)) fNil))))) (fBool (fOp gNe (fVar 3) (fCall 1 (m_law_lists 6) (fCons (fVar 2) fNil))))) (fRet (fC (.bool false))) fNext [some (.loc l), g1, some (.d T), some (.d S), some (.d (.list [.list dL, .list dA])), some (.loc (M5.length + 4))] (M5 ++ [.lst (dL.map .d), .lst (dA.map .d), .lst (dL.map .d), .lst (dA.map .d), .lst [.loc M5.length, .loc (M5.length + 1), .loc (M5.length + 2), .loc (M5.length + 3)]]) =
      some (.nx [some (.loc l), g1, some (.d T), some (.d S), some (.d (.list [.list dL, .list dA])), some (.loc (M5.length + 4))], M5 ++ [.lst (dL.map .d), .lst (dA.map .d), .lst (dL.map .d), .lst (dA.map .d), .lst [.loc M5.length, .loc (M5.length + 1), .loc (M5.length + 2), .loc (M5.length + 3)]]) := by
    simp only [fVar, fC, fOp, fUn, fTru, fBool, fNotT, fAndT, fOrT, fAndV, fOrV, fNotV, fIf, fNil, fCons, fTup, fLst, fLstM, mkT, mkL, fCB, fCall, fCallK, arity, fSl, fNoP, fPart, fIsi, fIsi2, fNext, fSeq, fBreak, fCont, fRet, fRetN, fExpr, fIfS, fAsg, fPar, tgName, tgNil, tgCons, tgTup, tgSeq, tgSub, fBM, fFor, fLc, fLcM, fRng1, fRng2, fItS, fZip, fYes, fChain, boolOf, truth, intOf, gI, gIC, gAdd, Z.gSub, gMul, gDiv, gMod, gLt, gLe, gGt, gGe, gNeg, gEq, gNe, gIsN, gNotN, isN, gIn, gIx, gSl, gLen, gAbs, gInt, gMin2, gMax2, gListOf, gListM, gTupOf, gAll, gAny, boolsOf, gApp, stL, tyOk, tyS, isTy, rdD, seqD, seqOf, lstOf, tupOf, allD, allD_map, eqD_ii, eqD_ss, eqD_bb, eqD_nn, eqD_in, eqD_ni, eqD_bn, eqD_nb, eqD_sn, eqD_ns, eqD_is, eqD_si, eqD_bs, eqD_sb, eqD_tt, eqD_ll, gpm, ↓to_bnd, ↓to_bmp, bnd_some, bnd_none, bmp_some, bmp_none, List.getElem?_cons_zero, List.getElem?_cons_succ, List.set_cons_zero, List.set_cons_succ, List.map_cons, List.map_nil, List.replicate, List.cons_append, List.nil_append, List.append_nil, List.length_cons, List.length_nil, atI_0, atI_1, atI_2, atI_3, atI_4, atI_5, ixN_30, ixN_31, ixN_32, decide_eq_true_eq, Bool.not_true, Bool.not_false, Bool.true_and, Bool.false_and, Bool.and_true, Bool.and_false, Bool.or_true, Bool.true_or, Bool.or_false, Bool.false_or, Bool.false_eq_true, ↓reduceIte, decide_true, decide_false, reduceCtorEq, Nat.reduceAdd, Nat.reduceSub, Nat.reduceEqDiff, b1, e6', eqS]
  have lsz2 : (dL.map SV.d).length < sizeLine := by rw [List.length_map]; exact lsz
  have asz2 : (dA.map SV.d).length < sizeLine := by rw [List.length_map]; exact asz
  have s5 : fExpr (fBM "list" gApp (fOp gIx (fVar 5) (fC (.int 0))) (fCons (fC (.str "more")) fNil)) [some (.loc l), g1, some (.d T), some (.d S), some (.d (.list [.list dL, .list dA])), some (.loc (M5.length + 4))] (M5 ++ [.lst (dL.map .d), .lst (dA.map .d), .lst (dL.map .d), .lst (dA.map .d), .lst [.loc M5.length, .loc (M5.length + 1), .loc (M5.length + 2), .loc (M5.length + 3)]]) =
      some (.nx [some (.loc l), g1, some (.d T), some (.d S), some (.d (.list [.list dL, .list dA])), some (.loc (M5.length + 4))], M5 ++ [.lst (dL.map .d ++ [.d (.str "more")]), .lst (dA.map .d), .lst (dL.map .d), .lst (dA.map .d), .lst [.loc M5.length, .loc (M5.length + 1), .loc (M5.length + 2), .loc (M5.length + 3)]]) := by
    simp only [fVar, fC, fOp, fUn, fTru, fBool, fNotT, fAndT, fOrT, fAndV, fOrV, fNotV, fIf, fNil, fCons, fTup, fLst, fLstM, mkT, mkL, fCB, fCall, fCallK, arity, fSl, fNoP, fPart, fIsi, fIsi2, fNext, fSeq, fBreak, fCont, fRet, fRetN, fExpr, fIfS, fAsg, fPar, tgName, tgNil, tgCons, tgTup, tgSeq, tgSub, fBM, fFor, fLc, fLcM, fRng1, fRng2, fItS, fZip, fYes, fChain, boolOf, truth, intOf, gI, gIC, gAdd, Z.gSub, gMul, gDiv, gMod, gLt, gLe, gGt, gGe, gNeg, gEq, gNe, gIsN, gNotN, isN, gIn, gIx, gSl, gLen, gAbs, gInt, gMin2, gMax2, gListOf, gListM, gTupOf, gAll, gAny, boolsOf, gApp, stL, tyOk, tyS, isTy, rdD, seqD, seqOf, lstOf, tupOf, allD, allD_map, eqD_ii, eqD_ss, eqD_bb, eqD_nn, eqD_in, eqD_ni, eqD_bn, eqD_nb, eqD_sn, eqD_ns, eqD_is, eqD_si, eqD_bs, eqD_sb, eqD_tt, eqD_ll, gpm, ↓to_bnd, ↓to_bmp, bnd_some, bnd_none, bmp_some, bmp_none, List.getElem?_cons_zero, List.getElem?_cons_succ, List.set_cons_zero, List.set_cons_succ, List.map_cons, List.map_nil, List.replicate, List.cons_append, List.nil_append, List.append_nil, List.length_cons, List.length_nil, atI_0, atI_1, atI_2, atI_3, atI_4, atI_5, ixN_30, ixN_31, ixN_32, decide_eq_true_eq, Bool.not_true, Bool.not_false, Bool.true_and, Bool.false_and, Bool.and_true, Bool.and_false, Bool.or_true, Bool.true_or, Bool.or_false, Bool.false_or, Bool.false_eq_true, ↓reduceIte, decide_true, decide_false, reduceCtorEq, Nat.reduceAdd, Nat.reduceSub, Nat.reduceEqDiff, A4, A0, S0, lsz2]
  have A3 := fun (G : Mem) => at_app M5 G 3
  have s6 : fExpr (fBM "list" gApp (fOp gIx (fVar 5) (fC (.int 3))) (fCons (fC (.str "more")) fNil)) [some (.loc l), g1, some (.d T), some (.d S), some (.d (.list [.list dL, .list dA])), some (.loc (M5.length + 4))] (M5 ++ [.lst (dL.map .d ++ [.d (.str "more")]), .lst (dA.map .d), .lst (dL.map .d), .lst (dA.map .d), .lst [.loc M5.length, .loc (M5.length + 1), .loc (M5.length + 2), .loc (M5.length + 3)]]) =
      some (.nx [some (.loc l), g1, some (.d T), some (.d S), some (.d (.list [.list dL, .list dA])), some (.loc (M5.length + 4))], M5 ++ [.lst (dL.map .d ++ [.d (.str "more")]), .lst (dA.map .d), .lst (dL.map .d), .lst (dA.map .d ++ [.d (.str "more")]), .lst [.loc M5.length, .loc (M5.length + 1), .loc (M5.length + 2), .loc (M5.length + 3)]]) := by
    simp only [fVar, fC, fOp, fUn, fTru, fBool, fNotT, fAndT, fOrT, fAndV, fOrV, fNotV, fIf, fNil, fCons, fTup, fLst, fLstM, mkT, mkL, fCB, fCall, fCallK, arity, fSl, fNoP, fPart, fIsi, fIsi2, fNext, fSeq, fBreak, fCont, fRet, fRetN, fExpr, fIfS, fAsg, fPar, tgName, tgNil, tgCons, tgTup, tgSeq, tgSub, fBM, fFor, fLc, fLcM, fRng1, fRng2, fItS, fZip, fYes, fChain, boolOf, truth, intOf, gI, gIC, gAdd, Z.gSub, gMul, gDiv, gMod, gLt, gLe, gGt, gGe, gNeg, gEq, gNe, gIsN, gNotN, isN, gIn, gIx, gSl, gLen, gAbs, gInt, gMin2, gMax2, gListOf, gListM, gTupOf, gAll, gAny, boolsOf, gApp, stL, tyOk, tyS, isTy, rdD, seqD, seqOf, lstOf, tupOf, allD, allD_map, eqD_ii, eqD_ss, eqD_bb, eqD_nn, eqD_in, eqD_ni, eqD_bn, eqD_nb, eqD_sn, eqD_ns, eqD_is, eqD_si, eqD_bs, eqD_sb, eqD_tt, eqD_ll, gpm, ↓to_bnd, ↓to_bmp, bnd_some, bnd_none, bmp_some, bmp_none, List.getElem?_cons_zero, List.getElem?_cons_succ, List.set_cons_zero, List.set_cons_succ, List.map_cons, List.map_nil, List.replicate, List.cons_append, List.nil_append, List.append_nil, List.length_cons, List.length_nil, atI_0, atI_1, atI_2, atI_3, atI_4, atI_5, ixN_30, ixN_31, ixN_32, decide_eq_true_eq, Bool.not_true, Bool.not_false, Bool.true_and, Bool.false_and, Bool.and_true, Bool.and_false, Bool.or_true, Bool.true_or, Bool.or_false, Bool.false_or, Bool.false_eq_true, ↓reduceIte, decide_true, decide_false, reduceCtorEq, Nat.reduceAdd, Nat.reduceSub, Nat.reduceEqDiff, A4, A3, set_app, asz2]
  have hG : ∀ G : Mem, Go M l (n + 50) (M5 ++ G) := fun G => G5.trans (Go.app G5.box G)
  generalize hN : M5 ++ [MO.lst (dL.map .d ++ [.d (.str "more")]), .lst (dA.map .d), .lst (dL.map .d), .lst (dA.map .d ++ [.d (.str "more")]), .lst [.loc M5.length, .loc (M5.length + 1), .loc (M5.length + 2), .loc (M5.length + 3)]] = N7 at s6
  have b2 : fBor 2 (m_law_same 6) (fCons (fLstM (fCons (fCall 1 m_looks (fCons (fVar 2) fNil)) (fCons (fCall 1 m_adds (fCons (fVar 3) fNil)) fNil))) (fCons (fVar 4) fNil)) [some (.loc l), g1, some (.d T), some (.d S), some (.d (.list [.list dL, .list dA])), some (.loc (M5.length + 4))] N7 =
      some (.d (.bool true), N7 ++ [.lst (dL.map .d), .lst (dA.map .d), .lst [.loc N7.length, .loc (N7.length + 1)]]) := by
    refine bor_ok (y := .list [.list dL, .list dA]) (s := .loc (N7.length + 2)) ?_ ?_ pl2
    · simp only [fVar, fC, fOp, fUn, fTru, fBool, fNotT, fAndT, fOrT, fAndV, fOrV, fNotV, fIf, fNil, fCons, fTup, fLst, fLstM, mkT, mkL, fCB, fCall, fCallK, arity, fSl, fNoP, fPart, fIsi, fIsi2, fNext, fSeq, fBreak, fCont, fRet, fRetN, fExpr, fIfS, fAsg, fPar, tgName, tgNil, tgCons, tgTup, tgSeq, tgSub, fBM, fFor, fLc, fLcM, fRng1, fRng2, fItS, fZip, fYes, fChain, boolOf, truth, intOf, gI, gIC, gAdd, Z.gSub, gMul, gDiv, gMod, gLt, gLe, gGt, gGe, gNeg, gEq, gNe, gIsN, gNotN, isN, gIn, gIx, gSl, gLen, gAbs, gInt, gMin2, gMax2, gListOf, gListM, gTupOf, gAll, gAny, boolsOf, gApp, stL, tyOk, tyS, isTy, rdD, seqD, seqOf, lstOf, tupOf, allD, allD_map, eqD_ii, eqD_ss, eqD_bb, eqD_nn, eqD_in, eqD_ni, eqD_bn, eqD_nb, eqD_sn, eqD_ns, eqD_is, eqD_si, eqD_bs, eqD_sb, eqD_tt, eqD_ll, gpm, ↓to_bnd, ↓to_bmp, bnd_some, bnd_none, bmp_some, bmp_none, List.getElem?_cons_zero, List.getElem?_cons_succ, List.set_cons_zero, List.set_cons_succ, List.map_cons, List.map_nil, List.replicate, List.cons_append, List.nil_append, List.append_nil, List.length_cons, List.length_nil, atI_0, atI_1, atI_2, atI_3, atI_4, atI_5, ixN_30, ixN_31, ixN_32, decide_eq_true_eq, Bool.not_true, Bool.not_false, Bool.true_and, Bool.false_and, Bool.and_true, Bool.and_false, Bool.or_true, Bool.true_or, Bool.or_false, Bool.false_or, Bool.false_eq_true, ↓reduceIte, decide_true, decide_false, reduceCtorEq, Nat.reduceAdd, Nat.reduceSub, Nat.reduceEqDiff, lT, aL, z2, List.length_append, List.append_assoc]
    · have A7 := fun (G : Mem) => at_app N7 G 0
      rw [Nat.add_zero] at A7
      have q0 := snap_lst (k := 2) (A7 [.lst (dL.map .d), .lst (dA.map .d), .lst [.loc N7.length, .loc (N7.length + 1)]])
      have q1 := snap_lst (k := 2) (at_app N7 [.lst (dL.map .d), .lst (dA.map .d), .lst [.loc N7.length, .loc (N7.length + 1)]] 1)
      rw [snap]
      simp only [at_app, List.getElem?_cons_zero, List.getElem?_cons_succ, snapAll, q0, q1, Option.bind_some, Option.map_some]
  have s7 : fIfS (fNotT (fTru (fBor 2 (m_law_same 6) (fCons (fLstM (fCons (fCall 1 m_looks (fCons (fVar 2) fNil)) (fCons (fCall 1 m_adds (fCons (fVar 3) fNil)) fNil))) (fCons (fVar 4) fNil))))) (fRet (fC (.bool false))) fNext [some (.loc l), g1, some (.d T), some (.d S), some (.d (.list [.list dL, .list dA])), some (.loc (M5.length + 4))] N7 =
      some (.nx [some (.loc l), g1, some (.d T), some (.d S), some (.d (.list [.list dL, .list dA])), some (.loc (M5.length + 4))], N7 ++ [.lst (dL.map .d), .lst (dA.map .d), .lst [.loc N7.length, .loc (N7.length + 1)]]) := by
    simp only [fVar, fC, fOp, fUn, fTru, fBool, fNotT, fAndT, fOrT, fAndV, fOrV, fNotV, fIf, fNil, fCons, fTup, fLst, fLstM, mkT, mkL, fCB, fCall, fCallK, arity, fSl, fNoP, fPart, fIsi, fIsi2, fNext, fSeq, fBreak, fCont, fRet, fRetN, fExpr, fIfS, fAsg, fPar, tgName, tgNil, tgCons, tgTup, tgSeq, tgSub, fBM, fFor, fLc, fLcM, fRng1, fRng2, fItS, fZip, fYes, fChain, boolOf, truth, intOf, gI, gIC, gAdd, Z.gSub, gMul, gDiv, gMod, gLt, gLe, gGt, gGe, gNeg, gEq, gNe, gIsN, gNotN, isN, gIn, gIx, gSl, gLen, gAbs, gInt, gMin2, gMax2, gListOf, gListM, gTupOf, gAll, gAny, boolsOf, gApp, stL, tyOk, tyS, isTy, rdD, seqD, seqOf, lstOf, tupOf, allD, allD_map, eqD_ii, eqD_ss, eqD_bb, eqD_nn, eqD_in, eqD_ni, eqD_bn, eqD_nb, eqD_sn, eqD_ns, eqD_is, eqD_si, eqD_bs, eqD_sb, eqD_tt, eqD_ll, gpm, ↓to_bnd, ↓to_bmp, bnd_some, bnd_none, bmp_some, bmp_none, List.getElem?_cons_zero, List.getElem?_cons_succ, List.set_cons_zero, List.set_cons_succ, List.map_cons, List.map_nil, List.replicate, List.cons_append, List.nil_append, List.append_nil, List.length_cons, List.length_nil, atI_0, atI_1, atI_2, atI_3, atI_4, atI_5, ixN_30, ixN_31, ixN_32, decide_eq_true_eq, Bool.not_true, Bool.not_false, Bool.true_and, Bool.false_and, Bool.and_true, Bool.and_false, Bool.or_true, Bool.true_or, Bool.or_false, Bool.false_or, Bool.false_eq_true, ↓reduceIte, decide_true, decide_false, reduceCtorEq, Nat.reduceAdd, Nat.reduceSub, Nat.reduceEqDiff, b2]
  refine ⟨some (.d T), some (.d S), some (.d (.list [.list dL, .list dA])), some (.loc (M5.length + 4)), N7 ++ [.lst (dL.map .d), .lst (dA.map .d), .lst [.loc N7.length, .loc (N7.length + 1)]], ?_, ?_⟩
  rotate_left
  · show Go M l (n + 50) (N7 ++ [.lst (dL.map .d), .lst (dA.map .d), .lst [.loc N7.length, .loc (N7.length + 1)]])
    rw [← hN, List.append_assoc]
    exact hG _
  · unfold b1_law_right
    rw [seq_nx s1, seq_nx s2, seq_nx s3, seq_nx s4, seq_nx s5, seq_nx s6]
    exact s7
theorem right_ok {M : Mem} {l : Nat} (hB : ZL.BoxOk M l 0) : ∃ M', m_law_right [.loc l] M = some (.d (.bool true), M') := by
  have key := forF_inv (kp := none) (all := rng 0 8) (g := tgName 1) (body := b1_law_right) (fun r Γ N => (∃ g1 g2 g3 g4 g5, Γ = [some (.loc l), g1, g2, g3, g4, g5]) ∧ r.length ≤ 8 ∧ ZL.BoxOk N l (50 * (8 - (r.length : Int)))) (fun _ _ _ _ => kept_none)
    (fun x r Γ N ⟨⟨g1, g2, g3, g4, g5, e⟩, hr, hb⟩ => by
      subst e
      rw [List.length_cons] at hr hb
      obtain ⟨g2', g3', g4', g5', M', e1, G1⟩ := turn_ok (g1 := some x) (g2 := g2) (g3 := g3) (g4 := g4) (g5 := g5) hb (by omega)
      exact ⟨_, _, _, _, rfl, e1, ⟨_, _, _, _, _, rfl⟩, by omega, G1.box.mono (by omega)⟩)
    (rng 0 8) [some (.loc l), none, none, none, none, none] M ⟨⟨_, _, _, _, _, rfl⟩, by decide, by exact hB⟩
  obtain ⟨Γ', M', e1, ⟨g1, g2, g3, g4, g5, rfl⟩, _, _⟩ := key
  obtain ⟨M2, et, _⟩ := trunc_d M.length (.bool true) M'
  have e2 := rng1_ok (fa := fCons (fC (.int 8)) fNil) (Γ := [some (.loc l), none, none, none, none, none]) (M := M) (M' := M) (i := 8) (k := 8) rfl (by omega) (by omega) rfl
  refine ⟨M2, ?_⟩
  unfold m_law_right
  rw [run_rt (s := .d (.bool true)) (M' := M'), et]
  show fSeq _ _ [some (.loc l), none, none, none, none, none] M = _
  rw [seq_nx ((for_src e2).trans e1)]
  rfl
theorem law_rng (ns : List Int) (h : ns.length ≤ 63) : ∃ j : Nat, j ≤ 64 ∧ (fRng1 (fCons (fOp gAdd (fC (.int 1)) (fCB gMin2 (fCons (fC (.int 2)) (fCons (fCB gLen (fCons (fVar 0) fNil)) fNil)))) fNil)) [some (scr ns), none] [] = some ((rng 0 j, none), []) := by
  by_cases q : (ns.length : Int) < 2
  · refine ⟨1 + ns.length, by omega, rng1_ok (i := 1 + (ns.length : Int)) ?_ (by omega) (by omega) (by omega)⟩
    simp only [fVar, fC, fOp, fUn, fTru, fBool, fNotT, fAndT, fOrT, fAndV, fOrV, fNotV, fIf, fNil, fCons, fTup, fLst, fLstM, mkT, mkL, fCB, fCall, fCallK, arity, fSl, fNoP, fPart, fIsi, fIsi2, fNext, fSeq, fBreak, fCont, fRet, fRetN, fExpr, fIfS, fAsg, fPar, tgName, tgNil, tgCons, tgTup, tgSeq, tgSub, fBM, fFor, fLc, fLcM, fRng1, fRng2, fItS, fZip, fYes, fChain, boolOf, truth, intOf, gI, gIC, gAdd, Z.gSub, gMul, gDiv, gMod, gLt, gLe, gGt, gGe, gNeg, gEq, gNe, gIsN, gNotN, isN, gIn, gIx, gSl, gLen, gAbs, gInt, gMin2, gMax2, gListOf, gListM, gTupOf, gAll, gAny, boolsOf, gApp, stL, tyOk, tyS, isTy, rdD, seqD, seqOf, lstOf, tupOf, allD, allD_map, eqD_ii, eqD_ss, eqD_bb, eqD_nn, eqD_in, eqD_ni, eqD_bn, eqD_nb, eqD_sn, eqD_ns, eqD_is, eqD_si, eqD_bs, eqD_sb, eqD_tt, eqD_ll, gpm, ↓to_bnd, ↓to_bmp, bnd_some, bnd_none, bmp_some, bmp_none, List.getElem?_cons_zero, List.getElem?_cons_succ, List.set_cons_zero, List.set_cons_succ, List.map_cons, List.map_nil, List.replicate, List.cons_append, List.nil_append, List.append_nil, List.length_cons, List.length_nil, atI_0, atI_1, atI_2, atI_3, atI_4, atI_5, ixN_30, ixN_31, ixN_32, decide_eq_true_eq, Bool.not_true, Bool.not_false, Bool.true_and, Bool.false_and, Bool.and_true, Bool.and_false, Bool.or_true, Bool.true_or, Bool.or_false, Bool.false_or, Bool.false_eq_true, ↓reduceIte, decide_true, decide_false, reduceCtorEq, Nat.reduceAdd, Nat.reduceSub, Nat.reduceEqDiff, scr, List.length_map, q]
  · refine ⟨3, by omega, rng1_ok (i := 1 + 2) ?_ (by omega) (by omega) (by omega)⟩
    simp only [fVar, fC, fOp, fUn, fTru, fBool, fNotT, fAndT, fOrT, fAndV, fOrV, fNotV, fIf, fNil, fCons, fTup, fLst, fLstM, mkT, mkL, fCB, fCall, fCallK, arity, fSl, fNoP, fPart, fIsi, fIsi2, fNext, fSeq, fBreak, fCont, fRet, fRetN, fExpr, fIfS, fAsg, fPar, tgName, tgNil, tgCons, tgTup, tgSeq, tgSub, fBM, fFor, fLc, fLcM, fRng1, fRng2, fItS, fZip, fYes, fChain, boolOf, truth, intOf, gI, gIC, gAdd, Z.gSub, gMul, gDiv, gMod, gLt, gLe, gGt, gGe, gNeg, gEq, gNe, gIsN, gNotN, isN, gIn, gIx, gSl, gLen, gAbs, gInt, gMin2, gMax2, gListOf, gListM, gTupOf, gAll, gAny, boolsOf, gApp, stL, tyOk, tyS, isTy, rdD, seqD, seqOf, lstOf, tupOf, allD, allD_map, eqD_ii, eqD_ss, eqD_bb, eqD_nn, eqD_in, eqD_ni, eqD_bn, eqD_nb, eqD_sn, eqD_ns, eqD_is, eqD_si, eqD_bs, eqD_sb, eqD_tt, eqD_ll, gpm, ↓to_bnd, ↓to_bmp, bnd_some, bnd_none, bmp_some, bmp_none, List.getElem?_cons_zero, List.getElem?_cons_succ, List.set_cons_zero, List.set_cons_succ, List.map_cons, List.map_nil, List.replicate, List.cons_append, List.nil_append, List.append_nil, List.length_cons, List.length_nil, atI_0, atI_1, atI_2, atI_3, atI_4, atI_5, ixN_30, ixN_31, ixN_32, decide_eq_true_eq, Bool.not_true, Bool.not_false, Bool.true_and, Bool.false_and, Bool.and_true, Bool.and_false, Bool.or_true, Bool.true_or, Bool.or_false, Bool.false_or, Bool.false_eq_true, ↓reduceIte, decide_true, decide_false, reduceCtorEq, Nat.reduceAdd, Nat.reduceSub, Nat.reduceEqDiff, scr, List.length_map, q]
theorem law_true (ns : List Int) (h : ns.length ≤ 63) : ∃ M', m_law [scr ns] [] = some (.d (.bool true), M') := by
  obtain ⟨j, hj, hr⟩ := law_rng ns h
  have key := forF_inv (kp := none) (all := rng 0 j) (g := tgName 1) (body := b1_law) (fun r Γ N => (∃ g, Γ = [some (scr ns), g]) ∧ ∀ x ∈ r, ∃ k : Nat, k < 64 ∧ x = .d (.int k)) (fun _ _ _ _ => kept_none) (fun x r Γ N ⟨⟨g, e⟩, hx⟩ => by
    subst e
    obtain ⟨k, hk, rfl⟩ := hx x List.mem_cons_self
    obtain ⟨M1, b1, _, _, b4⟩ := ZL.box_ok (ns := ns) (M := N) hk
    rw [← box_eq] at b1
    obtain ⟨M3, b5⟩ := right_ok b4
    refine ⟨_, _, [some (scr ns), some (.d (.int k))], M3, rfl, ?_, ⟨_, rfl⟩, fun y hy => hx y (List.mem_cons_of_mem _ hy)⟩
    unfold b1_law
    simp only [fVar, fC, fOp, fUn, fTru, fBool, fNotT, fAndT, fOrT, fAndV, fOrV, fNotV, fIf, fNil, fCons, fTup, fLst, fLstM, mkT, mkL, fCB, fCall, fCallK, arity, fSl, fNoP, fPart, fIsi, fIsi2, fNext, fSeq, fBreak, fCont, fRet, fRetN, fExpr, fIfS, fAsg, fPar, tgName, tgNil, tgCons, tgTup, tgSeq, tgSub, fBM, fFor, fLc, fLcM, fRng1, fRng2, fItS, fZip, fYes, fChain, boolOf, truth, intOf, gI, gIC, gAdd, Z.gSub, gMul, gDiv, gMod, gLt, gLe, gGt, gGe, gNeg, gEq, gNe, gIsN, gNotN, isN, gIn, gIx, gSl, gLen, gAbs, gInt, gMin2, gMax2, gListOf, gListM, gTupOf, gAll, gAny, boolsOf, gApp, stL, tyOk, tyS, isTy, rdD, seqD, seqOf, lstOf, tupOf, allD, allD_map, eqD_ii, eqD_ss, eqD_bb, eqD_nn, eqD_in, eqD_ni, eqD_bn, eqD_nb, eqD_sn, eqD_ns, eqD_is, eqD_si, eqD_bs, eqD_sb, eqD_tt, eqD_ll, gpm, ↓to_bnd, ↓to_bmp, bnd_some, bnd_none, bmp_some, bmp_none, List.getElem?_cons_zero, List.getElem?_cons_succ, List.set_cons_zero, List.set_cons_succ, List.map_cons, List.map_nil, List.replicate, List.cons_append, List.nil_append, List.append_nil, List.length_cons, List.length_nil, atI_0, atI_1, atI_2, atI_3, atI_4, atI_5, ixN_30, ixN_31, ixN_32, decide_eq_true_eq, Bool.not_true, Bool.not_false, Bool.true_and, Bool.false_and, Bool.and_true, Bool.and_false, Bool.or_true, Bool.true_or, Bool.or_false, Bool.false_or, Bool.false_eq_true, ↓reduceIte, decide_true, decide_false, reduceCtorEq, Nat.reduceAdd, Nat.reduceSub, Nat.reduceEqDiff, b1, b5]) (rng 0 j) [some (scr ns), none] [] ⟨⟨_, rfl⟩, fun x hx => by
      unfold rng at hx
      obtain ⟨k, hk, rfl⟩ := List.mem_map.mp hx
      rw [List.mem_range] at hk
      exact ⟨k, by omega, by simp⟩⟩
  obtain ⟨Γ', M', e1, ⟨g, rfl⟩, _⟩ := key
  obtain ⟨M2, et, _⟩ := trunc_d ([] : Mem).length (.bool true) M'
  refine ⟨M2, ?_⟩
  unfold m_law
  rw [run_rt (s := .d (.bool true)) (M' := M'), et]
  show fSeq _ _ [some (scr ns), none] [] = _
  rw [seq_nx ((for_src hr).trans e1)]
  rfl
end P
namespace P
open PySem L2 Z
theorem all_mk {l : PySem.W.OpenLaw} {w : World} {K : PySem.W.Frag} {h : Heap} {mg : Str → Option Value} {fa : Addr} (X : K.In h) (G : h.Ns mainGlobals mg) (hfa : mg "law" = some (.ref fa))
    {f0 : Addr} {od0 an0 : Option Addr} {sl0 : Array (Option Value)} {oc0 kV0 dc0 pm0 cd0 ct0 : Value}
    (a0 : PySem.W.nsIn K mainGlobals "law" = some (some (.ref f0))) (l0 : K.lookup f0 = some ⟨oc0, od0, .func (PySem.W.fnOf "law" "law" (defArgs s_law) (defBody s_law) (defScope s_law) .none kV0 dc0 pm0 an0 cd0 ct0), sl0⟩) (c0 : PySem.W.codeIn K cd0 "law" = true) (k0 : PySem.W.keepIn K (.ref f0) = true)
    {f1 : Addr} {od1 an1 : Option Addr} {sl1 : Array (Option Value)} {oc1 kV1 dc1 pm1 cd1 ct1 : Value}
    (a1 : PySem.W.nsIn K mainGlobals "events_called" = some (some (.ref f1))) (l1 : K.lookup f1 = some ⟨oc1, od1, .func (PySem.W.fnOf "events_called" "events_called" (defArgs s_events_called) (defBody s_events_called) (defScope s_events_called) .none kV1 dc1 pm1 an1 cd1 ct1), sl1⟩) (c1 : PySem.W.codeIn K cd1 "events_called" = true) (k1 : PySem.W.keepIn K (.ref f1) = true)
    {f2 : Addr} {od2 an2 : Option Addr} {sl2 : Array (Option Value)} {oc2 kV2 dc2 pm2 cd2 ct2 : Value}
    (a2 : PySem.W.nsIn K mainGlobals "looks" = some (some (.ref f2))) (l2 : K.lookup f2 = some ⟨oc2, od2, .func (PySem.W.fnOf "looks" "looks" (defArgs s_looks) (defBody s_looks) (defScope s_looks) .none kV2 dc2 pm2 an2 cd2 ct2), sl2⟩) (c2 : PySem.W.codeIn K cd2 "looks" = true) (k2 : PySem.W.keepIn K (.ref f2) = true)
    {f3 : Addr} {od3 an3 : Option Addr} {sl3 : Array (Option Value)} {oc3 kV3 dc3 pm3 cd3 ct3 : Value}
    (a3 : PySem.W.nsIn K mainGlobals "adds" = some (some (.ref f3))) (l3 : K.lookup f3 = some ⟨oc3, od3, .func (PySem.W.fnOf "adds" "adds" (defArgs s_adds) (defBody s_adds) (defScope s_adds) .none kV3 dc3 pm3 an3 cd3 ct3), sl3⟩) (c3 : PySem.W.codeIn K cd3 "adds" = true) (k3 : PySem.W.keepIn K (.ref f3) = true)
    {f4 : Addr} {od4 an4 : Option Addr} {sl4 : Array (Option Value)} {oc4 kV4 dc4 pm4 cd4 ct4 : Value}
    (a4 : PySem.W.nsIn K mainGlobals "_law_box" = some (some (.ref f4))) (l4 : K.lookup f4 = some ⟨oc4, od4, .func (PySem.W.fnOf "_law_box" "_law_box" (defArgs s_law_box) (defBody s_law_box) (defScope s_law_box) .none kV4 dc4 pm4 an4 cd4 ct4), sl4⟩) (c4 : PySem.W.codeIn K cd4 "_law_box" = true) (k4 : PySem.W.keepIn K (.ref f4) = true)
    {f5 : Addr} {od5 an5 : Option Addr} {sl5 : Array (Option Value)} {oc5 kV5 dc5 pm5 cd5 ct5 : Value}
    (a5 : PySem.W.nsIn K mainGlobals "_law_take" = some (some (.ref f5))) (l5 : K.lookup f5 = some ⟨oc5, od5, .func (PySem.W.fnOf "_law_take" "_law_take" (defArgs s_law_take) (defBody s_law_take) (defScope s_law_take) .none kV5 dc5 pm5 an5 cd5 ct5), sl5⟩) (c5 : PySem.W.codeIn K cd5 "_law_take" = true) (k5 : PySem.W.keepIn K (.ref f5) = true)
    {f6 : Addr} {od6 an6 : Option Addr} {sl6 : Array (Option Value)} {oc6 kV6 dc6 pm6 cd6 ct6 : Value}
    (a6 : PySem.W.nsIn K mainGlobals "_law_same" = some (some (.ref f6))) (l6 : K.lookup f6 = some ⟨oc6, od6, .func (PySem.W.fnOf "_law_same" "_law_same" (defArgs s_law_same) (defBody s_law_same) (defScope s_law_same) .none kV6 dc6 pm6 an6 cd6 ct6), sl6⟩) (c6 : PySem.W.codeIn K cd6 "_law_same" = true) (k6 : PySem.W.keepIn K (.ref f6) = true)
    {f7 : Addr} {od7 an7 : Option Addr} {sl7 : Array (Option Value)} {oc7 kV7 dc7 pm7 cd7 ct7 : Value}
    (a7 : PySem.W.nsIn K mainGlobals "_law_lists" = some (some (.ref f7))) (l7 : K.lookup f7 = some ⟨oc7, od7, .func (PySem.W.fnOf "_law_lists" "_law_lists" (defArgs s_law_lists) (defBody s_law_lists) (defScope s_law_lists) .none kV7 dc7 pm7 an7 cd7 ct7), sl7⟩) (c7 : PySem.W.codeIn K cd7 "_law_lists" = true) (k7 : PySem.W.keepIn K (.ref f7) = true)
    {f8 : Addr} {od8 an8 : Option Addr} {sl8 : Array (Option Value)} {oc8 kV8 dc8 pm8 cd8 ct8 : Value}
    (a8 : PySem.W.nsIn K mainGlobals "_law_event" = some (some (.ref f8))) (l8 : K.lookup f8 = some ⟨oc8, od8, .func (PySem.W.fnOf "_law_event" "_law_event" (defArgs s_law_event) (defBody s_law_event) (defScope s_law_event) .none kV8 dc8 pm8 an8 cd8 ct8), sl8⟩) (c8 : PySem.W.codeIn K cd8 "_law_event" = true) (k8 : PySem.W.keepIn K (.ref f8) = true)
    {f9 : Addr} {od9 an9 : Option Addr} {sl9 : Array (Option Value)} {oc9 kV9 dc9 pm9 cd9 ct9 : Value}
    (a9 : PySem.W.nsIn K mainGlobals "_law_table" = some (some (.ref f9))) (l9 : K.lookup f9 = some ⟨oc9, od9, .func (PySem.W.fnOf "_law_table" "_law_table" (defArgs s_law_table) (defBody s_law_table) (defScope s_law_table) .none kV9 dc9 pm9 an9 cd9 ct9), sl9⟩) (c9 : PySem.W.codeIn K cd9 "_law_table" = true) (k9 : PySem.W.keepIn K (.ref f9) = true)
    {f10 : Addr} {od10 an10 : Option Addr} {sl10 : Array (Option Value)} {oc10 kV10 dc10 pm10 cd10 ct10 : Value}
    (a10 : PySem.W.nsIn K mainGlobals "_law_due" = some (some (.ref f10))) (l10 : K.lookup f10 = some ⟨oc10, od10, .func (PySem.W.fnOf "_law_due" "_law_due" (defArgs s_law_due) (defBody s_law_due) (defScope s_law_due) .none kV10 dc10 pm10 an10 cd10 ct10), sl10⟩) (c10 : PySem.W.codeIn K cd10 "_law_due" = true) (k10 : PySem.W.keepIn K (.ref f10) = true)
    {f11 : Addr} {od11 an11 : Option Addr} {sl11 : Array (Option Value)} {oc11 kV11 dc11 pm11 cd11 ct11 : Value}
    (a11 : PySem.W.nsIn K mainGlobals "_law_right" = some (some (.ref f11))) (l11 : K.lookup f11 = some ⟨oc11, od11, .func (PySem.W.fnOf "_law_right" "_law_right" (defArgs s_law_right) (defBody s_law_right) (defScope s_law_right) .none kV11 dc11 pm11 an11 cd11 ct11), sl11⟩) (c11 : PySem.W.codeIn K cd11 "_law_right" = true) (k11 : PySem.W.keepIn K (.ref f11) = true)
    (z_abs : PySem.W.nsIn K mainGlobals "abs" = some none)
    (z_all : PySem.W.nsIn K mainGlobals "all" = some none)
    (z_bool : PySem.W.nsIn K mainGlobals "bool" = some none)
    (z_enumerate : PySem.W.nsIn K mainGlobals "enumerate" = some none)
    (z_int : PySem.W.nsIn K mainGlobals "int" = some none)
    (z_isinstance : PySem.W.nsIn K mainGlobals "isinstance" = some none)
    (z_len : PySem.W.nsIn K mainGlobals "len" = some none)
    (z_list : PySem.W.nsIn K mainGlobals "list" = some none)
    (z_min : PySem.W.nsIn K mainGlobals "min" = some none)
    (z_range : PySem.W.nsIn K mainGlobals "range" = some none)
    (z_str : PySem.W.nsIn K mainGlobals "str" = some none)
    (z_tuple : PySem.W.nsIn K mainGlobals "tuple" = some none)
    (z_zip : PySem.W.nsIn K mainGlobals "zip" = some none)
    : ∃ fd : FuncData, (∀ (s : Shared) (v : Value), BindsTo s fd ⟨[v], []⟩ [("_law_script", v)]) ∧ ∀ base : Heap, K.In base → base.Ns mainGlobals mg → FnOk l.prog w K mg base CX0 9 fa fd ["_law_script"] (spF K 1 m_law) := by
  have e := hfa.symm.trans (PySem.W.mg_of X G a0)
  cases e
  have T : Txt mg := ⟨PySem.W.mg_none_of X G z_abs, PySem.W.mg_none_of X G z_all, PySem.W.mg_none_of X G z_bool, PySem.W.mg_none_of X G z_enumerate, PySem.W.mg_none_of X G z_int, PySem.W.mg_none_of X G z_isinstance, PySem.W.mg_none_of X G z_len, PySem.W.mg_none_of X G z_list, PySem.W.mg_none_of X G z_min, PySem.W.mg_none_of X G z_range, PySem.W.mg_none_of X G z_str, PySem.W.mg_none_of X G z_tuple, PySem.W.mg_none_of X G z_zip⟩
  let D_law : Df K mg "law" "law" s_law ["_law_script"] := ⟨_, _, fun_mk (st := s_law) l0 c0 k0, PySem.W.mg_of X G a0, (fun_mk (st := s_law) l0 c0 k0).binds (ps := ["_law_script"]) fun _ _ _ _ _ _ us hl => match us, hl with | [_], _ => rfl⟩
  have D_events_called : Df K mg "events_called" "events_called" s_events_called ["word", "timetable"] := ⟨_, _, fun_mk (st := s_events_called) l1 c1 k1, PySem.W.mg_of X G a1, (fun_mk (st := s_events_called) l1 c1 k1).binds (ps := ["word", "timetable"]) fun _ _ _ _ _ _ us hl => match us, hl with | [_, _], _ => rfl⟩
  have D_looks : Df K mg "looks" "looks" s_looks ["timetable"] := ⟨_, _, fun_mk (st := s_looks) l2 c2 k2, PySem.W.mg_of X G a2, (fun_mk (st := s_looks) l2 c2 k2).binds (ps := ["timetable"]) fun _ _ _ _ _ _ us hl => match us, hl with | [_], _ => rfl⟩
  have D_adds : Df K mg "adds" "adds" s_adds ["timetable"] := ⟨_, _, fun_mk (st := s_adds) l3 c3 k3, PySem.W.mg_of X G a3, (fun_mk (st := s_adds) l3 c3 k3).binds (ps := ["timetable"]) fun _ _ _ _ _ _ us hl => match us, hl with | [_], _ => rfl⟩
  have D_law_box : Df K mg "_law_box" "_law_box" s_law_box ["_law_script", "_law_k"] := ⟨_, _, fun_mk (st := s_law_box) l4 c4 k4, PySem.W.mg_of X G a4, (fun_mk (st := s_law_box) l4 c4 k4).binds (ps := ["_law_script", "_law_k"]) fun _ _ _ _ _ _ us hl => match us, hl with | [_, _], _ => rfl⟩
  have D_law_take : Df K mg "_law_take" "_law_take" s_law_take ["_law_box_here", "_law_below"] := ⟨_, _, fun_mk (st := s_law_take) l5 c5 k5, PySem.W.mg_of X G a5, (fun_mk (st := s_law_take) l5 c5 k5).binds (ps := ["_law_box_here", "_law_below"]) fun _ _ _ _ _ _ us hl => match us, hl with | [_, _], _ => rfl⟩
  have D_law_same : Df K mg "_law_same" "_law_same" s_law_same ["_law_found", "_law_due_here"] := ⟨_, _, fun_mk (st := s_law_same) l6 c6 k6, PySem.W.mg_of X G a6, (fun_mk (st := s_law_same) l6 c6 k6).binds (ps := ["_law_found", "_law_due_here"]) fun _ _ _ _ _ _ us hl => match us, hl with | [_, _], _ => rfl⟩
  have D_law_lists : Df K mg "_law_lists" "_law_lists" s_law_lists ["_law_part"] := ⟨_, _, fun_mk (st := s_law_lists) l7 c7 k7, PySem.W.mg_of X G a7, (fun_mk (st := s_law_lists) l7 c7 k7).binds (ps := ["_law_part"]) fun _ _ _ _ _ _ us hl => match us, hl with | [_], _ => rfl⟩
  have D_law_event : Df K mg "_law_event" "_law_event" s_law_event ["_law_box_here", "_law_folk", "_law_letters"] := ⟨_, _, fun_mk (st := s_law_event) l8 c8 k8, PySem.W.mg_of X G a8, (fun_mk (st := s_law_event) l8 c8 k8).binds (ps := ["_law_box_here", "_law_folk", "_law_letters"]) fun _ _ _ _ _ _ us hl => match us, hl with | [_, _, _], _ => rfl⟩
  have D_law_table : Df K mg "_law_table" "_law_table" s_law_table ["_law_box_here", "_law_folk", "_law_many", "_law_letters"] := ⟨_, _, fun_mk (st := s_law_table) l9 c9 k9, PySem.W.mg_of X G a9, (fun_mk (st := s_law_table) l9 c9 k9).binds (ps := ["_law_box_here", "_law_folk", "_law_many", "_law_letters"]) fun _ _ _ _ _ _ us hl => match us, hl with | [_, _, _, _], _ => rfl⟩
  have D_law_due : Df K mg "_law_due" "_law_due" s_law_due ["_law_table_here", "_law_word_so"] := ⟨_, _, fun_mk (st := s_law_due) l10 c10 k10, PySem.W.mg_of X G a10, (fun_mk (st := s_law_due) l10 c10 k10).binds (ps := ["_law_table_here", "_law_word_so"]) fun _ _ _ _ _ _ us hl => match us, hl with | [_, _], _ => rfl⟩
  have D_law_right : Df K mg "_law_right" "_law_right" s_law_right ["_law_box_here"] := ⟨_, _, fun_mk (st := s_law_right) l11 c11 k11, PySem.W.mg_of X G a11, (fun_mk (st := s_law_right) l11 c11 k11).binds (ps := ["_law_box_here"]) fun _ _ _ _ _ _ us hl => match us, hl with | [_], _ => rfl⟩
  exact ⟨PySem.W.fnOf "law" "law" (defArgs s_law) (defBody s_law) (defScope s_law) .none kV0 dc0 pm0 an0 cd0 ct0, fun s v => .of_eq rfl, fun base _ _ => ok_law D_law D_events_called D_looks D_adds D_law_box D_law_take D_law_same D_law_lists D_law_event D_law_table D_law_due D_law_right T⟩
theorem walk {l : PySem.W.OpenLaw} {q : Program} {loose : List Str} {XP : (Str → Option Value) → Heap → Prop} {YP : World → Heap → Prop} {d : DefRec} {K : Params → PySem.W.Frag} (hn : l.most = some 63) (hdf : d.params.defaults = [])
    (hY : ∀ (w : World) (h : Heap), YP w h → (K w.params).In h)
    (F : ∀ (w : World) (mg : Str → Option Value) (fa : Addr) (h : Heap), (K w.params).In h → h.Ns mainGlobals mg → mg d.name = some (.ref fa) →
      ∃ fd : FuncData, (∀ (s : Shared) (u : Value), BindsTo s fd ⟨[u], []⟩ [("_law_script", u)]) ∧ ∀ base : Heap, (K w.params).In base → base.Ns mainGlobals mg → FnOk l.prog w (K w.params) mg base CX0 9 fa fd ["_law_script"] (spF (K w.params) 1 m_law)) :
    PySem.W.WalkO q loose XP YP l.row.toRowW d [] (fun f vs => PySem.call f vs) :=
  L2.walk_of (n := 63) (k := 9) (x := "_law_script") (CX := fun _ => CX0) (sp := fun w => spF (K w.params) 1 m_law) hn (by decide) hdf ⟨rfl, by decide, by decide⟩ hY F (fun _ _ a ns hl _ hS => law_end (law_true ns hl) hS) fun _ _ _ _ _ z => z
end P
open PySem PySem.W PyProof.Rows in
set_option maxRecDepth 100000 in
set_option maxHeartbeats 0 in
theorem PySem.Challenge.cw_hiddenforks_k03_looks_and_adds_holds : PySem.Challenge.rw_hiddenforks_k03_looks_and_adds.Holds := by
  w_on; o_law; k_head; (case hw => w_witness2)
  k_fill
  refine P.walk (l := PySem.Challenge.rw_hiddenforks_k03_looks_and_adds) rfl rfl (fun w h Y => PySem.W.kIn_of Y) ?F
  case F =>
    intro w mg fa h KX G hmg
    refine' P.all_mk KX G hmg ?a0 ?l0 ?c0 ?k0 ?a1 ?l1 ?c1 ?k1 ?a2 ?l2 ?c2 ?k2 ?a3 ?l3 ?c3 ?k3 ?a4 ?l4 ?c4 ?k4 ?a5 ?l5 ?c5 ?k5 ?a6 ?l6 ?c6 ?k6 ?a7 ?l7 ?c7 ?k7 ?a8 ?l8 ?c8 ?k8 ?a9 ?l9 ?c9 ?k9 ?a10 ?l10 ?c10 ?k10 ?a11 ?l11 ?c11 ?k11 ?z_abs ?z_all ?z_bool ?z_enumerate ?z_int ?z_isinstance ?z_len ?z_list ?z_min ?z_range ?z_str ?z_tuple ?z_zip
    (case a0 => k_is)
    (case l0 => k_is)
    (case c0 => k_is)
    (case k0 => k_is)
    (case a1 => k_is)
    (case l1 => k_is)
    (case c1 => k_is)
    (case k1 => k_is)
    (case a2 => k_is)
    (case l2 => k_is)
    (case c2 => k_is)
    (case k2 => k_is)
    (case a3 => k_is)
    (case l3 => k_is)
    (case c3 => k_is)
    (case k3 => k_is)
    (case a4 => k_is)
    (case l4 => k_is)
    (case c4 => k_is)
    (case k4 => k_is)
    (case a5 => k_is)
    (case l5 => k_is)
    (case c5 => k_is)
    (case k5 => k_is)
    (case a6 => k_is)
    (case l6 => k_is)
    (case c6 => k_is)
    (case k6 => k_is)
    (case a7 => k_is)
    (case l7 => k_is)
    (case c7 => k_is)
    (case k7 => k_is)
    (case a8 => k_is)
    (case l8 => k_is)
    (case c8 => k_is)
    (case k8 => k_is)
    (case a9 => k_is)
    (case l9 => k_is)
    (case c9 => k_is)
    (case k9 => k_is)
    (case a10 => k_is)
    (case l10 => k_is)
    (case c10 => k_is)
    (case k10 => k_is)
    (case a11 => k_is)
    (case l11 => k_is)
    (case c11 => k_is)
    (case k11 => k_is)
    (case z_abs => k_is)
    (case z_all => k_is)
    (case z_bool => k_is)
    (case z_enumerate => k_is)
    (case z_int => k_is)
    (case z_isinstance => k_is)
    (case z_len => k_is)
    (case z_list => k_is)
    (case z_min => k_is)
    (case z_range => k_is)
    (case z_str => k_is)
    (case z_tuple => k_is)
    (case z_zip => k_is)
