import PyProof.Rows.All
import Wide.All
import OpenK.AllK
import Wide.FinOn
import HandS.ForMost
import HandS.IsInst
import HandS.TupAny
import HandS.TupMul
import HandS.Wide
import HandS.Zip
import HandS.Deep
import HandS.Flow
import HandS.Walk
import HandS.Small
import KE.GoesEnum
import HandS.NoneIn
import HandS.SortInts
import HandS.SetFor
import HandS.Strs
import HandS.Conv
import HandS.Style
import KE.DataMinMax
import KE.SortData
import HandS.TupSets
import PySem.Challenge.RW_hiddenforks_k76_whole_rounds
set_option Elab.async false
set_option linter.all false
set_option maxRecDepth 100000
set_option maxHeartbeats 4000000
/-! Data, a memory of what may change, and what a reading does to both. -/
namespace Z
open PySem L2
/-- a value: data (never changed), or a place of the memory -/
inductive SV where
  | d (x : PyData)
  | loc (n : Nat)
/-- what stands at a place -/
inductive MO where
  | lst (xs : List SV)
  | dct (kvs : List (Key × SV))
  | ins (C : Str) (fs : List (Str × SV))
  | gone
abbrev Mem := List MO
abbrev Gm := List (Option SV)
inductive DR (K : PySem.W.Frag) (H : Hp) : PyData → V → Prop
  | non : DR K H .none .non
  | bl (b : Bool) : DR K H (.bool b) (.bl b)
  | int (i : Int) : DR K H (.int i) (.int i)
  | str (x : Str) : DR K H (.str x) (.str x)
  | lst {a : Addr} {xs : List V} {ds : List PyData} : Rd H a (.lst xs) → Paired (DR K H) ds xs → DR K H (.list ds) (.ref a)
  | tup {a : Addr} {xs : List V} {ds : List PyData} : SqT K H a xs → Paired (DR K H) ds xs → DR K H (.tuple ds) (.ref a)
  /-- the script: a list of ints that is only read -/
  | ro {a : Addr} (ns : List Int) : SqL K H a (ns.map V.int) → DR K H (.dict (ns.map fun n => (.none, .int n))) (.ref a)
theorem same_rd {H H' : Hp} {a : Addr} {u : HO} (e : Same H H') (h : Rd H a u) : Rd H' a u := by
  rcases h with h | ⟨o, h⟩
  · exact .inl (e _ _ h)
  · exact .inr ⟨o, e _ _ h⟩
theorem same_t {K : PySem.W.Frag} {H H' : Hp} {a : Addr} {xs : List V} (e : Same H H') (h : SqT K H a xs) : SqT K H' a xs := by
  rcases h with h | h
  · exact .inl (same_rd e h)
  · exact .inr h
mutual
theorem DR.mono {K : PySem.W.Frag} {H H' : Hp} (e : Same H H') : ∀ (x : PyData) (v : V), DR K H x v → DR K H' x v
  | .none, _, h => by cases h; exact .non
  | .bool b, _, h => by cases h; exact .bl _
  | .int b, _, h => by cases h; exact .int _
  | .str b, _, h => by cases h; exact .str _
  | .list ds, _, h => by cases h with | lst r p => exact .lst (same_rd e r) (DR.monos e ds _ p)
  | .tuple ds, _, h => by cases h with | tup r p => exact .tup (same_t e r) (DR.monos e ds _ p)
  | .dict _, _, h => by cases h with | ro ns r => exact .ro ns (e.seq r)
theorem DR.monos {K : PySem.W.Frag} {H H' : Hp} (e : Same H H') : ∀ (xs : List PyData) (vs : List V), Paired (DR K H) xs vs → Paired (DR K H') xs vs
  | [], _, h => by cases h; exact .nil
  | x :: xs, _, h => by cases h with | cons p q => exact .cons (DR.mono e x _ p) (DR.monos e xs _ q)
end
mutual
theorem DR.dp {K : PySem.W.Frag} {H : Hp} : ∀ (x : PyData) (v : V), x.canLay0 = true → DR K H x v → Dp K H v x
  | .none, _, _, h => by cases h; exact .non
  | .bool b, _, _, h => by cases h; exact .bl _
  | .int b, _, _, h => by cases h; exact .int _
  | .str b, _, _, h => by cases h; exact .str _
  | .list ds, _, c, h => by cases h with | lst r p => exact .lst (.inl r) (DR.dps ds _ (by simpa only [PyData.canLay0] using c) p)
  | .tuple ds, _, c, h => by cases h with | tup r p => exact .tup r (DR.dps ds _ (by simpa only [PyData.canLay0] using c) p)
  | .dict _, _, c, _ => by simp [PyData.canLay0] at c
theorem DR.dps {K : PySem.W.Frag} {H : Hp} : ∀ (xs : List PyData) (vs : List V), PyData.canLayAll0 xs = true → Paired (DR K H) xs vs → DpAll K H vs xs
  | [], _, _, h => by cases h; exact .nil
  | x :: xs, _, c, h => by
    simp only [PyData.canLayAll0, Bool.and_eq_true] at c
    cases h with | cons p q => exact .cons (DR.dp x _ c.1 p) (DR.dps xs _ c.2 q)
end
section
variable (K : PySem.W.Frag)
def VR (as : List Addr) (B : Hp) : SV → V → Prop
  | .d x, v => DR K B x v
  | .loc n, v => ∃ a, as[n]? = some a ∧ v = .ref a
def KR {κ : Type} (as : List Addr) (B : Hp) (p : κ × SV) (q : κ × V) : Prop := p.1 = q.1 ∧ VR K as B p.2 q.2
def CAt (C : Str) (A : Addr) : Prop := PySem.W.nsIn K mainGlobals C = some (some (.ref A))
def MR (as : List Addr) (B H : Hp) (a : Addr) : MO → Prop
  | .lst xs => ∃ vs, H a = some (.lst vs) ∧ Paired (VR K as B) xs vs
  | .dct kvs => ∃ us, H a = some (.dK us) ∧ Paired (KR K as B) kvs us
  | .ins C fs => ∃ A dx us, CAt K C A ∧ H a = some (.ins A dx us) ∧ Paired (KR K as B) fs us
  | .gone => True
structure Rel (as : List Addr) (B : Hp) (M : Mem) (H : Hp) : Prop where
  len : as.length = M.length
  nd : as.Nodup
  ex : Same B H
  sep : ∀ (n : Nat) (a : Addr) (mo : MO), as[n]? = some a → M[n]? = some mo → mo ≠ MO.gone → B a = none
  obj : ∀ (n : Nat) (a : Addr) (mo : MO), as[n]? = some a → M[n]? = some mo → MR K as B H a mo
  all : ∀ a, a ∈ as → H a ≠ none
def GR (as : List Addr) (B : Hp) : Gm → L2.St → Prop := Paired fun o p => ∀ s, o = some s → ∃ v, p = some v ∧ VR K as B s v
end
structure Lat (as : List Addr) (B H : Hp) (as' : List Addr) (B' H' : Hp) : Prop where
  pre : as <+: as'
  ex : Same B B'
  fr : ∀ a o, H a = some o → a ∉ as → H' a = some o
  new : ∀ a, a ∈ as' → a ∉ as → H a = none
  nb : ∀ a, B' a ≠ none → B a ≠ none ∨ H a = none ∨ a ∈ as
section
variable {K : PySem.W.Frag} {as as1 as2 : List Addr} {B B1 B2 H H1 H2 : Hp} {M M1 M2 : Mem}
theorem Lat.refl (as : List Addr) (B H : Hp) : Lat as B H as B H := ⟨List.prefix_refl _, Same.refl _, fun _ _ h _ => h, fun _ h n => absurd h n, fun _ h => .inl h⟩
theorem Lat.trans (x : Lat as B H as1 B1 H1) (y : Lat as1 B1 H1 as2 B2 H2) : Lat as B H as2 B2 H2 where
  pre := x.pre.trans y.pre
  ex := x.ex.trans y.ex
  fr := fun a o h n => y.fr a o (x.fr a o h n) fun m => by
    have := x.new a m n
    rw [h] at this
    cases this
  new := fun a m n => by
    by_cases k : a ∈ as1
    · exact x.new a k n
    · have h1 := y.new a m k
      cases q : H a with
      | none => rfl
      | some o =>
        rw [x.fr a o q n] at h1
        cases h1
  nb := fun a h => by
    rcases y.nb a h with k | k | k
    · exact x.nb a k
    · cases q : H a with
      | none => exact .inr (.inl rfl)
      | some o =>
        by_cases m : a ∈ as
        · exact .inr (.inr m)
        · rw [x.fr a o q m] at k
          cases k
    · by_cases m : a ∈ as
      · exact .inr (.inr m)
      · exact .inr (.inl (x.new a k m))
theorem VR.mono {s : SV} {v : V} (x : Lat as B H as1 B1 H1) (h : VR K as B s v) : VR K as1 B1 s v := by
  cases s with
  | d y => exact DR.mono x.ex _ _ h
  | loc n =>
    obtain ⟨a, e, rfl⟩ := h
    obtain ⟨t, rfl⟩ := x.pre
    exact ⟨a, by rw [List.getElem?_append_left ((List.getElem?_eq_some_iff.mp e).1)]; exact e, rfl⟩
theorem VR.monos {s : List SV} {v : List V} (x : Lat as B H as1 B1 H1) (h : Paired (VR K as B) s v) : Paired (VR K as1 B1) s v := L2.Paired.mapP h fun _ _ k => k.mono x
theorem KR.monos {κ : Type} {s : List (κ × SV)} {v : List (κ × V)} (x : Lat as B H as1 B1 H1) (h : Paired (KR K as B) s v) : Paired (KR K as1 B1) s v := L2.Paired.mapP h fun _ _ k => ⟨k.1, k.2.mono x⟩
theorem GR.mono {Γ : Gm} {σ : L2.St} (x : Lat as B H as1 B1 H1) (h : GR K as B Γ σ) : GR K as1 B1 Γ σ := L2.Paired.mapP h fun _ _ k s e => by
  obtain ⟨v, e1, r⟩ := k s e
  exact ⟨v, e1, r.mono x⟩
theorem Paired.at {α β : Type} {F : α → β → Prop} : ∀ {xs : List α} {ys : List β} {i : Nat} {x : α}, Paired F xs ys → xs[i]? = some x → ∃ y, ys[i]? = some y ∧ F x y
  | _, _, _, _, .nil, e => by simp at e
  | _, _, 0, _, .cons r _, e => by simp at e; subst e; exact ⟨_, rfl, r⟩
  | _, _, i + 1, x, .cons _ t, e => by
    obtain ⟨u, h1, h2⟩ := Paired.at (i := i) (x := x) t (by simpa using e)
    exact ⟨u, by simpa using h1, h2⟩
theorem Paired.atR {α β : Type} {F : α → β → Prop} : ∀ {xs : List α} {ys : List β} {i : Nat} {y : β}, Paired F xs ys → ys[i]? = some y → ∃ x, xs[i]? = some x ∧ F x y
  | _, _, _, _, .nil, e => by simp at e
  | _, _, 0, _, .cons r _, e => by simp at e; subst e; exact ⟨_, rfl, r⟩
  | _, _, i + 1, x, .cons _ t, e => by
    obtain ⟨u, h1, h2⟩ := Paired.atR (i := i) (y := x) t (by simpa using e)
    exact ⟨u, by simpa using h1, h2⟩
theorem Paired.set' {α β : Type} {F : α → β → Prop} {x : α} {y : β} (r : F x y) : ∀ {xs : List α} {ys : List β} (i : Nat), Paired F xs ys → Paired F (xs.set i x) (ys.set i y)
  | _, _, _, .nil => .nil
  | _, _, 0, .cons _ t => .cons r t
  | _, _, i + 1, .cons q t => .cons q (Paired.set' r i t)
theorem Paired.app {α β : Type} {F : α → β → Prop} : ∀ {xs xs' : List α} {ys ys' : List β}, Paired F xs ys → Paired F xs' ys' → Paired F (xs ++ xs') (ys ++ ys')
  | _, _, _, _, .nil, h => h
  | _, _, _, _, .cons p q, h => .cons p (Paired.app q h)
theorem Paired.drp {α β : Type} {F : α → β → Prop} : ∀ {xs : List α} {ys : List β} (n : Nat), Paired F xs ys → Paired F (xs.drop n) (ys.drop n)
  | _, _, 0, h => h
  | _, _, _ + 1, .nil => .nil
  | _, _, n + 1, .cons _ q => Paired.drp n q
theorem Paired.tak {α β : Type} {F : α → β → Prop} : ∀ {xs : List α} {ys : List β} (n : Nat), Paired F xs ys → Paired F (xs.take n) (ys.take n)
  | _, _, 0, _ => .nil
  | _, _, _ + 1, .nil => .nil
  | _, _, n + 1, .cons p q => .cons p (Paired.tak n q)
theorem vrs_d {xs : List PyData} {vs : List V} (h : Paired (DR K B) xs vs) : Paired (VR K as B) (xs.map .d) vs := by
  induction h with
  | nil => exact .nil
  | cons p _ ih => exact .cons p ih
theorem drs_of : ∀ {xs : List PyData} {vs : List V}, Paired (VR K as B) (xs.map .d) vs → Paired (DR K B) xs vs
  | [], _, h => by cases h; exact .nil
  | x :: xs, _, h => by cases h with | cons p q => exact .cons p (drs_of q)
/-- the data among values -/
def allD : List SV → Option (List PyData)
  | [] => some []
  | .d x :: r => (allD r).map (x :: ·)
  | .loc _ :: _ => none
theorem allD_some : ∀ {xs : List SV} {ds : List PyData}, allD xs = some ds → xs = ds.map .d
  | [], ds, h => by cases h; rfl
  | .d x :: r, ds, h => by
    simp only [allD, Option.map_eq_some_iff] at h
    obtain ⟨es, h1, rfl⟩ := h
    rw [allD_some h1]
    rfl
  | .loc _ :: _, _, h => by cases h
theorem allD_map : ∀ (ds : List PyData), allD (ds.map .d) = some ds
  | [] => rfl
  | x :: r => by
    show (allD (r.map .d)).map (x :: ·) = some (x :: r)
    rw [allD_map r]
    rfl
/-- the items of a list, of a tuple -/
def lstOf (M : Mem) : SV → Option (List SV)
  | .d (.list xs) => some (xs.map .d)
  | .loc n => match M[n]? with
    | some (.lst xs) => some xs
    | _ => none
  | _ => none
def tupOf : SV → Option (List SV)
  | .d (.tuple xs) => some (xs.map .d)
  | _ => none
theorem lstOf_ok {s : SV} {v : V} {xs : List SV} (R : Rel K as B M H) (h : VR K as B s v) (e : lstOf M s = some xs) : ∃ a vs, v = .ref a ∧ Rd H a (.lst vs) ∧ Paired (VR K as B) xs vs := by
  cases s with
  | d y =>
    cases y with
    | list ds =>
      cases e
      cases h with
      | lst r p => exact ⟨_, _, rfl, same_rd R.ex r, vrs_d p⟩
    | _ => cases e
  | loc n =>
    obtain ⟨a, ea, rfl⟩ := h
    simp only [lstOf] at e
    cases q : M[n]? with
    | none => rw [q] at e; cases e
    | some mo =>
      rw [q] at e
      cases mo with
      | lst ys =>
        cases e
        obtain ⟨vs, h1, h2⟩ := R.obj n a _ ea q
        exact ⟨a, vs, rfl, .inl h1, h2⟩
      | _ => cases e
theorem tupOf_ok {s : SV} {v : V} {xs : List SV} (R : Rel K as B M H) (h : VR K as B s v) (e : tupOf s = some xs) : ∃ a vs, v = .ref a ∧ SqT K H a vs ∧ Paired (VR K as B) xs vs := by
  cases s with
  | d y =>
    cases y with
    | tuple ds =>
      cases e
      cases h with
      | tup r p => exact ⟨_, _, rfl, same_t R.ex r, vrs_d p⟩
    | _ => cases e
  | loc n => cases e
/-- the data that a value reads as -/
def rdD (M : Mem) : SV → Option PyData
  | .d x => some x
  | .loc n => match M[n]? with
    | some (.lst xs) => (allD xs).map .list
    | _ => none
theorem rdD_ok {s : SV} {v : V} {x : PyData} (R : Rel K as B M H) (h : VR K as B s v) (e : rdD M s = some x) : DR K H x v := by
  cases s with
  | d y =>
    cases e
    exact DR.mono R.ex _ _ h
  | loc n =>
    obtain ⟨a, ea, rfl⟩ := h
    simp only [rdD] at e
    cases q : M[n]? with
    | none => rw [q] at e; cases e
    | some mo =>
      rw [q] at e
      cases mo with
      | lst ys =>
        simp only [Option.map_eq_some_iff] at e
        obtain ⟨ds, e1, rfl⟩ := e
        obtain ⟨vs, h1, h2⟩ := R.obj n a _ ea q
        rw [allD_some e1] at h2
        exact .lst (.inl h1) (DR.monos R.ex _ _ (drs_of h2))
      | _ => cases e
/-- a new object beside the memory that is data from now on -/
theorem Rel.data {p : Addr} {o : HO} (R : Rel K as B M H) (hp : H p = none) : Rel K as (upd B p o) M (upd H p o) ∧ Lat as B H as (upd B p o) (upd H p o) := by
  have Bp : B p = none := R.ex.free hp
  have pa : p ∉ as := fun m => R.all p m hp
  have sB : Same B (upd B p o) := fun b u e => by
    rw [upd_ne (ne_of_none e Bp)]
    exact e
  have L : Lat as B H as (upd B p o) (upd H p o) := ⟨List.prefix_refl _, sB, fun a u e _ => by rw [upd_ne (ne_of_none e hp)]; exact e, fun a m n => absurd m n, fun a k => by
    by_cases q : a = p
    · subst q
      exact .inr (.inl hp)
    · rw [upd_ne q] at k
      exact .inl k⟩
  refine ⟨⟨R.len, R.nd, fun b u e => ?_, fun n a mo ea em hg => ?_, fun n a mo ea em => ?_, fun a m => ?_⟩, L⟩
  · by_cases q : b = p
    · subst q
      rw [upd_same] at e ⊢
      exact e
    · rw [upd_ne q] at e ⊢
      exact R.ex b u e
  · rw [upd_ne (b := a) (a := p) fun q => pa (by rw [← q]; exact List.mem_of_getElem? ea)]
    exact R.sep n a mo ea em hg
  · have ne : a ≠ p := fun q => pa (q ▸ List.mem_of_getElem? ea)
    have h := R.obj n a mo ea em
    cases mo with
    | lst xs =>
      obtain ⟨vs, h1, h2⟩ := h
      exact ⟨vs, by rw [upd_ne ne]; exact h1, VR.monos L h2⟩
    | dct xs =>
      obtain ⟨vs, h1, h2⟩ := h
      exact ⟨vs, by rw [upd_ne ne]; exact h1, KR.monos L h2⟩
    | ins C fs =>
      obtain ⟨C2, dx, vs, h0, h1, h2⟩ := h
      exact ⟨C2, dx, vs, h0, by rw [upd_ne ne]; exact h1, KR.monos L h2⟩
    | gone => trivial
  · rw [upd_ne (b := a) (a := p) fun q => pa (by rw [← q]; exact m)]
    exact R.all a m
end
end Z
namespace Z
open PySem L2
/-- what is wanted behind, of every later state -/
def J {α β : Type} (K : PySem.W.Frag) (R : List Addr → Hp → α → β → Prop) (t : L2.St → Hp → (β → Hp → Prop) → Prop) (f : Gm → Mem → Option (α × Mem)) : Prop :=
  ∀ (Γ : Gm) (M : Mem) (x : α) (M' : Mem), f Γ M = some (x, M') → ∀ (as : List Addr) (B : Hp) (σ : L2.St) (H : Hp), Rel K as B M H → GR K as B Γ σ → ∀ Q : β → Hp → Prop,
    (∀ (y : β) (as' : List Addr) (B' H' : Hp), Lat as B H as' B' H' → Rel K as' B' M' H' → R as' B' x y → Q y H') → t σ H Q
abbrev Fe := Gm → Mem → Option (SV × Mem)
abbrev Ft := Gm → Mem → Option (Bool × Mem)
abbrev Fa := Gm → Mem → Option (List SV × Mem)
def RB : List Addr → Hp → Bool → Bool → Prop := fun _ _ b c => b = c
/-- the reading that belongs to a function of data and memory -/
def cn {α β : Type} (K : PySem.W.Frag) (R : List Addr → Hp → α → β → Prop) (f : Gm → Mem → Option (α × Mem)) : L2.St → Hp → (β → Hp → Prop) → Prop := fun σ H Q =>
  ∃ (Γ : Gm) (M : Mem) (x : α) (M' : Mem) (as : List Addr) (B : Hp), f Γ M = some (x, M') ∧ Rel K as B M H ∧ GR K as B Γ σ ∧
    ∀ (y : β) (as' : List Addr) (B' H' : Hp), Lat as B H as' B' H' → Rel K as' B' M' H' → R as' B' x y → Q y H'
theorem j_cn {α β : Type} {K : PySem.W.Frag} {R : List Addr → Hp → α → β → Prop} {f : Gm → Mem → Option (α × Mem)} : J K R (cn K R f) f :=
  fun Γ M x M' h as B σ H r g Q q => ⟨Γ, M, x, M', as, B, h, r, g, q⟩
theorem J.use {α β : Type} {K : PySem.W.Frag} {R : List Addr → Hp → α → β → Prop} {t : L2.St → Hp → (β → Hp → Prop) → Prop} {f : Gm → Mem → Option (α × Mem)} (h : J K R t f) {σ : L2.St} {H : Hp} {Q : β → Hp → Prop} (c : cn K R f σ H Q) : t σ H Q := by
  obtain ⟨Γ, M, x, M', as, B, h1, r, g, q⟩ := c
  exact h Γ M x M' h1 as B σ H r g Q q
abbrev RA (K : PySem.W.Frag) : List Addr → Hp → List SV → List V → Prop := fun as B => Paired (VR K as B)
structure PEd (X : Cx) (e : Expr) (f : Fe) : Prop where
  pe : PE X e (cn X.K (VR X.K) f)
structure PTd (X : Cx) (e : Expr) (f : Ft) : Prop where
  pe : PT X e (cn X.K RB f)
structure PWd (X : Cx) (e : Expr) (f : Ft) : Prop where
  pe : PW X e (cn X.K RB f)
structure PAd (X : Cx) (es : List Expr) (f : Fa) : Prop where
  pe : PA X es (cn X.K (RA X.K) f)
theorem PEd.of {X : Cx} {e : Expr} {t : TE} {f : Fe} (h : PE X e t) (j : J X.K (VR X.K) t f) : PEd X e f := ⟨⟨fun pins s σ H Q I c => h.run pins s σ H Q I (j.use c)⟩⟩
theorem PTd.of {X : Cx} {e : Expr} {t : TT} {f : Ft} (h : PT X e t) (j : J X.K RB t f) : PTd X e f := ⟨⟨fun pins s σ H Q I c => h.run pins s σ H Q I (j.use c)⟩⟩
theorem PWd.of {X : Cx} {e : Expr} {t : TT} {f : Ft} (h : PW X e t) (j : J X.K RB t f) : PWd X e f := ⟨⟨fun whole pins s σ H Q I c => h.run whole pins s σ H Q I (j.use c)⟩⟩
theorem PAd.of {X : Cx} {es : List Expr} {t : TA} {f : Fa} (h : PA X es t) (j : J X.K (RA X.K) t f) : PAd X es f := ⟨⟨fun pos pins s σ H Q I c => h.run pos pins s σ H Q I (j.use c)⟩⟩
theorem PEd.j {X : Cx} {e : Expr} {f : Fe} (_ : PEd X e f) : J X.K (VR X.K) (cn X.K (VR X.K) f) f := j_cn
theorem PTd.j {X : Cx} {e : Expr} {f : Ft} (_ : PTd X e f) : J X.K RB (cn X.K RB f) f := j_cn
theorem PWd.j {X : Cx} {e : Expr} {f : Ft} (_ : PWd X e f) : J X.K RB (cn X.K RB f) f := j_cn
theorem PAd.j {X : Cx} {es : List Expr} {f : Fa} (_ : PAd X es f) : J X.K (RA X.K) (cn X.K (RA X.K) f) f := j_cn
theorem ite_some {c : Prop} [Decidable c] {α : Type} {x y : α} (h : (if c then some x else none) = some y) : c ∧ x = y := by
  by_cases k : c
  · rw [if_pos k] at h
    exact ⟨k, Option.some.inj h⟩
  · rw [if_neg k] at h
    cases h
theorem ite_opt {c : Prop} [Decidable c] {α : Type} {x : Option α} {y : α} (h : (if c then x else none) = some y) : c ∧ x = some y := by
  by_cases k : c
  · rw [if_pos k] at h
    exact ⟨k, h⟩
  · rw [if_neg k] at h
    cases h
section
variable {X : Cx} {K : PySem.W.Frag} {ta tb te : TE} {tt tu : TT} {fa fb fe fc : Fe} {ft fu : Ft} {a b c e : Expr} {pos : Pos}
/-! names, constants -/
def fVar (i : Nat) : Fe := fun Γ M => match Γ[i]? with
  | some (some s) => some (s, M)
  | _ => none
def fC (x : PyData) : Fe := fun _ M => some (.d x, M)
theorem j_var {i : Nat} : J K (VR K) (tVar i) (fVar i) := fun Γ M x M' h as B σ H R G Q q => by
  unfold fVar at h
  cases e : Γ[i]? with
  | none => rw [e] at h; cases h
  | some o =>
    cases o with
    | none => rw [e] at h; cases h
    | some s0 =>
      rw [e] at h
      cases h
      obtain ⟨p, e1, k⟩ := Z.Paired.at G e
      obtain ⟨v, rfl, r⟩ := k _ rfl
      exact ⟨v, e1, q v as B H (Lat.refl _ _ _) R r⟩
theorem j_c {x : PyData} {v : V} (h : ∀ B, DR K B x v) : J K (VR K) (tC v) (fC x) := fun Γ M _ M' e as B σ H R G Q q => by
  cases e
  exact q v as B H (Lat.refl _ _ _) R (h B)
theorem zvar (i : Nat) {x : Str} (hN : X.N[i]? = some x := by rfl) (hv : Vis X.env.scope x := by first | exact Or.inl rfl | exact Or.inr (Or.inl rfl) | exact Or.inr (Or.inr rfl)) (hd : (x == ("__debug__" : Str)) = false := by decide)
    (hcd : (x == ("__classdict__" : Str)) = false := by decide) : PEd X (.Name x pos) (fVar i) := .of (pe_var hN hv hd hcd) (j_var)
theorem zint {i : Int} {j} : PEd X (.Constant (.int i) j pos) (fC (.int i)) := .of (pe_int) (j_c fun _ => .int _)
theorem zbl {i : Bool} {j} : PEd X (.Constant (.bool i) j pos) (fC (.bool i)) := .of (pe_bl) (j_c fun _ => .bl _)
theorem znon {j} : PEd X (.Constant .none j pos) (fC .none) := .of (pe_non) (j_c fun _ => .non)
theorem zstr {x : Str} {j} : PEd X (.Constant (.str x) j pos) (fC (.str x)) := .of (pe_str) (j_c fun _ => .str _)
/-- a module's constant, an int or a text -/
theorem zglob {x : Str} {v : V} {y : PyData} {u : Value} (hg : Gl X x) (hm : X.mg x = some u) (r : RelV v u) (h : ∀ B, DR X.K B y v) (hd : (x == ("__debug__" : Str)) = false := by decide) : PEd X (.Name x pos) (fC y) := .of (pe_glob hg hm r hd) (j_c h)
/-! operations -/
def G2 (K : PySem.W.Frag) (r : R2) (g : SV → SV → Mem → Option (SV × Mem)) : Prop :=
  ∀ (x y : SV) (M : Mem) (z : SV) (M' : Mem), g x y M = some (z, M') → ∀ (as : List Addr) (B H : Hp), Rel K as B M H → ∀ u v, VR K as B x u → VR K as B y v → ∀ Q : VK,
    (∀ (w : V) (as' : List Addr) (B' H' : Hp), Lat as B H as' B' H' → Rel K as' B' M' H' → VR K as' B' z w → Q w H') → r u v H Q
def G1 (K : PySem.W.Frag) (r : V → Hp → VK → Prop) (g : SV → Mem → Option (SV × Mem)) : Prop :=
  ∀ (x : SV) (M : Mem) (z : SV) (M' : Mem), g x M = some (z, M') → ∀ (as : List Addr) (B H : Hp), Rel K as B M H → ∀ u, VR K as B x u → ∀ Q : VK,
    (∀ (w : V) (as' : List Addr) (B' H' : Hp), Lat as B H as' B' H' → Rel K as' B' M' H' → VR K as' B' z w → Q w H') → r u H Q
def GA (K : PySem.W.Frag) (r : List V → Hp → VK → Prop) (g : List SV → Mem → Option (SV × Mem)) : Prop :=
  ∀ (x : List SV) (M : Mem) (z : SV) (M' : Mem), g x M = some (z, M') → ∀ (as : List Addr) (B H : Hp), Rel K as B M H → ∀ u, Paired (VR K as B) x u → ∀ Q : VK,
    (∀ (w : V) (as' : List Addr) (B' H' : Hp), Lat as B H as' B' H' → Rel K as' B' M' H' → VR K as' B' z w → Q w H') → r u H Q
def fOp (g : SV → SV → Mem → Option (SV × Mem)) (a b : Fe) : Fe := fun Γ M => (a Γ M).bind fun p => (b Γ p.2).bind fun q => g p.1 q.1 q.2
def fUn (g : SV → Mem → Option (SV × Mem)) (a : Fe) : Fe := fun Γ M => (a Γ M).bind fun p => g p.1 p.2
theorem j_op {r : R2} {g : SV → SV → Mem → Option (SV × Mem)} (hr : G2 K r g) (ha : J K (VR K) ta fa) (hb : J K (VR K) tb fb) : J K (VR K) (tOp r ta tb) (fOp g fa fb) := fun Γ M z M' h as B σ H R G Q q => by
  simp only [fOp, Option.bind_eq_some_iff] at h
  obtain ⟨⟨x, M1⟩, h1, ⟨y, M2⟩, h2, h3⟩ := h
  refine ha Γ M x M1 h1 as B σ H R G _ fun u as1 B1 H1 L1 R1 r1 => ?_
  refine hb Γ M1 y M2 h2 as1 B1 σ H1 R1 (G.mono L1) _ fun v as2 B2 H2 L2 R2 r2 => ?_
  exact hr x y M2 z M' h3 as2 B2 H2 R2 u v (r1.mono L2) r2 Q fun w as3 B3 H3 L3 R3 r3 => q w as3 B3 H3 ((L1.trans L2).trans L3) R3 r3
theorem j_un {r : V → Hp → VK → Prop} {g : SV → Mem → Option (SV × Mem)} (hr : G1 K r g) (ha : J K (VR K) ta fa) : J K (VR K) (tUn r ta) (fUn g fa) := fun Γ M z M' h as B σ H R G Q q => by
  simp only [fUn, Option.bind_eq_some_iff] at h
  obtain ⟨⟨x, M1⟩, h1, h3⟩ := h
  refine ha Γ M x M1 h1 as B σ H R G _ fun u as1 B1 H1 L1 R1 r1 => ?_
  exact hr x M1 z M' h3 as1 B1 H1 R1 u r1 Q fun w as3 B3 H3 L3 R3 r3 => q w as3 B3 H3 (L1.trans L3) R3 r3
theorem zop {op : Operator} {r : R2} {g : SV → SV → Mem → Option (SV × Mem)} (ho : OpR X (binaryOp op) r) (hg : G2 X.K r g) (ha : PEd X a fa) (hb : PEd X b fb) : PEd X (.BinOp a op b pos) (fOp g fa fb) := .of (pe_op ho ha.pe hb.pe) (j_op hg ha.j hb.j)
theorem zun {op : UnaryOp} {r : V → Hp → VK → Prop} {g : SV → Mem → Option (SV × Mem)} (ho : UnR X (unaryOp op) r) (hg : G1 X.K r g) (ha : PEd X a fa) : PEd X (.UnaryOp op a pos) (fUn g fa) := .of (pe_un ho ha.pe) (j_un hg ha.j)
theorem zcmp {op : CmpOp} {r : R2} {g : SV → SV → Mem → Option (SV × Mem)} (ho : OpR X (compareOp op) r) (hg : G2 X.K r g) (ha : PEd X a fa) (hb : PEd X b fb) (hm : behindInMarks op b = false) : PEd X (.Compare a [op] [b] pos) (fOp g fa fb) := .of (pe_cmpR ho ha.pe hb.pe hm) (j_op hg ha.j hb.j)
theorem zix {r : R2} {g : SV → SV → Mem → Option (SV × Mem)} (hr : IxR X r) (hg : G2 X.K r g) (ha : PEd X a fa) (hb : PEd X b fb) (hs : PlainIx b) : PEd X (.Subscript a b pos) (fOp g fa fb) := .of (pe_ix hr ha.pe hb.pe hs) (j_op hg ha.j hb.j)
/-! tests -/
def boolOf : SV → Option Bool
  | .d (.bool b) => some b
  | _ => none
theorem boolOf_ok {s : SV} {k : Bool} {as : List Addr} {B : Hp} {v : V} (h : VR K as B s v) (e : boolOf s = some k) : v = .bl k := by
  cases s with
  | loc n => cases e
  | d x =>
    cases x with
    | bool b => cases e; cases h; rfl
    | _ => cases e
def truth (M : Mem) : SV → Option Bool
  | .d (.bool b) => some b
  | .d .none => some false
  | .d (.int i) => some (i != 0)
  | .d (.str z) => if z.length ≤ sizeLine then some (z.length != 0) else none
  | .d (.tuple xs) => some (!xs.isEmpty)
  | s => (lstOf M s).map fun xs => !xs.isEmpty
theorem Paired.emp {α β : Type} {F : α → β → Prop} : ∀ {xs : List α} {ys : List β}, Paired F xs ys → xs.isEmpty = ys.isEmpty
  | _, _, .nil => rfl
  | _, _, .cons _ _ => rfl
theorem truth_ok {s : SV} {k : Bool} {as : List Addr} {B H : Hp} {M : Mem} {v : V} (R : Rel K as B M H) (h : VR K as B s v) (e : truth M s = some k) : TruV K v H k := by
  have lists : (lstOf M s).map (fun xs => !xs.isEmpty) = some k → TruV K v H k := fun e => by
    simp only [Option.map_eq_some_iff] at e
    obtain ⟨xs, e1, rfl⟩ := e
    obtain ⟨a, vs, rfl, r, p⟩ := lstOf_ok R h e1
    exact .inl ⟨vs, .inl r, by rw [Paired.emp p]⟩
  cases s with
  | loc n => exact lists e
  | d x =>
    cases x with
    | bool b => cases e; cases h; rfl
    | none => cases e; cases h; rfl
    | int i => cases e; cases h; rfl
    | str z =>
      simp only [truth] at e
      split at e
      · cases e
        cases h
        refine ⟨by assumption, ?_⟩
        show (z.length != 0) = ((z.length : Int) != 0)
        cases z.length <;> rfl
      · cases e
    | tuple xs =>
      cases e
      obtain ⟨a, vs, rfl, r, p⟩ := tupOf_ok R h rfl
      refine .inr (.inl ⟨vs, r, ?_⟩)
      rw [← Paired.emp p]
      cases xs <;> rfl
    | list xs => exact lists e
    | dict xs => cases e
def fTru (a : Fe) : Ft := fun Γ M => (a Γ M).bind fun p => (truth p.2 p.1).map fun k => (k, p.2)
def fBool (a : Fe) : Ft := fun Γ M => (a Γ M).bind fun p => (boolOf p.1).map fun k => (k, p.2)
theorem j_tru (ha : J K (VR K) ta fa) : J K RB (fun σ H Q => ta σ H fun x H' => ∃ k, TruV K x H' k ∧ Q k H') (fTru fa) := fun Γ M z M' h as B σ H R G Q q => by
  simp only [fTru, Option.bind_eq_some_iff, Option.map_eq_some_iff] at h
  obtain ⟨⟨x, M1⟩, h1, k, h2, h3⟩ := h
  cases h3
  exact ha Γ M x M1 h1 as B σ H R G _ fun u as1 B1 H1 L1 R1 r1 => ⟨_, truth_ok R1 r1 h2, q _ as1 B1 H1 L1 R1 rfl⟩
theorem j_tb (ha : J K (VR K) ta fa) : J K RB (tB ta) (fBool fa) := fun Γ M z M' h as B σ H R G Q q => by
  simp only [fBool, Option.bind_eq_some_iff, Option.map_eq_some_iff] at h
  obtain ⟨⟨x, M1⟩, h1, k, h2, h3⟩ := h
  cases h3
  exact ha Γ M x M1 h1 as B σ H R G _ fun u as1 B1 H1 L1 R1 r1 => ⟨_, boolOf_ok r1 h2, q _ as1 B1 H1 L1 R1 rfl⟩
theorem j_tt (ha : J K (VR K) ta fa) : J K RB (tTest ta) (fBool fa) := j_tb ha
theorem zttr (ha : PEd X a fa) (he : ∀ whole, isTrue a X.env whole = (do let v ← whole; standAt a.pos; holding [v] (truthy v)) := by intro _; rfl) : PTd X a (fTru fa) := .of (pt_truth ha.pe he) (j_tru ha.j)
theorem ztval (ha : PEd X a fa) (he : ∀ whole, isTrue a X.env whole = (do let v ← whole; standAt a.pos; holding [v] (truthy v)) := by intro _; rfl) : PTd X a (fBool fa) := .of (pt_val ha.pe he) (j_tb ha.j)
theorem ztcmp {op : CmpOp} {r : R2} {g : SV → SV → Mem → Option (SV × Mem)} (ho : OpR X (compareOp op) r) (hg : G2 X.K r g) (ha : PEd X a fa) (hb : PEd X b fb) (hm : behindInMarks op b = false) : PTd X (.Compare a [op] [b] pos) (fBool (fOp g fa fb)) :=
  .of (pt_cmpR ho ha.pe hb.pe hm) (j_tt (j_op hg ha.j hb.j))
def fNotT (a : Ft) : Ft := fun Γ M => (a Γ M).map fun p => (!p.1, p.2)
def fAndT (a b : Ft) : Ft := fun Γ M => (a Γ M).bind fun p => if p.1 = true then b Γ p.2 else some (false, p.2)
def fOrT (a b : Ft) : Ft := fun Γ M => (a Γ M).bind fun p => if p.1 = true then some (true, p.2) else b Γ p.2
theorem j_notT (ha : J K RB tt ft) : J K RB (tNot tt) (fNotT ft) := fun Γ M z M' h as B σ H R G Q q => by
  simp only [fNotT, Option.map_eq_some_iff] at h
  obtain ⟨⟨x, M1⟩, h1, h3⟩ := h
  cases h3
  exact ha Γ M x M1 h1 as B σ H R G _ fun u as1 B1 H1 L1 R1 r1 => q _ as1 B1 H1 L1 R1 (by rw [show x = u from r1]; rfl)
theorem j_andT (ha : J K RB tt ft) (hb : J K RB tu fu) : J K RB (tAnd tt tu) (fAndT ft fu) := fun Γ M z M' h as B σ H R G Q q => by
  simp only [fAndT, Option.bind_eq_some_iff] at h
  obtain ⟨⟨x, M1⟩, h1, h3⟩ := h
  refine ha Γ M x M1 h1 as B σ H R G _ fun u as1 B1 H1 L1 R1 r1 => ?_
  cases (show x = u from r1)
  cases x with
  | true => exact hb Γ M1 z M' h3 as1 B1 σ H1 R1 (G.mono L1) Q fun w as2 B2 H2 L2 R2 r2 => q w as2 B2 H2 (L1.trans L2) R2 r2
  | false => cases h3; exact q _ as1 B1 H1 L1 R1 rfl
theorem j_orT (ha : J K RB tt ft) (hb : J K RB tu fu) : J K RB (tOr tt tu) (fOrT ft fu) := fun Γ M z M' h as B σ H R G Q q => by
  simp only [fOrT, Option.bind_eq_some_iff] at h
  obtain ⟨⟨x, M1⟩, h1, h3⟩ := h
  refine ha Γ M x M1 h1 as B σ H R G _ fun u as1 B1 H1 L1 R1 r1 => ?_
  cases (show x = u from r1)
  cases x with
  | false => exact hb Γ M1 z M' h3 as1 B1 σ H1 R1 (G.mono L1) Q fun w as2 B2 H2 L2 R2 r2 => q w as2 B2 H2 (L1.trans L2) R2 r2
  | true => cases h3; exact q _ as1 B1 H1 L1 R1 rfl
theorem ztnot (ha : PTd X a ft) : PTd X (.UnaryOp .Not a pos) (fNotT ft) := .of (pt_not ha.pe) (j_notT ha.j)
theorem zwand1 (ha : PTd X a ft) : PWd X (.BoolOp .And [a] pos) ft := .of (pw_and1 ha.pe) (ha.j)
theorem zwor1 (ha : PTd X a ft) : PWd X (.BoolOp .Or [a] pos) ft := .of (pw_or1 ha.pe) (ha.j)
theorem zwand {rest : List Expr} (ha : PTd X a ft) (hb : PWd X (.BoolOp .And (b :: rest) pos) fu) : PWd X (.BoolOp .And (a :: b :: rest) pos) (fAndT ft fu) := .of (pw_and ha.pe hb.pe) (j_andT ha.j hb.j)
theorem zwor {rest : List Expr} (ha : PTd X a ft) (hb : PWd X (.BoolOp .Or (b :: rest) pos) fu) : PWd X (.BoolOp .Or (a :: b :: rest) pos) (fOrT ft fu) := .of (pw_or ha.pe hb.pe) (j_orT ha.j hb.j)
theorem PWd.pt (h : PWd X a ft) : PTd X a ft := .of h.pe.pt h.j
/-! and, or, not as values (all but the last True or False); x if c else y -/
def fAndV (a b : Fe) : Fe := fun Γ M => (a Γ M).bind fun p => (boolOf p.1).bind fun k => if k = true then b Γ p.2 else some (.d (.bool false), p.2)
def fOrV (a b : Fe) : Fe := fun Γ M => (a Γ M).bind fun p => (boolOf p.1).bind fun k => if k = true then some (.d (.bool true), p.2) else b Γ p.2
def fNotV (a : Fe) : Fe := fun Γ M => (a Γ M).bind fun p => (boolOf p.1).map fun k => (.d (.bool (!k)), p.2)
def fIf (c : Ft) (a b : Fe) : Fe := fun Γ M => (c Γ M).bind fun p => if p.1 = true then a Γ p.2 else b Γ p.2
theorem j_andV (ha : J K (VR K) ta fa) (hb : J K (VR K) tb fb) : J K (VR K) (tAndV ta tb) (fAndV fa fb) := fun Γ M z M' h as B σ H R G Q q => by
  simp only [fAndV, Option.bind_eq_some_iff] at h
  obtain ⟨⟨x, M1⟩, h1, k, h2, h3⟩ := h
  refine ha Γ M x M1 h1 as B σ H R G _ fun u as1 B1 H1 L1 R1 r1 => ⟨k, boolOf_ok r1 h2, ?_⟩
  cases k with
  | true => exact hb Γ M1 z M' h3 as1 B1 σ H1 R1 (G.mono L1) Q fun w as2 B2 H2 L2 R2 r2 => q w as2 B2 H2 (L1.trans L2) R2 r2
  | false => cases h3; exact q _ as1 B1 H1 L1 R1 (.bl _)
theorem j_orV (ha : J K (VR K) ta fa) (hb : J K (VR K) tb fb) : J K (VR K) (tOrV ta tb) (fOrV fa fb) := fun Γ M z M' h as B σ H R G Q q => by
  simp only [fOrV, Option.bind_eq_some_iff] at h
  obtain ⟨⟨x, M1⟩, h1, k, h2, h3⟩ := h
  refine ha Γ M x M1 h1 as B σ H R G _ fun u as1 B1 H1 L1 R1 r1 => ⟨k, boolOf_ok r1 h2, ?_⟩
  cases k with
  | false => exact hb Γ M1 z M' h3 as1 B1 σ H1 R1 (G.mono L1) Q fun w as2 B2 H2 L2 R2 r2 => q w as2 B2 H2 (L1.trans L2) R2 r2
  | true => cases h3; exact q _ as1 B1 H1 L1 R1 (.bl _)
theorem j_notV (ha : J K (VR K) ta fa) : J K (VR K) (tNotV ta) (fNotV fa) := fun Γ M z M' h as B σ H R G Q q => by
  simp only [fNotV, Option.bind_eq_some_iff, Option.map_eq_some_iff] at h
  obtain ⟨⟨x, M1⟩, h1, k, h2, h3⟩ := h
  cases h3
  exact ha Γ M x M1 h1 as B σ H R G _ fun u as1 B1 H1 L1 R1 r1 => ⟨k, boolOf_ok r1 h2, q _ as1 B1 H1 L1 R1 (.bl _)⟩
theorem j_if (hc : J K RB tt ft) (ha : J K (VR K) ta fa) (hb : J K (VR K) tb fb) : J K (VR K) (tIf tt ta tb) (fIf ft fa fb) := fun Γ M z M' h as B σ H R G Q q => by
  simp only [fIf, Option.bind_eq_some_iff] at h
  obtain ⟨⟨x, M1⟩, h1, h3⟩ := h
  refine hc Γ M x M1 h1 as B σ H R G _ fun u as1 B1 H1 L1 R1 r1 => ?_
  cases (show x = u from r1)
  cases x with
  | true => exact ha Γ M1 z M' h3 as1 B1 σ H1 R1 (G.mono L1) Q fun w as2 B2 H2 L2 R2 r2 => q w as2 B2 H2 (L1.trans L2) R2 r2
  | false => exact hb Γ M1 z M' h3 as1 B1 σ H1 R1 (G.mono L1) Q fun w as2 B2 H2 L2 R2 r2 => q w as2 B2 H2 (L1.trans L2) R2 r2
theorem zone {op} (h : PEd X a fa) : PEd X (.BoolOp op [a] pos) fa := .of (pe_one h.pe) (h.j)
theorem zand {rest : List Expr} (ha : PEd X a fa) (hb : PEd X (.BoolOp .And (b :: rest) pos) fb) : PEd X (.BoolOp .And (a :: b :: rest) pos) (fAndV fa fb) := .of (pe_and ha.pe hb.pe) (j_andV ha.j hb.j)
theorem zor {rest : List Expr} (ha : PEd X a fa) (hb : PEd X (.BoolOp .Or (b :: rest) pos) fb) : PEd X (.BoolOp .Or (a :: b :: rest) pos) (fOrV fa fb) := .of (pe_or ha.pe hb.pe) (j_orV ha.j hb.j)
theorem znot (ha : PEd X a fa) : PEd X (.UnaryOp .Not a pos) (fNotV fa) := .of (pe_not ha.pe) (j_notV ha.j)
theorem zif (hc : PTd X c ft) (ha : PEd X a fa) (hb : PEd X b fb) : PEd X (.IfExp c a b pos) (fIf ft fa fb) := .of (pe_ifExp hc.pe ha.pe hb.pe) (j_if hc.j ha.j hb.j)
/-! arguments, displays -/
variable {es : List Expr} {t1 tr : TA} {f1 fr : Fa}
def fNil : Fa := fun _ M => some ([], M)
def fCons (a : Fe) (r : Fa) : Fa := fun Γ M => (a Γ M).bind fun p => (r Γ p.2).map fun q => (p.1 :: q.1, q.2)
theorem j_nil : J K (RA K) tNil fNil := fun Γ M z M' h as B σ H R G Q q => by
  cases h
  exact q _ as B H (Lat.refl _ _ _) R .nil
theorem j_cons (ha : J K (VR K) ta fa) (hr : J K (RA K) tr fr) : J K (RA K) (tCons ta tr) (fCons fa fr) := fun Γ M z M' h as B σ H R G Q q => by
  simp only [fCons, Option.bind_eq_some_iff, Option.map_eq_some_iff] at h
  obtain ⟨⟨x, M1⟩, h1, ⟨xs, M2⟩, h2, h3⟩ := h
  cases h3
  refine ha Γ M x M1 h1 as B σ H R G _ fun u as1 B1 H1 L1 R1 r1 => ?_
  exact hr Γ M1 xs _ h2 as1 B1 σ H1 R1 (G.mono L1) _ fun w as2 B2 H2 L2 R2 r2 => q _ as2 B2 H2 (L1.trans L2) R2 (.cons (r1.mono L2) r2)
theorem znil : PAd X [] fNil := .of (pa_nil) (j_nil)
theorem zcons (ha : PEd X a fa) (hr : PAd X es fr) (hs : starEach (a :: es) X.env = (false, eval a X.env) :: starEach es X.env := by rfl) : PAd X (a :: es) (fCons fa fr) := .of (pa_cons ha.pe hr.pe hs) (j_cons ha.j hr.j)
def mkT (xs : List SV) (M : Mem) : Option (SV × Mem) := (allD xs).bind fun ds => if ds.length ≤ sizeLine then some (.d (.tuple ds), M) else none
def mkL (xs : List SV) (M : Mem) : Option (SV × Mem) := (allD xs).bind fun ds => if ds.length ≤ sizeLine then some (.d (.list ds), M) else none
def fTup (t : Fa) : Fe := fun Γ M => (t Γ M).bind fun p => mkT p.1 p.2
def fLst (t : Fa) : Fe := fun Γ M => (t Γ M).bind fun p => mkL p.1 p.2
theorem Rel.tupD {as : List Addr} {B H : Hp} {M : Mem} {p : Addr} {ds : List PyData} {vs : List V} (R : Rel K as B M H) (hp : H p = none) (h : Paired (DR K B) ds vs) :
    ∃ B', Rel K as B' M (upd H p (.tup vs)) ∧ Lat as B H as B' (upd H p (.tup vs)) ∧ VR K as B' (.d (.tuple ds)) (.ref p) := by
  obtain ⟨R', L⟩ := R.data (o := .tup vs) hp
  exact ⟨_, R', L, .tup (.inl (.inl upd_same)) (DR.monos L.ex _ _ h)⟩
theorem Rel.lstD {as : List Addr} {B H : Hp} {M : Mem} {p : Addr} {ds : List PyData} {vs : List V} (R : Rel K as B M H) (hp : H p = none) (h : Paired (DR K B) ds vs) :
    ∃ B', Rel K as B' M (upd H p (.lst vs)) ∧ Lat as B H as B' (upd H p (.lst vs)) ∧ VR K as B' (.d (.list ds)) (.ref p) := by
  obtain ⟨R', L⟩ := R.data (o := .lst vs) hp
  exact ⟨_, R', L, .lst (.inl upd_same) (DR.monos L.ex _ _ h)⟩
theorem j_tup (ht : J K (RA K) t1 f1) : J K (VR K) (tTup t1) (fTup f1) := fun Γ M z M' h as B σ H R G Q q => by
  simp only [fTup, mkT, Option.bind_eq_some_iff] at h
  obtain ⟨⟨x, M1⟩, h1, ds, h2, h3⟩ := h
  obtain ⟨hsz, h3⟩ := ite_some h3
  cases h3
  refine ht Γ M x _ h1 as B σ H R G _ fun u as1 B1 H1 L1 R1 r1 => ?_
  have r1 : Paired (DR K B1) ds u := drs_of (as := as1) (by rw [← allD_some h2]; exact r1)
  refine ⟨by rw [← Paired.length r1]; exact hsz, fun p hp => ?_⟩
  obtain ⟨B', R', L', v⟩ := R1.tupD hp r1
  exact q _ as1 B' _ (L1.trans L') R' v
theorem j_lst (ht : J K (RA K) t1 f1) : J K (VR K) (tLst t1) (fLst f1) := fun Γ M z M' h as B σ H R G Q q => by
  simp only [fLst, mkL, Option.bind_eq_some_iff] at h
  obtain ⟨⟨x, M1⟩, h1, ds, h2, h3⟩ := h
  obtain ⟨hsz, h3⟩ := ite_some h3
  cases h3
  refine ht Γ M x _ h1 as B σ H R G _ fun u as1 B1 H1 L1 R1 r1 => ?_
  have r1 : Paired (DR K B1) ds u := drs_of (as := as1) (by rw [← allD_some h2]; exact r1)
  refine ⟨by rw [← Paired.length r1]; exact hsz, fun p hp => ?_⟩
  obtain ⟨B', R', L', v⟩ := R1.lstD hp r1
  exact q _ as1 B' _ (L1.trans L') R' v
theorem ztup {x1} (h : PAd X es f1) : PEd X (.Tuple es x1 pos) (fTup f1) := .of (pe_tup h.pe) (j_tup h.j)
theorem zlst (h : PAd X es f1) : PEd X (.List es pos) (fLst f1) := .of (pe_lst h.pe) (j_lst h.j)
/-- a list that may change: a new place of the memory -/
def fLstM (t : Fa) : Fe := fun Γ M => (t Γ M).bind fun p => if p.1.length ≤ sizeLine then some (.loc p.2.length, p.2 ++ [.lst p.1]) else none
theorem Rel.newL {as : List Addr} {B H : Hp} {M : Mem} {p : Addr} {o : HO} {mo : MO} (R : Rel K as B M H) (hp : H p = none) (hmo : MR K as B (upd H p o) p mo) :
    Rel K (as ++ [p]) B (M ++ [mo]) (upd H p o) ∧ Lat as B H (as ++ [p]) B (upd H p o) := by
  have Bp : B p = none := R.ex.free hp
  have pa : p ∉ as := fun m => R.all p m hp
  have L : Lat as B H (as ++ [p]) B (upd H p o) := ⟨List.prefix_append _ _, Same.refl _, fun a u e _ => by rw [upd_ne (ne_of_none e hp)]; exact e, fun a m n => by
    rcases List.mem_append.mp m with k | k
    · exact absurd k n
    · rw [List.mem_singleton.mp k]; exact hp, fun a k => .inl k⟩
  have mr : ∀ a mo, a ≠ p → MR K as B H a mo → MR K (as ++ [p]) B (upd H p o) a mo := fun a mo ne h => by
    cases mo with
    | lst xs =>
      obtain ⟨vs, h1, h2⟩ := h
      exact ⟨vs, by rw [upd_ne ne]; exact h1, VR.monos L h2⟩
    | dct xs =>
      obtain ⟨vs, h1, h2⟩ := h
      exact ⟨vs, by rw [upd_ne ne]; exact h1, KR.monos L h2⟩
    | ins C fs =>
      obtain ⟨C2, dx, vs, h0, h1, h2⟩ := h
      exact ⟨C2, dx, vs, h0, by rw [upd_ne ne]; exact h1, KR.monos L h2⟩
    | gone => trivial
  have mr2 : MR K (as ++ [p]) B (upd H p o) p mo := by
    cases mo with
    | lst xs =>
      obtain ⟨vs, h1, h2⟩ := hmo
      exact ⟨vs, h1, VR.monos L h2⟩
    | dct xs =>
      obtain ⟨vs, h1, h2⟩ := hmo
      exact ⟨vs, h1, KR.monos L h2⟩
    | ins C fs =>
      obtain ⟨C2, dx, vs, h0, h1, h2⟩ := hmo
      exact ⟨C2, dx, vs, h0, h1, KR.monos L h2⟩
    | gone => trivial
  refine ⟨⟨by rw [List.length_append, List.length_append, R.len]; rfl, ?_, fun b u e => ?_, fun n a mo' ea em hg => ?_, fun n a mo' ea em => ?_, fun a m => ?_⟩, L⟩
  · rw [List.nodup_append]
    exact ⟨R.nd, by simp, fun a ha b hb => by rw [List.mem_singleton.mp hb]; exact fun q => pa (by rw [← q]; exact ha)⟩
  · rw [upd_ne (fun q => by rw [q, Bp] at e; cases e)]
    exact R.ex b u e
  · by_cases hn : n < as.length
    · rw [List.getElem?_append_left hn] at ea
      rw [List.getElem?_append_left (by rw [← R.len]; exact hn)] at em
      exact R.sep n a mo' ea em hg
    · rw [List.getElem?_append_right (by omega)] at ea
      have : a = p := by
        have := List.mem_of_getElem? ea
        exact List.mem_singleton.mp this
      rw [this]
      exact Bp
  · by_cases hn : n < as.length
    · rw [List.getElem?_append_left hn] at ea
      rw [List.getElem?_append_left (by rw [← R.len]; exact hn)] at em
      exact mr a mo' (fun q => pa (by rw [← q]; exact List.mem_of_getElem? ea)) (R.obj n a mo' ea em)
    · rw [List.getElem?_append_right (by omega)] at ea
      rw [List.getElem?_append_right (by rw [← R.len]; omega)] at em
      have e1 : a = p := List.mem_singleton.mp (List.mem_of_getElem? ea)
      have e2 : mo' = mo := List.mem_singleton.mp (List.mem_of_getElem? em)
      rw [e1, e2]
      exact mr2
  · rcases List.mem_append.mp m with k | k
    · rw [upd_ne (b := a) (a := p) fun q => pa (by rw [← q]; exact k)]
      exact R.all a k
    · rw [List.mem_singleton.mp k, upd_same]
      exact fun q => nomatch q
end
end Z
namespace Z
open PySem L2
section
variable {X : Cx} {K : PySem.W.Frag} {as : List Addr} {B H : Hp} {M : Mem}
/-! inversions -/
theorem vr_int {i : Int} {v : V} (h : VR K as B (.d (.int i)) v) : v = .int i := by cases h; rfl
theorem vr_bl {i : Bool} {v : V} (h : VR K as B (.d (.bool i)) v) : v = .bl i := by cases h; rfl
theorem vr_str {i : Str} {v : V} (h : VR K as B (.d (.str i)) v) : v = .str i := by cases h; rfl
theorem vr_non {v : V} (h : VR K as B (.d .none) v) : v = .non := by cases h; rfl
/-! + -/
def rCatR : R2 := fun x y H Q => ∃ l b xs zs, x = .ref l ∧ y = .ref b ∧ Rd H l (.lst xs) ∧ Rd H b (.lst zs) ∧ xs.length + zs.length ≤ sizeLine ∧ ∀ p, H p = none → Q (.ref p) (upd H p (.lst (xs ++ zs)))
theorem op_catR : OpR X (binaryOp .Add) rCatR := by
  intro pins s σ H x y v u Q I rx ry h
  obtain ⟨l, b, xs, zs, rfl, rfl, hH, hB, hz, q⟩ := h
  cases rx
  cases ry
  obtain ⟨z, its, n, r, e⟩ := hH.ok I.hok
  obtain ⟨z2, its2, n2, r2, e2⟩ := hB.ok I.hok
  have l1 := r.length
  have l2 := r2.length
  refine PySem.P.add_list e e2 ?_ (by rw [List.size_toArray, List.size_toArray]; omega)
  have ea : its.toArray ++ its2.toArray = (its ++ its2).toArray := by simp
  rw [ea]
  exact ⟨.ref _, _, I.lnew (t' := s.toks) (r.append r2) (by rw [List.length_append]; omega), rfl, q _ I.fresh⟩
def rAddS : R2 := fun x y H Q => ∃ i j, x = .str i ∧ y = .str j ∧ i.length + j.length ≤ sizeLine ∧ Q (.str (i ++ j)) H
def rAddZ (K : PySem.W.Frag) : R2 := fun x y H Q => rI0 (fun i j => .int (i + j)) x y H Q ∨ rAddS x y H Q ∨ rCatA K x y H Q ∨ rCatR x y H Q
theorem op_addZ : OpR X (binaryOp .Add) (rAddZ X.K) := op_add.or (OpR.or (show OpR X (binaryOp .Add) rAddS from op_add_str) (op_catA.or op_catR))
def gAdd : SV → SV → Mem → Option (SV × Mem)
  | .d (.int i), .d (.int j), M => some (.d (.int (i + j)), M)
  | .d (.str a), .d (.str b), M => if a.length + b.length ≤ sizeLine then some (.d (.str (a ++ b)), M) else none
  | .d (.tuple a), .d (.tuple b), M => if a.length + b.length ≤ sizeLine then some (.d (.tuple (a ++ b)), M) else none
  | x, y, M => (lstOf M x).bind fun xs => (lstOf M y).bind fun ys => mkL (xs ++ ys) M
theorem g_add : G2 K (rAddZ K) gAdd := fun x y M z M' h as B H R u v rx ry Q q => by
  unfold gAdd at h
  split at h
  · cases h
    rw [vr_int rx, vr_int ry]
    exact .inl ⟨_, _, rfl, rfl, q _ as B H (Lat.refl _ _ _) R (.int _)⟩
  · obtain ⟨hs, h⟩ := ite_some h
    cases h
    rw [vr_str rx, vr_str ry]
    exact .inr (.inl ⟨_, _, rfl, rfl, hs, q _ as B H (Lat.refl _ _ _) R (.str _)⟩)
  · obtain ⟨hs, h⟩ := ite_some h
    cases h
    cases rx with
    | @tup a vs ds r p =>
      cases ry with
      | @tup b ws es r' p' =>
        refine .inr (.inr (.inl ⟨_, _, _, _, rfl, rfl, same_t R.ex r, same_t R.ex r', by rw [← p.length, ← p'.length]; exact hs, fun e => ?_, fun _ e => ?_, fun _ _ t ht => ?_⟩))
        · subst e
          cases p
          exact q _ as B H (Lat.refl _ _ _) R (.tup r' p')
        · subst e
          cases p'
          rw [List.append_nil] at *
          exact q _ as B H (Lat.refl _ _ _) R (.tup r p)
        · obtain ⟨B', R', L', w⟩ := R.tupD ht (Paired.app p p')
          exact q _ as B' _ L' R' w
  · simp only [mkL, Option.bind_eq_some_iff] at h
    obtain ⟨xs, h1, ys, h2, ds, h3, h4⟩ := h
    obtain ⟨hs, h4⟩ := ite_some h4
    cases h4
    obtain ⟨a, vs, rfl, r, p⟩ := lstOf_ok R rx h1
    obtain ⟨b, ws, rfl, r', p'⟩ := lstOf_ok R ry h2
    have e := allD_some h3
    have pp : Paired (DR K B) ds (vs ++ ws) := drs_of (as := as) (by rw [← e]; exact Paired.app p p')
    refine .inr (.inr (.inr ⟨a, b, vs, ws, rfl, rfl, r, r', ?_, fun t ht => ?_⟩))
    · rw [← List.length_append, ← pp.length]
      exact hs
    · obtain ⟨B', R', L', w⟩ := R.lstD ht pp
      exact q _ as B' _ L' R' w
/-! numbers -/
def gI (g : Int → Int → PyData) : SV → SV → Mem → Option (SV × Mem)
  | .d (.int i), .d (.int j), M => some (.d (g i j), M)
  | _, _, _ => none
theorem g_i {f : Int → Int → V} {g : Int → Int → PyData} (hg : ∀ B i j, DR K B (g i j) (f i j)) : G2 K (rI0 f) (gI g) := fun x y M z M' h as B H R u v rx ry Q q => by
  unfold gI at h
  split at h
  · cases h
    rw [vr_int rx, vr_int ry]
    exact ⟨_, _, rfl, rfl, q _ as B H (Lat.refl _ _ _) R (hg _ _ _)⟩
  · cases h
def gIC (C : Int → Int → Prop) [∀ i j, Decidable (C i j)] (g : Int → Int → PyData) : SV → SV → Mem → Option (SV × Mem)
  | .d (.int i), .d (.int j), M => if C i j then some (.d (g i j), M) else none
  | _, _, _ => none
theorem g_ic {C : Int → Int → Prop} [∀ i j, Decidable (C i j)] {f : Int → Int → V} {g : Int → Int → PyData} (hg : ∀ B i j, DR K B (g i j) (f i j)) : G2 K (rI C f) (gIC C g) := fun x y M z M' h as B H R u v rx ry Q q => by
  unfold gIC at h
  split at h
  · obtain ⟨hc, h⟩ := ite_some h
    cases h
    rw [vr_int rx, vr_int ry]
    exact ⟨_, _, rfl, rfl, hc, q _ as B H (Lat.refl _ _ _) R (hg _ _ _)⟩
  · cases h
instance (i j : Int) : Decidable (CMulW i j) := by unfold CMulW; exact inferInstance
instance (i j : Int) : Decidable (CDivW i j) := by unfold CDivW; exact inferInstance
instance (i j : Int) : Decidable (CPow i j) := by unfold CPow; exact inferInstance
def gSub := gI fun i j => .int (i - j)
def gLt := gI fun i j => .bool (decide (i < j))
def gLe := gI fun i j => .bool (decide (i ≤ j))
def gGt := gI fun i j => .bool (decide (j < i))
def gGe := gI fun i j => .bool (decide (j ≤ i))
def gDiv := gIC CDivW fun i j => .int (i / j)
def gMod := gIC (fun _ j => 0 < j) fun i j => .int (i % j)
def gPow := gIC CPow fun i j => .int (i ^ j.toNat)
theorem g_sub : G2 K (rI0 fun i j => .int (i - j)) gSub := g_i fun _ _ _ => .int _
theorem g_lt : G2 K (rI0 fun i j => .bl (decide (i < j))) gLt := g_i fun _ _ _ => .bl _
theorem g_le : G2 K (rI0 fun i j => .bl (decide (i ≤ j))) gLe := g_i fun _ _ _ => .bl _
theorem g_gt : G2 K (rI0 fun i j => .bl (decide (j < i))) gGt := g_i fun _ _ _ => .bl _
theorem g_ge : G2 K (rI0 fun i j => .bl (decide (j ≤ i))) gGe := g_i fun _ _ _ => .bl _
theorem g_div : G2 K (rI CDivW fun i j => .int (i / j)) gDiv := g_ic fun _ _ _ => .int _
theorem g_mod : G2 K (rI (fun _ j => 0 < j) fun i j => .int (i % j)) gMod := g_ic fun _ _ _ => .int _
theorem g_pow : G2 K (rI CPow fun i j => .int (i ^ j.toNat)) gPow := g_ic fun _ _ _ => .int _
def gNeg : SV → Mem → Option (SV × Mem)
  | .d (.int i), M => some (.d (.int (-i)), M)
  | _, _ => none
theorem g_neg : G1 K (rU fun i => .int (-i)) gNeg := fun x M z M' h as B H R u rx Q q => by
  unfold gNeg at h
  split at h
  · cases h
    rw [vr_int rx]
    exact ⟨_, rfl, q _ as B H (Lat.refl _ _ _) R (.int _)⟩
  · cases h
/-! int * int, list * int -/
def rRepR : R2 := fun x y H Q => ∃ l k xs, x = .ref l ∧ y = .int k ∧ Rd H l (.lst xs) ∧ -(2 ^ 63) ≤ k ∧ k < 2 ^ 63 ∧ xs.length * k.toNat ≤ sizeLine ∧
  ∀ p, H p = none → Q (.ref p) (upd H p (.lst (List.replicate k.toNat xs).flatten))
theorem g_flat {α β : Type} {F : α → β → Prop} {xs : List α} {ys : List β} (p : Paired F xs ys) : ∀ n : Nat, Paired F (List.replicate n xs).flatten (List.replicate n ys).flatten
  | 0 => .nil
  | n + 1 => by
    rw [List.replicate_succ, List.replicate_succ, List.flatten_cons, List.flatten_cons]
    exact Paired.app p (g_flat p n)
/-! == -/
def rEqZ (K : PySem.W.Frag) : R2 := fun x y H Q => rEq x y H Q ∨ rEqD K x y H Q
def rNeZ (K : PySem.W.Frag) : R2 := fun x y H Q => rNe x y H Q ∨ rNeD K x y H Q
theorem op_eqZ (hu : X.A.units + 64 < cLine) : OpR X (compareOp .Eq) (rEqZ X.K) := op_eq.or (op_eqD hu)
theorem op_neZ (hu : X.A.units + 64 < cLine) : OpR X (compareOp .NotEq) (rNeZ X.K) := op_ne.or (op_neD hu)
/-- == of data, where it is told -/
def eqD : PyData → PyData → Option Bool
  | .int i, .int j => some (decide (i = j))
  | .str i, .str j => some (decide (i = j))
  | .bool i, .bool j => some (decide (i = j))
  | .none, .none => some true
  | .int _, .none => some false
  | .none, .int _ => some false
  | .bool _, .none => some false
  | .none, .bool _ => some false
  | .str _, .none => some false
  | .none, .str _ => some false
  | .int _, .str _ => some false
  | .str _, .int _ => some false
  | .bool _, .str _ => some false
  | .str _, .bool _ => some false
  | d, e => if SeqAt.shaped d = true ∧ SeqAt.shaped e = true then some (PyData.eqv d e) else none
def gEq (x y : SV) (M : Mem) : Option (SV × Mem) := (rdD M x).bind fun d => (rdD M y).bind fun e => (eqD d e).map fun k => (.d (.bool k), M)
def gNe (x y : SV) (M : Mem) : Option (SV × Mem) := (rdD M x).bind fun d => (rdD M y).bind fun e => (eqD d e).map fun k => (.d (.bool (!k)), M)
theorem eqD_ok {d e : PyData} {k : Bool} {u v : V} (h : eqD d e = some k) (hx : DR K H d u) (hy : DR K H e v) :
    (scal u v = true ∧ decide (u = v) = k) ∨ (SeqAt.shaped d = true ∧ SeqAt.shaped e = true ∧ PyData.eqv d e = k) := by
  unfold eqD at h
  split at h <;> first
    | (obtain ⟨⟨h1, h2⟩, h⟩ := ite_some h; exact .inr ⟨h1, h2, h⟩)
    | (cases h; cases hx; cases hy; exact .inl ⟨rfl, by simp⟩)
theorem g_eq : G2 K (rEqZ K) gEq := fun x y M z M' h as B H R u v rx ry Q q => by
  simp only [gEq, Option.bind_eq_some_iff, Option.map_eq_some_iff] at h
  obtain ⟨d, h1, e, h2, k, h3, h4⟩ := h
  cases h4
  have hx := rdD_ok R rx h1
  have hy := rdD_ok R ry h2
  rcases eqD_ok h3 hx hy with ⟨h5, h6⟩ | ⟨h5, h6, h7⟩
  · refine .inl ⟨h5, ?_⟩
    rw [h6]
    exact q _ as B H (Lat.refl _ _ _) R (.bl _)
  · refine .inr ⟨d, e, DR.dp _ _ (SeqAt.canLay_of_shaped h5) hx, DR.dp _ _ (SeqAt.canLay_of_shaped h6) hy, h5, h6, ?_⟩
    rw [h7]
    exact q _ as B H (Lat.refl _ _ _) R (.bl _)
theorem g_ne : G2 K (rNeZ K) gNe := fun x y M z M' h as B H R u v rx ry Q q => by
  simp only [gNe, Option.bind_eq_some_iff, Option.map_eq_some_iff] at h
  obtain ⟨d, h1, e, h2, k, h3, h4⟩ := h
  cases h4
  have hx := rdD_ok R rx h1
  have hy := rdD_ok R ry h2
  rcases eqD_ok h3 hx hy with ⟨h5, h6⟩ | ⟨h5, h6, h7⟩
  · refine .inl ⟨h5, ?_⟩
    rw [h6]
    exact q _ as B H (Lat.refl _ _ _) R (.bl _)
  · refine .inr ⟨d, e, DR.dp _ _ (SeqAt.canLay_of_shaped h5) hx, DR.dp _ _ (SeqAt.canLay_of_shaped h6) hy, h5, h6, ?_⟩
    rw [h7]
    exact q _ as B H (Lat.refl _ _ _) R (.bl _)
/-! is None -/
def isN : SV → Bool
  | .d .none => true
  | _ => false
def gIsN (x y : SV) (M : Mem) : Option (SV × Mem) := if isN y = true then some (.d (.bool (isN x)), M) else none
def gNotN (x y : SV) (M : Mem) : Option (SV × Mem) := if isN y = true then some (.d (.bool (!isN x)), M) else none
theorem isN_ok {x : SV} {u : V} (h : VR K as B x u) : decide (u = .non) = isN x := by
  cases x with
  | loc n => obtain ⟨a, _, rfl⟩ := h; rfl
  | d y => cases h <;> rfl
theorem isN_non {x : SV} {u : V} (h : VR K as B x u) (e : isN x = true) : u = .non := by
  rw [← isN_ok h] at e
  exact of_decide_eq_true e
theorem g_isN : G2 K (fun x y H Q => y = .non ∧ Q (.bl (decide (x = .non))) H) gIsN := fun x y M z M' h as B H R u v rx ry Q q => by
  unfold gIsN at h
  obtain ⟨hy, h⟩ := ite_some h
  cases h
  refine ⟨isN_non ry hy, ?_⟩
  rw [isN_ok rx]
  exact q _ as B H (Lat.refl _ _ _) R (.bl _)
theorem g_notN : G2 K (fun x y H Q => y = .non ∧ Q (.bl (!decide (x = .non))) H) gNotN := fun x y M z M' h as B H R u v rx ry Q q => by
  unfold gNotN at h
  obtain ⟨hy, h⟩ := ite_some h
  cases h
  refine ⟨isN_non ry hy, ?_⟩
  rw [isN_ok rx]
  exact q _ as B H (Lat.refl _ _ _) R (.bl _)
/-! in -/
theorem roomD {A : Around} {ds : List PyData} {d : PyData} (sd : SeqAt.shaped d = true) (hu : A.units + 65 < cLine) : A.units + 1 + min (PyData.depthAll ds) d.depth < cLine := by
  have h1 := SeqAt.depth_of_shaped sd
  have h2 := Nat.min_le_right (PyData.depthAll ds) d.depth
  omega
def rInZ (K : PySem.W.Frag) (neg : Bool) : R2 := fun x y H Q => ∃ d ds, Dp K H x d ∧ (Dp K H y (.list ds) ∨ Dp K H y (.tuple ds)) ∧ SeqAt.shaped d = true ∧ SeqAt.shaped (.list ds) = true ∧ Q (.bl (if neg then !(ds.any fun z => PyData.eqv z d) else ds.any fun z => PyData.eqv z d)) H
theorem sh_lt {ds : List PyData} (h : SeqAt.shaped (.list ds) = true) : SeqAt.shaped (.tuple ds) = true := by
  simpa [SeqAt.shaped, PyData.canLay0, PyData.depth] using h
theorem op_inZ (hu : X.A.units + 65 < cLine) : OpR X (compareOp .In) (rInZ X.K false) := by
  intro pins s σ H x y v u Q I rx ry h
  obtain ⟨d, ds, hd, he, sd, se, q⟩ := h
  obtain ⟨as, r1⟩ := Dp.reads I d x v hd rx
  rcases he with he | he
  · obtain ⟨bs, r2⟩ := Dp.reads I (.list ds) y u he ry
    exact SeqAt.in_list_reads r2 r1 (SeqAt.canLay_of_shaped se) (SeqAt.canLay_of_shaped sd) (roomD sd hu) ⟨.bl _, H, I, rfl, q⟩
  · obtain ⟨bs, r2⟩ := Dp.reads I (.tuple ds) y u he ry
    exact SeqAt.in_tuple_reads r2 r1 (SeqAt.canLay_of_shaped se) (SeqAt.canLay_of_shaped sd) (roomD sd hu) ⟨.bl _, H, I, rfl, q⟩
theorem op_niZ (hu : X.A.units + 65 < cLine) : OpR X (compareOp .NotIn) (rInZ X.K true) := by
  intro pins s σ H x y v u Q I rx ry h
  obtain ⟨d, ds, hd, he, sd, se, q⟩ := h
  obtain ⟨as, r1⟩ := Dp.reads I d x v hd rx
  rcases he with he | he
  · obtain ⟨bs, r2⟩ := Dp.reads I (.list ds) y u he ry
    exact SeqAt.notIn_list_reads r2 r1 (SeqAt.canLay_of_shaped se) (SeqAt.canLay_of_shaped sd) (roomD sd hu) ⟨.bl _, H, I, rfl, q⟩
  · obtain ⟨bs, r2⟩ := Dp.reads I (.tuple ds) y u he ry
    exact SeqAt.notIn_tuple_reads r2 r1 (SeqAt.canLay_of_shaped se) (SeqAt.canLay_of_shaped sd) (roomD sd hu) ⟨.bl _, H, I, rfl, q⟩
def seqD : PyData → Option (List PyData)
  | .list ds => some ds
  | .tuple ds => some ds
  | _ => none
def gIn (neg : Bool) (x y : SV) (M : Mem) : Option (SV × Mem) := (rdD M x).bind fun d => (rdD M y).bind fun e => (seqD e).bind fun ds =>
  if SeqAt.shaped d = true ∧ SeqAt.shaped (.list ds) = true then some (.d (.bool (if neg then !(ds.any fun z => PyData.eqv z d) else ds.any fun z => PyData.eqv z d)), M) else none
theorem g_in {neg : Bool} : G2 K (rInZ K neg) (gIn neg) := fun x y M z M' h as B H R u v rx ry Q q => by
  simp only [gIn, Option.bind_eq_some_iff] at h
  obtain ⟨d, h1, e, h2, ds, h3, h4⟩ := h
  obtain ⟨⟨s1, s2⟩, h4⟩ := ite_some h4
  cases h4
  have hx := rdD_ok R rx h1
  have hy := rdD_ok R ry h2
  refine ⟨d, ds, DR.dp _ _ (SeqAt.canLay_of_shaped s1) hx, ?_, s1, s2, q _ as B H (Lat.refl _ _ _) R (.bl _)⟩
  cases e with
  | list es => cases h3; exact .inl (DR.dp _ _ (SeqAt.canLay_of_shaped s2) hy)
  | tuple es => cases h3; exact .inr (DR.dp _ _ (SeqAt.canLay_of_shaped (sh_lt s2)) hy)
  | _ => cases h3
/-! x[i] -/
def gIx : SV → SV → Mem → Option (SV × Mem)
  | .d (.str z), .d (.int i), M => if z.length ≤ sizeLine then (atI z.cps.toList i).map fun c => (.d (.str ⟨#[c]⟩), M) else none
  | .d (.tuple xs), .d (.int i), M => (atI xs i).map fun c => (.d c, M)
  | .d (.dict xs), .d (.int i), M => (atI xs i).map fun c => (.d c.2, M)
  | x, .d (.int i), M => (lstOf M x).bind fun xs => (atI xs i).map fun c => (c, M)
  | _, _, _ => none
theorem Paired.atI {α β : Type} {F : α → β → Prop} {xs : List α} {ys : List β} {i : Int} {x : α} (p : Paired F xs ys) (e : L2.atI xs i = some x) : ∃ y, L2.atI ys i = some y ∧ F x y := by
  unfold L2.atI at e ⊢
  rw [← p.length]
  simp only [Option.bind_eq_some_iff] at e ⊢
  obtain ⟨j, h1, h2⟩ := e
  obtain ⟨y, h3, h4⟩ := Z.Paired.at p h2
  exact ⟨y, ⟨j, h1, h3⟩, h4⟩
theorem g_ix : G2 K (rIx K) gIx := fun x y M z M' h as B H R u v rx ry Q q => by
  unfold gIx at h
  split at h
  · obtain ⟨hs, h⟩ := ite_opt h
    simp only [Option.map_eq_some_iff] at h
    obtain ⟨c, h1, h2⟩ := h
    cases h2
    rw [vr_str rx, vr_int ry]
    exact .inr (.inr ⟨_, _, _, rfl, rfl, hs, h1, q _ as B H (Lat.refl _ _ _) R (.str _)⟩)
  · simp only [Option.map_eq_some_iff] at h
    obtain ⟨c, h1, h2⟩ := h
    cases h2
    cases rx with
    | tup r p =>
      obtain ⟨w, h3, h4⟩ := Z.Paired.atI p h1
      rw [vr_int ry]
      exact .inr (.inl ⟨_, _, _, _, rfl, rfl, same_t R.ex r, h3, q _ as B H (Lat.refl _ _ _) R h4⟩)
  · simp only [Option.map_eq_some_iff] at h
    obtain ⟨c, h1, h2⟩ := h
    cases h2
    cases rx with
    | ro ns r =>
      rw [vr_int ry]
      have pp : ∀ ns : List Int, Paired (fun (p : PyData × PyData) (v : V) => DR K B p.2 v) (ns.map fun n => (.none, .int n)) (ns.map V.int) := fun ns => by
        induction ns with
        | nil => exact .nil
        | cons n r ih => exact .cons (.int n) ih
      obtain ⟨w, h3, h4⟩ := Z.Paired.atI (pp ns) h1
      exact .inl ⟨_, _, _, _, rfl, rfl, R.ex.seq r, h3, q _ as B H (Lat.refl _ _ _) R h4⟩
  · simp only [Option.bind_eq_some_iff, Option.map_eq_some_iff] at h
    obtain ⟨xs, h0, c, h1, h2⟩ := h
    cases h2
    obtain ⟨a, vs, rfl, r, p⟩ := lstOf_ok R rx h0
    obtain ⟨w, h3, h4⟩ := Z.Paired.atI p h1
    rw [vr_int ry]
    exact .inl ⟨_, _, _, _, rfl, rfl, .inl r, h3, q _ as B H (Lat.refl _ _ _) R h4⟩
  · cases h
/-! slices -/
abbrev Fo := Gm → Mem → Option (Option Int × Mem)
def RO : List Addr → Hp → Option Int → Option Int → Prop := fun _ _ b c => b = c
structure POd (X : Cx) (e : Option Expr) (f : Fo) : Prop where
  pe : PO X e (cn X.K RO f)
theorem POd.of {X : Cx} {e : Option Expr} {t : TO} {f : Fo} (h : PO X e t) (j : J X.K RO t f) : POd X e f := ⟨⟨fun pins s σ H Q I c => h.run pins s σ H Q I (j.use c)⟩⟩
theorem POd.j {X : Cx} {e : Option Expr} {f : Fo} (_ : POd X e f) : J X.K RO (cn X.K RO f) f := j_cn
def fNoP : Fo := fun _ M => some (none, M)
def intOf : SV → Option Int
  | .d (.int i) => some i
  | _ => none
theorem intOf_ok {x : SV} {i : Int} {u : V} (h : VR K as B x u) (e : intOf x = some i) : u = .int i := by
  cases x with
  | loc n => cases e
  | d y =>
    cases y with
    | int j => cases e; exact vr_int h
    | _ => cases e
def fPart (a : Fe) : Fo := fun Γ M => (a Γ M).bind fun p => (intOf p.1).map fun i => (some i, p.2)
theorem znop : POd X none fNoP := .of (po_none) (fun Γ M _ M' e as B σ H R G Q q => by
  cases e
  exact q _ as B H (Lat.refl _ _ _) R rfl)
theorem zpart {e : Expr} {fa : Fe} (h : PEd X e fa) : POd X (some e) (fPart fa) := .of (po_some h.pe) (fun Γ M z M' e as B σ H R G Q q => by
  simp only [fPart, Option.bind_eq_some_iff, Option.map_eq_some_iff] at e
  obtain ⟨⟨x, M1⟩, h1, i, h2, h3⟩ := e
  cases h3
  exact h.j Γ M x _ h1 as B σ H R G _ fun u as1 B1 H1 L1 R1 r1 => ⟨i, intOf_ok r1 h2, q _ as1 B1 H1 L1 R1 rfl⟩)
def cutG {α : Type} (xs : List α) (lo hi : Option Int) : List α := (xs.drop (HT.sIx xs.length 0 lo)).take (HT.sIx xs.length xs.length hi - HT.sIx xs.length 0 lo)
theorem Paired.cut {α : Type} {F : α → V → Prop} {xs : List α} {ys : List V} (p : Paired F xs ys) (lo hi : Option Int) : Paired F (cutG xs lo hi) (cutV ys lo hi) := by
  unfold cutG cutV
  rw [← p.length]
  exact Z.Paired.tak _ (Z.Paired.drp _ p)
theorem cutG_whole {α : Type} {xs : List α} {lo hi : Option Int} (h : HT.sIx xs.length 0 lo = 0 ∧ HT.sIx xs.length xs.length hi = xs.length) : cutG xs lo hi = xs := by
  unfold cutG
  rw [h.1, h.2]
  simp
def gSl (x : SV) (lo hi : Option Int) (M : Mem) : Option (SV × Mem) := match x with
  | .d (.tuple xs) => some (.d (.tuple (cutG xs lo hi)), M)
  | x => (lstOf M x).bind fun xs => (allD (cutG xs lo hi)).map fun ds => (.d (.list ds), M)
def rSlZ (K : PySem.W.Frag) : V → Option Int → Option Int → Hp → VK → Prop := fun x lo hi H Q => rSlA K x lo hi H Q ∨ rSlL K x lo hi H Q
theorem sl_Z : SlR X (rSlZ X.K) := sl_tupA.or sl_list
theorem g_sl {x : SV} {lo hi : Option Int} {z : SV} {M' : Mem} (h : gSl x lo hi M = some (z, M')) (R : Rel K as B M H) {u : V} (rx : VR K as B x u) {Q : VK}
    (q : ∀ (w : V) (as' : List Addr) (B' H' : Hp), Lat as B H as' B' H' → Rel K as' B' M' H' → VR K as' B' z w → Q w H') : rSlZ K u lo hi H Q := by
  unfold gSl at h
  split at h
  · cases h
    cases rx with
    | @tup a vs ds r p =>
      refine .inl ⟨a, vs, rfl, same_t R.ex r, fun e => ?_, fun _ t ht => ?_⟩
      · rw [← p.length] at e
        rw [cutG_whole e] at q
        exact q _ as B H (Lat.refl _ _ _) R (.tup r p)
      · obtain ⟨B', R', L', w⟩ := R.tupD ht (Z.Paired.cut p lo hi)
        exact q _ as B' _ L' R' w
  · simp only [Option.bind_eq_some_iff, Option.map_eq_some_iff] at h
    obtain ⟨xs, h0, ds, h1, h2⟩ := h
    cases h2
    obtain ⟨a, vs, rfl, r, p⟩ := lstOf_ok R rx h0
    refine .inr ⟨a, vs, rfl, .inl r, fun t ht => ?_⟩
    have pp : Paired (DR K B) ds (cutV vs lo hi) := drs_of (as := as) (by rw [← allD_some h1]; exact Z.Paired.cut p lo hi)
    obtain ⟨B', R', L', w⟩ := R.lstD ht pp
    exact q _ as B' _ L' R' w
def fSl (a : Fe) (lo hi : Fo) : Fe := fun Γ M => (a Γ M).bind fun p => (lo Γ p.2).bind fun l => (hi Γ l.2).bind fun h => gSl p.1 l.1 h.1 h.2
theorem zsl {e : Expr} {lo hi : Option Expr} {fa : Fe} {fl fh : Fo} {p2 pos : Pos} (he : PEd X e fa) (hl : POd X lo fl) (hu : POd X hi fh) : PEd X (.Subscript e (.Slice lo hi none p2) pos) (fSl fa fl fh) :=
  .of (pe_slice sl_Z he.pe hl.pe hu.pe) (fun Γ M z M' h as B σ H R G Q q => by
    simp only [fSl, Option.bind_eq_some_iff] at h
    obtain ⟨⟨x, M1⟩, h1, ⟨l, M2⟩, h2, ⟨g, M3⟩, h3, h4⟩ := h
    refine he.j Γ M x _ h1 as B σ H R G _ fun u as1 B1 H1 L1 R1 r1 => ?_
    refine hl.j Γ M1 l _ h2 as1 B1 σ H1 R1 (G.mono L1) _ fun l' as2 B2 H2 L2 R2 r2 => ?_
    refine hu.j Γ M2 g _ h3 as2 B2 σ H2 R2 ((G.mono L1).mono L2) _ fun g' as3 B3 H3 L3 R3 r3 => ?_
    cases r2
    cases r3
    exact g_sl h4 R3 ((r1.mono L2).mono L3) fun w as4 B4 H4 L4 R4 r4 => q w as4 B4 H4 (((L1.trans L2).trans L3).trans L4) R4 r4)
end
end Z
namespace Z
open PySem L2
section
variable {X : Cx} {K : PySem.W.Frag} {as : List Addr} {B H : Hp} {M : Mem}
/-! * -/
theorem op_repR : OpR X (binaryOp .Mult) rRepR := by
  intro pins s σ H x y v u Q I rx ry h
  obtain ⟨l, k, xs, rfl, rfl, hH, h1, h2, hz, q⟩ := h
  cases rx
  obtain ⟨t, rfl⟩ := ry
  obtain ⟨z, its, n, r, e⟩ := hH.ok I.hok
  have hl := r.length
  have hlen : its.toArray.size * k.toNat ≤ sizeLine := by rw [List.size_toArray, ← hl]; exact hz
  have hcap : ¬ its.toArray.size * k.toNat > (2 ^ 63 - 1) / 8 := by
    have : (sizeLine : Nat) ≤ (2 ^ 63 - 1) / 8 := by decide
    omega
  have hfit : ¬ (!Builtin.List.listFitsIndex k) = true := by
    rw [fitsIndex_both h1 h2]
    exact Bool.false_ne_true
  have hlong : ¬ Builtin.List.listTooLong (its.toArray.size * k.toNat) = true := by
    rw [notLongL hlen]
    exact Bool.false_ne_true
  have hnew : List.foldl (fun x1 x2 => x1 ++ x2) #[] (List.replicate (if its.toArray.isEmpty = true then 0 else k.toNat) its.toArray) = (List.replicate k.toNat its).flatten.toArray := by
    have f0 : ∀ m : Nat, List.foldl (fun x1 x2 => x1 ++ x2) #[] (List.replicate m its.toArray) = (List.replicate m its).flatten.toArray := fun m => by
      have := foldl_rep its m []
      rw [List.nil_append] at this
      exact this
    rw [f0]
    cases its with
    | nil => simp
    | cons a r' => rw [if_neg (by simp)]
  refine wpAny_binaryOp_repeat_ref (T := "list") (U := "int") (by decide) ⟨_, e, rfl⟩ (fun s' => typeIs_int s' k t) noFill_list_mul F.fills_int_mul F.slot_int_rmul repeat_list F.slot_int_index.lookup
    (call_meets F.slot_int_rmul (typeIs_int s k t) F.entry_int_rmul (F.args_int_rmul_2 _ _) (int___rmul___int_list k t l its.toArray n)
      ⟨e, rfl, ⟨_, e, rfl⟩, call_meets F.slot_list_mul ⟨_, e, rfl⟩ F.entry_list_mul (F.args_list_mul_2 _ _) (AutoListH.list___mul___list_int_3 l its.toArray n k t hfit hcap hlong) ⟨e, ?_⟩⟩)
  rw [hnew]
  exact ⟨.ref _, _, I.lnew (t' := s.toks) (r.rep k.toNat) (by rw [PyProof.Rows.lm_len_rep_flat, Nat.mul_comm]; exact hz), rfl, q _ I.fresh⟩
def rMulZ : R2 := fun x y H Q => rI CMul (fun i j => .int (i * j)) x y H Q ∨ rI CMulW (fun i j => .int (i * j)) x y H Q ∨ rRepR x y H Q
theorem op_mulZ : OpR X (binaryOp .Mult) rMulZ := op_mul.or (op_mulW.or op_repR)
instance (i j : Int) : Decidable (CMul i j) := by unfold CMul; exact inferInstance
def gMul : SV → SV → Mem → Option (SV × Mem)
  | .d (.int i), .d (.int j), M => if CMul i j ∨ CMulW i j then some (.d (.int (i * j)), M) else none
  | x, .d (.int k), M => (lstOf M x).bind fun xs => if -(2 ^ 63) ≤ k ∧ k < 2 ^ 63 ∧ xs.length * k.toNat ≤ sizeLine then (allD (List.replicate k.toNat xs).flatten).map fun ds => (.d (.list ds), M) else none
  | _, _, _ => none
theorem g_mul : G2 K rMulZ gMul := fun x y M z M' h as B H R u v rx ry Q q => by
  unfold gMul at h
  split at h
  · obtain ⟨hc, h⟩ := ite_some h
    cases h
    rw [vr_int rx, vr_int ry]
    rcases hc with hc | hc
    · exact .inl ⟨_, _, rfl, rfl, hc, q _ as B H (Lat.refl _ _ _) R (.int _)⟩
    · exact .inr (.inl ⟨_, _, rfl, rfl, hc, q _ as B H (Lat.refl _ _ _) R (.int _)⟩)
  · simp only [Option.bind_eq_some_iff] at h
    obtain ⟨xs, h0, h⟩ := h
    obtain ⟨⟨c1, c2, c3⟩, h⟩ := ite_opt h
    simp only [Option.map_eq_some_iff] at h
    obtain ⟨ds, h1, h2⟩ := h
    cases h2
    obtain ⟨a, vs, rfl, r, p⟩ := lstOf_ok R rx h0
    rw [vr_int ry]
    refine .inr (.inr ⟨a, _, vs, rfl, rfl, r, c1, c2, by rw [← p.length]; exact c3, fun t ht => ?_⟩)
    have pp : Paired (DR K B) ds (List.replicate _ vs).flatten := drs_of (as := as) (by rw [← allD_some h1]; exact g_flat p _)
    obtain ⟨B', R', L', w⟩ := R.lstD ht pp
    exact q _ as B' _ L' R' w
  · cases h
/-! calls of built-ins -/
def fCB (g : List SV → Mem → Option (SV × Mem)) (t : Fa) : Fe := fun Γ M => (t Γ M).bind fun p => g p.1 p.2
theorem j_cb {r : List V → Hp → VK → Prop} {g : List SV → Mem → Option (SV × Mem)} {t : TA} {f : Fa} (hg : GA K r g) (ht : J K (RA K) t f) : J K (VR K) (tCB r t) (fCB g f) := fun Γ M z M' h as B σ H R G Q q => by
  simp only [fCB, Option.bind_eq_some_iff] at h
  obtain ⟨⟨x, M1⟩, h1, h2⟩ := h
  exact ht Γ M x _ h1 as B σ H R G _ fun u as1 B1 H1 L1 R1 r1 => hg x M1 z M' h2 as1 B1 H1 R1 u r1 Q fun w as2 B2 H2 L2 R2 r2 => q w as2 B2 H2 (L1.trans L2) R2 r2
theorem zcb {r : List V → Hp → VK → Prop} {g : List SV → Mem → Option (SV × Mem)} {f : Fa} {id : String} {x : Str} {e : Expr} {es : List Expr} {p pos : Pos} (hc : CallR X (.builtin id) r) (hr : GA X.K r g) (hg : Gl X x) (hm : X.mg x = none) (hv : bootBuiltins x = some (.builtin id)) (ha : PAd X (e :: es) f) (hn : x ≠ "__name__" := by decide) (hdb : (x == ("__debug__" : Str)) = false := by decide)
    (he : starEach (e :: es) X.env = (false, eval e X.env) :: starEach es X.env := by rfl) (hpl : (backTo pos (starEach es X.env)).any (·.1) = false := by rfl) : PEd X (.Call (.Name x p) (e :: es) [] pos) (fCB g f) :=
  .of (pe_callB hc hg hm hv ha.pe hn hdb he hpl) (j_cb hr ha.j)
theorem zcty {r : List V → Hp → VK → Prop} {g : List SV → Mem → Option (SV × Mem)} {f : Fa} {T : String} {x : Str} {e : Expr} {es : List Expr} {p pos : Pos} (hc : CallR X (.type T) r) (hr : GA X.K r g) (hg : Gl X x) (hm : X.mg x = none) (hv : bootBuiltins x = some (.type T)) (ha : PAd X (e :: es) f) (hn : x ≠ "__name__" := by decide) (hdb : (x == ("__debug__" : Str)) = false := by decide)
    (he : starEach (e :: es) X.env = (false, eval e X.env) :: starEach es X.env := by rfl) (hpl : (backTo pos (starEach es X.env)).any (·.1) = false := by rfl) : PEd X (.Call (.Name x p) (e :: es) [] pos) (fCB g f) :=
  .of (pe_callTy hc hg hm hv ha.pe hn hdb he hpl) (j_cb hr ha.j)
theorem pr1 {α β : Type} {F : α → β → Prop} {x : α} {ys : List β} (h : Paired F [x] ys) : ∃ y, ys = [y] ∧ F x y := by
  cases h with
  | cons p q => cases q; exact ⟨_, rfl, p⟩
theorem pr2 {α β : Type} {F : α → β → Prop} {x x' : α} {ys : List β} (h : Paired F [x, x'] ys) : ∃ y y', ys = [y, y'] ∧ F x y ∧ F x' y' := by
  cases h with
  | cons p q =>
    obtain ⟨y', rfl, p'⟩ := pr1 q
    exact ⟨_, _, rfl, p, p'⟩
/-- the items of a list or a tuple, and whether it is a list -/
def seqOf (M : Mem) : SV → Option (List SV)
  | .d (.tuple xs) => some (xs.map .d)
  | s => lstOf M s
theorem seqOf_ok {s : SV} {v : V} {xs : List SV} (R : Rel K as B M H) (h : VR K as B s v) (e : seqOf M s = some xs) : ∃ a vs, v = .ref a ∧ (SqL K H a vs ∨ SqT K H a vs) ∧ Paired (VR K as B) xs vs := by
  unfold seqOf at e
  split at e
  · cases e
    cases h with
    | tup r p => exact ⟨_, _, rfl, .inr (same_t R.ex r), vrs_d p⟩
  · obtain ⟨a, vs, rfl, r, p⟩ := lstOf_ok R h e
    exact ⟨a, vs, rfl, .inl (.inl r), p⟩
def rLenZ (K : PySem.W.Frag) : List V → Hp → VK → Prop := fun xs H Q => (∃ p ys, xs = [.ref p] ∧ (SqL K H p ys ∨ SqT K H p ys) ∧ Q (.int ys.length) H) ∨ (∃ z, xs = [.str z] ∧ z.length ≤ sizeLine ∧ Q (.int z.length) H)
theorem call_lenZ : CallR X (.builtin "len") (rLenZ X.K) := call_len_seq.or call_len_str
def gLen : List SV → Mem → Option (SV × Mem)
  | [.d (.str z)], M => if z.length ≤ sizeLine then some (.d (.int z.length), M) else none
  | [.d (.dict xs)], M => some (.d (.int xs.length), M)
  | [s], M => (seqOf M s).map fun xs => (.d (.int xs.length), M)
  | _, _ => none
theorem g_len : GA K (rLenZ K) gLen := fun x M z M' h as B H R u rx Q q => by
  unfold gLen at h
  split at h
  · obtain ⟨hs, h⟩ := ite_some h
    cases h
    obtain ⟨y, rfl, r⟩ := pr1 rx
    rw [vr_str r]
    exact .inr ⟨_, rfl, hs, q _ as B H (Lat.refl _ _ _) R (.int _)⟩
  · cases h
    obtain ⟨y, rfl, r⟩ := pr1 rx
    cases r with
    | ro ns r =>
      refine .inl ⟨_, _, rfl, .inl (R.ex.seq r), ?_⟩
      have e : (((ns.map V.int).length : Nat) : Int) = (((ns.map fun n => ((.none, .int n) : PyData × PyData)).length : Nat) : Int) := by rw [List.length_map, List.length_map]
      rw [e]
      exact q _ as B H (Lat.refl _ _ _) R (.int _)
  · simp only [Option.map_eq_some_iff] at h
    obtain ⟨xs, h1, h2⟩ := h
    cases h2
    obtain ⟨y, rfl, r⟩ := pr1 rx
    obtain ⟨a, vs, rfl, r', p⟩ := seqOf_ok R r h1
    refine .inl ⟨a, vs, rfl, r', ?_⟩
    rw [← p.length]
    exact q _ as B H (Lat.refl _ _ _) R (.int _)
  · cases h
def gAbs : List SV → Mem → Option (SV × Mem)
  | [.d (.int i)], M => some (.d (.int (if i < 0 then -i else i)), M)
  | _, _ => none
theorem g_abs : GA K (fun xs H Q => ∃ i, xs = [.int i] ∧ Q (.int (if i < 0 then -i else i)) H) gAbs := fun x M z M' h as B H R u rx Q q => by
  unfold gAbs at h
  split at h
  · cases h
    obtain ⟨y, rfl, r⟩ := pr1 rx
    rw [vr_int r]
    exact ⟨_, rfl, q _ as B H (Lat.refl _ _ _) R (.int _)⟩
  · cases h
def gInt : List SV → Mem → Option (SV × Mem)
  | [.d (.int i)], M => some (.d (.int i), M)
  | [.d (.bool b)], M => some (.d (.int (if b then 1 else 0)), M)
  | _, _ => none
theorem g_int : GA K (fun xs H Q => (∃ i, xs = [.int i] ∧ Q (.int i) H) ∨ ∃ k, xs = [.bl k] ∧ Q (.int (if k then 1 else 0)) H) gInt := fun x M z M' h as B H R u rx Q q => by
  unfold gInt at h
  split at h
  · cases h
    obtain ⟨y, rfl, r⟩ := pr1 rx
    rw [vr_int r]
    exact .inl ⟨_, rfl, q _ as B H (Lat.refl _ _ _) R (.int _)⟩
  · cases h
    obtain ⟨y, rfl, r⟩ := pr1 rx
    rw [vr_bl r]
    exact .inr ⟨_, rfl, q _ as B H (Lat.refl _ _ _) R (.int _)⟩
  · cases h
def gMin2 : List SV → Mem → Option (SV × Mem)
  | [.d (.int i), .d (.int j)], M => some (.d (.int (if j < i then j else i)), M)
  | _, _ => none
theorem g_min2 : GA K (fun xs H Q => ∃ i j, xs = [.int i, .int j] ∧ Q (.int (if j < i then j else i)) H) gMin2 := fun x M z M' h as B H R u rx Q q => by
  unfold gMin2 at h
  split at h
  · cases h
    obtain ⟨y, y', rfl, r, r'⟩ := pr2 rx
    rw [vr_int r, vr_int r']
    exact ⟨_, _, rfl, q _ as B H (Lat.refl _ _ _) R (.int _)⟩
  · cases h
def gMax2 : List SV → Mem → Option (SV × Mem)
  | [.d (.int i), .d (.int j)], M => some (.d (.int (if j > i then j else i)), M)
  | _, _ => none
theorem g_max2 : GA K (fun xs H Q => ∃ i j, xs = [.int i, .int j] ∧ Q (.int (if j > i then j else i)) H) gMax2 := fun x M z M' h as B H R u rx Q q => by
  unfold gMax2 at h
  split at h
  · cases h
    obtain ⟨y, y', rfl, r, r'⟩ := pr2 rx
    rw [vr_int r, vr_int r']
    exact ⟨_, _, rfl, q _ as B H (Lat.refl _ _ _) R (.int _)⟩
  · cases h
/-- list(x), tuple(x) -/
def gListOf : List SV → Mem → Option (SV × Mem)
  | [s], M => (seqOf M s).bind fun xs => (allD xs).map fun ds => (.d (.list ds), M)
  | _, _ => none
theorem g_listOf : GA K (fun xs H Q => ∃ p ys, xs = [.ref p] ∧ (SqL K H p ys ∨ SqT K H p ys) ∧ ∀ l, H l = none → Q (.ref l) (upd H l (.lst ys))) gListOf := fun x M z M' h as B H R u rx Q q => by
  unfold gListOf at h
  split at h
  · simp only [Option.bind_eq_some_iff, Option.map_eq_some_iff] at h
    obtain ⟨xs, h0, ds, h1, h2⟩ := h
    cases h2
    obtain ⟨y, rfl, r⟩ := pr1 rx
    obtain ⟨a, vs, rfl, r', p⟩ := seqOf_ok R r h0
    refine ⟨a, vs, rfl, r', fun t ht => ?_⟩
    have pp : Paired (DR K B) ds vs := drs_of (as := as) (by rw [← allD_some h1]; exact p)
    obtain ⟨B', R', L', w⟩ := R.lstD ht pp
    exact q _ as B' _ L' R' w
  · cases h
/-- list(x) that may change -/
def gListM : List SV → Mem → Option (SV × Mem)
  | [s], M => (seqOf M s).map fun xs => (.loc M.length, M ++ [.lst xs])
  | _, _ => none
theorem g_listM : GA K (fun xs H Q => ∃ p ys, xs = [.ref p] ∧ (SqL K H p ys ∨ SqT K H p ys) ∧ ∀ l, H l = none → Q (.ref l) (upd H l (.lst ys))) gListM := fun x M z M' h as B H R u rx Q q => by
  unfold gListM at h
  split at h
  · simp only [Option.map_eq_some_iff] at h
    obtain ⟨xs, h0, h2⟩ := h
    cases h2
    obtain ⟨y, rfl, r⟩ := pr1 rx
    obtain ⟨a, vs, rfl, r', p⟩ := seqOf_ok R r h0
    refine ⟨a, vs, rfl, r', fun t ht => ?_⟩
    obtain ⟨R', L'⟩ := R.newL (o := .lst vs) (mo := .lst xs) ht ⟨vs, upd_same, p⟩
    refine q _ _ _ _ L' R' ⟨t, ?_, rfl⟩
    rw [← R.len, List.getElem?_append_right (Nat.le_refl _), Nat.sub_self]
    rfl
  · cases h
def gTupOf : List SV → Mem → Option (SV × Mem)
  | [s], M => (seqOf M s).bind fun xs => (allD xs).map fun ds => (.d (.tuple ds), M)
  | _, _ => none
theorem g_tupOf : GA K (fun xs H Q => ∃ p ys, xs = [.ref p] ∧ ((SqL K H p ys ∧ ∀ l, H l = none → Q (.ref l) (upd H l (.tup ys))) ∨ (SqT K H p ys ∧ Q (.ref p) H))) gTupOf := fun x M z M' h as B H R u rx Q q => by
  unfold gTupOf at h
  split at h
  · simp only [Option.bind_eq_some_iff, Option.map_eq_some_iff] at h
    obtain ⟨xs, h0, ds, h1, h2⟩ := h
    cases h2
    obtain ⟨y, rfl, r⟩ := pr1 rx
    have cs : ∀ s y, seqOf M s = some xs → VR K as B s y → (∃ ds, s = .d (.tuple ds)) ∨ lstOf M s = some xs := fun s y h r => by
      unfold seqOf at h
      split at h
      · exact .inl ⟨_, rfl⟩
      · exact .inr h
    rcases cs _ _ h0 r with ⟨es, rfl⟩ | h3
    · cases h0
      rw [allD_map] at h1
      cases h1
      cases r with
      | tup r p => exact ⟨_, _, rfl, .inr ⟨same_t R.ex r, q _ as B H (Lat.refl _ _ _) R (.tup r p)⟩⟩
    · obtain ⟨a, vs, rfl, r', p⟩ := lstOf_ok R r h3
      refine ⟨a, vs, rfl, .inl ⟨.inl r', fun t ht => ?_⟩⟩
      have pp : Paired (DR K B) ds vs := drs_of (as := as) (by rw [← allD_some h1]; exact p)
      obtain ⟨B', R', L', w⟩ := R.tupD ht pp
      exact q _ as B' _ L' R' w
  · cases h
/-! all, any of a list of truth values -/
def boolsOf : List SV → Option (List Bool)
  | [] => some []
  | .d (.bool b) :: r => (boolsOf r).map (b :: ·)
  | _ => none
theorem boolsOf_ok : ∀ {xs : List SV} {bs : List Bool} {vs : List V}, boolsOf xs = some bs → Paired (VR K as B) xs vs → vs = bs.map V.bl
  | [], _, _, h, p => by cases h; cases p; rfl
  | .d (.bool b) :: r, _, _, h, p => by
    simp only [boolsOf, Option.map_eq_some_iff] at h
    obtain ⟨cs, h1, rfl⟩ := h
    cases p with
    | cons p q =>
      rw [boolsOf_ok h1 q, vr_bl p]
      rfl
def gAll : List SV → Mem → Option (SV × Mem)
  | [s], M => (lstOf M s).bind fun xs => (boolsOf xs).map fun bs => (.d (.bool (bs.all id)), M)
  | _, _ => none
def gAny : List SV → Mem → Option (SV × Mem)
  | [s], M => (lstOf M s).bind fun xs => (boolsOf xs).map fun bs => (.d (.bool (bs.any id)), M)
  | _, _ => none
theorem g_all : GA K (rAll K) gAll := fun x M z M' h as B H R u rx Q q => by
  unfold gAll at h
  split at h
  · simp only [Option.bind_eq_some_iff, Option.map_eq_some_iff] at h
    obtain ⟨xs, h0, bs, h1, h2⟩ := h
    cases h2
    obtain ⟨y, rfl, r⟩ := pr1 rx
    obtain ⟨a, vs, rfl, r', p⟩ := lstOf_ok R r h0
    refine ⟨a, bs, rfl, ?_, q _ as B H (Lat.refl _ _ _) R (.bl _)⟩
    rw [← boolsOf_ok h1 p]
    exact .inl r'
  · cases h
theorem g_any : GA K (rAny K) gAny := fun x M z M' h as B H R u rx Q q => by
  unfold gAny at h
  split at h
  · simp only [Option.bind_eq_some_iff, Option.map_eq_some_iff] at h
    obtain ⟨xs, h0, bs, h1, h2⟩ := h
    cases h2
    obtain ⟨y, rfl, r⟩ := pr1 rx
    obtain ⟨a, vs, rfl, r', p⟩ := lstOf_ok R r h0
    refine ⟨a, bs, rfl, ?_, q _ as B H (Lat.refl _ _ _) R (.bl _)⟩
    rw [← boolsOf_ok h1 p]
    exact .inl r'
  · cases h
/-! isinstance -/
inductive Ty where
  | non | bool | int | str | list | tuple
  deriving DecidableEq
def Ty.name : Ty → String
  | .non => "NoneType" | .bool => "bool" | .int => "int" | .str => "str" | .list => "list" | .tuple => "tuple"
def tyS (M : Mem) : SV → Option Ty
  | .d .none => some .non
  | .d (.bool _) => some .bool
  | .d (.int _) => some .int
  | .d (.str _) => some .str
  | .d (.list _) => some .list
  | .d (.tuple _) => some .tuple
  | .d (.dict _) => none
  | .loc n => match M[n]? with
    | some (.lst _) => some .list
    | _ => none
def isTy (a b : Ty) : Bool := decide (a = b) || (decide (a = .bool) && decide (b = .int))
theorem kit_isTy (a b : Ty) (h : b ≠ .non) : PySem.W.kitOne K (.type a.name) (.type b.name) = some (isTy a b) := by
  cases b <;> first
    | exact absurd rfl h
    | (cases a <;> exact kit_ty (by decide +kernel))
theorem rd_ty {a : Addr} {vs : List V} (r : Rd H a (.lst vs)) : TyX K H (.ref a) (.type "list") := by
  rcases r with r | ⟨o, r⟩
  · exact .base (.lst r)
  · exact .base (.frz r)
theorem sq_ty {a : Addr} {vs : List V} (r : SqT K H a vs) : TyX K H (.ref a) (.type "tuple") := by
  rcases r with (r | ⟨o, r⟩) | ⟨o, its, n, r, c, _⟩
  · exact .base (.tup r)
  · exact .fTuple r
  · exact .kTuple r c
theorem tyS_ok {s : SV} {v : V} {t : Ty} (R : Rel K as B M H) (h : VR K as B s v) (e : tyS M s = some t) : TyX K H v (.type t.name) := by
  cases s with
  | d x =>
    cases h with
    | non => cases e; exact .base .non
    | bl b => cases e; exact .base (.bl _)
    | int i => cases e; exact .base (.int _)
    | str z => cases e; exact .base (.str _)
    | lst r p => cases e; exact rd_ty (same_rd R.ex r)
    | tup r p => cases e; exact sq_ty (same_t R.ex r)
    | ro ns r => cases e
  | loc n =>
    obtain ⟨a, ea, rfl⟩ := h
    simp only [tyS] at e
    cases q : M[n]? with
    | none => rw [q] at e; cases e
    | some mo =>
      rw [q] at e
      cases mo with
      | lst ys =>
        cases e
        obtain ⟨vs, h1, h2⟩ := R.obj n a _ ea q
        exact rd_ty (.inl h1)
      | _ => cases e
def fIsi (t : Ty) (a : Fe) : Fe := fun Γ M => (a Γ M).bind fun p => (tyS p.2 p.1).map fun s => (.d (.bool (isTy s t)), p.2)
theorem zisi {t : Ty} {fa : Fe} {e : Expr} {x y : Str} {p p2 pos : Pos} (ht : t ≠ .non) (hg : Gl X "isinstance") (hm : X.mg "isinstance" = none) (hgy : Gl X y) (hmy : X.mg y = none) (hv : bootBuiltins y = some (.type t.name)) (ha : PEd X e fa)
    (hny : y ≠ "__name__" := by decide) (hdy : (y == ("__debug__" : Str)) = false := by decide)
    (hs : starEach [e, .Name y p2] X.env = (false, eval e X.env) :: starEach [.Name y p2] X.env := by rfl) (hs2 : starEach [.Name y p2] X.env = (false, eval (.Name y p2) X.env) :: starEach [] X.env := by rfl) (hpl : (backTo pos (starEach [.Name y p2] X.env)).any (·.1) = false := by rfl) :
    PEd X (.Call (.Name "isinstance" p) [e, .Name y p2] [] pos) (fIsi t fa) :=
  .of (pe_callB call_isi hg hm (by decide +kernel) (pa_cons ha.pe (pa_cons (pe_bltn (v := .ty t.name) hgy hmy hv rfl hny hdy) pa_nil hs2) hs) (by decide) (by decide) hs hpl) (fun Γ M z M' h as B σ H R G Q q => by
    simp only [fIsi, Option.bind_eq_some_iff, Option.map_eq_some_iff] at h
    obtain ⟨⟨s, M1⟩, h1, ty, h2, h3⟩ := h
    cases h3
    refine ha.j Γ M s _ h1 as B σ H R G _ fun u as1 B1 H1 L1 R1 r1 => ?_
    exact ⟨u, _, _, _, _, rfl, .ty _, tyS_ok R1 r1 h2, kit_isTy ty t ht, q _ as1 B1 H1 L1 R1 (.bl _)⟩)
def fIsi2 (t t' : Ty) (a : Fe) : Fe := fun Γ M => (a Γ M).bind fun p => (tyS p.2 p.1).map fun s => (.d (.bool (isTy s t || isTy s t')), p.2)
theorem zisi2 {t t' : Ty} {fa : Fe} {e : Expr} {x y y' : Str} {p p2 p2' p3 pos : Pos} {kk} (ht : t ≠ .non) (ht' : t' ≠ .non) (hg : Gl X "isinstance") (hm : X.mg "isinstance" = none) (hgy : Gl X y) (hmy : X.mg y = none) (hv : bootBuiltins y = some (.type t.name)) (hgy' : Gl X y') (hmy' : X.mg y' = none) (hv' : bootBuiltins y' = some (.type t'.name)) (ha : PEd X e fa)
    (hny : y ≠ "__name__" := by decide) (hdy : (y == ("__debug__" : Str)) = false := by decide) (hny' : y' ≠ "__name__" := by decide) (hdy' : (y' == ("__debug__" : Str)) = false := by decide)
    (hs : starEach [e, .Tuple [.Name y p2, .Name y' p2'] kk p3] X.env = (false, eval e X.env) :: starEach [.Tuple [.Name y p2, .Name y' p2'] kk p3] X.env := by rfl) (hs2 : starEach [.Tuple [.Name y p2, .Name y' p2'] kk p3] X.env = (false, eval (.Tuple [.Name y p2, .Name y' p2'] kk p3) X.env) :: starEach [] X.env := by rfl)
    (hs3 : starEach [.Name y p2, .Name y' p2'] X.env = (false, eval (.Name y p2) X.env) :: starEach [.Name y' p2'] X.env := by rfl) (hs4 : starEach [.Name y' p2'] X.env = (false, eval (.Name y' p2') X.env) :: starEach [] X.env := by rfl)
    (hpl : (backTo pos (starEach [.Tuple [.Name y p2, .Name y' p2'] kk p3] X.env)).any (·.1) = false := by rfl) :
    PEd X (.Call (.Name "isinstance" p) [e, .Tuple [.Name y p2, .Name y' p2'] kk p3] [] pos) (fIsi2 t t' fa) :=
  .of (pe_callB call_isiT hg hm (by decide +kernel) (pa_cons ha.pe (pa_cons (pe_tup (pa_cons (pe_bltn (v := .ty t.name) hgy hmy hv rfl hny hdy) (pa_cons (pe_bltn (v := .ty t'.name) hgy' hmy' hv' rfl hny' hdy') pa_nil hs4) hs3)) pa_nil hs2) hs) (by decide) (by decide) hs hpl) (fun Γ M z M' h as B σ H R G Q q => by
    simp only [fIsi2, Option.bind_eq_some_iff, Option.map_eq_some_iff] at h
    obtain ⟨⟨s, M1⟩, h1, ty, h2, h3⟩ := h
    cases h3
    refine ha.j Γ M s _ h1 as B σ H R G _ fun u as1 B1 H1 L1 R1 r1 => ?_
    refine ⟨by show 2 ≤ sizeLine; decide, fun t0 ht0 => ?_⟩
    have tyx : TyX X.K H1 u (.type ty.name) := tyS_ok R1 r1 h2
    obtain ⟨R2, L2⟩ := R1.data (o := .tup [.ty t.name, .ty t'.name]) ht0
    have tyx' : TyX X.K (upd H1 t0 (.tup [.ty t.name, .ty t'.name])) u (.type ty.name) := tyS_ok R2 (r1.mono L2) h2
    refine ⟨u, t0, _, _, [.type t.name, .type t'.name], isTy ty t || isTy ty t', rfl, upd_same, .cons (.ty _) (.cons (.ty _) .nil), tyx', ?_, q _ as1 _ _ (L1.trans L2) R2 (.bl _)⟩
    unfold PySem.W.kitAny PySem.W.kitAny PySem.W.kitAny
    rw [kit_isTy ty t ht, kit_isTy ty t' ht']
    cases isTy ty t <;> cases isTy ty t' <;> rfl)
end
end Z
namespace Z
open PySem L2
/-! ### calls of the text's own defs -/
abbrev Fn := List SV → Mem → Option (SV × Mem)
def spF (K : PySem.W.Frag) (n : Nat) (f : Fn) : Sp := fun vs H Q _ => ∃ (as : List Addr) (B : Hp) (M : Mem) (xs : List SV) (s : SV) (M' : Mem), vs.length = n ∧ f xs M = some (s, M') ∧ Rel K as B M H ∧ Paired (VR K as B) xs vs ∧
  ∀ (v : V) (as' : List Addr) (B' H' : Hp), Lat as B H as' B' H' → Rel K as' B' M' H' → VR K as' B' s v → Q v H'
section
variable {X : Cx} {K : PySem.W.Frag}
/-- a number of arguments other than n is refused -/
def arity (n : Nat) (f : Fn) : Fn := fun xs M => if xs.length = n then f xs M else none
def fCall (n : Nat) (f : Fn) (t : Fa) : Fe := fun Γ M => (t Γ M).bind fun p => arity n f p.1 p.2
theorem j_call {n : Nat} {f : Fn} {t : TA} {g : Fa} (ht : J K (RA K) t g) : J K (VR K) (tCall (spF K n f) [] E0 t) (fCall n f g) := fun Γ M z M' h as B σ H R G Q q => by
  simp only [fCall, arity, Option.bind_eq_some_iff] at h
  obtain ⟨⟨x, M1⟩, h1, h2⟩ := h
  obtain ⟨hn, h2⟩ := ite_opt h2
  refine ht Γ M x _ h1 as B σ H R G _ fun u as1 B1 H1 L1 R1 r1 => ?_
  refine ⟨as1, B1, M1, x, z, M', ?_, h2, R1, ?_, fun v as2 B2 H2 L2 R2 r2 => q v as2 B2 H2 (L1.trans L2) R2 r2⟩
  · rw [List.append_nil, ← Paired.length r1]
    exact hn
  · rw [List.append_nil]
    exact r1
variable {k n : Nat} {f : Addr} {fd : FuncData} {ps ks : List Str} {g : Fn} {x : Str} {p pos : Pos} {e : Expr} {es : List Expr} {t : TA} {ft : Fa} {kws : List Keyword} {tk : TA}
theorem zcall (F : FnOk X.prog X.w X.K X.mg X.base CX0 k f fd ps (spF X.K n g)) (hr : Room k X.A) (hg : Gl X x) (hm : X.mg x = some (.ref f)) (hk : PySem.W.keepIn X.K (.ref f) = true) (hb : Binds X.K fd ps [])
    (ha : PAd X (e :: es) ft) (hdb : (x == ("__debug__" : Str)) = false := by decide) (he : starEach (e :: es) X.env = (false, eval e X.env) :: starEach es X.env := by rfl) (hpl : (backTo pos (starEach es X.env)).any (·.1) = false := by rfl) :
    PEd X (.Call (.Name x p) (e :: es) [] pos) (fCall n g ft) :=
  .of (pe_call F hr hg hm hk hb .nil pass0 ha.pe hdb he hpl) (j_call ha.j)
/-- f(k = v, ..) -/
theorem pe_callK0 {CX : CXT} {sp : Sp} {E : XK} {gg : List Value → List Value → List Value} {gV : List V → List V → List V} (F : FnOk X.prog X.w X.K X.mg X.base CX k f fd ps sp) (hr : Room k X.A) (hg : Gl X x) (hm : X.mg x = some (.ref f)) (hk : PySem.W.keepIn X.K (.ref f) = true) (hb : KBinds X.K fd ps ks gg gV) (hx : Passes CX X E)
    (hkw : PK X kws tk) (hall : (backToKw pos (keywordEach kws X.env)).all (·.1.isSome) = true := by rfl) (hks : (backToKw pos (keywordEach kws X.env)).filterMap (·.1) = ks := by rfl)
    (hdb : (x == ("__debug__" : Str)) = false := by decide) (hpl : ((backTo pos (starEach [] X.env)).any (·.1) || (backToKw pos (keywordEach kws X.env)).any (·.1.isNone)) = false := by rfl) :
    PE X (.Call (.Name x p) [] kws pos) (tCallK sp gV E tNil tk) := by
  refine ⟨fun pins s σ H Q I h => ?_⟩
  refine wpAny_Call_Name_kw (ld_glob I hg hm ?_ hdb)
  refine PySem.W.callWith_KW0 (h₀ := X.base) I.ok.mod.kin hk hall ?_ hpl
  refine thn (hkw.run pos pins s σ H _ I h) fun ws s2 ⟨zs, H2, I2, rz, q2⟩ => ⟨I2.kIn, ?_⟩
  rw [hks]
  exact run_fnk (us := []) (vs := []) F hr hb hx I2 .nil rz q2
/-- the parameters' order: m positional values, then the keywords' by their places -/
def gpm (m : Nat) (perm : List Nat) {α : Type} (us ws : List α) : List α := if us.length = m then us ++ perm.filterMap fun i => ws[i]? else []
theorem Paired.pick {α β : Type} {F : α → β → Prop} {xs : List α} {ys : List β} (p : Paired F xs ys) : ∀ perm : List Nat, Paired F (perm.filterMap fun i => xs[i]?) (perm.filterMap fun i => ys[i]?)
  | [] => .nil
  | i :: r => by
    cases e : xs[i]? with
    | none =>
      have e' : ys[i]? = none := by
        rw [List.getElem?_eq_none_iff] at e ⊢
        rw [← p.length]
        exact e
      rw [List.filterMap_cons_none e, List.filterMap_cons_none e']
      exact Paired.pick p r
    | some x =>
      obtain ⟨y, e', r'⟩ := Z.Paired.at p e
      rw [List.filterMap_cons_some e, List.filterMap_cons_some e']
      exact .cons r' (Paired.pick p r)
theorem Paired.gpm {α β : Type} {F : α → β → Prop} {m : Nat} {perm : List Nat} {xs xs' : List α} {ys ys' : List β} (p : Paired F xs ys) (p' : Paired F xs' ys') : Paired F (gpm m perm xs xs') (gpm m perm ys ys') := by
  unfold Z.gpm
  rw [p.length]
  split
  · exact Paired.app p (Paired.pick p' perm)
  · exact .nil
theorem kbinds_of {fd : FuncData} {m : Nat} {perm : List Nat} (hne : ps ≠ []) (h : ∀ us ws : List Value, us.length = m → (us ++ perm.filterMap fun i => ws[i]?).length = ps.length → bindArgs fd ⟨us, ks.zip ws⟩ = pure (ps.zip (us ++ perm.filterMap fun i => ws[i]?))) : KBinds K fd ps ks (gpm m perm) (gpm m perm) where
  to := fun s us ws _ hl => by
    unfold gpm at hl ⊢
    by_cases c : us.length = m
    · rw [if_pos c] at hl ⊢
      exact .of_eq (h us ws c hl)
    · rw [if_neg c] at hl
      exact absurd (List.length_eq_zero_iff.mp hl.symm) hne
  rel := fun r r' => Paired.gpm r r'
structure PKd (X : Cx) (kws : List Keyword) (f : Fa) : Prop where
  pe : PK X kws (cn X.K (RA X.K) f)
theorem PKd.of {X : Cx} {kws : List Keyword} {t : TA} {f : Fa} (h : PK X kws t) (j : J X.K (RA X.K) t f) : PKd X kws f := ⟨⟨fun pos pins s σ H Q I c => h.run pos pins s σ H Q I (j.use c)⟩⟩
theorem PKd.j {X : Cx} {kws : List Keyword} {f : Fa} (_ : PKd X kws f) : J X.K (RA X.K) (cn X.K (RA X.K) f) f := j_cn
theorem zknil : PKd X [] fNil := .of (pk_nil) (j_nil)
theorem zkcons {a : Expr} {nm : Option Str} {kpos : Pos} {fa : Fe} {fr : Fa} (ha : PEd X a fa) (hr : PKd X kws fr) : PKd X (⟨nm, a, kpos⟩ :: kws) (fCons fa fr) := .of (pk_cons ha.pe hr.pe) (j_cons ha.j hr.j)
def fCallK (n m : Nat) (perm : List Nat) (f : Fn) (t tk : Fa) : Fe := fun Γ M => (t Γ M).bind fun p => (tk Γ p.2).bind fun q => arity n f (gpm m perm p.1 q.1) q.2
theorem j_callK {n m : Nat} {perm : List Nat} {f : Fn} {t tk : TA} {g gk : Fa} (ht : J K (RA K) t g) (hk : J K (RA K) tk gk) : J K (VR K) (tCallK (spF K n f) (gpm m perm) E0 t tk) (fCallK n m perm f g gk) := fun Γ M z M' h as B σ H R G Q q => by
  simp only [fCallK, arity, Option.bind_eq_some_iff] at h
  obtain ⟨⟨x, M1⟩, h1, ⟨y, M2⟩, h2, h3⟩ := h
  obtain ⟨hn, h3⟩ := ite_opt h3
  refine ht Γ M x _ h1 as B σ H R G _ fun u as1 B1 H1 L1 R1 r1 => ?_
  refine hk Γ M1 y _ h2 as1 B1 σ H1 R1 (G.mono L1) _ fun u' as2 B2 H2 L2 R2 r2 => ?_
  have pp := Paired.gpm (m := m) (perm := perm) (VR.monos L2 r1) r2
  refine ⟨as2, B2, M2, _, z, M', ?_, h3, R2, pp, fun v as3 B3 H3 L3 R3 r3 => q v as3 B3 H3 ((L1.trans L2).trans L3) R3 r3⟩
  rw [← Paired.length pp]
  exact hn
theorem zcallK0 {m : Nat} {perm : List Nat} (F : FnOk X.prog X.w X.K X.mg X.base CX0 k f fd ps (spF X.K n g)) (hr : Room k X.A) (hg : Gl X x) (hm : X.mg x = some (.ref f)) (hk : PySem.W.keepIn X.K (.ref f) = true) (hb : KBinds X.K fd ps ks (gpm m perm) (gpm m perm))
    (hkw : PKd X kws ft) (hall : (backToKw pos (keywordEach kws X.env)).all (·.1.isSome) = true := by rfl) (hks : (backToKw pos (keywordEach kws X.env)).filterMap (·.1) = ks := by rfl)
    (hdb : (x == ("__debug__" : Str)) = false := by decide) (hpl : ((backTo pos (starEach [] X.env)).any (·.1) || (backToKw pos (keywordEach kws X.env)).any (·.1.isNone)) = false := by rfl) :
    PEd X (.Call (.Name x p) [] kws pos) (fCallK n m perm g fNil ft) :=
  .of (pe_callK0 F hr hg hm hk hb pass0 hkw.pe hall hks hdb hpl) (j_callK j_nil hkw.j)
theorem zcallK {m : Nat} {perm : List Nat} {fk : Fa} (F : FnOk X.prog X.w X.K X.mg X.base CX0 k f fd ps (spF X.K n g)) (hr : Room k X.A) (hg : Gl X x) (hm : X.mg x = some (.ref f)) (hk : PySem.W.keepIn X.K (.ref f) = true) (hb : KBinds X.K fd ps ks (gpm m perm) (gpm m perm))
    (ha : PAd X (e :: es) ft) (hkw : PKd X kws fk) (hall : (backToKw pos (keywordEach kws X.env)).all (·.1.isSome) = true := by rfl) (hks : (backToKw pos (keywordEach kws X.env)).filterMap (·.1) = ks := by rfl)
    (hdb : (x == ("__debug__" : Str)) = false := by decide) (he : starEach (e :: es) X.env = (false, eval e X.env) :: starEach es X.env := by rfl)
    (hpl : ((backTo pos (starEach (e :: es) X.env)).any (·.1) || (backToKw pos (keywordEach kws X.env)).any (·.1.isNone)) = false := by rfl) :
    PEd X (.Call (.Name x p) (e :: es) kws pos) (fCallK n m perm g ft fk) :=
  .of (pe_callK F hr hg hm hk hb pass0 ha.pe hkw.pe hall hks hdb he hpl) (j_callK ha.j hkw.j)
end
/-! ### statements -/
inductive Out where
  | nx (Γ : Gm)
  | rt (s : SV)
  | bk (Γ : Gm)
  | ct (Γ : Gm)
abbrev Fs := Gm → Mem → Option (Out × Mem)
/-- what stands behind a statement reaches what is wanted -/
def OK (K : PySem.W.Frag) (D : Ends) (as : List Addr) (B H : Hp) : Out → Prop
  | .nx Γ => ∀ σ, GR K as B Γ σ → D.nx σ H
  | .rt s => ∀ v, VR K as B s v → D.rt v H
  | .bk Γ => ∀ σ, GR K as B Γ σ → D.bk σ H
  | .ct Γ => ∀ σ, GR K as B Γ σ → D.ct σ H
def Sd (K : PySem.W.Frag) (t : TS) (f : Fs) : Prop :=
  ∀ (Γ : Gm) (M : Mem) (o : Out) (M' : Mem), f Γ M = some (o, M') → ∀ (as : List Addr) (B : Hp) (σ : L2.St) (H : Hp), Rel K as B M H → GR K as B Γ σ → ∀ D : Ends,
    (∀ (as' : List Addr) (B' H' : Hp), Lat as B H as' B' H' → Rel K as' B' M' H' → OK K D as' B' H' o) → t D σ H
def cns (K : PySem.W.Frag) (f : Fs) : TS := fun D σ H => ∃ (Γ : Gm) (M : Mem) (o : Out) (M' : Mem) (as : List Addr) (B : Hp), f Γ M = some (o, M') ∧ Rel K as B M H ∧ GR K as B Γ σ ∧
  ∀ (as' : List Addr) (B' H' : Hp), Lat as B H as' B' H' → Rel K as' B' M' H' → OK K D as' B' H' o
theorem s_cn {K : PySem.W.Frag} {f : Fs} : Sd K (cns K f) f := fun Γ M o M' h as B σ H r g D q => ⟨Γ, M, o, M', as, B, h, r, g, q⟩
theorem Sd.use {K : PySem.W.Frag} {t : TS} {f : Fs} (h : Sd K t f) {σ : L2.St} {H : Hp} {D : Ends} (c : cns K f D σ H) : t D σ H := by
  obtain ⟨Γ, M, o, M', as, B, h1, r, g, q⟩ := c
  exact h Γ M o M' h1 as B σ H r g D q
structure PSd (X : Cx) (st : Stmt) (f : Fs) : Prop where
  pe : PS X st (cns X.K f)
structure PSsd (X : Cx) (st : List Stmt) (f : Fs) : Prop where
  pe : PSs X st (cns X.K f)
theorem PSd.of {X : Cx} {e : Stmt} {t : TS} {f : Fs} (h : PS X e t) (j : Sd X.K t f) : PSd X e f := ⟨⟨fun pins s σ H D I c => h.run pins s σ H D I (j.use c)⟩⟩
theorem PSsd.of {X : Cx} {e : List Stmt} {t : TS} {f : Fs} (h : PSs X e t) (j : Sd X.K t f) : PSsd X e f := ⟨⟨fun pins s σ H D I c => h.run pins s σ H D I (j.use c)⟩⟩
theorem PSd.j {X : Cx} {e : Stmt} {f : Fs} (_ : PSd X e f) : Sd X.K (cns X.K f) f := s_cn
theorem PSsd.j {X : Cx} {e : List Stmt} {f : Fs} (_ : PSsd X e f) : Sd X.K (cns X.K f) f := s_cn
abbrev Fg := SV → Gm → Mem → Option (Gm × Mem)
def Gd (K : PySem.W.Frag) (g : TG) (f : Fg) : Prop :=
  ∀ (x : SV) (Γ : Gm) (M : Mem) (Γ' : Gm) (M' : Mem), f x Γ M = some (Γ', M') → ∀ (as : List Addr) (B : Hp) (σ : L2.St) (H : Hp) (v : V), Rel K as B M H → GR K as B Γ σ → VR K as B x v → ∀ Q : L2.St → Hp → Prop,
    (∀ (σ' : L2.St) (as' : List Addr) (B' H' : Hp), Lat as B H as' B' H' → Rel K as' B' M' H' → GR K as' B' Γ' σ' → Q σ' H') → g v σ H Q
def cng (K : PySem.W.Frag) (f : Fg) : TG := fun v σ H Q => ∃ (x : SV) (Γ : Gm) (M : Mem) (Γ' : Gm) (M' : Mem) (as : List Addr) (B : Hp), f x Γ M = some (Γ', M') ∧ Rel K as B M H ∧ GR K as B Γ σ ∧ VR K as B x v ∧
  ∀ (σ' : L2.St) (as' : List Addr) (B' H' : Hp), Lat as B H as' B' H' → Rel K as' B' M' H' → GR K as' B' Γ' σ' → Q σ' H'
theorem g_cn {K : PySem.W.Frag} {f : Fg} : Gd K (cng K f) f := fun x Γ M Γ' M' h as B σ H v r g rv Q q => ⟨x, Γ, M, Γ', M', as, B, h, r, g, rv, q⟩
structure PGd (X : Cx) (e : Expr) (f : Fg) : Prop where
  pe : PG X e (cng X.K f)
theorem PGd.of {X : Cx} {e : Expr} {t : TG} {f : Fg} (h : PG X e t) (j : Gd X.K t f) : PGd X e f := ⟨⟨fun pins s σ H v u Q I rv c => h.run pins s σ H v u Q I rv (by
  obtain ⟨x, Γ, M, Γ', M', as, B, h1, r, g, rv, q⟩ := c
  exact j x Γ M Γ' M' h1 as B σ H v r g rv Q q)⟩⟩
theorem PGd.j {X : Cx} {e : Expr} {f : Fg} (_ : PGd X e f) : Gd X.K (cng X.K f) f := g_cn
section
variable {X : Cx} {K : PySem.W.Frag} {t u : TS} {f g : Fs} {te : TE} {fe : Fe} {e c : Expr} {pos : Pos} {st : Stmt} {rest a b : List Stmt} {tt : TT} {ft : Ft}
def fNext : Fs := fun Γ M => some (.nx Γ, M)
def fSeq (f g : Fs) : Fs := fun Γ M => (f Γ M).bind fun p => match p.1 with
  | .nx Γ' => g Γ' p.2
  | o => some (o, p.2)
theorem s_next : Sd K tNext fNext := fun Γ M o M' h as B σ H R G D q => by
  cases h
  exact q as B H (Lat.refl _ _ _) R σ G
theorem s_seq (hf : Sd K t f) (hg : Sd K u g) : Sd K (tSeq t u) (fSeq f g) := fun Γ M o M' h as B σ H R G D q => by
  simp only [fSeq, Option.bind_eq_some_iff] at h
  obtain ⟨⟨o1, M1⟩, h1, h2⟩ := h
  refine hf Γ M o1 M1 h1 as B σ H R G _ fun as1 B1 H1 L1 R1 => ?_
  cases o1 with
  | nx Γ1 => exact fun σ1 G1 => hg Γ1 M1 o M' h2 as1 B1 σ1 H1 R1 G1 D fun as2 B2 H2 L2 R2 => q as2 B2 H2 (L1.trans L2) R2
  | rt s => cases h2; exact q as1 B1 H1 L1 R1
  | bk s => cases h2; exact q as1 B1 H1 L1 R1
  | ct s => cases h2; exact q as1 B1 H1 L1 R1
theorem zsnil : PSsd X [] fNext := .of (pss_nil) (s_next)
theorem zscons (h1 : PSd X st f) (h2 : PSsd X rest g) : PSsd X (st :: rest) (fSeq f g) := .of (pss_cons h1.pe h2.pe) (s_seq h1.j h2.j)
theorem zsone (h1 : PSd X st f) : PSsd X [st] f := .of (pss_one h1.pe) (h1.j)
theorem zspass : PSd X (.Pass pos) fNext := .of (ps_pass) (s_next)
def fBreak : Fs := fun Γ M => some (.bk Γ, M)
def fCont : Fs := fun Γ M => some (.ct Γ, M)
theorem zsbreak : PSd X (.Break pos) fBreak := .of (ps_break) (fun Γ M o M' h as B σ H R G D q => by
  cases h
  exact q as B H (Lat.refl _ _ _) R σ G)
theorem zscont : PSd X (.Continue pos) fCont := .of (ps_continue) (fun Γ M o M' h as B σ H R G D q => by
  cases h
  exact q as B H (Lat.refl _ _ _) R σ G)
def fRet (a : Fe) : Fs := fun Γ M => (a Γ M).map fun p => (.rt p.1, p.2)
theorem zsret (h : PEd X e fe) : PSd X (.Return (some e) pos) (fRet fe) := .of (ps_ret h.pe) (fun Γ M o M' h1 as B σ H R G D q => by
  simp only [fRet, Option.map_eq_some_iff] at h1
  obtain ⟨⟨s, M1⟩, h1, h2⟩ := h1
  cases h2
  exact h.j Γ M s M1 h1 as B σ H R G _ fun v as1 B1 H1 L1 R1 r1 => q as1 B1 H1 L1 R1 v r1)
def fRetN : Fs := fun _ M => some (.rt (.d .none), M)
theorem zsretN : PSd X (.Return none pos) fRetN := .of (ps_retN) (fun Γ M o M' h as B σ H R G D q => by
  cases h
  exact q as B H (Lat.refl _ _ _) R _ .non)
def fExpr (a : Fe) : Fs := fun Γ M => (a Γ M).map fun p => (.nx Γ, p.2)
theorem zsexpr (h : PEd X e fe) (hs : swapsWith e none pos.line X.env = pure false := by rfl) : PSd X (.Expr e pos) (fExpr fe) := .of (ps_expr h.pe hs) (fun Γ M o M' h1 as B σ H R G D q => by
  simp only [fExpr, Option.map_eq_some_iff] at h1
  obtain ⟨⟨s, M1⟩, h1, h2⟩ := h1
  cases h2
  exact h.j Γ M s M1 h1 as B σ H R G _ fun v as1 B1 H1 L1 R1 r1 => q as1 B1 H1 L1 R1 σ (G.mono L1))
def fIfS (c : Ft) (f g : Fs) : Fs := fun Γ M => (c Γ M).bind fun p => if p.1 = true then f Γ p.2 else g Γ p.2
theorem zsif (hc : PTd X c ft) (ha : PSsd X a f) (hb : PSsd X b g) : PSd X (.If c a b pos) (fIfS ft f g) := .of (ps_if hc.pe ha.pe hb.pe) (fun Γ M o M' h as B σ H R G D q => by
  simp only [fIfS, Option.bind_eq_some_iff] at h
  obtain ⟨⟨x, M1⟩, h1, h3⟩ := h
  refine hc.j Γ M x M1 h1 as B σ H R G _ fun u as1 B1 H1 L1 R1 r1 => ?_
  cases (show x = u from r1)
  cases x with
  | true => exact ha.j Γ M1 o M' h3 as1 B1 σ H1 R1 (G.mono L1) D fun as2 B2 H2 L2 R2 => q as2 B2 H2 (L1.trans L2) R2
  | false => exact hb.j Γ M1 o M' h3 as1 B1 σ H1 R1 (G.mono L1) D fun as2 B2 H2 L2 R2 => q as2 B2 H2 (L1.trans L2) R2)
/-- a statement that is never reached -/
def fNever : Fs := fun _ _ => none
theorem zsnever : PSd X st fNever := .of (ps_never) (fun Γ M o M' h => by cases h)
/-! targets -/
def tgName (i : Nat) : Fg := fun x Γ M => some (Γ.set i (some x), M)
theorem GR.set {as : List Addr} {B : Hp} {Γ : Gm} {σ : L2.St} {i : Nat} {x : SV} {v : V} (G : GR K as B Γ σ) (r : VR K as B x v) : GR K as B (Γ.set i (some x)) (σ.set i (some v)) :=
  Z.Paired.set' (fun s e => by cases e; exact ⟨v, rfl, r⟩) i G
theorem g_name {i : Nat} : Gd K (gName i) (tgName i) := fun x Γ M Γ' M' h as B σ H v R G r Q q => by
  cases h
  exact q _ as B H (Lat.refl _ _ _) R (G.set r)
theorem zgname {i : Nat} {x : Str} (hN : X.N.Nodup) (hi : X.N[i]? = some x) (hx : Loc X.env.scope x) (hf : X.fn x = true ∨ X.env.scope.names.lookup x = some .local := by first | exact .inl rfl | exact .inr rfl | assumption) : PGd X (.Name x pos) (tgName i) :=
  .of (pg_name hN hi hx hf) (fun x Γ M Γ' M' h as B σ H v R G r Q q => by
    cases h
    exact q _ as B H (Lat.refl _ _ _) R (G.set r))
abbrev Fgs := List SV → Gm → Mem → Option (Gm × Mem)
def Gsd (K : PySem.W.Frag) (g : TGs) (f : Fgs) : Prop :=
  ∀ (x : List SV) (Γ : Gm) (M : Mem) (Γ' : Gm) (M' : Mem), f x Γ M = some (Γ', M') → ∀ (as : List Addr) (B : Hp) (σ : L2.St) (H : Hp) (v : List V), Rel K as B M H → GR K as B Γ σ → Paired (VR K as B) x v → ∀ Q : L2.St → Hp → Prop,
    (∀ (σ' : L2.St) (as' : List Addr) (B' H' : Hp), Lat as B H as' B' H' → Rel K as' B' M' H' → GR K as' B' Γ' σ' → Q σ' H') → g v σ H Q
def cngs (K : PySem.W.Frag) (f : Fgs) : TGs := fun v σ H Q => ∃ (x : List SV) (Γ : Gm) (M : Mem) (Γ' : Gm) (M' : Mem) (as : List Addr) (B : Hp), f x Γ M = some (Γ', M') ∧ Rel K as B M H ∧ GR K as B Γ σ ∧ Paired (VR K as B) x v ∧
  ∀ (σ' : L2.St) (as' : List Addr) (B' H' : Hp), Lat as B H as' B' H' → Rel K as' B' M' H' → GR K as' B' Γ' σ' → Q σ' H'
theorem gs_cn {K : PySem.W.Frag} {f : Fgs} : Gsd K (cngs K f) f := fun x Γ M Γ' M' h as B σ H v r g rv Q q => ⟨x, Γ, M, Γ', M', as, B, h, r, g, rv, q⟩
structure PGsd (X : Cx) (es : List Expr) (f : Fgs) : Prop where
  pe : PGs X es (cngs X.K f)
theorem PGsd.of {X : Cx} {e : List Expr} {t : TGs} {f : Fgs} (h : PGs X e t) (j : Gsd X.K t f) : PGsd X e f := ⟨⟨fun pins s σ H v u Q I rv c => h.run pins s σ H v u Q I rv (by
  obtain ⟨x, Γ, M, Γ', M', as, B, h1, r, g, rv, q⟩ := c
  exact j x Γ M Γ' M' h1 as B σ H v r g rv Q q)⟩⟩
theorem PGsd.j {X : Cx} {e : List Expr} {f : Fgs} (_ : PGsd X e f) : Gsd X.K (cngs X.K f) f := gs_cn
def tgNil : Fgs := fun xs Γ M => match xs with
  | [] => some (Γ, M)
  | _ => none
def tgCons (f : Fg) (g : Fgs) : Fgs := fun xs Γ M => match xs with
  | x :: r => (f x Γ M).bind fun p => g r p.1 p.2
  | _ => none
theorem zgnil : PGsd X [] tgNil := .of (pgs_nil) (fun x Γ M Γ' M' h as B σ H v R G r Q q => by
  cases x with
  | nil =>
    cases h
    cases r
    exact ⟨rfl, q _ as B H (Lat.refl _ _ _) R G⟩
  | cons _ _ => cases h)
theorem zgcons {es : List Expr} {fg : Fg} {fgs : Fgs} (h1 : PGd X e fg) (h2 : PGsd X es fgs) (hs : (assignEach (e :: es) X.env).map (·.2) = assign e X.env :: (assignEach es X.env).map (·.2) := by rfl) : PGsd X (e :: es) (tgCons fg fgs) :=
  .of (pgs_cons h1.pe h2.pe hs) (fun x Γ M Γ' M' h as B σ H v R G r Q q => by
    cases x with
    | nil => cases h
    | cons x xr =>
      simp only [tgCons, Option.bind_eq_some_iff] at h
      obtain ⟨⟨Γ1, M1⟩, k1, k2⟩ := h
      cases r with
      | cons r rr =>
        refine ⟨_, _, rfl, h1.j x Γ M Γ1 M1 k1 as B σ H _ R G r _ fun σ1 as1 B1 H1 L1 R1 G1 => ?_⟩
        exact h2.j xr Γ1 M1 Γ' M' k2 as1 B1 σ1 H1 _ R1 G1 (VR.monos L1 rr) Q fun σ2 as2 B2 H2 L2 R2 G2 => q σ2 as2 B2 H2 (L1.trans L2) R2 G2)
def tgTup (n : Nat) (g : Fgs) : Fg := fun x Γ M => (tupOf x).bind fun xs => if xs.length = n then g xs Γ M else none
theorem zgtup {es : List Expr} {kk : Nat} {fgs : Fgs} {n : Nat} (hc : X.calm = true) (h : PGsd X es fgs) (hn : (assignEach es X.env).length = n := by rfl) (hst : (assignEach es X.env).findIdx? (·.1) = none := by rfl) : PGd X (.Tuple es kk pos) (tgTup n fgs) :=
  .of (pg_tup hc h.pe hn hst) (fun x Γ M Γ' M' h1 as B σ H v R G r Q q => by
    simp only [tgTup, Option.bind_eq_some_iff] at h1
    obtain ⟨xs, k1, k2⟩ := h1
    obtain ⟨k2, k3⟩ := ite_opt k2
    obtain ⟨a, vs, rfl, r1, p⟩ := tupOf_ok R r k1
    exact ⟨a, vs, rfl, r1, by rw [← Paired.length p]; exact k2, h.j xs Γ M Γ' M' k3 as B σ H vs R G p Q q⟩)
/-- target = value -/
def fAsg (a : Fe) (g : Fg) : Fs := fun Γ M => (a Γ M).bind fun p => (g p.1 Γ p.2).map fun q => (.nx q.1, q.2)
theorem s_asg {g : TG} {fg : Fg} (he : J K (VR K) te fe) (hg : Gd K g fg) : Sd K (tAsg te g) (fAsg fe fg) := fun Γ M o M' h as B σ H R G D q => by
  simp only [fAsg, Option.bind_eq_some_iff, Option.map_eq_some_iff] at h
  obtain ⟨⟨s, M1⟩, h1, ⟨Γ2, M2⟩, h2, h3⟩ := h
  cases h3
  refine he Γ M s M1 h1 as B σ H R G _ fun v as1 B1 H1 L1 R1 r1 => ?_
  exact hg s Γ M1 Γ2 _ h2 as1 B1 σ H1 v R1 (G.mono L1) r1 _ fun σ2 as2 B2 H2 L2 R2 G2 => q as2 B2 H2 (L1.trans L2) R2 σ2 G2
theorem zsasg {fg : Fg} {tg : Expr} (he : PEd X e fe) (hg : PGd X tg fg) (hs : swapsWithSole [tg] e pos.line X.env = pure false := by rfl) (hw : swappedStores [tg] e X.env = pure none := by rfl)
    (h1 : (assignEach [tg] X.env).map (·.2) = [assign tg X.env] := by rfl) : PSd X (.Assign [tg] e pos) (fAsg fe fg) := .of (ps_asg he.pe hg.pe hs hw h1) (s_asg he.j hg.j)
theorem zsset {i : Nat} {x : Str} {pos' : Pos} (hN : X.N.Nodup) (hi : X.N[i]? = some x) (hx : Loc X.env.scope x) (he : PEd X e fe) (hs : swapsWith e (some (.Name x pos')) pos.line X.env = pure false := by rfl) (hf : X.fn x = true ∨ X.env.scope.names.lookup x = some .local := by first | exact .inl rfl | exact .inr rfl | assumption) :
    PSd X (.Assign [.Name x pos'] e pos) (fAsg fe (tgName i)) := .of (ps_set hN hi hx he.pe hs hf) (s_asg he.j g_name)
def fPar (i j : Nat) (t : Fa) : Fs := fun Γ M => (t Γ M).bind fun p => match p.1 with
  | [x, y] => some (.nx ((Γ.set i (some x)).set j (some y)), p.2)
  | _ => none
theorem zspar {i j : Nat} {x y : Str} {ea eb : Expr} {fa : Fa} {px py pt : Pos} {kt k2 pt2} (hc : X.calm = true) (hN : X.N.Nodup) (hi : X.N[i]? = some x) (hj : X.N[j]? = some y) (hij : i ≠ j)
    (hx : X.env.scope.names.lookup x = some .local) (hy : X.env.scope.names.lookup y = some .local) (ha : PAd X [ea, eb] fa)
    (hw : swappedStores [.Tuple [.Name x px, .Name y py] kt pt] (.Tuple [ea, eb] k2 pt2) X.env = pure (some [x, y]))
    (hs : swapsWithSole [.Tuple [.Name x px, .Name y py] kt pt] (.Tuple [ea, eb] k2 pt2) pos.line X.env = pure false := by rfl) :
    PSd X (.Assign [.Tuple [.Name x px, .Name y py] kt pt] (.Tuple [ea, eb] k2 pt2) pos) (fPar i j fa) := .of (ps_par hc hN hi hj hij hx hy ha.pe hw hs) (fun Γ M o M' h as B σ H R G D q => by
      simp only [fPar, Option.bind_eq_some_iff] at h
      obtain ⟨⟨xs, M1⟩, h1, h2⟩ := h
      refine ha.j Γ M xs M1 h1 as B σ H R G _ fun v as1 B1 H1 L1 R1 r1 => ?_
      match xs, h2, r1 with
      | [a, b], h2, r1 =>
        cases h2
        obtain ⟨v1, v2, rfl, p1, p2⟩ := pr2 r1
        exact ⟨v1, v2, rfl, q as1 B1 H1 L1 R1 _ (((G.mono L1).set p1).set p2)⟩)
/-! stores -/
/-- the place changed -/
theorem Rel.put {as : List Addr} {B H : Hp} {M : Mem} {n : Nat} {a : Addr} {mo mo' : MO} {o : HO} (R : Rel K as B M H) (ha : as[n]? = some a) (hm : M[n]? = some mo) (hg : mo ≠ .gone) (hmo : MR K as B (upd H a o) a mo') :
    Rel K as B (M.set n mo') (upd H a o) ∧ Lat as B H as B (upd H a o) := by
  have hn : n < as.length := (List.getElem?_eq_some_iff.mp ha).1
  have Ba := R.sep n a mo ha hm hg
  have hne : ∀ (m : Nat) (b : Addr), as[m]? = some b → m ≠ n → b ≠ a := fun m b eb ne q => by
    subst q
    obtain ⟨h1, h2⟩ := List.getElem?_eq_some_iff.mp eb
    obtain ⟨h3, h4⟩ := List.getElem?_eq_some_iff.mp ha
    rcases Nat.lt_or_gt_of_ne ne with k | k
    · exact (List.pairwise_iff_getElem.mp R.nd) m n h1 h3 k (h2.trans h4.symm)
    · exact (List.pairwise_iff_getElem.mp R.nd) n m h3 h1 k (h4.trans h2.symm)
  refine ⟨⟨by rw [List.length_set]; exact R.len, R.nd, fun b u e => ?_, fun m b mo2 eb em h2 => ?_, fun m b mo2 eb em => ?_, fun b hb => ?_⟩, List.prefix_refl _, Same.refl _, fun b u e nb => ?_, fun b m k => absurd m k, fun b k => .inl k⟩
  · rw [upd_ne (fun q => by rw [q, Ba] at e; cases e)]
    exact R.ex b u e
  · by_cases q : m = n
    · subst q
      rw [ha] at eb
      cases eb
      exact Ba
    · rw [List.getElem?_set_ne (Ne.symm q)] at em
      exact R.sep m b mo2 eb em h2
  · by_cases q : m = n
    · subst q
      rw [ha] at eb
      cases eb
      rw [List.getElem?_set_self (by rw [← R.len]; exact hn)] at em
      cases em
      exact hmo
    · rw [List.getElem?_set_ne (Ne.symm q)] at em
      have h := R.obj m b mo2 eb em
      have ne := hne m b eb q
      cases mo2 with
      | lst xs =>
        obtain ⟨vs, h1, h2⟩ := h
        exact ⟨vs, by rw [upd_ne ne]; exact h1, h2⟩
      | dct xs =>
        obtain ⟨vs, h1, h2⟩ := h
        exact ⟨vs, by rw [upd_ne ne]; exact h1, h2⟩
      | ins C fs =>
        obtain ⟨C2, dx, vs, h0, h1, h2⟩ := h
        exact ⟨C2, dx, vs, h0, by rw [upd_ne ne]; exact h1, h2⟩
      | gone => trivial
  · by_cases q : b = a
    · rw [q, upd_same]
      exact fun z => nomatch z
    · rw [upd_ne q]
      exact R.all b hb
  · rw [upd_ne (fun q => nb (by rw [q]; exact List.mem_of_getElem? ha))]
    exact e
/-- xs[i] = v, xs a list that may change -/
def stL (o i v : SV) (M : Mem) : Option Mem := match o, i with
  | .loc n, .d (.int k) => match M[n]? with
    | some (.lst xs) => (ixN xs.length k).map fun j => M.set n (.lst (xs.set j v))
    | _ => none
  | _, _ => none
def tgSub (to ti : Fe) (s : SV → SV → SV → Mem → Option Mem) : Fg := fun v Γ M => (to Γ M).bind fun o => (ti Γ o.2).bind fun i => (s o.1 i.1 v i.2).map fun M' => (Γ, M')
def Std (K : PySem.W.Frag) (t : TSet) (s : SV → SV → SV → Mem → Option Mem) : Prop :=
  ∀ (o i v : SV) (M M' : Mem), s o i v M = some M' → ∀ (as : List Addr) (B H : Hp) (a b c : V), Rel K as B M H → VR K as B o a → VR K as B i b → VR K as B v c → ∀ Q : Hp → Prop,
    (∀ (as' : List Addr) (B' H' : Hp), Lat as B H as' B' H' → Rel K as' B' M' H' → Q H') → t a b c H Q
theorem st_l : Std K rSetL stL := fun o i v M M' h as B H a b c R ro ri rv Q q => by
  unfold stL at h
  split at h
  · rename_i n k
    obtain ⟨l, ea, rfl⟩ := ro
    rw [vr_int ri]
    split at h
    · rename_i xs em
      simp only [Option.map_eq_some_iff] at h
      obtain ⟨j, h1, h2⟩ := h
      cases h2
      obtain ⟨vs, h3, h4⟩ := R.obj n l _ ea em
      refine ⟨l, vs, k, j, rfl, rfl, h3, by rw [← Paired.length h4]; exact h1, ?_⟩
      obtain ⟨R', L'⟩ := R.put (o := .lst (vs.set j c)) (mo' := .lst (xs.set j v)) ea em (fun z => nomatch z) ⟨_, upd_same, Z.Paired.set' rv j h4⟩
      exact q _ _ _ L' R'
    · cases h
  · cases h
theorem zgsub {o i : Expr} {t : TSet} {fo fi : Fe} {s : SV → SV → SV → Mem → Option Mem} (ho : PEd X o fo) (hi : PEd X i fi) (hs : PSet X t) (hst : Std X.K t s)
    (ha : ∀ v, assign (.Subscript o i pos) X.env v = (do
      let ov ← holding [v] (eval o X.env)
      let iv ← holding [v, ov] (eval i X.env)
      standAt pos
      holding [v, ov, iv] (setItem ov iv v)
      release [v, ov, iv] []) := by intro _; rfl) : PGd X (.Subscript o i pos) (tgSub fo fi s) :=
  .of (pg_sub ho.pe hi.pe hs ha) (fun v Γ M Γ' M' h as B σ H c R G r Q q => by
    simp only [tgSub, Option.bind_eq_some_iff, Option.map_eq_some_iff] at h
    obtain ⟨⟨o, M1⟩, h1, ⟨i, M2⟩, h2, M3, h3, h4⟩ := h
    cases h4
    refine ho.j Γ M o M1 h1 as B σ H R G _ fun a as1 B1 H1 L1 R1 r1 => ?_
    refine hi.j Γ M1 i M2 h2 as1 B1 σ H1 R1 (G.mono L1) _ fun b as2 B2 H2 L2 R2 r2 => ?_
    exact hst o i v M2 _ h3 as2 B2 H2 a b c R2 (r1.mono L2) r2 ((r.mono L1).mono L2) _ fun as3 B3 H3 L3 R3 => q σ as3 B3 H3 ((L1.trans L2).trans L3) R3 (((G.mono L1).mono L2).mono L3))
/-! methods of built-in types -/
def tyOk (T : String) (M : Mem) (s : SV) : Bool := match s with
  | .d (.str _) => decide (T = "str")
  | .loc n => match M[n]? with
    | some (.dct _) => decide (T = "dict")
    | some (.lst _) => decide (T = "list")
    | _ => false
  | .d (.list _) => decide (T = "list")
  | _ => false
theorem tyOk_ok {as : List Addr} {B H : Hp} {M : Mem} {T : String} {s : SV} {v : V} (R : Rel K as B M H) (r : VR K as B s v) (h : tyOk T M s = true) : tyV K T v H := by
  unfold tyOk at h
  split at h
  · rw [vr_str r]
    exact (show T = "str" from of_decide_eq_true h)
  · obtain ⟨a, ea, rfl⟩ := r
    split at h
    · rename_i e
      obtain ⟨us, h1, _⟩ := R.obj _ a _ ea e
      exact .inr (.inr (.inl ⟨of_decide_eq_true h, .inl ⟨_, h1⟩⟩))
    · rename_i e
      obtain ⟨us, h1, _⟩ := R.obj _ a _ ea e
      exact .inl ⟨of_decide_eq_true h, _, .inl (.inl h1)⟩
    · cases h
  · cases r with
    | lst r p => exact .inl ⟨of_decide_eq_true h, _, .inl (same_rd R.ex r)⟩
  · cases h
def GM (K : PySem.W.Frag) (r : V → List V → Hp → VK → Prop) (g : SV → List SV → Mem → Option (SV × Mem)) : Prop :=
  ∀ (x : SV) (xs : List SV) (M : Mem) (z : SV) (M' : Mem), g x xs M = some (z, M') → ∀ (as : List Addr) (B H : Hp), Rel K as B M H → ∀ u us, VR K as B x u → Paired (VR K as B) xs us → ∀ Q : VK,
    (∀ (w : V) (as' : List Addr) (B' H' : Hp), Lat as B H as' B' H' → Rel K as' B' M' H' → VR K as' B' z w → Q w H') → r u us H Q
def fBM (T : String) (g : SV → List SV → Mem → Option (SV × Mem)) (o : Fe) (t : Fa) : Fe := fun Γ M => (o Γ M).bind fun p => if tyOk T p.2 p.1 = true then (t Γ p.2).bind fun q => g p.1 q.1 q.2 else none
theorem zbm {T id : String} {name : Str} {r : V → List V → Hp → VK → Prop} {g : SV → List SV → Mem → Option (SV × Mem)} {o : Expr} {fo : Fe} {f1 : Fa} {ae : Expr} {aes : List Expr} {apos cpos : Pos} (pa : PlainAttrs T) (slot : Slot T name id) (hty : typeOf (.builtin id) = pure (.type "method_descriptor")) (hm : MtR X id r) (hgm : GM X.K r g) (ho : PEd X o fo) (ha : PAd X (ae :: aes) f1)
    (hbase : attributeBase o name X.env (eval o X.env) = eval o X.env := by rfl)
    (hfew : ((backTo cpos (starEach (ae :: aes) X.env)).all (fun x => !x.1) && (backToKw cpos (keywordEach [] X.env)).all (fun x => x.1.isSome)
      && decide ((ae :: aes).length + ([] : List Keyword).length + (if ([] : List Keyword).isEmpty then 0 else 1) < 30)) = true := by rfl)
    (hline : (apos.endLine == cpos.line) = true := by rfl) (hs : starEach (ae :: aes) X.env = (false, eval ae X.env) :: starEach aes X.env := by rfl) (hplain : (backTo cpos (starEach aes X.env)).any (·.1) = false := by rfl) :
    PEd X (.Call (.Attribute o name apos) (ae :: aes) [] cpos) (fBM T g fo f1) :=
  .of (pe_bm pa slot hty hm ho.pe ha.pe hbase hfew hline hs hplain) (fun Γ M z M' h as B σ H R G Q q => by
    simp only [fBM, Option.bind_eq_some_iff] at h
    obtain ⟨⟨s, M1⟩, h1, h⟩ := h
    obtain ⟨hk, h⟩ := ite_opt h
    simp only [Option.bind_eq_some_iff] at h
    obtain ⟨⟨xs, M2⟩, h2, h3⟩ := h
    refine ho.j Γ M s M1 h1 as B σ H R G _ fun a as1 B1 H1 L1 R1 r1 => ⟨tyOk_ok R1 r1 hk, ?_⟩
    refine ha.j Γ M1 xs M2 h2 as1 B1 σ H1 R1 (G.mono L1) _ fun us as2 B2 H2 L2 R2 r2 => ?_
    exact hgm s xs M2 z M' h3 as2 B2 H2 R2 a us (r1.mono L2) r2 Q fun w as3 B3 H3 L3 R3 r3 => q w as3 B3 H3 ((L1.trans L2).trans L3) R3 r3)
def gApp : SV → List SV → Mem → Option (SV × Mem)
  | .loc n, [v], M => match M[n]? with
    | some (.lst xs) => if xs.length < sizeLine then some (.d .none, M.set n (.lst (xs ++ [v]))) else none
    | _ => none
  | _, _, _ => none
theorem g_app : GM K rAppend gApp := fun x xs M z M' h as B H R u us rx rxs Q q => by
  unfold gApp at h
  split at h
  · rename_i n v
    split at h
    · rename_i ys em
      obtain ⟨hz, h⟩ := ite_some h
      cases h
      obtain ⟨l, ea, rfl⟩ := rx
      obtain ⟨c, rfl, rv⟩ := pr1 rxs
      obtain ⟨vs, h3, h4⟩ := R.obj n l _ ea em
      refine ⟨l, vs, c, rfl, rfl, h3, by rw [← Paired.length h4]; exact hz, ?_⟩
      obtain ⟨R', L'⟩ := R.put (o := .lst (vs ++ [c])) (mo' := .lst (ys ++ [v])) ea em (fun z => nomatch z) ⟨_, upd_same, Z.Paired.app h4 (.cons rv .nil)⟩
      exact q _ _ _ _ L' R' .non
    · cases h
  · cases h
end
/-! ### what is walked -/
/-- n items; the source stands as long as the memory keeps the place kp as it is -/
def kept (kp : Option Nat) (xs : List SV) (M : Mem) : Prop := ∀ n, kp = some n → M[n]? = some (.lst xs)
/-- what went on, heaps aside -/
structure La (as : List Addr) (B : Hp) (as' : List Addr) (B' : Hp) : Prop where
  pre : as <+: as'
  ex : Same B B'
theorem Lat.la {as as' : List Addr} {B B' H H' : Hp} (L : Lat as B H as' B' H') : La as B as' B' := ⟨L.pre, L.ex⟩
theorem La.trans {as as1 as2 : List Addr} {B B1 B2 : Hp} (L : La as B as1 B1) (L' : La as1 B1 as2 B2) : La as B as2 B2 := ⟨L.pre.trans L'.pre, L.ex.trans L'.ex⟩
theorem La.at {as as' : List Addr} {B B' : Hp} {n : Nat} {a : Addr} (L : La as B as' B') (e : as[n]? = some a) : as'[n]? = some a := by
  obtain ⟨t, rfl⟩ := L.pre
  rw [List.getElem?_append_left ((List.getElem?_eq_some_iff.mp e).1)]
  exact e
structure Wks (K : PySem.W.Frag) (J : It) (as : List Addr) (B H : Hp) (kp : Option Nat) (xs : List SV) : Prop where
  go : ∀ (i : Nat) (as' : List Addr) (B' H' : Hp) (M' : Mem), La as B as' B' → Rel K as' B' M' H' → kept kp xs M' → i < xs.length → J.go i H'
  stop : ∀ (as' : List Addr) (B' H' : Hp) (M' : Mem), La as B as' B' → Rel K as' B' M' H' → kept kp xs M' → J.stop xs.length H'
  yld : ∀ (i : Nat) (as' : List Addr) (B' H' : Hp) (M' : Mem) (v : V) (H2 : Hp) (x : SV), La as B as' B' → Rel K as' B' M' H' → kept kp xs M' → xs[i]? = some x → J.yld i H' v H2 →
    ∃ B2, Lat as' B' H' as' B2 H2 ∧ Rel K as' B2 M' H2 ∧ VR K as' B2 x v
abbrev Fi := Gm → Mem → Option ((List SV × Option Nat) × Mem)
def Id_ (K : PySem.W.Frag) (wi : TI) (f : Fi) : Prop :=
  ∀ (Γ : Gm) (M : Mem) (xs : List SV) (kp : Option Nat) (M' : Mem), f Γ M = some ((xs, kp), M') → ∀ (as : List Addr) (B : Hp) (σ : L2.St) (H : Hp), Rel K as B M H → GR K as B Γ σ → ∀ R : It → Hp → Prop,
    (∀ (J : It) (as' : List Addr) (B' H' : Hp), Lat as B H as' B' H' → Rel K as' B' M' H' → Wks K J as' B' H' kp xs → R J H') → wi σ H R
def cni (K : PySem.W.Frag) (f : Fi) : TI := fun σ H R => ∃ (Γ : Gm) (M : Mem) (xs : List SV) (kp : Option Nat) (M' : Mem) (as : List Addr) (B : Hp), f Γ M = some ((xs, kp), M') ∧ Rel K as B M H ∧ GR K as B Γ σ ∧
  ∀ (J : It) (as' : List Addr) (B' H' : Hp), Lat as B H as' B' H' → Rel K as' B' M' H' → Wks K J as' B' H' kp xs → R J H'
theorem i_cn {K : PySem.W.Frag} {f : Fi} : Id_ K (cni K f) f := fun Γ M xs kp M' h as B σ H r g R q => ⟨Γ, M, xs, kp, M', as, B, h, r, g, q⟩
structure PId (X : Cx) (tg iter : Expr) (f : Fi) : Prop where
  pe : PI X tg iter (cni X.K f)
theorem PId.of {X : Cx} {tg iter : Expr} {t : TI} {f : Fi} (h : PI X tg iter t) (j : Id_ X.K t f) : PId X tg iter f := ⟨⟨fun pins s σ H R I c => h.run pins s σ H R I (by
  obtain ⟨Γ, M, xs, kp, M', as, B, h1, r, g, q⟩ := c
  exact j Γ M xs kp M' h1 as B σ H r g R q)⟩⟩
theorem PId.j {X : Cx} {tg iter : Expr} {f : Fi} (_ : PId X tg iter f) : Id_ X.K (cni X.K f) f := i_cn
section
variable {X : Cx} {K : PySem.W.Frag}
def srcOf (M : Mem) : SV → Option (List SV × Option Nat)
  | .d (.tuple xs) => some (xs.map .d, none)
  | .d (.list xs) => some (xs.map .d, none)
  | .loc n => match M[n]? with
    | some (.lst xs) => some (xs, some n)
    | _ => none
  | _ => none
def iSeq (K : PySem.W.Frag) (tl : TE) : TI := fun σ H R => iList K tl σ H R
def fItL (a : Fe) : Fi := fun Γ M => (a Γ M).bind fun p => match p.1 with
  | .d (.list xs) => some ((xs.map .d, none), p.2)
  | .loc n => match p.2[n]? with
    | some (.lst xs) => some ((xs, some n), p.2)
    | _ => none
  | _ => none
def fItT (a : Fe) : Fi := fun Γ M => (a Γ M).bind fun p => match p.1 with
  | .d (.tuple xs) => some ((xs.map .d, none), p.2)
  | _ => none
theorem wks_list {as : List Addr} {B H : Hp} {a : Addr} {xs : List PyData} {vs : List V} (r : Rd B a (.lst vs)) (p : Paired (DR K B) xs vs) : Wks K (Itl K a) as B H none (xs.map .d) where
  go := fun i as' B' H' M' L R k hi => by
    have r' : SqL K H' a vs := .inl (same_rd R.ex (same_rd L.ex r))
    have hi : i < vs.length := by rw [List.length_map, p.length] at hi; exact hi
    exact ⟨vs, vs[i], r', by simp [hi]⟩
  stop := fun as' B' H' M' L R k => ⟨vs, .inl (same_rd R.ex (same_rd L.ex r)), by rw [List.length_map, p.length]; exact Nat.le_refl _⟩
  yld := fun i as' B' H' M' v H2 x L R k hx y => by
    obtain ⟨rfl, y⟩ := y
    have r' : SqL K H2 a vs := .inl (same_rd R.ex (same_rd L.ex r))
    have pp : Paired (VR K as' B') (xs.map .d) vs := vrs_d (DR.monos L.ex _ _ p)
    obtain ⟨w, h1, h2⟩ := Z.Paired.at pp hx
    rw [y vs r'] at h1
    cases h1
    exact ⟨B', Lat.refl _ _ _, R, h2⟩
theorem wks_tup {as : List Addr} {B H : Hp} {a : Addr} {xs : List PyData} {vs : List V} (r : SqT K B a vs) (p : Paired (DR K B) xs vs) : Wks K (Itt K a) as B H none (xs.map .d) where
  go := fun i as' B' H' M' L R k hi => by
    have r' : SqT K H' a vs := same_t R.ex (same_t L.ex r)
    have hi : i < vs.length := by rw [List.length_map, p.length] at hi; exact hi
    exact ⟨vs, vs[i], r', by simp [hi]⟩
  stop := fun as' B' H' M' L R k => ⟨vs, same_t R.ex (same_t L.ex r), by rw [List.length_map, p.length]; exact Nat.le_refl _⟩
  yld := fun i as' B' H' M' v H2 x L R k hx y => by
    obtain ⟨rfl, y⟩ := y
    have r' : SqT K H2 a vs := same_t R.ex (same_t L.ex r)
    have pp : Paired (VR K as' B') (xs.map .d) vs := vrs_d (DR.monos L.ex _ _ p)
    obtain ⟨w, h1, h2⟩ := Z.Paired.at pp hx
    rw [y vs r'] at h1
    cases h1
    exact ⟨B', Lat.refl _ _ _, R, h2⟩
theorem Lat.at {as as' : List Addr} {B B' H H' : Hp} {n : Nat} {a : Addr} (L : Lat as B H as' B' H') (e : as[n]? = some a) : as'[n]? = some a := by
  obtain ⟨t, rfl⟩ := L.pre
  rw [List.getElem?_append_left ((List.getElem?_eq_some_iff.mp e).1)]
  exact e
theorem wks_loc {as : List Addr} {B H : Hp} {a : Addr} {n : Nat} {xs : List SV} (ea : as[n]? = some a) : Wks K (Itl K a) as B H (some n) xs where
  go := fun i as' B' H' M' L R k hi => by
    obtain ⟨vs, h1, h2⟩ := R.obj n a _ (L.at ea) (k n rfl)
    have hi : i < vs.length := by rw [Paired.length h2] at hi; exact hi
    exact ⟨vs, vs[i], .inl (.inl h1), by simp [hi]⟩
  stop := fun as' B' H' M' L R k => by
    obtain ⟨vs, h1, h2⟩ := R.obj n a _ (L.at ea) (k n rfl)
    exact ⟨vs, .inl (.inl h1), by rw [Paired.length h2]; exact Nat.le_refl _⟩
  yld := fun i as' B' H' M' v H2 x L R k hx y => by
    obtain ⟨rfl, y⟩ := y
    obtain ⟨vs, h1, h2⟩ := R.obj n a _ (L.at ea) (k n rfl)
    obtain ⟨w, h3, h4⟩ := Z.Paired.at h2 hx
    rw [y vs (.inl (.inl h1))] at h3
    cases h3
    exact ⟨B', Lat.refl _ _ _, R, h4⟩
variable {l : Expr} {tl : TE} {fl : Fe} {tg : Expr}
theorem zilist (h : PEd X l fl) : PId X tg l (fItL fl) := .of (pi_list h.pe) (fun Γ M xs kp M' e as B σ H R G Q q => by
  simp only [fItL, Option.bind_eq_some_iff] at e
  obtain ⟨⟨s, M1⟩, h1, h2⟩ := e
  refine h.j Γ M s M1 h1 as B σ H R G _ fun v as1 B1 H1 L1 R1 r1 => ?_
  split at h2
  · rename_i s' ds e'
    cases h2
    rw [show s = _ from e'] at r1
    cases r1 with
    | lst r p => exact ⟨_, rfl, ⟨_, .inl (same_rd R1.ex r)⟩, q _ as1 B1 H1 L1 R1 (wks_list r p)⟩
  · rename_i s' n e'
    rw [show s = _ from e'] at r1
    obtain ⟨a, ea, rfl⟩ := r1
    split at h2
    · rename_i ys em
      cases h2
      obtain ⟨vs, h3, h4⟩ := R1.obj n a _ ea em
      exact ⟨a, rfl, ⟨vs, .inl (.inl h3)⟩, q _ as1 B1 H1 L1 R1 (wks_loc ea)⟩
    · cases h2
  · cases h2)
theorem zitup (h : PEd X l fl) : PId X tg l (fItT fl) := .of (pi_tup h.pe) (fun Γ M xs kp M' e as B σ H R G Q q => by
  simp only [fItT, Option.bind_eq_some_iff] at e
  obtain ⟨⟨s, M1⟩, h1, h2⟩ := e
  refine h.j Γ M s M1 h1 as B σ H R G _ fun v as1 B1 H1 L1 R1 r1 => ?_
  split at h2
  · rename_i s' ds e'
    cases h2
    rw [show s = _ from e'] at r1
    cases r1 with
    | tup r p => exact ⟨_, rfl, ⟨_, same_t R1.ex r⟩, q _ as1 B1 H1 L1 R1 (wks_tup r p)⟩
  · cases h2)
/-- lo, lo + 1, .. -/
def rng (lo : Int) (n : Nat) : List SV := (List.range n).map fun i => .d (.int (lo + (i : Nat)))
theorem wks_rng {as : List Addr} {B H : Hp} {lo : Int} {n : Nat} : Wks K (Itr lo n) as B H none (rng lo n) where
  go := fun i as' B' H' M' L R k hi => by
    unfold rng at hi
    rw [List.length_map, List.length_range] at hi
    exact hi
  stop := fun as' B' H' M' L R k => by
    unfold rng
    rw [List.length_map, List.length_range]
    exact Nat.le_refl _
  yld := fun i as' B' H' M' v H2 x L R k hx y => by
    obtain ⟨rfl, rfl⟩ := y
    unfold rng at hx
    rw [List.getElem?_map, Option.map_eq_some_iff] at hx
    obtain ⟨j, h1, rfl⟩ := hx
    obtain ⟨h2, h3⟩ := List.getElem?_eq_some_iff.mp h1
    rw [List.getElem_range] at h3
    subst h3
    exact ⟨B', Lat.refl _ _ _, R, .int _⟩
def fRng1 (t : Fa) : Fi := fun Γ M => (t Γ M).bind fun p => match p.1 with
  | [.d (.int j)] => if -(2 ^ 62) ≤ j ∧ j < 2 ^ 62 then some ((rng 0 j.toNat, none), p.2) else none
  | _ => none
def fRng2 (t : Fa) : Fi := fun Γ M => (t Γ M).bind fun p => match p.1 with
  | [.d (.int i), .d (.int j)] => if -(2 ^ 62) ≤ i ∧ i < 2 ^ 62 ∧ -(2 ^ 62) ≤ j ∧ j < 2 ^ 62 then some ((rng i (j - i).toNat, none), p.2) else none
  | _ => none
theorem zirng1 {a : Expr} {fa : Fa} {p pos : Pos} (hg : Gl X "range") (hm : X.mg "range" = none) (ha : PAd X [a] fa) (hs : starEach [a] X.env = [(false, eval a X.env)] := by rfl) : PId X tg (.Call (.Name "range" p) [a] [] pos) (fRng1 fa) :=
  .of (pi_range1 hg hm ha.pe hs) (fun Γ M xs kp M' e as B σ H R G Q q => by
    simp only [fRng1, Option.bind_eq_some_iff] at e
    obtain ⟨⟨s, M1⟩, h1, h2⟩ := e
    refine ha.j Γ M s M1 h1 as B σ H R G _ fun v as1 B1 H1 L1 R1 r1 => ?_
    split at h2
    · rename_i s' j e'
      obtain ⟨hb, h2⟩ := ite_some h2
      cases h2
      rw [show s = _ from e'] at r1
      obtain ⟨w, rfl, r⟩ := pr1 r1
      rw [vr_int r]
      exact ⟨j, rfl, hb.1, hb.2, q _ as1 B1 H1 L1 R1 wks_rng⟩
    · cases h2)
theorem zirng2 {a b : Expr} {fa : Fa} {p pos : Pos} (hg : Gl X "range") (hm : X.mg "range" = none) (ha : PAd X [a, b] fa) (hs : starEach [a, b] X.env = [(false, eval a X.env), (false, eval b X.env)] := by rfl) (hs2 : starEach [b] X.env = [(false, eval b X.env)] := by rfl) :
    PId X tg (.Call (.Name "range" p) [a, b] [] pos) (fRng2 fa) :=
  .of (pi_range2 hg hm ha.pe hs hs2) (fun Γ M xs kp M' e as B σ H R G Q q => by
    simp only [fRng2, Option.bind_eq_some_iff] at e
    obtain ⟨⟨s, M1⟩, h1, h2⟩ := e
    refine ha.j Γ M s M1 h1 as B σ H R G _ fun v as1 B1 H1 L1 R1 r1 => ?_
    split at h2
    · rename_i s' i j e'
      obtain ⟨hb, h2⟩ := ite_some h2
      cases h2
      rw [show s = _ from e'] at r1
      obtain ⟨w, w', rfl, r, r'⟩ := pr2 r1
      rw [vr_int r, vr_int r']
      exact ⟨i, j, rfl, hb, q _ as1 B1 H1 L1 R1 wks_rng⟩
    · cases h2)
/-- a new pair of both sources' items at each turn -/
theorem wks_pair {J : It} {as : List Addr} {B H : Hp} {xs ys : List PyData} {n : Nat} (hn : n = min xs.length ys.length)
    (go : ∀ (i : Nat) (H' : Hp) (B' : Hp), Same B B' → Same B' H' → i < n → J.go i H') (stop : ∀ (H' : Hp) (B' : Hp), Same B B' → Same B' H' → J.stop n H')
    (yld : ∀ (i : Nat) (H' H2 : Hp) (B' : Hp) (v : V), Same B B' → Same B' H' → J.yld i H' v H2 → ∃ T x y, v = .ref T ∧ H' T = none ∧ H2 = upd H' T (.tup [x, y]) ∧ (∀ d, xs[i]? = some d → DR K B d x) ∧ (∀ d, ys[i]? = some d → DR K B d y)) :
    Wks K J as B H none ((xs.zip ys).map fun p => .d (.tuple [p.1, p.2])) where
  go := fun i as' B' H' M' L R k hi => go i H' B' L.ex R.ex (by rw [List.length_map, List.length_zip] at hi; omega)
  stop := fun as' B' H' M' L R k => by
    rw [List.length_map, List.length_zip, ← hn]
    exact stop H' B' L.ex R.ex
  yld := fun i as' B' H' M' v H2 x L R k hx y => by
    rw [List.getElem?_map, Option.map_eq_some_iff] at hx
    obtain ⟨⟨d, e⟩, h1, rfl⟩ := hx
    rw [List.getElem?_zip_eq_some] at h1
    obtain ⟨T, a, b, rfl, hT, rfl, ha, hb⟩ := yld i H' H2 B' v L.ex R.ex y
    obtain ⟨B2, R2, L2, w⟩ := R.tupD hT (ds := [d, e]) (vs := [a, b]) (.cons (DR.mono L.ex _ _ (ha d h1.1)) (.cons (DR.mono L.ex _ _ (hb e h1.2)) .nil))
    exact ⟨B2, L2, R2, w⟩
def zipD (xs ys : List PyData) : List SV := (xs.zip ys).map fun p => .d (.tuple [p.1, p.2])
/-- zip of two lists of data, of two tuples -/
def fZip (t : Fa) : Fi := fun Γ M => (t Γ M).bind fun p => match p.1 with
  | [.d (.tuple xs), .d (.tuple ys)] => some ((zipD xs ys, none), p.2)
  | [.d (.list xs), .d (.list ys)] => some ((zipD xs ys, none), p.2)
  | _ => none
theorem zizip {e e2 : Expr} {fa : Fa} {p pos tpos : Pos} {elts : List Expr} {kk : Nat} (hg : Gl X "zip") (hm : X.mg "zip" = none) (ha : PAd X [e, e2] fa)
    (hs : starEach [e, e2] X.env = (false, eval e X.env) :: starEach [e2] X.env := by rfl) (hpl : (backTo pos (starEach [e2] X.env)).any (·.1) = false := by rfl) :
    PId X (.Tuple elts kk tpos) (.Call (.Name "zip" p) [e, e2] [] pos) (fZip fa) :=
  .of (RZ.pi_zipA hg hm ha.pe hs hpl) (fun Γ M xs kp M' e as B σ H R G Q q => by
    simp only [fZip, Option.bind_eq_some_iff] at e
    obtain ⟨⟨s, M1⟩, h1, h2⟩ := e
    refine ha.j Γ M s M1 h1 as B σ H R G _ fun v as1 B1 H1 L1 R1 r1 => ?_
    split at h2
    · rename_i s' xs ys e'
      cases h2
      rw [show s = _ from e'] at r1
      obtain ⟨w, w', rfl, r, r'⟩ := pr2 r1
      cases r with
      | @tup a vs _ r p =>
        cases r' with
        | @tup b ws _ r' p' =>
          refine ⟨_, _, vs, ws, rfl, .inr ⟨same_t R1.ex r, same_t R1.ex r', q _ as1 B1 H1 L1 R1 (wks_pair rfl (fun i H' B' e1 e2 hi => ?_) (fun H' B' e1 e2 => ?_) fun i H' H2 B' v e1 e2 y => ?_)⟩⟩
          · have l1 := p.length
            have l2 := p'.length
            have h1 : i < vs.length := by omega
            have h2 : i < ws.length := by omega
            exact ⟨vs, ws, vs[i], ws[i], same_t e2 (same_t e1 r), same_t e2 (same_t e1 r'), by simp [h1], by simp [h2]⟩
          · exact ⟨vs, ws, same_t e2 (same_t e1 r), same_t e2 (same_t e1 r'), by rw [p.length, p'.length]; omega⟩
          · obtain ⟨T, x, y, h1, h2, h3, h4, h5⟩ := y
            refine ⟨T, x, y, h1, h2, h3, fun d hd => ?_, fun d hd => ?_⟩
            · obtain ⟨z, h6, h7⟩ := Z.Paired.at p hd
              rw [h4 vs (same_t e2 (same_t e1 r))] at h6
              cases h6
              exact h7
            · obtain ⟨z, h6, h7⟩ := Z.Paired.at p' hd
              rw [h5 ws (same_t e2 (same_t e1 r'))] at h6
              cases h6
              exact h7
    · rename_i s' xs ys e'
      cases h2
      rw [show s = _ from e'] at r1
      obtain ⟨w, w', rfl, r, r'⟩ := pr2 r1
      cases r with
      | @lst a vs _ r p =>
        cases r' with
        | @lst b ws _ r' p' =>
          refine ⟨_, _, vs, ws, rfl, .inl ⟨.inl (same_rd R1.ex r), .inl (same_rd R1.ex r'), q _ as1 B1 H1 L1 R1 (wks_pair rfl (fun i H' B' e1 e2 hi => ?_) (fun H' B' e1 e2 => ?_) fun i H' H2 B' v e1 e2 y => ?_)⟩⟩
          · have l1 := p.length
            have l2 := p'.length
            have h1 : i < vs.length := by omega
            have h2 : i < ws.length := by omega
            exact ⟨vs, ws, vs[i], ws[i], .inl (same_rd e2 (same_rd e1 r)), .inl (same_rd e2 (same_rd e1 r')), by simp [h1], by simp [h2]⟩
          · exact ⟨vs, ws, .inl (same_rd e2 (same_rd e1 r)), .inl (same_rd e2 (same_rd e1 r')), by rw [p.length, p'.length]; omega⟩
          · obtain ⟨T, x, y, h1, h2, h3, h4, h5⟩ := y
            refine ⟨T, x, y, h1, h2, h3, fun d hd => ?_, fun d hd => ?_⟩
            · obtain ⟨z, h6, h7⟩ := Z.Paired.at p hd
              rw [h4 vs (.inl (same_rd e2 (same_rd e1 r)))] at h6
              cases h6
              exact h7
            · obtain ⟨z, h6, h7⟩ := Z.Paired.at p' hd
              rw [h5 ws (.inl (same_rd e2 (same_rd e1 r')))] at h6
              cases h6
              exact h7
    · cases h2)
end
end Z
namespace Z
open PySem L2
noncomputable instance keptDec (kp : Option Nat) (xs : List SV) (M : Mem) : Decidable (kept kp xs M) := Classical.propDecidable _
/-- a for: the items one after another; the source must stand as it was -/
noncomputable def forF (kp : Option Nat) (all : List SV) (g : Fg) (body : Fs) : List SV → Gm → Mem → Option (Out × Mem)
  | [], Γ, M => if kept kp all M then some (.nx Γ, M) else none
  | x :: r, Γ, M => if kept kp all M then
      (g x Γ M).bind fun p => (body p.1 p.2).bind fun q => match q.1 with
        | .nx Γ' => forF kp all g body r Γ' q.2
        | .ct Γ' => forF kp all g body r Γ' q.2
        | .bk Γ' => some (.nx Γ', q.2)
        | .rt s => some (.rt s, q.2)
    else none
noncomputable def fFor (src : Fi) (g : Fg) (body : Fs) : Fs := fun Γ M => (src Γ M).bind fun p => forF p.1.2 p.1.1 g body p.1.1 Γ p.2
/-- a while, at most n turns -/
def whileF (c : Ft) (body : Fs) : Nat → Gm → Mem → Option (Out × Mem)
  | 0, _, _ => none
  | n + 1, Γ, M => (c Γ M).bind fun p => if p.1 = true then
      (body Γ p.2).bind fun q => match q.1 with
        | .nx Γ' => whileF c body n Γ' q.2
        | .ct Γ' => whileF c body n Γ' q.2
        | .bk Γ' => some (.nx Γ', q.2)
        | .rt s => some (.rt s, q.2)
    else some (.nx Γ, p.2)
section
variable {X : Cx} {K : PySem.W.Frag}
theorem forF_ok {J : It} {g : TG} {fg : Fg} {tb : TS} {fb : Fs} {kp : Option Nat} {all : List SV} (hg : Gd K g fg) (hb : Sd K tb fb) {Γ : Gm} {M : Mem} {o : Out} {M' : Mem} (h : forF kp all fg fb all Γ M = some (o, M'))
    {as : List Addr} {B H : Hp} {σ : L2.St} (R : Rel K as B M H) (G : GR K as B Γ σ) (w : Wks K J as B H kp all) {D : Ends} (q : ∀ (as' : List Addr) (B' H' : Hp), Lat as B H as' B' H' → Rel K as' B' M' H' → OK K D as' B' H' o) :
    ∃ W : Nat → Nat → L2.St → Hp → Prop, (∃ m, W 0 m σ H) ∧ ∀ i m σ H, W i m σ H →
      (J.stop i H ∧ D.nx σ H) ∨ (J.go i H ∧ ∃ N : L2.St → Hp → Prop, (∀ σ' H', N σ' H' → ∃ m', m' < m ∧ W (i + 1) m' σ' H') ∧ ∀ x H', J.yld i H x H' → g x σ H' fun σ2 H2 => tb { D with nx := N, ct := N, bk := D.nx } σ2 H2) := by
  refine ⟨fun i m σ' H' => m = all.length - i ∧ i ≤ all.length ∧ ∃ Γ' M1 as' B', forF kp all fg fb (all.drop i) Γ' M1 = some (o, M') ∧ Lat as B H as' B' H' ∧ Rel K as' B' M1 H' ∧ GR K as' B' Γ' σ', ⟨all.length, by omega, Nat.zero_le _, Γ, M, as, B, h, Lat.refl _ _ _, R, G⟩, ?_⟩
  rintro i m σ1 H1 ⟨rfl, hi, Γ1, M1, as1, B1, h1, L1, R1, G1⟩
  by_cases hlt : i < all.length
  · have e1 : all.drop i = all[i] :: all.drop (i + 1) := List.drop_eq_getElem_cons hlt
    rw [e1] at h1
    simp only [forF] at h1
    obtain ⟨hk, h1⟩ := ite_opt h1
    simp only [Option.bind_eq_some_iff] at h1
    obtain ⟨⟨Γ2, M2⟩, h2, ⟨o3, M3⟩, h3, h4⟩ := h1
    refine .inr ⟨w.go i as1 B1 H1 M1 L1.la R1 hk hlt, fun σ' H' => ∃ Γ' M1 as' B', forF kp all fg fb (all.drop (i + 1)) Γ' M1 = some (o, M') ∧ Lat as B H as' B' H' ∧ Rel K as' B' M1 H' ∧ GR K as' B' Γ' σ',
      fun σ' H' p => ⟨all.length - (i + 1), by omega, rfl, hlt, p⟩, fun v H2 y => ?_⟩
    obtain ⟨B2, L2, R2, r2⟩ := w.yld i as1 B1 H1 M1 v H2 all[i] L1.la R1 hk (List.getElem?_eq_getElem hlt) y
    refine hg _ Γ1 M1 Γ2 M2 h2 as1 B2 σ1 H2 v R2 (G1.mono L2) r2 _ fun σ3 as3 B3 H3 L3 R3 G3 => ?_
    refine hb Γ2 M2 o3 M3 h3 as3 B3 σ3 H3 R3 G3 _ fun as4 B4 H4 L4 R4 => ?_
    have L := ((L1.trans L2).trans L3).trans L4
    cases o3 with
    | nx Γ4 => exact fun σ4 G4 => ⟨Γ4, M3, as4, B4, h4, L, R4, G4⟩
    | ct Γ4 => exact fun σ4 G4 => ⟨Γ4, M3, as4, B4, h4, L, R4, G4⟩
    | bk Γ4 => cases h4; exact q as4 B4 H4 L R4
    | rt s => cases h4; exact q as4 B4 H4 L R4
  · have e : i = all.length := by omega
    subst e
    rw [List.drop_length] at h1
    simp only [forF] at h1
    obtain ⟨hk, h1⟩ := ite_opt h1
    cases h1
    exact .inl ⟨w.stop as1 B1 H1 _ L1.la R1 hk, q as1 B1 H1 L1 R1 σ1 G1⟩
theorem zsfor {tg iter : Expr} {body : List Stmt} {fi : Fi} {fg : Fg} {fb : Fs} {pos : Pos} (hp : PassesOwn (model X.prog X.w) X.A X.env X.xe) (hc : X.calm = true) (hi : PId X tg iter fi) (hg : PGd X tg fg) (hb : PSsd X body fb)
    (hs : ∀ x, foldedSetIterable iter X.env x = pure x := by intro _; rfl) : PSd X (.For tg iter body [] pos) (fFor fi fg fb) :=
  .of (ps_for hp hc hi.pe hg.pe hb.pe hs) (fun Γ M o M' h as B σ H R G D q => by
    simp only [fFor, Option.bind_eq_some_iff] at h
    obtain ⟨⟨⟨xs, kp⟩, M1⟩, h1, h2⟩ := h
    refine hi.j Γ M xs kp M1 h1 as B σ H R G _ fun J as1 B1 H1 L1 R1 w => ?_
    exact forF_ok hg.j hb.j h2 R1 (G.mono L1) w fun as2 B2 H2 L2 R2 => q as2 B2 H2 (L1.trans L2) R2)
def fWhile (n : Nat) (c : Ft) (body : Fs) : Fs := fun Γ M => whileF c body n Γ M
theorem zswhile {c : Expr} {body : List Stmt} {fc : Ft} {fb : Fs} {pos : Pos} (n : Nat) (hp : PassesOwn (model X.prog X.w) X.A X.env X.xe) (hc : PTd X c fc) (hb : PSsd X body fb) : PSd X (.While c body [] pos) (fWhile n fc fb) :=
  .of (ps_while hp hc.pe hb.pe) (fun Γ M o M' h as B σ H R G D q => by
    refine ⟨fun m σ1 H1 => ∃ Γ1 M1 as1 B1, whileF fc fb m Γ1 M1 = some (o, M') ∧ Lat as B H as1 B1 H1 ∧ Rel X.K as1 B1 M1 H1 ∧ GR X.K as1 B1 Γ1 σ1, ⟨n, Γ, M, as, B, h, Lat.refl _ _ _, R, G⟩, ?_⟩
    rintro m σ1 H1 ⟨Γ1, M1, as1, B1, h1, L1, R1, G1⟩
    cases m with
    | zero => cases h1
    | succ m =>
      simp only [whileF, Option.bind_eq_some_iff] at h1
      obtain ⟨⟨b, M2⟩, h2, h3⟩ := h1
      refine hc.j Γ1 M1 b M2 h2 as1 B1 σ1 H1 R1 G1 _ fun b' as2 B2 H2 L2 R2 r2 => ?_
      cases (show b = b' from r2)
      cases b with
      | false =>
        cases h3
        exact q as2 B2 H2 (L1.trans L2) R2 σ1 (G1.mono L2)
      | true =>
        simp only [if_true, Option.bind_eq_some_iff] at h3
        obtain ⟨⟨o3, M3⟩, h3, h4⟩ := h3
        refine ⟨fun σ1 H1 => ∃ Γ1 M1 as1 B1, whileF fc fb m Γ1 M1 = some (o, M') ∧ Lat as B H as1 B1 H1 ∧ Rel X.K as1 B1 M1 H1 ∧ GR X.K as1 B1 Γ1 σ1, fun σ' H' p => ⟨m, Nat.lt_succ_self _, p⟩, ?_⟩
        refine hb.j Γ1 M2 o3 M3 h3 as2 B2 σ1 H2 R2 (G1.mono L2) _ fun as4 B4 H4 L4 R4 => ?_
        have L := (L1.trans L2).trans L4
        cases o3 with
        | nx Γ4 => exact fun σ4 G4 => ⟨Γ4, M3, as4, B4, h4, L, R4, G4⟩
        | ct Γ4 => exact fun σ4 G4 => ⟨Γ4, M3, as4, B4, h4, L, R4, G4⟩
        | bk Γ4 => cases h4; exact q as4 B4 H4 L R4
        | rt s => cases h4; exact q as4 B4 H4 L R4)
end
/-! ### comprehensions -/
def wipeG (Γ : Gm) : List Nat → Gm
  | [] => Γ
  | v :: vs => (wipeG Γ vs).set v none
/-- targets that store into the names vs alone -/
def Gwd (K : PySem.W.Frag) (vs : List Nat) (g : TG) (f : Fg) : Prop :=
  ∀ (x : SV) (Γ : Gm) (M : Mem) (Γ' : Gm) (M' : Mem), f x Γ M = some (Γ', M') → ∀ (as : List Addr) (B : Hp) (σ : L2.St) (H : Hp) (v : V), Rel K as B M H → GR K as B Γ σ → VR K as B x v → ∀ Q : L2.St → Hp → Prop,
    (∀ σ' : L2.St, M' = M → GR K as B Γ' σ' → wipe σ' vs = wipe σ vs → Q σ' H) → g v σ H Q
def Gwsd (K : PySem.W.Frag) (vs : List Nat) (g : TGs) (f : Fgs) : Prop :=
  ∀ (x : List SV) (Γ : Gm) (M : Mem) (Γ' : Gm) (M' : Mem), f x Γ M = some (Γ', M') → ∀ (as : List Addr) (B : Hp) (σ : L2.St) (H : Hp) (v : List V), Rel K as B M H → GR K as B Γ σ → Paired (VR K as B) x v → ∀ Q : L2.St → Hp → Prop,
    (∀ σ' : L2.St, M' = M → GR K as B Γ' σ' → wipe σ' vs = wipe σ vs → Q σ' H) → g v σ H Q
def cgw (K : PySem.W.Frag) (vs : List Nat) (f : Fg) : TG := fun v σ H Q => ∃ (x : SV) (Γ : Gm) (M : Mem) (Γ' : Gm) (M' : Mem) (as : List Addr) (B : Hp), f x Γ M = some (Γ', M') ∧ Rel K as B M H ∧ GR K as B Γ σ ∧ VR K as B x v ∧
  ∀ σ' : L2.St, M' = M → GR K as B Γ' σ' → wipe σ' vs = wipe σ vs → Q σ' H
def cgws (K : PySem.W.Frag) (vs : List Nat) (f : Fgs) : TGs := fun v σ H Q => ∃ (x : List SV) (Γ : Gm) (M : Mem) (Γ' : Gm) (M' : Mem) (as : List Addr) (B : Hp), f x Γ M = some (Γ', M') ∧ Rel K as B M H ∧ GR K as B Γ σ ∧ Paired (VR K as B) x v ∧
  ∀ σ' : L2.St, M' = M → GR K as B Γ' σ' → wipe σ' vs = wipe σ vs → Q σ' H
structure PGwd (X : Cx) (vs : List Nat) (e : Expr) (f : Fg) : Prop where
  pe : PG X e (cgw X.K vs f)
structure PGwsd (X : Cx) (vs : List Nat) (es : List Expr) (f : Fgs) : Prop where
  pe : PGs X es (cgws X.K vs f)
theorem PGwd.of {X : Cx} {vs : List Nat} {e : Expr} {t : TG} {f : Fg} (h : PG X e t) (j : Gwd X.K vs t f) : PGwd X vs e f := ⟨⟨fun pins s σ H v u Q I rv c => h.run pins s σ H v u Q I rv (by
  obtain ⟨x, Γ, M, Γ', M', as, B, h1, r, g, rv, q⟩ := c
  exact j x Γ M Γ' M' h1 as B σ H v r g rv Q q)⟩⟩
theorem PGwsd.of {X : Cx} {vs : List Nat} {e : List Expr} {t : TGs} {f : Fgs} (h : PGs X e t) (j : Gwsd X.K vs t f) : PGwsd X vs e f := ⟨⟨fun pins s σ H v u Q I rv c => h.run pins s σ H v u Q I rv (by
  obtain ⟨x, Γ, M, Γ', M', as, B, h1, r, g, rv, q⟩ := c
  exact j x Γ M Γ' M' h1 as B σ H v r g rv Q q)⟩⟩
theorem PGwd.j {X : Cx} {vs : List Nat} {e : Expr} {f : Fg} (_ : PGwd X vs e f) : Gwd X.K vs (cgw X.K vs f) f := fun x Γ M Γ' M' h as B σ H v r g rv Q q => ⟨x, Γ, M, Γ', M', as, B, h, r, g, rv, q⟩
theorem PGwsd.j {X : Cx} {vs : List Nat} {e : List Expr} {f : Fgs} (_ : PGwsd X vs e f) : Gwsd X.K vs (cgws X.K vs f) f := fun x Γ M Γ' M' h as B σ H v r g rv Q q => ⟨x, Γ, M, Γ', M', as, B, h, r, g, rv, q⟩
theorem wipe_set {σ : L2.St} {i : Nat} {v : Option V} : ∀ {vs : List Nat}, i ∈ vs → wipe (σ.set i v) vs = wipe σ vs
  | w :: vs, h => by
    unfold wipe
    by_cases q : i = w
    · subst q
      by_cases m : i ∈ vs
      · rw [wipe_set m]
      · have comm : ∀ vs : List Nat, i ∉ vs → wipe (σ.set i v) vs = (wipe σ vs).set i v := fun vs => by
          induction vs with
          | nil => intro _; rfl
          | cons a r ih =>
            intro hm
            unfold wipe
            rw [ih fun k => hm (List.mem_cons_of_mem _ k), List.set_comm _ _ fun e => hm (by rw [e]; exact List.mem_cons_self)]
        rw [comm vs m, List.set_set]
    · rw [wipe_set ((List.mem_cons.mp h).resolve_left q)]
theorem wipe_wipe {σ : L2.St} : ∀ {vs : List Nat}, wipe (wipe σ vs) vs = wipe σ vs := fun {vs} => by
  have gen : ∀ ws : List Nat, (∀ w ∈ ws, w ∈ vs) → wipe (wipe σ ws) vs = wipe σ vs := fun ws => by
    induction ws with
    | nil => intro _; rfl
    | cons a r ih =>
      intro h
      show wipe ((wipe σ r).set a none) vs = wipe σ vs
      rw [wipe_set (h a List.mem_cons_self)]
      exact ih fun w k => h w (List.mem_cons_of_mem _ k)
  exact gen vs fun _ h => h
section
variable {X : Cx} {K : PySem.W.Frag}
theorem GR.wipe {as : List Addr} {B : Hp} {Γ : Gm} {σ : L2.St} (G : GR K as B Γ σ) : ∀ vs : List Nat, GR K as B (wipeG Γ vs) (L2.wipe σ vs)
  | [] => G
  | v :: vs => Z.Paired.set' (fun s e => nomatch e) v (GR.wipe G vs)
theorem zgwname {vs : List Nat} {i : Nat} {x : Str} {pos : Pos} (hN : X.N.Nodup) (hi : X.N[i]? = some x) (hx : Loc X.env.scope x) (hv : i ∈ vs) (hf : X.fn x = true ∨ X.env.scope.names.lookup x = some .local := by first | exact .inl rfl | exact .inr rfl | assumption) : PGwd X vs (.Name x pos) (tgName i) :=
  .of (pg_name hN hi hx hf) (fun x Γ M Γ' M' h as B σ H v R G r Q q => by
    cases h
    exact q _ rfl (G.set r) (wipe_set hv))
theorem zgwnil {vs : List Nat} : PGwsd X vs [] tgNil := .of (pgs_nil) (fun x Γ M Γ' M' h as B σ H v R G r Q q => by
  cases x with
  | nil =>
    cases h
    cases r
    exact ⟨rfl, q _ rfl G rfl⟩
  | cons _ _ => cases h)
theorem zgwcons {vs : List Nat} {e : Expr} {es : List Expr} {fg : Fg} {fgs : Fgs} (h1 : PGwd X vs e fg) (h2 : PGwsd X vs es fgs) (hs : (assignEach (e :: es) X.env).map (·.2) = assign e X.env :: (assignEach es X.env).map (·.2) := by rfl) : PGwsd X vs (e :: es) (tgCons fg fgs) :=
  .of (pgs_cons h1.pe h2.pe hs) (fun x Γ M Γ' M' h as B σ H v R G r Q q => by
    cases x with
    | nil => cases h
    | cons x xr =>
      simp only [tgCons, Option.bind_eq_some_iff] at h
      obtain ⟨⟨Γ1, M1⟩, k1, k2⟩ := h
      cases r with
      | cons r rr =>
        refine ⟨_, _, rfl, h1.j x Γ M Γ1 M1 k1 as B σ H _ R G r _ fun σ1 e1 G1 w1 => ?_⟩
        subst e1
        exact h2.j xr Γ1 M1 Γ' M' k2 as B σ1 H _ R G1 rr Q fun σ2 e2 G2 w2 => q σ2 e2 G2 (w2.trans w1))
theorem zgwtup {vs : List Nat} {es : List Expr} {kk : Nat} {fgs : Fgs} {n : Nat} {pos : Pos} (hc : X.calm = true) (h : PGwsd X vs es fgs) (hn : (assignEach es X.env).length = n := by rfl) (hst : (assignEach es X.env).findIdx? (·.1) = none := by rfl) : PGwd X vs (.Tuple es kk pos) (tgTup n fgs) :=
  .of (pg_tup hc h.pe hn hst) (fun x Γ M Γ' M' h1 as B σ H v R G r Q q => by
    simp only [tgTup, Option.bind_eq_some_iff] at h1
    obtain ⟨xs, k1, k2⟩ := h1
    obtain ⟨k2, k3⟩ := ite_opt k2
    obtain ⟨a, vs, rfl, r1, p⟩ := tupOf_ok R r k1
    exact ⟨a, vs, rfl, r1, by rw [← Paired.length p]; exact k2, h.j xs Γ M Γ' M' k3 as B σ H vs R G p Q q⟩)
structure PTsd (X : Cx) (ifs : List Expr) (f : Ft) : Prop where
  pe : PTs X ifs (cn X.K RB f)
theorem PTsd.of {X : Cx} {ifs : List Expr} {t : TT} {f : Ft} (h : PTs X ifs t) (j : J X.K RB t f) : PTsd X ifs f := ⟨⟨fun pins s σ H Q I c => h.run pins s σ H Q I (j.use c)⟩⟩
theorem PTsd.j {X : Cx} {ifs : List Expr} {f : Ft} (_ : PTsd X ifs f) : J X.K RB (cn X.K RB f) f := j_cn
def fYes : Ft := fun _ M => some (true, M)
theorem ztsnil : PTsd X [] fYes := .of (pts_nil) (fun Γ M x M' h as B σ H R G Q q => by
  cases h
  exact q _ as B H (Lat.refl _ _ _) R rfl)
theorem ztsone {c : Expr} {f : Ft} (h : PTd X c f) : PTsd X [c] f := .of (pts_one h.pe) (h.j)
end
/-- the new list's items -/
noncomputable def lcF (kp : Option Nat) (all : List SV) (vs : List Nat) (g : Fg) (tt : Ft) (te : Fe) : List SV → List SV → Gm → Mem → Option (List SV × Mem)
  | [], acc, _, M => if kept kp all M then some (acc, M) else none
  | x :: r, acc, Γ, M => if kept kp all M then
      (g x (wipeG Γ vs) M).bind fun p => (tt p.1 p.2).bind fun b => if b.1 = true then
        (te p.1 b.2).bind fun y => if acc.length < sizeLine then lcF kp all vs g tt te r (acc ++ [y.1]) Γ y.2 else none
        else lcF kp all vs g tt te r acc Γ b.2
    else none
noncomputable def fLc (src : Fi) (vs : List Nat) (g : Fg) (tt : Ft) (te : Fe) : Fe := fun Γ M => (src Γ M).bind fun p => (lcF p.1.2 p.1.1 vs g tt te p.1.1 [] Γ p.2).bind fun q => (allD q.1).map fun ds => (.d (.list ds), q.2)
noncomputable def fLcM (src : Fi) (vs : List Nat) (g : Fg) (tt : Ft) (te : Fe) : Fe := fun Γ M => (src Γ M).bind fun p => (lcF p.1.2 p.1.1 vs g tt te p.1.1 [] Γ p.2).map fun q => (.loc q.2.length, q.2 ++ [.lst q.1])
section
variable {X : Cx} {K : PySem.W.Frag} {as as1 : List Addr} {B B1 H H1 : Hp} {M : Mem} {D : Addr} {o : HO}
/-- an object that neither data nor memory knows may change -/
theorem Rel.outside (R : Rel K as B M H) (ha : D ∉ as) (hB : B D = none) : Rel K as B M (upd H D o) where
  len := R.len
  nd := R.nd
  ex := fun b u e => by
    rw [upd_ne (fun q => by rw [q, hB] at e; cases e)]
    exact R.ex b u e
  sep := R.sep
  obj := fun n a mo ea em => by
    have ne : a ≠ D := fun q => ha (by rw [← q]; exact List.mem_of_getElem? ea)
    have h := R.obj n a mo ea em
    cases mo with
    | lst xs =>
      obtain ⟨vs, h1, h2⟩ := h
      exact ⟨vs, by rw [upd_ne ne]; exact h1, h2⟩
    | dct xs =>
      obtain ⟨vs, h1, h2⟩ := h
      exact ⟨vs, by rw [upd_ne ne]; exact h1, h2⟩
    | ins C fs =>
      obtain ⟨C2, dx, vs, h0, h1, h2⟩ := h
      exact ⟨C2, dx, vs, h0, by rw [upd_ne ne]; exact h1, h2⟩
    | gone => trivial
  all := fun a m => by
    rw [upd_ne (fun q => ha (by rw [← q]; exact m))]
    exact R.all a m
theorem Lat.outside (L : Lat as B H as1 B1 H1) (hD : H D = none) : Lat as B H as1 B1 (upd H1 D o) :=
  ⟨L.pre, L.ex, fun a u e n => by rw [upd_ne (ne_of_none e hD)]; exact L.fr a u e n, L.new, L.nb⟩
theorem Lat.keepB (L : Lat as B H as1 B1 H1) (hD : H D ≠ none) (ha : D ∉ as) (hB : B D = none) : B1 D = none ∧ D ∉ as1 := by
  refine ⟨?_, fun m => hD (L.new D m ha)⟩
  cases q : B1 D with
  | none => rfl
  | some u =>
    rcases L.nb D (by rw [q]; exact fun z => nomatch z) with k | k | k
    · exact absurd hB k
    · exact absurd k hD
    · exact absurd k ha
theorem lcF_ok {J : It} {g : TG} {fg : Fg} {tt : TT} {ft : Ft} {te : TE} {fe : Fe} {vs : List Nat} {kp : Option Nat} {all : List SV} (hg : Gwd K vs g fg) (ht : J.1 = J.1 ∧ Z.J K RB tt ft) (he : Z.J K (VR K) te fe) {Γ : Gm} {M : Mem} {ys : List SV} {M' : Mem} (h : lcF kp all vs fg ft fe all [] Γ M = some (ys, M'))
    {σ : L2.St} (R : Rel K as B M H) (G : GR K as B Γ σ) (w : Wks K J as B H kp all) (hD : H D = none) {Q : VK}
    (q : ∀ (as' : List Addr) (B' H' : Hp) (us : List V), Lat as B H as' B' H' → Rel K as' B' M' H' → H' D = some (.lst us) → Paired (VR K as' B') ys us → B' D = none → D ∉ as' → Q (.ref D) H') :
    ∃ W : Nat → Nat → Hp → Prop, (∃ m, W 0 m (upd H D (.lst []))) ∧ ∀ i m H, W i m H →
      (J.stop i H ∧ Q (.ref D) H) ∨ (J.go i H ∧ ∃ Nx : Hp → Prop, (∀ H', Nx H' → ∃ m', m' < m ∧ W (i + 1) m' H') ∧ ∀ x H', J.yld i H x H' → g x (wipe σ vs) H' fun σ2 H2 => wipe σ2 vs = wipe σ vs ∧ tt σ2 H2 fun b H3 =>
        if b = true then te σ2 H3 fun y H4 => ∃ acc, H4 D = some (.lst acc) ∧ acc.length < sizeLine ∧ Nx (upd H4 D (.lst (acc ++ [y]))) else Nx H3) := by
  have BD : B D = none := R.ex.free hD
  have aD : D ∉ as := fun m => R.all D m hD
  refine ⟨fun i m H' => m = all.length - i ∧ i ≤ all.length ∧ ∃ acc us M1 as' B', lcF kp all vs fg ft fe (all.drop i) acc Γ M1 = some (ys, M') ∧ Lat as B H as' B' H' ∧ Rel K as' B' M1 H' ∧ H' D = some (.lst us) ∧ Paired (VR K as' B') acc us ∧ B' D = none ∧ D ∉ as',
    ⟨all.length, by omega, Nat.zero_le _, [], [], M, as, B, h, (Lat.refl as B H).outside hD, R.outside aD BD, upd_same, .nil, BD, aD⟩, ?_⟩
  rintro i m H1 ⟨rfl, hi, acc, us, M1, as1, B1, h1, L1, R1, hd1, p1, b1, a1⟩
  by_cases hlt : i < all.length
  · have e1 : all.drop i = all[i] :: all.drop (i + 1) := List.drop_eq_getElem_cons hlt
    rw [e1] at h1
    simp only [lcF] at h1
    obtain ⟨hk, h1⟩ := ite_opt h1
    simp only [Option.bind_eq_some_iff] at h1
    obtain ⟨⟨Γ2, M2⟩, h2, ⟨b, M3⟩, h3, h4⟩ := h1
    refine .inr ⟨w.go i as1 B1 H1 M1 L1.la R1 hk hlt, fun H' => ∃ acc us M1 as' B', lcF kp all vs fg ft fe (all.drop (i + 1)) acc Γ M1 = some (ys, M') ∧ Lat as B H as' B' H' ∧ Rel K as' B' M1 H' ∧ H' D = some (.lst us) ∧ Paired (VR K as' B') acc us ∧ B' D = none ∧ D ∉ as',
      fun H' p => ⟨all.length - (i + 1), by omega, rfl, hlt, p⟩, fun v H2 y => ?_⟩
    obtain ⟨B2, L2, R2, r2⟩ := w.yld i as1 B1 H1 M1 v H2 all[i] L1.la R1 hk (List.getElem?_eq_getElem hlt) y
    have hd1' : H1 D ≠ none := by rw [hd1]; exact fun z => nomatch z
    obtain ⟨b2, a2⟩ := L2.keepB hd1' a1 b1
    have hd2 : H2 D = some (.lst us) := L2.fr D _ hd1 a1
    refine hg _ (wipeG Γ vs) M1 Γ2 M2 h2 as1 B2 (wipe σ vs) H2 v R2 (((G.mono L1).mono L2).wipe vs) r2 _ fun σ3 e3 G3 w3 => ⟨w3.trans wipe_wipe, ?_⟩
    subst e3
    refine ht.2 Γ2 M2 b M3 h3 as1 B2 σ3 H2 R2 G3 _ fun b' as3 B3 H3 L3 R3 r3 => ?_
    cases (show b = b' from r3)
    have hd2' : H2 D ≠ none := by rw [hd2]; exact fun z => nomatch z
    obtain ⟨b3, a3⟩ := L3.keepB hd2' a2 b2
    have hd3 : H3 D = some (.lst us) := L3.fr D _ hd2 a2
    have L := (L1.trans L2).trans L3
    cases b with
    | false => exact ⟨acc, us, M3, as3, B3, h4, L, R3, hd3, VR.monos L3 (VR.monos L2 p1), b3, a3⟩
    | true =>
      simp only [if_true, Option.bind_eq_some_iff] at h4
      obtain ⟨⟨y, M4⟩, h4, h5⟩ := h4
      obtain ⟨hz, h5⟩ := ite_opt h5
      refine he Γ2 M3 y M4 h4 as3 B3 σ3 H3 R3 (G3.mono L3) _ fun yv as4 B4 H4 L4 R4 r4 => ?_
      have hd3' : H3 D ≠ none := by rw [hd3]; exact fun z => nomatch z
      obtain ⟨b4, a4⟩ := L4.keepB hd3' a3 b3
      have hd4 : H4 D = some (.lst us) := L4.fr D _ hd3 a3
      have p4 := VR.monos L4 (VR.monos L3 (VR.monos L2 p1))
      exact ⟨us, hd4, by rw [← Paired.length p4]; exact hz, acc ++ [y], us ++ [yv], M4, as4, B4, h5, (L.trans L4).outside hD, R4.outside a4 b4, upd_same, Z.Paired.app p4 (.cons r4 .nil), b4, a4⟩
  · have e : i = all.length := by omega
    subst e
    rw [List.drop_length] at h1
    simp only [lcF] at h1
    obtain ⟨hk, h1⟩ := ite_some h1
    cases h1
    exact .inl ⟨w.stop as1 B1 H1 _ L1.la R1 hk, q as1 B1 H1 us L1 R1 hd1 p1 b1 a1⟩
/-- it is data from now on -/
theorem Rel.freeze {us : List V} {ds : List PyData} (R : Rel K as B M H) (hd : H D = some (.lst us)) (hB : B D = none) (ha : D ∉ as) (p : Paired (DR K B) ds us) : Rel K as (upd B D (.lst us)) M H ∧ Same B (upd B D (.lst us)) ∧ VR K as (upd B D (.lst us)) (.d (.list ds)) (.ref D) := by
  have sB : Same B (upd B D (.lst us)) := fun b u e => by
    rw [upd_ne (fun q => by rw [q, hB] at e; cases e)]
    exact e
  have vm : ∀ {xs : List SV} {vs : List V}, Paired (VR K as B) xs vs → Paired (VR K as (upd B D (.lst us))) xs vs := fun h => L2.Paired.mapP h fun s v r => by
    cases s with
    | d x => exact DR.mono sB _ _ r
    | loc n => exact r
  refine ⟨⟨R.len, R.nd, fun b u e => ?_, fun n a mo ea em hg => ?_, fun n a mo ea em => ?_, R.all⟩, sB, .lst (.inl upd_same) (DR.monos sB _ _ p)⟩
  · by_cases q : b = D
    · subst q
      rw [upd_same] at e
      rw [hd]
      exact e
    · rw [upd_ne q] at e
      exact R.ex b u e
  · rw [upd_ne (fun q => ha (by rw [← q]; exact List.mem_of_getElem? ea))]
    exact R.sep n a mo ea em hg
  · have h := R.obj n a mo ea em
    cases mo with
    | lst xs =>
      obtain ⟨vs, h1, h2⟩ := h
      exact ⟨vs, h1, vm h2⟩
    | dct xs =>
      obtain ⟨vs, h1, h2⟩ := h
      exact ⟨vs, h1, L2.Paired.mapP h2 fun s v r => ⟨r.1, by
        cases q : s.2 with
        | d x => have := r.2; rw [q] at this; exact DR.mono sB _ _ this
        | loc n => have := r.2; rw [q] at this; exact this⟩⟩
    | ins C fs =>
      obtain ⟨C2, dx, vs, h0, h1, h2⟩ := h
      exact ⟨C2, dx, vs, h0, h1, L2.Paired.mapP h2 fun s v r => ⟨r.1, by
        cases q : s.2 with
        | d x => have := r.2; rw [q] at this; exact DR.mono sB _ _ this
        | loc n => have := r.2; rw [q] at this; exact this⟩⟩
    | gone => trivial
theorem j_lc {wi : TI} {fi : Fi} {g : TG} {fg : Fg} {tt : TT} {ft : Ft} {te : TE} {fe : Fe} {vs : List Nat} (hi : Id_ K wi fi) (hg : Gwd K vs g fg) (ht : Z.J K RB tt ft) (he : Z.J K (VR K) te fe) : Z.J K (VR K) (tLc wi g tt te vs) (fLc fi vs fg ft fe) := fun Γ M z M' h as B σ H R G Q q => by
  simp only [fLc, Option.bind_eq_some_iff, Option.map_eq_some_iff] at h
  obtain ⟨⟨⟨xs, kp⟩, M1⟩, h1, ⟨ys, M2⟩, h2, ds, h3, h4⟩ := h
  cases h4
  refine hi Γ M xs kp M1 h1 as B σ H R G _ fun J as1 B1 H1 L1 R1 w D hD => ?_
  refine lcF_ok hg ⟨rfl, ht⟩ he h2 R1 (G.mono L1) w hD fun as2 B2 H2 us L2 R2 hd p b2 a2 => ?_
  have pp : Paired (DR K B2) ds us := drs_of (as := as2) (by rw [← allD_some h3]; exact p)
  obtain ⟨R3, sB, w3⟩ := R2.freeze hd b2 a2 pp
  refine q _ as2 _ H2 (L1.trans ⟨L2.pre, L2.ex.trans sB, L2.fr, L2.new, fun a k => ?_⟩) R3 w3
  by_cases e : a = D
  · rw [e]
    exact .inr (.inl hD)
  · rw [upd_ne e] at k
    exact L2.nb a k
/-- the new list is a place of the memory -/
theorem Rel.own {us : List V} {ys : List SV} (R : Rel K as B M H) (hd : H D = some (.lst us)) (hB : B D = none) (ha : D ∉ as) (p : Paired (VR K as B) ys us) : Rel K (as ++ [D]) B (M ++ [.lst ys]) H := by
  have vm : ∀ {s : SV} {v : V}, VR K as B s v → VR K (as ++ [D]) B s v := fun {s v} r => by
    cases s with
    | d x => exact r
    | loc n =>
      obtain ⟨a, e, rfl⟩ := r
      exact ⟨a, by rw [List.getElem?_append_left ((List.getElem?_eq_some_iff.mp e).1)]; exact e, rfl⟩
  refine ⟨by rw [List.length_append, List.length_append, R.len]; rfl, ?_, R.ex, fun n a mo ea em hg => ?_, fun n a mo ea em => ?_, fun a m => ?_⟩
  · rw [List.nodup_append]
    exact ⟨R.nd, by simp, fun a ha' b hb => by rw [List.mem_singleton.mp hb]; exact fun q => ha (by rw [← q]; exact ha')⟩
  · by_cases hn : n < as.length
    · rw [List.getElem?_append_left hn] at ea
      rw [List.getElem?_append_left (by rw [← R.len]; exact hn)] at em
      exact R.sep n a mo ea em hg
    · rw [List.getElem?_append_right (by omega)] at ea
      rw [List.mem_singleton.mp (List.mem_of_getElem? ea)]
      exact hB
  · by_cases hn : n < as.length
    · rw [List.getElem?_append_left hn] at ea
      rw [List.getElem?_append_left (by rw [← R.len]; exact hn)] at em
      have h := R.obj n a mo ea em
      cases mo with
      | lst xs =>
        obtain ⟨vs, h1, h2⟩ := h
        exact ⟨vs, h1, L2.Paired.mapP h2 fun _ _ r => vm r⟩
      | dct xs =>
        obtain ⟨vs, h1, h2⟩ := h
        exact ⟨vs, h1, L2.Paired.mapP h2 fun _ _ r => ⟨r.1, vm r.2⟩⟩
      | ins C fs =>
        obtain ⟨C2, dx, vs, h0, h1, h2⟩ := h
        exact ⟨C2, dx, vs, h0, h1, L2.Paired.mapP h2 fun _ _ r => ⟨r.1, vm r.2⟩⟩
      | gone => trivial
    · rw [List.getElem?_append_right (by omega)] at ea
      rw [List.getElem?_append_right (by rw [← R.len]; omega)] at em
      have e1 : a = D := List.mem_singleton.mp (List.mem_of_getElem? ea)
      have e2 : mo = .lst ys := List.mem_singleton.mp (List.mem_of_getElem? em)
      rw [e1, e2]
      exact ⟨us, hd, L2.Paired.mapP p fun _ _ r => vm r⟩
  · rcases List.mem_append.mp m with k | k
    · exact R.all a k
    · rw [List.mem_singleton.mp k, hd]
      exact fun z => nomatch z
theorem j_lcM {wi : TI} {fi : Fi} {g : TG} {fg : Fg} {tt : TT} {ft : Ft} {te : TE} {fe : Fe} {vs : List Nat} (hi : Id_ K wi fi) (hg : Gwd K vs g fg) (ht : Z.J K RB tt ft) (he : Z.J K (VR K) te fe) : Z.J K (VR K) (tLc wi g tt te vs) (fLcM fi vs fg ft fe) := fun Γ M z M' h as B σ H R G Q q => by
  simp only [fLcM, Option.bind_eq_some_iff, Option.map_eq_some_iff] at h
  obtain ⟨⟨⟨xs, kp⟩, M1⟩, h1, ⟨ys, M2⟩, h2, h4⟩ := h
  cases h4
  refine hi Γ M xs kp M1 h1 as B σ H R G _ fun J as1 B1 H1 L1 R1 w D hD => ?_
  refine lcF_ok hg ⟨rfl, ht⟩ he h2 R1 (G.mono L1) w hD fun as2 B2 H2 us L2 R2 hd p b2 a2 => ?_
  refine q _ (as2 ++ [D]) B2 H2 (L1.trans ⟨L2.pre.trans (List.prefix_append _ _), L2.ex, L2.fr, fun a m n => ?_, L2.nb⟩) (R2.own hd b2 a2 p) ⟨D, ?_, rfl⟩
  · rcases List.mem_append.mp m with k | k
    · exact L2.new a k n
    · rw [List.mem_singleton.mp k]
      exact hD
  · rw [← R2.len, List.getElem?_append_right (Nat.le_refl _), Nat.sub_self]
    rfl
variable {elt tg iter : Expr} {ifs : List Expr} {scope : Scope} {own : List (Str × Nat)} {pos : Pos} {wi : TI} {fi : Fi} {g : TG} {fg : Fg} {tt : TT} {ft : Ft} {te : TE} {fe : Fe}
theorem zlc (hc : X.calm = true) (hN : X.N.Nodup) (hi : PId X tg iter fi) (ok : BlkOk X.N X.env.scope scope own)
    (hg : ∀ (s : Shared) (H : Hp) (C : Addr) (cl : List (Str × Addr)) (fp : List Addr), PGwd (X.blk s H scope (compEnvC scope cl C X.env) fp) (own.map (·.2)) tg fg) (ht : ∀ (s : Shared) (H : Hp) (C : Addr) (cl : List (Str × Addr)) (fp : List Addr), PTsd (X.blk s H scope (compEnvC scope cl C X.env) fp) ifs ft)
    (he : ∀ (s : Shared) (H : Hp) (C : Addr) (cl : List (Str × Addr)) (fp : List Addr), PEd (X.blk s H scope (compEnvC scope cl C X.env) fp) elt fe) (hs : ∀ x, foldedSetIterable iter X.env x = pure x := by intro _; rfl) :
    PEd X (.ListComp elt [⟨tg, iter, ifs, 0⟩] scope pos) (fLc fi (own.map (·.2)) fg ft fe) :=
  .of (pe_lc hc hN hi.pe ok (fun s H C cl fp => (hg s H C cl fp).pe) (fun s H C cl fp => (ht s H C cl fp).pe) (fun s H C cl fp => (he s H C cl fp).pe) hs) (j_lc hi.j (hg X.s_0 X.H_0 0 [] []).j (ht X.s_0 X.H_0 0 [] []).j (he X.s_0 X.H_0 0 [] []).j)
theorem zlcM (hc : X.calm = true) (hN : X.N.Nodup) (hi : PId X tg iter fi) (ok : BlkOk X.N X.env.scope scope own)
    (hg : ∀ (s : Shared) (H : Hp) (C : Addr) (cl : List (Str × Addr)) (fp : List Addr), PGwd (X.blk s H scope (compEnvC scope cl C X.env) fp) (own.map (·.2)) tg fg) (ht : ∀ (s : Shared) (H : Hp) (C : Addr) (cl : List (Str × Addr)) (fp : List Addr), PTsd (X.blk s H scope (compEnvC scope cl C X.env) fp) ifs ft)
    (he : ∀ (s : Shared) (H : Hp) (C : Addr) (cl : List (Str × Addr)) (fp : List Addr), PEd (X.blk s H scope (compEnvC scope cl C X.env) fp) elt fe) (hs : ∀ x, foldedSetIterable iter X.env x = pure x := by intro _; rfl) :
    PEd X (.ListComp elt [⟨tg, iter, ifs, 0⟩] scope pos) (fLcM fi (own.map (·.2)) fg ft fe) :=
  .of (pe_lc hc hN hi.pe ok (fun s H C cl fp => (hg s H C cl fp).pe) (fun s H C cl fp => (ht s H C cl fp).pe) (fun s H C cl fp => (he s H C cl fp).pe) hs) (j_lcM hi.j (hg X.s_0 X.H_0 0 [] []).j (ht X.s_0 X.H_0 0 [] []).j (he X.s_0 X.H_0 0 [] []).j)
theorem zssetLc {i : Nat} {y : Str} {py spos : Pos} (hc : X.calm = true) (hN : X.N.Nodup) (hy : X.N[i]? = some y) (hyl : X.env.scope.names.lookup y = some .local)
    (hsw : swapsWith (.ListComp elt [⟨tg, iter, ifs, 0⟩] scope pos) (some (.Name y py)) spos.line X.env = pure true) (hi : PId X tg iter fi) (ok : BlkOk X.N X.env.scope scope own)
    (hg : ∀ (s : Shared) (H : Hp) (C : Addr) (cl : List (Str × Addr)) (fp : List Addr), PGwd (X.blk s H scope (compEnvC scope cl C X.env) fp) (own.map (·.2)) tg fg) (ht : ∀ (s : Shared) (H : Hp) (C : Addr) (cl : List (Str × Addr)) (fp : List Addr), PTsd (X.blk s H scope (compEnvC scope cl C X.env) fp) ifs ft)
    (he : ∀ (s : Shared) (H : Hp) (C : Addr) (cl : List (Str × Addr)) (fp : List Addr), PEd (X.blk s H scope (compEnvC scope cl C X.env) fp) elt fe) (hs : ∀ x, foldedSetIterable iter X.env x = pure x := by intro _; rfl) :
    PSd X (.Assign [.Name y py] (.ListComp elt [⟨tg, iter, ifs, 0⟩] scope pos) spos) (fAsg (fLc fi (own.map (·.2)) fg ft fe) (tgName i)) :=
  .of (ps_setLc hc hN hy hyl hsw hi.pe ok (fun s H C cl fp => (hg s H C cl fp).pe) (fun s H C cl fp => (ht s H C cl fp).pe) (fun s H C cl fp => (he s H C cl fp).pe) hs) (s_asg (j_lc hi.j (hg X.s_0 X.H_0 0 [] []).j (ht X.s_0 X.H_0 0 [] []).j (he X.s_0 X.H_0 0 [] []).j) g_name)
theorem zssetLcM {i : Nat} {y : Str} {py spos : Pos} (hc : X.calm = true) (hN : X.N.Nodup) (hy : X.N[i]? = some y) (hyl : X.env.scope.names.lookup y = some .local)
    (hsw : swapsWith (.ListComp elt [⟨tg, iter, ifs, 0⟩] scope pos) (some (.Name y py)) spos.line X.env = pure true) (hi : PId X tg iter fi) (ok : BlkOk X.N X.env.scope scope own)
    (hg : ∀ (s : Shared) (H : Hp) (C : Addr) (cl : List (Str × Addr)) (fp : List Addr), PGwd (X.blk s H scope (compEnvC scope cl C X.env) fp) (own.map (·.2)) tg fg) (ht : ∀ (s : Shared) (H : Hp) (C : Addr) (cl : List (Str × Addr)) (fp : List Addr), PTsd (X.blk s H scope (compEnvC scope cl C X.env) fp) ifs ft)
    (he : ∀ (s : Shared) (H : Hp) (C : Addr) (cl : List (Str × Addr)) (fp : List Addr), PEd (X.blk s H scope (compEnvC scope cl C X.env) fp) elt fe) (hs : ∀ x, foldedSetIterable iter X.env x = pure x := by intro _; rfl) :
    PSd X (.Assign [.Name y py] (.ListComp elt [⟨tg, iter, ifs, 0⟩] scope pos) spos) (fAsg (fLcM fi (own.map (·.2)) fg ft fe) (tgName i)) :=
  .of (ps_setLc hc hN hy hyl hsw hi.pe ok (fun s H C cl fp => (hg s H C cl fp).pe) (fun s H C cl fp => (ht s H C cl fp).pe) (fun s H C cl fp => (he s H C cl fp).pe) hs) (s_asg (j_lcM hi.j (hg X.s_0 X.H_0 0 [] []).j (ht X.s_0 X.H_0 0 [] []).j (he X.s_0 X.H_0 0 [] []).j) g_name)
end
/-! ### a def -/
def lowS (n : Nat) : SV → Bool
  | .d _ => true
  | .loc k => decide (k < n)
def lowM (n : Nat) : MO → Bool
  | .lst xs => xs.all (lowS n)
  | .dct kvs => kvs.all fun p => lowS n p.2
  | .ins _ fs => fs.all fun p => lowS n p.2
  | .gone => true
/-- places above n are let go, where nothing speaks of them -/
def trunc (n : Nat) (s : SV) (M : Mem) : SV × Mem := if (lowS n s && (M.take n).all (lowM n)) = true then (s, M.take n) else (s, M)
theorem Rel.trunc {K : PySem.W.Frag} {as0 as : List Addr} {B0 H0 B H : Hp} {M : Mem} {s : SV} {v : V} {n : Nat} (R : Rel K as B M H) (L : Lat as0 B0 H0 as B H) (r : VR K as B s v) (hn : as0.length = n) :
    ∃ as', Rel K as' B (Z.trunc n s M).2 H ∧ Lat as0 B0 H0 as' B H ∧ VR K as' B (Z.trunc n s M).1 v := by
  unfold Z.trunc
  by_cases c : (lowS n s && (M.take n).all (lowM n)) = true
  · rw [if_pos c]
    simp only [Bool.and_eq_true, List.all_eq_true] at c
    obtain ⟨c1, c2⟩ := c
    have tk : ∀ {k : Nat}, k < n → (as.take n)[k]? = as[k]? := fun h => by rw [List.getElem?_take, if_pos h]
    have vm : ∀ {s : SV} {v : V}, lowS n s = true → VR K as B s v → VR K (as.take n) B s v := fun {s v} h r => by
      cases s with
      | d x => exact r
      | loc k =>
        obtain ⟨a, e, rfl⟩ := r
        exact ⟨a, by rw [tk (of_decide_eq_true h)]; exact e, rfl⟩
    have vms : ∀ {xs : List SV} {vs : List V}, xs.all (lowS n) = true → Paired (VR K as B) xs vs → Paired (VR K (as.take n) B) xs vs := fun {xs vs} h p => by
      induction p with
      | nil => exact .nil
      | cons a b ih =>
        simp only [List.all_cons, Bool.and_eq_true] at h
        exact .cons (vm h.1 a) (ih h.2)
    have kms : ∀ {κ : Type} {xs : List (κ × SV)} {vs : List (κ × V)}, (xs.all fun p => lowS n p.2) = true → Paired (KR K as B) xs vs → Paired (KR K (as.take n) B) xs vs := fun {κ xs vs} h p => by
      induction p with
      | nil => exact .nil
      | cons a b ih =>
        simp only [List.all_cons, Bool.and_eq_true] at h
        exact .cons ⟨a.1, vm h.1 a.2⟩ (ih h.2)
    have low : ∀ {k : Nat} {a : Addr}, (as.take n)[k]? = some a → k < n := fun {k a} e => by
      have := (List.getElem?_eq_some_iff.mp e).1
      rw [List.length_take] at this
      omega
    refine ⟨as.take n, ⟨by rw [List.length_take, List.length_take, R.len], R.nd.sublist (List.take_sublist _ _), R.ex, fun k a mo ea em hg => ?_, fun k a mo ea em => ?_, fun a m => R.all a (List.mem_of_mem_take m)⟩, ⟨?_, L.ex, L.fr, fun a m => L.new a (List.mem_of_mem_take m), L.nb⟩, vm c1 r⟩
    · have hk := low ea
      rw [tk hk] at ea
      rw [List.getElem?_take, if_pos hk] at em
      exact R.sep k a mo ea em hg
    · have hk := low ea
      have hm := c2 mo (List.mem_of_getElem? em)
      rw [tk hk] at ea
      rw [List.getElem?_take, if_pos hk] at em
      have h := R.obj k a mo ea em
      cases mo with
      | lst xs =>
        obtain ⟨vs, h1, h2⟩ := h
        exact ⟨vs, h1, vms hm h2⟩
      | dct xs =>
        obtain ⟨vs, h1, h2⟩ := h
        exact ⟨vs, h1, kms hm h2⟩
      | ins C fs =>
        obtain ⟨C2, dx, vs, h0, h1, h2⟩ := h
        exact ⟨C2, dx, vs, h0, h1, kms hm h2⟩
      | gone => trivial
    · obtain ⟨t, e⟩ := L.pre
      refine ⟨[], ?_⟩
      rw [List.append_nil, ← e, ← hn]
      simp
  · rw [if_neg c]
    exact ⟨as, R, L, r⟩
def runF (N : Nat) (fb : Fs) : Fn := fun xs M => (fb (xs.map some ++ List.replicate (N - xs.length) none) M).bind fun p => match p.1 with
  | .nx _ => some (trunc M.length (.d .none) p.2)
  | .rt s => some (trunc M.length s p.2)
  | _ => none
theorem gr_start {K : PySem.W.Frag} {as : List Addr} {B : Hp} {xs : List SV} {vs : List V} (p : Paired (VR K as B) xs vs) (n : Nat) : GR K as B (xs.map some ++ List.replicate n none) (vs.map some ++ List.replicate n none) := by
  refine Paired.app ?_ ?_
  · induction p with
    | nil => exact .nil
    | cons a b ih => exact .cons (fun s e => by cases e; exact ⟨_, rfl, a⟩) ih
  · induction n with
    | zero => exact .nil
    | succ n ih => exact .cons (fun s e => nomatch e) ih
section
variable {P : Program} {w : World} {K : PySem.W.Frag} {mg : Str → Option Value} {base : Heap}
theorem fnd {x qual : Str} {st : Stmt} {f : Addr} {fd : FuncData} {N ps : List Str} {k n : Nat} {fb : Fs} (F : Fun K x qual st f fd) (S : FnScope N ps (defScope st)) (hn : ps.length = n)
    (hb : ∀ (cdv : Value) (A : Around) (outer : List Env) (s : Shared) (H : Hp) (E : XK), Room k (A.deeper (PyProof.Rows.envOfC qual (defScope st) s.heap.objs.size f cdv)) → PSsd (cxOf CX0 P w K mg base N qual (defScope st) f cdv A outer s H E).nox (defBody st) fb) :
    FnOk P w K mg base CX0 (k + 1) f fd ps (spF K n (runF N.length fb)) := by
  refine F.ok S (fun vs H Q E h => ?_) (fun cdv A outer s H vs Q E hr h => ?_)
  · obtain ⟨_, _, _, _, _, _, e, _⟩ := h
    rw [e, hn]
  · obtain ⟨as, B, M, xs, r, M', e, h1, R, p, q⟩ := h
    have ht := hb cdv A outer s H E hr
    refine ⟨_, ht.pe, ?_⟩
    simp only [runF, Option.bind_eq_some_iff] at h1
    obtain ⟨⟨o, M1⟩, h2, h3⟩ := h1
    have G : GR K as B (xs.map some ++ List.replicate (N.length - xs.length) none) (L2.start N vs) := by
      unfold L2.start
      rw [← p.length]
      exact gr_start p _
    refine ht.j _ M o M1 h2 as B (L2.start N vs) H R G _ fun as1 B1 H1 L1 R1 => ?_
    cases o with
    | nx Γ =>
      intro σ _
      obtain ⟨as2, R2, L2, r2⟩ := R1.trunc (s := .d .none) (v := .non) (n := M.length) L1 .non R.len
      injection h3 with h3
      rw [h3] at R2 r2
      exact q _ as2 B1 H1 L2 R2 r2
    | rt s =>
      intro v rv
      obtain ⟨as2, R2, L2, r2⟩ := R1.trunc (s := s) (v := v) (n := M.length) L1 rv R.len
      injection h3 with h3
      rw [h3] at R2 r2
      exact q _ as2 B1 H1 L2 R2 r2
    | bk Γ => cases h3
    | ct Γ => cases h3
/-- the law's end -/
def scr (ns : List Int) : SV := .d (.dict (ns.map fun n => (.none, .int n)))
theorem law_end {f : Fn} {H : Hp} {a : Addr} {ns : List Int} (h : ∃ M', f [scr ns] [] = some (.d (.bool true), M')) (hS : SqL K H a (ns.map V.int)) {E : XK} : spF K 1 f [.ref a] H (fun v _ => v = .bl true) E := by
  obtain ⟨M', h⟩ := h
  exact ⟨[], H, [], [scr ns], _, M', rfl, h, ⟨rfl, List.nodup_nil, Same.refl _, fun n a mo e => by simp at e, fun n a mo e => by simp at e, fun a h => by simp at h⟩, .cons (.ro ns hS) .nil, fun v _ _ _ _ _ r => vr_bl r⟩
end
end Z
namespace Z
open PySem L2
theorem bb_len : bootBuiltins ("len" : Str) = some (.builtin "len") := by decide +kernel
theorem bb_all : bootBuiltins ("all" : Str) = some (.builtin "all") := by decide +kernel
theorem bb_any : bootBuiltins ("any" : Str) = some (.builtin "any") := by decide +kernel
theorem bb_abs : bootBuiltins ("abs" : Str) = some (.builtin "abs") := by decide +kernel
theorem bb_min : bootBuiltins ("min" : Str) = some (.builtin "min") := by decide +kernel
theorem bb_max : bootBuiltins ("max" : Str) = some (.builtin "max") := by decide +kernel
theorem bb_int : bootBuiltins ("int" : Str) = some (.type "int") := by decide +kernel
theorem bb_str : bootBuiltins ("str" : Str) = some (.type "str") := by decide +kernel
theorem bb_bool : bootBuiltins ("bool" : Str) = some (.type "bool") := by decide +kernel
theorem bb_list : bootBuiltins ("list" : Str) = some (.type "list") := by decide +kernel
theorem bb_tuple : bootBuiltins ("tuple" : Str) = some (.type "tuple") := by decide +kernel
theorem room65 {k : Nat} {A : Around} (r : Room k A) : A.units + 65 < cLine := by have := r.un; omega
/-- a def of the text -/
structure Df (K : PySem.W.Frag) (mg : Str → Option Value) (x qual : Str) (st : Stmt) (ps : List Str) where
  a : Addr
  fd : FuncData
  F : Fun K x qual st a fd
  g : mg x = some (.ref a)
  b : Binds K fd ps []
theorem Fun.kb {K : PySem.W.Frag} {x qual : Str} {st : Stmt} {f : Addr} {fd : FuncData} {ps ks : List Str} {m : Nat} {perm : List Nat} (F : Fun K x qual st f fd) (hne : ps ≠ [])
    (h : ∀ (kV doc pm : Value) (an : Option Addr) (cdv ct : Value) (us ws : List Value), us.length = m → (us ++ perm.filterMap fun i => ws[i]?).length = ps.length → bindArgs (PySem.W.fnOf x qual (defArgs st) (defBody st) (defScope st) .none kV doc pm an cdv ct) ⟨us, ks.zip ws⟩ = pure (ps.zip (us ++ perm.filterMap fun i => ws[i]?))) : KBinds K fd ps ks (gpm m perm) (gpm m perm) := by
  obtain ⟨oc, od, kV, doc, pm, an, cdv, ct, osl, rfl, lk, hcd⟩ := F.ex
  exact kbinds_of hne (h kV doc pm an cdv ct)
section
variable {X : Cx} {K : PySem.W.Frag} {ta tb tc : TE} {fa fb fc : Fe} {a b c : Expr} {pos : Pos}
/-- a < b < c -/
def fChain (g g' : SV → SV → Mem → Option (SV × Mem)) (a b c : Fe) : Fe := fun Γ M => (a Γ M).bind fun p => (b Γ p.2).bind fun q => (g p.1 q.1 q.2).bind fun r => (boolOf r.1).bind fun k =>
  if k = true then (c Γ r.2).bind fun s => g' q.1 s.1 s.2 else some (.d (.bool false), r.2)
theorem j_chain {r r' : R2} {g g' : SV → SV → Mem → Option (SV × Mem)} (hg : G2 K r g) (hg' : G2 K r' g') (ha : J K (VR K) ta fa) (hb : J K (VR K) tb fb) (hc : J K (VR K) tc fc) : J K (VR K) (tChain r r' ta tb tc) (fChain g g' fa fb fc) := fun Γ M z M' h as B σ H R G Q q => by
  simp only [fChain, Option.bind_eq_some_iff] at h
  obtain ⟨⟨x, M1⟩, h1, ⟨y, M2⟩, h2, ⟨w, M3⟩, h3, k, h4, h5⟩ := h
  refine ha Γ M x M1 h1 as B σ H R G _ fun u as1 B1 H1 L1 R1 r1 => ?_
  refine hb Γ M1 y M2 h2 as1 B1 σ H1 R1 (G.mono L1) _ fun v as2 B2 H2 L2 R2 r2 => ?_
  refine hg x y M2 w M3 h3 as2 B2 H2 R2 u v (r1.mono L2) r2 _ fun w' as3 B3 H3 L3 R3 r3 => ⟨k, boolOf_ok r3 h4, ?_⟩
  cases k with
  | false => cases h5; exact q _ as3 B3 H3 ((L1.trans L2).trans L3) R3 (.bl _)
  | true =>
    simp only [if_true, Option.bind_eq_some_iff] at h5
    obtain ⟨⟨s, M4⟩, h6, h7⟩ := h5
    refine hc Γ M3 s M4 h6 as3 B3 σ H3 R3 (((G.mono L1).mono L2).mono L3) _ fun s' as4 B4 H4 L4 R4 r4 => ?_
    exact hg' y s M4 z M' h7 as4 B4 H4 R4 v s' ((r2.mono L3).mono L4) r4 Q fun z' as5 B5 H5 L5 R5 r5 => q z' as5 B5 H5 ((((L1.trans L2).trans L3).trans L4).trans L5) R5 r5
theorem zchain {op op' : CmpOp} {r r' : R2} {g g' : SV → SV → Mem → Option (SV × Mem)} (ho : OpR X (compareOp op) r) (ho' : OpR X (compareOp op') r') (hg : G2 X.K r g) (hg' : G2 X.K r' g') (ha : PEd X a fa) (hb : PEd X b fb) (hc : PEd X c fc)
    (hm : lastMarks [op, op'] [b, c] = false := by with_unfolding_all rfl) : PEd X (.Compare a [op, op'] [b, c] pos) (fChain g g' fa fb fc) := .of (pe_chain ho ho' ha.pe hb.pe hc.pe hm) (j_chain hg hg' ha.j hb.j hc.j)
theorem ztchain {op op' : CmpOp} {r r' : R2} {g g' : SV → SV → Mem → Option (SV × Mem)} (ho : OpR X (compareOp op) r) (ho' : OpR X (compareOp op') r') (hg : G2 X.K r g) (hg' : G2 X.K r' g') (ha : PEd X a fa) (hb : PEd X b fb) (hc : PEd X c fc)
    (hm : lastMarks [op, op'] [b, c] = false := by with_unfolding_all rfl) : PTd X (.Compare a [op, op'] [b, c] pos) (fBool (fChain g g' fa fb fc)) := .of (pt_chain ho ho' ha.pe hb.pe hc.pe hm) (j_tt (j_chain hg hg' ha.j hb.j hc.j))
end
theorem piOr {X : Cx} {tg l : Expr} {w1 w2 : TI} (h1 : PI X tg l w1) (h2 : PI X tg l w2) : PI X tg l (fun σ H R => w1 σ H R ∨ w2 σ H R) := ⟨fun pins s σ H R I h => by
  rcases h with h | h
  · exact h1.run pins s σ H R I h
  · exact h2.run pins s σ H R I h⟩
def fItS (a : Fe) : Fi := fun Γ M => (a Γ M).bind fun p => match p.1 with
  | .d (.tuple xs) => some ((xs.map .d, none), p.2)
  | .d (.list xs) => some ((xs.map .d, none), p.2)
  | .loc n => match p.2[n]? with
    | some (.lst xs) => some ((xs, some n), p.2)
    | _ => none
  | _ => none
theorem zi_seq {X : Cx} {tg l : Expr} {fl : Fe} (h : PEd X l fl) : PId X tg l (fItS fl) := .of (piOr (pi_list h.pe) (pi_tup h.pe)) (fun Γ M xs kp M' e as B σ H R G Q q => by
  simp only [fItS, Option.bind_eq_some_iff] at e
  obtain ⟨⟨s, M1⟩, h1, h2⟩ := e
  split at h2
  · rename_i s' ds e'
    cases h2
    refine .inr (h.j Γ M s _ h1 as B σ H R G _ fun v as1 B1 H1 L1 R1 r1 => ?_)
    rw [show s = _ from e'] at r1
    cases r1 with
    | tup r p => exact ⟨_, rfl, ⟨_, same_t R1.ex r⟩, q _ as1 B1 H1 L1 R1 (wks_tup r p)⟩
  · rename_i s' ds e'
    cases h2
    refine .inl (h.j Γ M s _ h1 as B σ H R G _ fun v as1 B1 H1 L1 R1 r1 => ?_)
    rw [show s = _ from e'] at r1
    cases r1 with
    | lst r p => exact ⟨_, rfl, ⟨_, .inl (same_rd R1.ex r)⟩, q _ as1 B1 H1 L1 R1 (wks_list r p)⟩
  · rename_i s' n e'
    split at h2
    · rename_i ys em
      cases h2
      refine .inl (h.j Γ M s _ h1 as B σ H R G _ fun v as1 B1 H1 L1 R1 r1 => ?_)
      rw [show s = _ from e'] at r1
      obtain ⟨a, ea, rfl⟩ := r1
      obtain ⟨vs, h3, h4⟩ := R1.obj n a _ ea em
      exact ⟨a, rfl, ⟨vs, .inl (.inl h3)⟩, q _ as1 B1 H1 L1 R1 (wks_loc ea)⟩
    · cases h2
  · cases h2)
theorem zlstM {X : Cx} {es : List Expr} {f1 : Fa} {pos : Pos} (h : PAd X es f1) : PEd X (.List es pos) (fLstM f1) := .of (pe_lst h.pe) (fun Γ M z M' h0 as B σ H R G Q q => by
  simp only [fLstM, Option.bind_eq_some_iff] at h0
  obtain ⟨⟨x, M1⟩, h1, h3⟩ := h0
  obtain ⟨hsz, h3⟩ := ite_some h3
  cases h3
  refine h.j Γ M x _ h1 as B σ H R G _ fun u as1 B1 H1 L1 R1 r1 => ?_
  refine ⟨by rw [← Paired.length r1]; exact hsz, fun p hp => ?_⟩
  obtain ⟨R', L'⟩ := R1.newL (o := .lst u) (mo := .lst x) hp ⟨u, upd_same, r1⟩
  refine q _ _ _ _ (L1.trans L') R' ⟨p, ?_, rfl⟩
  show (as1 ++ [p])[M1.length]? = some p
  rw [← R1.len, List.getElem?_append_right (Nat.le_refl _), Nat.sub_self]
  rfl)
theorem fnd_zero {P : Program} {w : World} {K : PySem.W.Frag} {mg : Str → Option Value} {base : Heap} {x qual : Str} {st : Stmt} {f : Addr} {fd : FuncData} {N ps : List Str} {k n : Nat} (_ : Fun K x qual st f fd) (_ : FnScope N ps (defScope st)) (hn : ps.length = n) (_ : 0 ≤ k) :
    FnOk P w K mg base CX0 k f fd ps (spF K n fun _ _ => none) :=
  ⟨(fun _ _ _ _ h => by
    obtain ⟨_, _, _, _, _, _, _, h1, _⟩ := h
    cases h1), (fun _ _ _ _ _ _ _ _ _ _ _ _ _ h => by
    obtain ⟨_, _, _, _, _, _, _, h1, _⟩ := h
    cases h1)⟩
/-- a list that may change is data from now on -/
def fFrz (a : Fe) : Fe := fun Γ M => (a Γ M).bind fun p => match p.1 with
  | .loc n => match p.2[n]? with
    | some (.lst xs) => (allD xs).map fun ds => (.d (.list ds), p.2.set n .gone)
    | _ => none
  | s => some (s, p.2)
theorem zfrz {X : Cx} {e : Expr} {fa : Fe} (h : PEd X e fa) : PEd X e (fFrz fa) := .of h.pe fun Γ M z M' h0 as B σ H R G Q q => by
  simp only [fFrz, Option.bind_eq_some_iff] at h0
  obtain ⟨⟨s, M1⟩, h1, h2⟩ := h0
  refine h.j Γ M s _ h1 as B σ H R G _ fun v as1 B1 H1 L1 R1 r1 => ?_
  split at h2
  · rename_i s' n e'
    rw [show s = _ from e'] at r1
    obtain ⟨D, ea, rfl⟩ := r1
    split at h2
    · rename_i xs em
      simp only [Option.map_eq_some_iff] at h2
      obtain ⟨ds, h3, h4⟩ := h2
      cases h4
      obtain ⟨us, hd, p⟩ := R1.obj n D _ ea em
      rw [allD_some h3] at p
      have pp := drs_of p
      have BD := R1.sep n D _ ea em (fun z => nomatch z)
      have sB : Same B1 (upd B1 D (.lst us)) := fun b u e => by
        rw [upd_ne (fun q => by rw [q, BD] at e; cases e)]
        exact e
      have vm : ∀ {s : SV} {v : V}, VR X.K as1 B1 s v → VR X.K as1 (upd B1 D (.lst us)) s v := fun {s v} r => by
        cases s with
        | d x => exact DR.mono sB _ _ r
        | loc n => exact r
      have hn : n < M1.length := (List.getElem?_eq_some_iff.mp em).1
      have nd : ∀ (m : Nat) (b : Addr), as1[m]? = some b → m ≠ n → b ≠ D := fun m b eb ne q => by
        subst q
        obtain ⟨h1, h2⟩ := List.getElem?_eq_some_iff.mp eb
        obtain ⟨h3, h4⟩ := List.getElem?_eq_some_iff.mp ea
        rcases Nat.lt_or_gt_of_ne ne with k | k
        · exact (List.pairwise_iff_getElem.mp R1.nd) m n h1 h3 k (h2.trans h4.symm)
        · exact (List.pairwise_iff_getElem.mp R1.nd) n m h3 h1 k (h4.trans h2.symm)
      refine q _ as1 (upd B1 D (.lst us)) H1 (L1.trans ⟨List.prefix_refl _, sB, fun _ _ e _ => e, fun a m k => absurd m k, fun a k => ?_⟩) ⟨by rw [List.length_set]; exact R1.len, R1.nd, fun b u e => ?_, fun m b mo eb emo hg => ?_, fun m b mo eb emo => ?_, R1.all⟩ (.lst (.inl upd_same) (DR.monos sB _ _ pp))
      · by_cases c : a = D
        · exact .inr (.inr (by rw [c]; exact List.mem_of_getElem? ea))
        · rw [upd_ne c] at k
          exact .inl k
      · by_cases c : b = D
        · subst c
          rw [upd_same] at e
          rw [hd]
          exact e
        · rw [upd_ne c] at e
          exact R1.ex b u e
      · by_cases c : m = n
        · subst c
          rw [List.getElem?_set_self hn] at emo
          cases emo
          exact absurd rfl hg
        · rw [List.getElem?_set_ne (Ne.symm c)] at emo
          rw [upd_ne (nd m b eb c)]
          exact R1.sep m b mo eb emo hg
      · by_cases c : m = n
        · subst c
          rw [List.getElem?_set_self hn] at emo
          cases emo
          trivial
        · rw [List.getElem?_set_ne (Ne.symm c)] at emo
          have h := R1.obj m b mo eb emo
          cases mo with
          | lst xs =>
            obtain ⟨vs, h1, h2⟩ := h
            exact ⟨vs, h1, L2.Paired.mapP h2 fun _ _ r => vm r⟩
          | dct xs =>
            obtain ⟨vs, h1, h2⟩ := h
            exact ⟨vs, h1, L2.Paired.mapP h2 fun _ _ r => ⟨r.1, vm r.2⟩⟩
          | ins C fs =>
            obtain ⟨C2, dx, vs, h0, h1, h2⟩ := h
            exact ⟨C2, dx, vs, h0, h1, L2.Paired.mapP h2 fun _ _ r => ⟨r.1, vm r.2⟩⟩
          | gone => trivial
    · cases h2
  · cases h2
    exact q _ as1 B1 H1 L1 R1 r1
end Z
/-! Lemmas about the functions of data and memory. -/
namespace Z
open PySem L2
/-- a chain whose rest is not looked into before its head is known -/
structure Shut {α : Type} (f : α) : Type where
def bnd {α β : Type} (f : α → Option β) (_ : Shut f) (o : Option α) : Option β := o.bind f
def bmp {α β : Type} (f : α → β) (_ : Shut f) (o : Option α) : Option β := o.map f
theorem to_bnd {α β : Type} {o : Option α} {f : α → Option β} : o.bind f = bnd f ⟨⟩ o := rfl
theorem to_bmp {α β : Type} {o : Option α} {f : α → β} : o.map f = bmp f ⟨⟩ o := rfl
theorem bnd_some {α β : Type} {a : α} {f : α → Option β} {u : Shut f} : bnd f u (some a) = f a := rfl
theorem bnd_none {α β : Type} {f : α → Option β} {u : Shut f} : bnd f u none = none := rfl
theorem bmp_some {α β : Type} {a : α} {f : α → β} {u : Shut f} : bmp f u (some a) = some (f a) := rfl
theorem bmp_none {α β : Type} {f : α → β} {u : Shut f} : bmp f u none = none := rfl
theorem ixN_nat {n i : Nat} (h : i < n) : ixN n (i : Int) = some i := by
  unfold ixN
  rw [if_pos (by omega), if_pos (by omega), Int.toNat_natCast]
theorem ixN_int {n : Nat} {i : Int} (h0 : 0 ≤ i) (h : i < n) : ixN n i = some i.toNat := by
  unfold ixN
  rw [if_pos h0, if_pos h]
theorem atI_nat' {α : Type} {xs : List α} {i : Nat} (h : i < xs.length) : atI xs (i : Int) = xs[i]? := by
  unfold atI
  rw [ixN_nat h]
  rfl
theorem atI_int {α : Type} {xs : List α} {i : Int} (h0 : 0 ≤ i) (h : i < xs.length) : atI xs i = some (xs[i.toNat]'(by omega)) := by
  unfold atI
  rw [ixN_int h0 h]
  exact List.getElem?_eq_getElem _
theorem ixN_30 : ixN 3 0 = some 0 := by decide
theorem ixN_31 : ixN 3 1 = some 1 := by decide
theorem ixN_32 : ixN 3 2 = some 2 := by decide
theorem atI_0 {α : Type} {x : α} {r : List α} : atI (x :: r) 0 = some x := atI_nat' (i := 0) (by simp)
theorem atI_1 {α : Type} {x y : α} {r : List α} : atI (x :: y :: r) 1 = some y := atI_nat' (i := 1) (by simp)
theorem atI_2 {α : Type} {x y z : α} {r : List α} : atI (x :: y :: z :: r) 2 = some z := atI_nat' (i := 2) (by simp)
theorem atI_3 {α : Type} {x y z u : α} {r : List α} : atI (x :: y :: z :: u :: r) 3 = some u := atI_nat' (i := 3) (by simp)
theorem atI_4 {α : Type} {x y z u v : α} {r : List α} : atI (x :: y :: z :: u :: v :: r) 4 = some v := atI_nat' (i := 4) (by simp)
theorem atI_5 {α : Type} {x y z u v w : α} {r : List α} : atI (x :: y :: z :: u :: v :: w :: r) 5 = some w := atI_nat' (i := 5) (by simp)
theorem trunc_id {n : Nat} {s : SV} {M : Mem} (h : M.length ≤ n) : trunc n s M = (s, M) := by
  unfold trunc
  rw [List.take_of_length_le h]
  split <;> rfl
theorem trunc_same {s : SV} {M : Mem} : trunc M.length s M = (s, M) := trunc_id (Nat.le_refl _)
theorem trunc_set {s : SV} {M : Mem} {l : Nat} {o : MO} : trunc M.length s (M.set l o) = (s, M.set l o) := trunc_id (by rw [List.length_set]; exact Nat.le_refl _)
/-- a place that the def made goes -/
theorem trunc_app {x : PyData} {M G : Mem} {n : Nat} (hn : M.length = n) (h : M.all (lowM n) = true) : trunc n (.d x) (M ++ G) = (.d x, M) := by
  unfold trunc
  subst hn
  rw [List.take_left', if_pos]
  · simp [lowS, h]
  · rfl
theorem trunc_loc {n : Nat} {M : Mem} : trunc n (.loc n) M = (.loc n, M) := by
  unfold trunc
  rw [if_neg (by simp [lowS])]
theorem cmulr {i j : Int} (h : -(2 ^ 64) < j ∧ j < 2 ^ 64) : CMul i j ∨ CMulW i j := .inl (.inr h)
theorem cmull {i j : Int} (h : -(2 ^ 64) < i ∧ i < 2 ^ 64) : CMul i j ∨ CMulW i j := .inl (.inl h)
theorem cdivw {i j : Int} (h : 0 < j) (h2 : j < 2 ^ 60) : CDivW i j := wide_div (b := 60) h (by omega) (by decide) (by decide)
theorem kept_none {xs : List SV} {M : Mem} : kept none xs M := fun _ h => nomatch h
theorem kept_some {n : Nat} {xs : List SV} {M : Mem} (h : M[n]? = some (.lst xs)) : kept (some n) xs M := fun _ e => by cases e; exact h
/-! sequences -/
theorem gLen_seq {M : Mem} {s : SV} {xs : List SV} (h : seqOf M s = some xs) : gLen [s] M = some (.d (.int xs.length), M) := by
  cases s with
  | loc n =>
    show (seqOf M (.loc n)).map _ = _
    rw [h]
    rfl
  | d x => cases x with
    | list ys => cases h; rfl
    | tuple ys => cases h; rfl
    | _ => cases h
theorem gIx_seq {M : Mem} {s : SV} {xs : List SV} {i : Int} (h : seqOf M s = some xs) (h0 : 0 ≤ i) (h1 : i < xs.length) : gIx s (.d (.int i)) M = some (xs[i.toNat]'(by omega), M) := by
  cases s with
  | loc n =>
    have h : lstOf M (.loc n) = some xs := h
    show (lstOf M (.loc n)).bind _ = _
    rw [h]
    show (atI xs i).map _ = _
    rw [atI_int h0 h1]
    rfl
  | d x => cases x with
    | list ys =>
      cases h
      show (atI (ys.map SV.d) i).map _ = _
      rw [atI_int h0 h1]
      rfl
    | tuple ys =>
      cases h
      show (atI ys i).map _ = _
      rw [List.length_map] at h1
      rw [atI_int h0 h1]
      simp
    | _ => cases h
/-! loops that go on to their end -/
theorem forF_inv {kp : Option Nat} {all : List SV} {g : Fg} {body : Fs} (I : List SV → Gm → Mem → Prop) (hk : ∀ r Γ M, I r Γ M → kept kp all M)
    (step : ∀ x r Γ M, I (x :: r) Γ M → ∃ Γ1 M1 Γ2 M2, g x Γ M = some (Γ1, M1) ∧ body Γ1 M1 = some (.nx Γ2, M2) ∧ I r Γ2 M2) : ∀ (xs : List SV) (Γ : Gm) (M : Mem), I xs Γ M → ∃ Γ' M', forF kp all g body xs Γ M = some (.nx Γ', M') ∧ I [] Γ' M'
  | [], Γ, M, h => ⟨Γ, M, by unfold forF; rw [if_pos (hk _ _ _ h)], h⟩
  | x :: r, Γ, M, h => by
    obtain ⟨Γ1, M1, Γ2, M2, h1, h2, h3⟩ := step x r Γ M h
    obtain ⟨Γ', M', h4, h5⟩ := forF_inv I hk step r Γ2 M2 h3
    refine ⟨Γ', M', ?_, h5⟩
    unfold forF
    rw [if_pos (hk _ _ _ h), h1, Option.bind_some, h2, Option.bind_some]
    exact h4
/-- a comprehension whose turns change nothing -/
theorem lcF_map {kp : Option Nat} {all : List SV} {vs : List Nat} {g : Fg} {tt : Ft} {te : Fe} {Γ : Gm} {M : Mem} (hk : kept kp all M) (b : SV → Bool) (v : SV → SV) : ∀ (xs acc : List SV),
    (∀ x ∈ xs, ∃ Γ1, g x (wipeG Γ vs) M = some (Γ1, M) ∧ tt Γ1 M = some (b x, M) ∧ (b x = true → te Γ1 M = some (v x, M))) → acc.length + xs.length ≤ sizeLine →
    lcF kp all vs g tt te xs acc Γ M = some (acc ++ (xs.filter b).map v, M)
  | [], acc, _, _ => by
    unfold lcF
    rw [if_pos hk]
    simp
  | x :: r, acc, h, hz => by
    obtain ⟨Γ1, h1, h2, h3⟩ := h x List.mem_cons_self
    have hz' : acc.length + (r.length + 1) ≤ sizeLine := hz
    unfold lcF
    rw [if_pos hk, h1, Option.bind_some]
    simp only
    rw [h2, Option.bind_some]
    simp only
    cases e : b x with
    | false =>
      rw [if_neg (by simp), lcF_map hk b v r acc (fun y hy => h y (List.mem_cons_of_mem _ hy)) (by omega), List.filter_cons_of_neg (by simp [e])]
    | true =>
      rw [if_pos rfl, h3 e, Option.bind_some, if_pos (show acc.length < sizeLine by omega)]
      simp only
      rw [lcF_map hk b v r _ (fun y hy => h y (List.mem_cons_of_mem _ hy)) (by rw [List.length_append]; simp; omega), List.filter_cons_of_pos e]
      simp
theorem boolsOf_map : ∀ bs : List Bool, boolsOf (bs.map fun b => .d (.bool b)) = some bs
  | [] => rfl
  | b :: r => by
    show (boolsOf (r.map fun b => .d (.bool b))).map (b :: ·) = _
    rw [boolsOf_map r]
    rfl
theorem allD_mapf {α : Type} (f : α → PyData) : ∀ xs : List α, allD (xs.map fun x => .d (f x)) = some (xs.map f)
  | [] => rfl
  | x :: r => by
    show (allD (r.map fun x => .d (f x))).map (f x :: ·) = _
    rw [allD_mapf f r]
    rfl
theorem boolsOf_mapf {α : Type} (f : α → Bool) : ∀ xs : List α, boolsOf ((xs.map fun x => PyData.bool (f x)).map SV.d) = some (xs.map f)
  | [] => rfl
  | x :: r => by
    show (boolsOf ((r.map fun x => PyData.bool (f x)).map SV.d)).map (f x :: ·) = _
    rw [boolsOf_mapf f r]
    rfl
/-! data -/
theorem eqv_ints : ∀ (a b : List Int), PyData.eqvAll (a.map .int) (b.map .int) = decide (a = b)
  | [], [] => by simp [PyData.eqvAll]
  | [], _ :: _ => by simp [PyData.eqvAll]
  | _ :: _, [] => by simp [PyData.eqvAll]
  | x :: a, y :: b => by
    simp only [List.map_cons, PyData.eqvAll, PyData.eqv, eqv_ints a b]
    rw [Bool.eq_iff_iff]
    simp
theorem lay_ints : ∀ a : List Int, PyData.canLayAll0 (a.map .int) = true
  | [] => by simp [PyData.canLayAll0]
  | x :: a => by simp [PyData.canLayAll0, PyData.canLay0, lay_ints a]
theorem depth_ints : ∀ a : List Int, PyData.depthAll (a.map .int) = 0
  | [] => by simp [PyData.depthAll]
  | x :: a => by simp [PyData.depthAll, PyData.depth, depth_ints a]
theorem sh_ints (a : List Int) : SeqAt.shaped (.tuple (a.map .int)) = true ∧ SeqAt.shaped (.list (a.map .int)) = true := by
  constructor <;> simp [SeqAt.shaped, PyData.canLay0, PyData.depth, lay_ints, depth_ints]
theorem sh_int (a : Int) : SeqAt.shaped (.int a) = true := by simp [SeqAt.shaped, PyData.canLay0, PyData.depth]
theorem eqD_ii {i j : Int} : eqD (.int i) (.int j) = some (decide (i = j)) := rfl
theorem eqD_ss {i j : Str} : eqD (.str i) (.str j) = some (decide (i = j)) := rfl
theorem eqD_bb {i j : Bool} : eqD (.bool i) (.bool j) = some (decide (i = j)) := rfl
theorem eqD_nn : eqD .none .none = some true := rfl
theorem eqD_in {i : Int} : eqD (.int i) .none = some false := rfl
theorem eqD_ni {i : Int} : eqD .none (.int i) = some false := rfl
theorem eqD_bn {i : Bool} : eqD (.bool i) .none = some false := rfl
theorem eqD_nb {i : Bool} : eqD .none (.bool i) = some false := rfl
theorem eqD_sn {i : Str} : eqD (.str i) .none = some false := rfl
theorem eqD_ns {i : Str} : eqD .none (.str i) = some false := rfl
theorem eqD_is {i : Int} {j : Str} : eqD (.int i) (.str j) = some false := rfl
theorem eqD_si {i : Int} {j : Str} : eqD (.str j) (.int i) = some false := rfl
theorem eqD_bs {i : Bool} {j : Str} : eqD (.bool i) (.str j) = some false := rfl
theorem eqD_sb {i : Bool} {j : Str} : eqD (.str j) (.bool i) = some false := rfl
/-- tuples, lists of numbers -/
theorem eqD_tt {a b : List Int} : eqD (.tuple (a.map .int)) (.tuple (b.map .int)) = some (decide (a = b)) := by
  show (if SeqAt.shaped _ = true ∧ SeqAt.shaped _ = true then some (PyData.eqv _ _) else none) = _
  rw [if_pos ⟨(sh_ints a).1, (sh_ints b).1⟩, PyData.eqv, eqv_ints]
theorem eqD_ll {a b : List Int} : eqD (.list (a.map .int)) (.list (b.map .int)) = some (decide (a = b)) := by
  show (if SeqAt.shaped _ = true ∧ SeqAt.shaped _ = true then some (PyData.eqv _ _) else none) = _
  rw [if_pos ⟨(sh_ints a).2, (sh_ints b).2⟩, PyData.eqv, eqv_ints]
theorem cut_take {α : Type} {xs : List α} {n : Nat} : cutG xs none (some (n : Int)) = xs.take n := by
  unfold cutG
  rw [HT.sIx_none, HT.sIx_nat, List.drop_zero, Nat.sub_zero]
  rcases Nat.le_total n xs.length with h | h
  · rw [Nat.min_eq_left h]
  · rw [Nat.min_eq_right h, List.take_of_length_le (Nat.le_refl _), List.take_of_length_le h]
theorem eqD_refl {x : PyData} (h : SeqAt.shaped x = true) : eqD x x = some true := by
  cases x with
  | int i => simp [eqD]
  | str i => simp [eqD]
  | bool i => simp [eqD]
  | none => rfl
  | list xs =>
    show (if _ ∧ _ then some (PyData.eqv _ _) else none) = _
    rw [if_pos ⟨h, h⟩, SeqAt.eqv_refl _ (SeqAt.canLay_of_shaped h)]
  | tuple xs =>
    show (if _ ∧ _ then some (PyData.eqv _ _) else none) = _
    rw [if_pos ⟨h, h⟩, SeqAt.eqv_refl _ (SeqAt.canLay_of_shaped h)]
  | dict xs => simp [SeqAt.shaped, PyData.canLay0] at h
end Z
/-! dicts with keys ints and texts, places of the memory -/
namespace Z
open PySem PySem.Spec PyProof.Rows L2
section
variable {K : PySem.W.Frag} {as : List Addr} {B H : Hp}
def valG {β : Type} (kvs : List (Key × β)) (k : Key) : Option β := (kvs.find? fun kv => decide (kv.1 = k)).map (·.2)
def putG {β : Type} (kvs : List (Key × β)) (k : Key) (v : β) : List (Key × β) :=
  if (kvs.any fun kv => decide (kv.1 = k)) = true then kvs.map (fun kv => if kv.1 = k then (kv.1, v) else kv) else kvs ++ [(k, v)]
theorem valG_pos {β : Type} {p : Key × β} {r : List (Key × β)} {k : Key} (e : p.1 = k) : valG (p :: r) k = some p.2 := by
  unfold valG
  rw [List.find?_cons_of_pos (by simpa using e)]
  rfl
theorem valG_neg {β : Type} {p : Key × β} {r : List (Key × β)} {k : Key} (e : ¬ p.1 = k) : valG (p :: r) k = valG r k := by
  unfold valG
  rw [List.find?_cons_of_neg (by simpa using e)]
def keyS : SV → Option Key
  | .d (.int i) => some (.inl i)
  | .d (.str z) => some (.inr z)
  | _ => none
theorem key_vr {s : SV} {k : Key} {v : V} (h : keyS s = some k) (r : VR K as B s v) : v = kV k := by
  unfold keyS at h
  split at h
  · cases h; exact vr_int r
  · cases h; exact vr_str r
  · cases h
theorem kr_any {kvs : List (Key × SV)} {us : List (Key × V)} (p : Paired (KR K as B) kvs us) (k : Key) : (kvs.any fun kv => decide (kv.1 = k)) = (us.any fun kv => decide (kv.1 = k)) := by
  induction p with
  | nil => rfl
  | cons h _ ih => rw [List.any_cons, List.any_cons, ih, h.1]
theorem kr_val {kvs : List (Key × SV)} {us : List (Key × V)} (p : Paired (KR K as B) kvs us) {k : Key} {s : SV} (e : valG kvs k = some s) : ∃ v, valV us k = some v ∧ VR K as B s v := by
  show ∃ v, valG us k = some v ∧ VR K as B s v
  induction p with
  | nil => cases e
  | @cons x y xs ys h _ ih =>
    by_cases c : x.1 = k
    · rw [valG_pos c] at e
      cases e
      exact ⟨y.2, valG_pos (h.1.symm.trans c), h.2⟩
    · rw [valG_neg c] at e
      rw [valG_neg fun q => c (h.1.trans q)]
      exact ih e
theorem kr_map {kvs : List (Key × SV)} {us : List (Key × V)} (p : Paired (KR K as B) kvs us) (k : Key) {s : SV} {v : V} (r : VR K as B s v) :
    Paired (KR K as B) (kvs.map fun kv => if kv.1 = k then (kv.1, s) else kv) (us.map fun kv => if kv.1 = k then (kv.1, v) else kv) := by
  induction p with
  | nil => exact .nil
  | @cons x y xs ys h _ ih =>
    rw [List.map_cons, List.map_cons]
    refine .cons ?_ ih
    by_cases c : x.1 = k
    · rw [if_pos c, if_pos (h.1.symm.trans c)]
      exact ⟨h.1, r⟩
    · rw [if_neg c, if_neg fun q => c (h.1.trans q)]
      exact h
theorem kr_put {kvs : List (Key × SV)} {us : List (Key × V)} (p : Paired (KR K as B) kvs us) (k : Key) {s : SV} {v : V} (r : VR K as B s v) :
    Paired (KR K as B) (putG kvs k s) (putK us k v) := by
  unfold putG putK
  rw [← kr_any p k]
  split
  · exact kr_map p k r
  · exact Z.Paired.app p (.cons ⟨rfl, r⟩ .nil)
theorem kr_merge {kvs : List (Key × SV)} {us : List (Key × V)} {ms : List (Key × SV)} {ns : List (Key × V)} (p : Paired (KR K as B) kvs us) (q : Paired (KR K as B) ms ns) :
    Paired (KR K as B) (ms.foldl (fun acc kv => putG acc kv.1 kv.2) kvs) (mergeK us ns) := by
  unfold mergeK
  induction q generalizing kvs us with
  | nil => exact p
  | @cons x y xs ys h _ ih =>
    rw [List.foldl_cons, List.foldl_cons]
    refine ih ?_
    rw [← h.1]
    exact kr_put p x.1 h.2
end
/-! d[k] -/
def rIxK : R2 := fun x y H Q => ∃ a v, x = .ref a ∧ DGet H a y (some v) ∧ Q v H
theorem ix_dk {X : Cx} (hu : X.A.units + 1 < cLine) : IxR X rIxK := by
  intro value slice pins s σ H x y v u Q I rx ry q hs
  obtain ⟨a, w, rfl, g, q⟩ := q
  obtain rfl : v = Value.ref a := rx
  exact tail_any (dict_typeIs I g) PySem.F.slot_dict_getitem.lookup (d_getItem hu I g ry fun w' s3 I3 rw' => ⟨w, H, I3, rw', q⟩) hs
def gIxD : SV → SV → Mem → Option (SV × Mem)
  | .loc n, y, M => match M[n]? with
    | some (.dct kvs) => (keyS y).bind fun k => (valG kvs k).map fun c => (c, M)
    | _ => none
  | _, _, _ => none
theorem g_ixd {K : PySem.W.Frag} : G2 K rIxK gIxD := fun x y M z M' h as B H R u v rx ry Q q => by
  unfold gIxD at h
  split at h
  · rename_i n
    obtain ⟨a, ea, rfl⟩ := rx
    split at h
    · rename_i kvs em
      simp only [Option.bind_eq_some_iff, Option.map_eq_some_iff] at h
      obtain ⟨k, h1, c, h2, h3⟩ := h
      cases h3
      obtain ⟨us, h4, h5⟩ := R.obj n a _ ea em
      obtain ⟨w, h6, h7⟩ := kr_val h5 h2
      rw [key_vr h1 ry]
      exact ⟨a, w, rfl, by rw [← h6]; exact DGet.k h4, q w as B H (Lat.refl _ _ _) R h7⟩
    · cases h
  · cases h
/-! d[k] = v -/
def stD (o i v : SV) (M : Mem) : Option Mem := match o with
  | .loc n => match M[n]? with
    | some (.dct kvs) => (keyS i).bind fun k => if kvs.length < sizeLine then some (M.set n (.dct (putG kvs k v))) else none
    | _ => none
  | _ => none
theorem st_d {K : PySem.W.Frag} : Std K rSetD stD := fun o i v M M' h as B H a b c R ro ri rv Q q => by
  unfold stD at h
  split at h
  · rename_i n
    obtain ⟨l, ea, rfl⟩ := ro
    split at h
    · rename_i kvs em
      simp only [Option.bind_eq_some_iff] at h
      obtain ⟨k, h1, h2⟩ := h
      obtain ⟨hsz, h3⟩ := ite_some h2
      cases h3
      obtain ⟨us, h4, h5⟩ := R.obj n l _ ea em
      rw [key_vr h1 ri]
      obtain ⟨R', L'⟩ := R.put (o := .dK (putK us k c)) (mo' := .dct (putG kvs k v)) ea em (fun z => nomatch z) ⟨_, upd_same, kr_put h5 k rv⟩
      unfold rSetD
      exact ⟨l, _, rfl, DPut.k h4 (by rw [← PySem.Paired.length h5]; exact hsz), q _ _ _ L' R'⟩
    · cases h
  · cases h
/-! {k: v, ..}, keys ints and texts that stand in the text -/
def CK (X : Cx) (e : Expr) (k : Key) : Prop := PE X e (tC (kV k))
theorem ck_str {X : Cx} {x : Str} {j} {pos : Pos} : CK X (.Constant (.str x) j pos) (.inr x) := pe_str
theorem ck_int {X : Cx} {x : Int} {j} {pos : Pos} : CK X (.Constant (.int x) j pos) (.inl x) := pe_int
/-- the pairs: the keys are known, the values are read -/
structure PDs (X : Cx) (pos : Pos) (keys : List (Option Expr)) (values : List Expr) (ks : List Key) (f : Fa) : Prop where
  ex : ∃ trs : List (TE × TE), PPs X pos keys values trs ∧ J X.K (fun as B (xs : List SV) (ps : List (V × V)) => ∃ vs, ps = (ks.zip vs).map (fun q => (kV q.1, q.2)) ∧ Paired (VR X.K as B) xs vs ∧ ks.length = vs.length) (tPairs trs) f
theorem zdnil {X : Cx} {pos : Pos} : PDs X pos [] [] [] fNil := ⟨[], pps_nil, fun Γ M x M' h as B σ H R G Q q => by
  cases h
  exact q [] as B H (Lat.refl _ _ _) R ⟨[], rfl, .nil, rfl⟩⟩
theorem zdcons {X : Cx} {pos : Pos} {k v : Expr} {ks : List (Option Expr)} {vs : List Expr} {kk : Key} {kks : List Key} {fv : Fe} {fr : Fa} (hk : CK X k kk) (hv : PEd X v fv) (hr : PDs X pos ks vs kks fr) :
    PDs X pos (some k :: ks) (v :: vs) (kk :: kks) (fCons fv fr) := by
  obtain ⟨trs, h1, h2⟩ := hr.ex
  refine ⟨(tC (kV kk), cn X.K (VR X.K) fv) :: trs, pps_cons hk hv.pe h1, fun Γ M z M' h as B σ H R G Q q => ?_⟩
  simp only [fCons, Option.bind_eq_some_iff, Option.map_eq_some_iff] at h
  obtain ⟨⟨x, M1⟩, h3, ⟨xs, M2⟩, h4, h5⟩ := h
  cases h5
  show tC (kV kk) σ H _
  show cn X.K (VR X.K) fv σ H _
  refine hv.j Γ M x M1 h3 as B σ H R G _ fun u as1 B1 H1 L1 R1 r1 => ?_
  refine h2 Γ M1 xs _ h4 as1 B1 σ H1 R1 (G.mono L1) _ fun ps as2 B2 H2 L2 R2 r2 => ?_
  obtain ⟨ws, rfl, p, l⟩ := r2
  exact q _ as2 B2 H2 (L1.trans L2) R2 ⟨u :: ws, rfl, .cons (r1.mono L2) p, by rw [List.length_cons, List.length_cons, l]⟩
/-- a dict display: a new place; it stands empty while the values are made -/
def fDisp (ks : List Key) (f : Fa) : Fe := fun Γ M => (f Γ (M ++ [.dct []])).bind fun p => match p.2[M.length]? with
  | some (.dct []) => if ks.length ≤ 15 then some (.loc M.length, p.2.set M.length (.dct ((ks.zip p.1).foldl (fun acc kv => putG acc kv.1 kv.2) []))) else none
  | _ => none
theorem kr_zip {K : PySem.W.Frag} {as : List Addr} {B : Hp} : ∀ (ks : List Key) {xs : List SV} {vs : List V}, Paired (VR K as B) xs vs → Paired (KR K as B) (ks.zip xs) (ks.zip vs)
  | [], _, _, _ => .nil
  | k :: ks, _, _, .nil => .nil
  | k :: ks, _, _, .cons h p => .cons ⟨rfl, h⟩ (kr_zip ks p)
theorem zdisp {X : Cx} {pos : Pos} {keys : List (Option Expr)} {values : List Expr} {ks : List Key} {f : Fa} (h : PDs X pos keys values ks f) (hall : keys.all (·.isSome) = true := by rfl) (hl : keys.length = values.length := by rfl) (h0 : keys ≠ [] := by simp)
    (h15 : keys.length ≤ 15 := by decide) : PEd X (.Dict keys values pos) (fDisp ks f) := by
  obtain ⟨trs, h1, h2⟩ := h.ex
  refine .of (pe_disp h1 hall hl h0 h15) (fun Γ M z M' h as B σ H R G Q q => ?_)
  simp only [fDisp, Option.bind_eq_some_iff] at h
  obtain ⟨⟨xs, M1⟩, h3, h4⟩ := h
  split at h4
  · rename_i em
    obtain ⟨hk, h5⟩ := ite_some h4
    cases h5
    intro p hp
    obtain ⟨R1, L1⟩ := R.newL (o := .dK []) (mo := .dct []) hp ⟨_, upd_same, .nil⟩
    refine h2 Γ _ xs M1 h3 _ _ σ _ R1 (G.mono L1) _ fun ps as2 B2 H2 L2 R2 r2 => ?_
    obtain ⟨vs, rfl, pv, lv⟩ := r2
    have ea : as2[M.length]? = some p := by
      obtain ⟨t, ht⟩ := L2.pre
      rw [← ht, ← R.len]
      simp
    obtain ⟨us, h6, h7⟩ := R2.obj M.length p _ ea em
    cases h7
    refine ⟨h6, ks.zip vs, rfl, by rw [List.length_zip]; omega, ?_⟩
    obtain ⟨R3, L3⟩ := R2.put (o := .dK (mergeK [] (ks.zip vs))) (mo' := .dct ((ks.zip xs).foldl (fun acc kv => putG acc kv.1 kv.2) [])) ea em (fun z => nomatch z) ⟨_, upd_same, kr_merge .nil (kr_zip ks pv)⟩
    exact q _ as2 B2 _ ((L1.trans L2).trans L3) R3 ⟨p, ea, rfl⟩
  · cases h4
end Z
/-! enumerate of a tuple -/
namespace Z
open PySem PySem.Spec PyProof.Rows L2
def enumO (it : Addr) : Obj := { cls := .type "enumerate", data := .fields #[.none, .bool false, .ref it, rawInt 0, .none, .none] }
theorem mt_enum {v : Value} {o : Obj} {P : Heap → Prop} (B : Begins v o P) :
    Meets (Builtin.«enumerate.__new__» ⟨[.type "enumerate", v], []⟩) (fun _ R s => P s.heap ∧ R (.ok (.ret (.ref (s.heap.push o).objs.size))) { s with heap := (s.heap.push o).push (enumO s.heap.objs.size) }) :=
  .of_wp fun prog w A R s ⟨h1, h⟩ => by
    obtain ⟨hp, g, d, tk, os⟩ := s
    have hsub := sub_enumerate
    have q1 : ∀ {A' : Around} {E Q : Value → Shared → Prop}, Q (.ref hp.objs.size) ⟨hp.push o, g, d, tk, os⟩ → wpAny (model prog w) A' (pyIter v) Q E ⟨hp, g, d, tk, os⟩ := fun q => B.iter prog w _ _ _ _ h1 q
    wp_walk using q1
    refine wpAny_stack_any fun st => wpAny_pure ?_
    split
    · rename_i c _ _ _ _ _
      cases (c == Value.type "enumerate") <;> (wp_walk using q1; exact ⟨_, rfl, h⟩)
    · wp_walk using q1
      exact ⟨_, rfl, h⟩
section
variable {prog : Program} {w : World} {A : Around} {E Q : Value → Shared → Prop} {s : Shared}
theorem call_enum {v : Value} {o : Obj} {P : Heap → Prop} (B : Begins v o P) (h1 : P s.heap)
    (h : ∀ h2 : Heap, IsEnum h2 (s.heap.objs.size + 1) s.heap.objs.size 0 .none → h2.get? s.heap.objs.size = some o → (∀ b q, s.heap.get? b = some q → h2.get? b = some q) → Q (.ref (s.heap.objs.size + 1)) { s with heap := h2 }) :
    wpAny (model prog w) A (call (.type "enumerate") [v]) Q E s := by
  refine callType_new F.called_enumerate (by decide) (F.typeCall_enumerate_1 _) (F.newCall_enumerate_1 _) (fun ob => F.args_object_init_2 ob _) F.entry_enumerate_new (mt_enum B) ⟨h1, ?_⟩
  have sz : (s.heap.push o).objs.size = s.heap.objs.size + 1 := Heap.size_push ..
  show _ ∧ _
  rw [sz]
  have en : IsEnum ((s.heap.push o).push (enumO s.heap.objs.size)) (s.heap.objs.size + 1) s.heap.objs.size 0 .none := by
    have z := Heap.get?_push_size (s.heap.push o) (o := enumO s.heap.objs.size) rfl
    rw [sz] at z
    exact z
  exact ⟨⟨_, en, rfl⟩, h _ en (Heap.get?_push_of_some _ (Heap.get?_push_size _ B.free)) fun b q x => Heap.get?_push_of_some _ (Heap.get?_push_of_some _ x)⟩
end
/-- the tuple at a, each item in a new pair -/
def IteT (K : PySem.W.Frag) (a : Addr) : It where
  go := fun i H => ∃ (xs : List V) (x : V), SqT K H a xs ∧ xs[i]? = some x
  yld := fun i H v H2 => ∃ T x, v = .ref T ∧ H T = none ∧ H2 = upd H T (.tup [.int (i : Nat), x]) ∧ ∀ xs, SqT K H a xs → xs[i]? = some x
  stop := fun i H => ∃ xs : List V, SqT K H a xs ∧ xs.length = i
theorem turn_enumT {P : Program} {w : World} {K : PySem.W.Frag} {es : List Expr} {kk : Nat} {tp : Pos} (a e it : Addr) (na : a ≠ it) (ne : e ≠ a) (hne : e ≠ it) :
    Turn P w K (.Tuple es kk tp) (IteT K a) [e, it] e (fun i h => (∃ old, IsEnum h e it ((i : Nat) : Int) old) ∧ h.IsTupleIter it a i) where
  mem := by simp
  obj := fun i h st b hb => by
    obtain ⟨⟨old, he⟩, o, ho, hc, hd⟩ := st
    rcases List.mem_cons.mp hb with z | z
    · rw [z]
      exact ⟨_, he, fun v q => nomatch q⟩
    · rw [List.mem_singleton.mp z]
      exact ⟨o, ho, fun v q => by rw [hd] at q; cases q⟩
  keep := fun i h h2 st k => by
    obtain ⟨⟨old, he⟩, hi⟩ := st
    exact ⟨⟨old, k e (by simp) _ he⟩, hi.at fun o q => k it (by simp) o q⟩
  item := fun X hP hw hK hc i pins s σ H E I hf st sg => by
    obtain ⟨⟨old, he⟩, hit⟩ := st
    obtain ⟨xs, x, hq, hx⟩ := sg
    subst hP hw hK
    obtain ⟨its, rv, p, hz⟩ := I.tuple hq
    obtain ⟨u, hu, ru⟩ := rv.get hx
    have hi : i < its.toArray.size := by
      rw [List.size_toArray]
      exact (List.getElem?_eq_some_iff.mp hu).1
    have D : Draws X.prog X.w X.A.in1 it [it, a] its.toArray.size (fun i v => its.toArray[i]? = some v) (fun i h => h.IsTupleIter it a i ∧ h.IsTuple a its.toArray) := Draws.tuple (show X.A.in1.handled = none from I.ok.hd hc) it a na its.toArray
    refine wpAny_pyNext_enum_itemD D he ⟨hit, p⟩ hi hne (by simp [hne, ne]) fun y h2 tk hy ho st2 hT hsz hk => ?_
    obtain rfl : u = y := by
      have hy2 : its.toArray[i]? = some y := hy
      rw [List.getElem?_toArray, hu] at hy2
      exact Option.some.inj hy2
    refine ⟨_, rfl, wpAny_letOwnedTupleGo_enum (s := { s with heap := h2, toks := tk + 1 }) ho fun h3 he3 sb => ?_⟩
    have le : e < s.heap.objs.size := Heap.lt_size he
    have li : it < s.heap.objs.size := by
      obtain ⟨_, q, _⟩ := hit
      exact Heap.lt_size q
    have T3 : h3.get? s.heap.objs.size = some { cls := .type "tuple", data := .seq #[.int i tk, u] } := (sb.2 _ (Nat.ne_of_gt le)).trans hT
    have ok : ObjOk X.prog X.w (upd H s.heap.objs.size (.tup [.int (i : Nat), x])) h3 s.heap.objs.size (.tup [.int (i : Nat), x]) :=
      ⟨by show 2 ≤ sizeLine; decide, [.int i tk, u], .cons ⟨_, rfl⟩ (.cons ru .nil), _, T3, rfl, _, rfl⟩
    have old3 : ∀ b ob, b ∉ [e, it] → s.heap.get? b = some ob → h3.get? b = some ob := fun b ob hb q => by
      have b1 : b ≠ e := fun z => hb (by simp [z])
      have b2 : b ≠ it := fun z => hb (by simp [z])
      exact (sb.2 b b1).trans (hk b ob b1 b2 q)
    have I3 : Inv X pins σ (upd H s.heap.objs.size (.tup [.int (i : Nat), x])) { s with heap := h3, toks := tk + 1 } := I.turnedNew (ch := [e, it]) old3 hf (Nat.le_refl _) ok
    refine ⟨.ref s.heap.objs.size, _, I3, rfl, ⟨_, x, rfl, I.hok.fresh (Nat.le_refl _), rfl, fun ys hy => by rw [I.tuple_inj hy hq]; exact hx⟩, ⟨⟨u, ?_⟩, st2.1.at fun o q => (sb.2 it (Ne.symm hne)).trans q⟩, fun b hb => ?_⟩
    · rw [show ((i + 1 : Nat) : Int) = (i : Int) + 1 by omega]
      exact he3
    · have lb : b < s.heap.objs.size := by
        rcases List.mem_cons.mp hb with z | z
        · rw [z]
          exact le
        · rw [List.mem_singleton.mp z]
          exact li
      rw [upd_ne (Nat.ne_of_lt lb)]
      exact (hf b hb).1
  done := fun X hP hw hK hc i pins s σ H E I hf st sg => by
    obtain ⟨⟨old, he⟩, hit⟩ := st
    obtain ⟨xs, hq, hx⟩ := sg
    subst hP hw hK
    obtain ⟨its, rv, p, hz⟩ := I.tuple hq
    obtain ⟨f0, f1, f2, f3, f4, f5⟩ := hf it (by simp)
    have hl := rv.length
    have D : Draws X.prog X.w X.A.in1 it [it, a] its.toArray.size (fun i v => its.toArray[i]? = some v) (fun i h => h.IsTupleIter it a i ∧ h.IsTuple a its.toArray) := Draws.tuple (show X.A.in1.handled = none from I.ok.hd hc) it a na its.toArray
    have en : its.toArray.size = i := by rw [List.size_toArray]; omega
    exact wpAny_pyNext_enum_endD D he ⟨by rw [en]; exact hit, p⟩ fun h2 eb => ⟨rfl, I.turned (t' := s.toks) (fun b o hb q => eb b o hb q) f0 f1 f3 f4 f5⟩
  self := fun A i s Q E st h => by
    obtain ⟨⟨_, he⟩, _⟩ := st
    exact wpAny_pyIter_enum he h
/-- enumerate of a list or of a tuple -/
def iEnA (K : PySem.W.Frag) (ta : TA) : TI := fun σ H R => ta σ H fun vs H1 => ∃ a xs, vs = [.ref a] ∧ ((SqL K H1 a xs ∧ R (Ite K a) H1) ∨ (SqT K H1 a xs ∧ R (IteT K a) H1))
theorem pi_enA {X : Cx} {e : Expr} {ta : TA} {p pos tpos : Pos} {elts : List Expr} {kk : Nat} (hg : Gl X "enumerate") (hm : X.mg "enumerate" = none) (ha : PA X [e] ta) (hs : starEach [e] X.env = [(false, eval e X.env)] := by rfl) :
    PI X (.Tuple elts kk tpos) (.Call (.Name "enumerate" p) [e] [] pos) (iEnA X.K ta) := ⟨fun pins s σ H R I h => by
  refine Call_ (ld_blt I hg hm boot_enumerate (PyProof.Rows.callWith_type1 (thn (ha.run pos pins s σ H _ I h) fun us s1 hu => ?_) hs rfl))
  obtain ⟨vs, H1, I1, r1, a, xs, rfl, q⟩ := hu
  cases r1 with
  | cons r rr =>
  cases rr
  cases r
  have two : ∀ b, b ∈ [s1.heap.objs.size + 1, s1.heap.objs.size] → s1.heap.objs.size ≤ b := fun b hb => by
    rcases List.mem_cons.mp hb with z | z
    · omega
    · have := List.mem_singleton.mp z
      omega
  rcases q with ⟨hq, q⟩ | ⟨hq, q⟩
  · obtain ⟨its, rv, pl, hz⟩ := I1.list hq
    refine call_enum (begins_list a its.toArray) pl.isList fun h2 he hi hk => wpAny_pyIter_enum he ?_
    have I2 : Inv X pins σ H1 { s1 with heap := h2 } := I1.kept (t' := s1.toks) hk
    exact ⟨_, _, _, _, H1, rfl, I2, turn_enum a (s1.heap.objs.size + 1) s1.heap.objs.size, ⟨⟨.none, he⟩, ⟨_, hi, rfl, rfl⟩, Nat.succ_ne_self _⟩, fun b hb => I1.fpOk (two b hb) (I1.hok.fresh (two b hb)), q⟩
  · obtain ⟨its, rv, pt, hz⟩ := I1.tuple hq
    refine call_enum (begins_tuple a its.toArray) (show s1.heap.IsTuple a its.toArray from pt) fun h2 he hi hk => wpAny_pyIter_enum he ?_
    have I2 : Inv X pins σ H1 { s1 with heap := h2 } := I1.kept (t' := s1.toks) hk
    have la : a < s1.heap.objs.size := by
      obtain ⟨o, ho, _⟩ := pt
      exact Heap.lt_size ho
    exact ⟨_, _, _, _, H1, rfl, I2, turn_enumT a (s1.heap.objs.size + 1) s1.heap.objs.size (Nat.ne_of_lt la) (Nat.ne_of_gt (Nat.lt_succ_of_lt la)) (Nat.succ_ne_self _), ⟨⟨.none, he⟩, ⟨_, hi, rfl, rfl⟩⟩, fun b hb => I1.fpOk (two b hb) (I1.hok.fresh (two b hb)), q⟩⟩
/-- its items; only data may stand in a new pair -/
def enD (xs : List PyData) : List SV := (List.range xs.length).map fun i => .d (.tuple [.int (i : Nat), xs.getD i .none])
def fEnum (t : Fa) : Fi := fun Γ M => (t Γ M).bind fun p => match p.1 with
  | [.d (.tuple xs)] => some ((enD xs, none), p.2)
  | [.d (.list xs)] => some ((enD xs, none), p.2)
  | _ => none
theorem enD_len {xs : List PyData} : (enD xs).length = xs.length := by
  unfold enD
  rw [List.length_map, List.length_range]
theorem enD_at {xs : List PyData} {i : Nat} {x : SV} (h : (enD xs)[i]? = some x) : ∃ y, xs[i]? = some y ∧ x = .d (.tuple [.int (i : Nat), y]) := by
  have hi : i < xs.length := by
    have := (List.getElem?_eq_some_iff.mp h).1
    rw [enD_len] at this
    exact this
  refine ⟨xs[i], List.getElem?_eq_getElem hi, ?_⟩
  unfold enD at h
  rw [List.getElem?_map, List.getElem?_range hi] at h
  cases h
  show SV.d (PyData.tuple [PyData.int (i : Nat), xs.getD i PyData.none]) = _
  rw [List.getD_eq_getElem?_getD, List.getElem?_eq_getElem hi]
  rfl
theorem wks_en {K : PySem.W.Frag} {J : It} {as : List Addr} {B H : Hp} {xs : List PyData}
    (go : ∀ (i : Nat) (H' B' : Hp), Same B B' → Same B' H' → i < xs.length → J.go i H') (stop : ∀ (H' B' : Hp), Same B B' → Same B' H' → J.stop xs.length H')
    (yld : ∀ (i : Nat) (H' H2 B' : Hp) (v : V), Same B B' → Same B' H' → J.yld i H' v H2 → ∃ T x, v = .ref T ∧ H' T = none ∧ H2 = upd H' T (.tup [.int (i : Nat), x]) ∧ ∀ d, xs[i]? = some d → DR K B d x) :
    Wks K J as B H none (enD xs) where
  go := fun i as' B' H' M' L R k hi => go i H' B' L.ex R.ex (by rw [enD_len] at hi; exact hi)
  stop := fun as' B' H' M' L R k => by
    rw [enD_len]
    exact stop H' B' L.ex R.ex
  yld := fun i as' B' H' M' v H2 x L R k hx y => by
    obtain ⟨d, h1, rfl⟩ := enD_at hx
    obtain ⟨T, a, rfl, hT, rfl, ha⟩ := yld i H' H2 B' v L.ex R.ex y
    obtain ⟨B2, R2, L2, w⟩ := R.tupD hT (ds := [.int (i : Nat), d]) (vs := [.int (i : Nat), a]) (.cons (.int _) (.cons (DR.mono L.ex _ _ (ha d h1)) .nil))
    exact ⟨B2, L2, R2, w⟩
theorem sqL_same {K : PySem.W.Frag} {H H' : Hp} {a : Addr} {xs : List V} (e : Same H H') (h : Rd H a (.lst xs)) : SqL K H' a xs := .inl (same_rd e h)
theorem zienum {X : Cx} {e : Expr} {fa : Fa} {p pos tpos : Pos} {elts : List Expr} {kk : Nat} (hg : Gl X "enumerate") (hm : X.mg "enumerate" = none) (ha : PAd X [e] fa) (hs : starEach [e] X.env = [(false, eval e X.env)] := by rfl) :
    PId X (.Tuple elts kk tpos) (.Call (.Name "enumerate" p) [e] [] pos) (fEnum fa) :=
  .of (pi_enA hg hm ha.pe hs) (fun Γ M xs kp M' e as B σ H R G Q q => by
    simp only [fEnum, Option.bind_eq_some_iff] at e
    obtain ⟨⟨s, M1⟩, h1, h2⟩ := e
    refine ha.j Γ M s M1 h1 as B σ H R G _ fun v as1 B1 H1 L1 R1 r1 => ?_
    split at h2
    · rename_i s' ys e'
      cases h2
      rw [show s = _ from e'] at r1
      obtain ⟨w, rfl, r⟩ := pr1 r1
      cases r with
      | @tup a vs _ r p =>
        refine ⟨a, vs, rfl, .inr ⟨same_t R1.ex r, q _ as1 B1 H1 L1 R1 (wks_en (fun i H' B' e1 e2 hi => ?_) (fun H' B' e1 e2 => ⟨vs, same_t e2 (same_t e1 r), p.length.symm⟩) fun i H' H2 B' v e1 e2 y => ?_)⟩⟩
        · obtain ⟨z, h3, _⟩ := Z.Paired.at p (List.getElem?_eq_getElem hi)
          exact ⟨vs, z, same_t e2 (same_t e1 r), h3⟩
        · obtain ⟨T, x, h3, h4, h5, h6⟩ := y
          refine ⟨T, x, h3, h4, h5, fun d hd => ?_⟩
          obtain ⟨z, h7, h8⟩ := Z.Paired.at p hd
          rw [h6 vs (same_t e2 (same_t e1 r))] at h7
          cases h7
          exact h8
    · rename_i s' ys e'
      cases h2
      rw [show s = _ from e'] at r1
      obtain ⟨w, rfl, r⟩ := pr1 r1
      cases r with
      | @lst a vs _ r p =>
        have sq : ∀ H' B' : Hp, Same B1 B' → Same B' H' → SqL X.K H' a vs := fun H' B' e1 e2 => .inl (same_rd e2 (same_rd e1 r))
        refine ⟨a, vs, rfl, .inl ⟨.inl (same_rd R1.ex r), q _ as1 B1 H1 L1 R1 (wks_en (fun i H' B' e1 e2 hi => ?_) (fun H' B' e1 e2 => ⟨vs, sq H' B' e1 e2, by rw [p.length]; exact Nat.le_refl _⟩) fun i H' H2 B' v e1 e2 y => ?_)⟩⟩
        · obtain ⟨z, h3, _⟩ := Z.Paired.at p (List.getElem?_eq_getElem hi)
          exact ⟨vs, z, sq H' B' e1 e2, h3⟩
        · obtain ⟨T, x, h3, h4, h5, h6⟩ := y
          refine ⟨T, x, h3, h4, h5, fun d hd => ?_⟩
          obtain ⟨z, h7, h8⟩ := Z.Paired.at p hd
          rw [h6 vs (sq H' B' e1 e2)] at h7
          cases h7
          exact h8
    · cases h2)
end Z
/-! a call that only looks: everything stands still for it, and goes on to change behind it -/
namespace Z
open PySem PySem.Spec PyProof.Rows L2
def snapAll (f : SV → Option PyData) : List SV → Option (List PyData)
  | [] => some []
  | x :: r => (f x).bind fun d => (snapAll f r).map fun ds => d :: ds
/-- a value as it stands now -/
def snap : Nat → Mem → SV → Option PyData
  | _, _, .d x => some x
  | 0, _, .loc _ => none
  | n + 1, M, .loc l => match M[l]? with
    | some (.lst ys) => (snapAll (snap n M) ys).map .list
    | _ => none
theorem snapAll_dr {K : PySem.W.Frag} {as : List Addr} {B H : Hp} {f : SV → Option PyData} (h : ∀ s x v, f s = some x → VR K as B s v → DR K H x v) : ∀ {xs : List SV} {ds : List PyData} {vs : List V}, snapAll f xs = some ds → Paired (VR K as B) xs vs → Paired (DR K H) ds vs
  | [], _, _, e, .nil => by cases e; exact .nil
  | x :: r, _, _, e, .cons p q => by
    simp only [snapAll, Option.bind_eq_some_iff, Option.map_eq_some_iff] at e
    obtain ⟨d, h1, ds, h2, rfl⟩ := e
    exact .cons (h x d _ h1 p) (snapAll_dr h h2 q)
theorem snap_dr {K : PySem.W.Frag} {as : List Addr} {B H : Hp} {M : Mem} (R : Rel K as B M H) : ∀ (n : Nat) (s : SV) (x : PyData) (v : V), snap n M s = some x → VR K as B s v → DR K H x v
  | n, .d y, x, v, e, r => by
    have e2 : y = x := by cases n <;> exact Option.some.inj e
    subst e2
    exact DR.mono R.ex _ _ r
  | 0, .loc l, x, v, e, r => by cases e
  | n + 1, .loc l, x, v, e, r => by
    obtain ⟨a, ea, rfl⟩ := r
    unfold snap at e
    split at e
    · rename_i ys em
      simp only [Option.map_eq_some_iff] at e
      obtain ⟨ds, h1, rfl⟩ := e
      obtain ⟨vs, h2, h3⟩ := R.obj l a _ ea em
      exact .lst (.inl h2) (snapAll_dr (fun s x v => snap_dr R n s x v) h1 h3)
    · cases e
def fBor (n : Nat) (f : Fn) (t : Fa) : Fe := fun Γ M => (t Γ M).bind fun p => (snapAll (snap 4 p.2) p.1).bind fun ds => (arity n f (ds.map .d) (p.2.map fun _ => .gone)).bind fun r => match r.1 with
  | .d (.bool b) => some (.d (.bool b), p.2)
  | .d .none => some (.d .none, p.2)
  | .d (.int i) => some (.d (.int i), p.2)
  | _ => none
theorem Rel.still {K : PySem.W.Frag} {as : List Addr} {B H : Hp} {M : Mem} (R : Rel K as B M H) : Rel K as H (M.map fun _ => .gone) H where
  len := by rw [List.length_map]; exact R.len
  nd := R.nd
  ex := Same.refl _
  sep := fun n a mo _ em hg => by
    rw [List.getElem?_map, Option.map_eq_some_iff] at em
    obtain ⟨_, _, rfl⟩ := em
    exact absurd rfl hg
  obj := fun n a mo _ em => by
    rw [List.getElem?_map, Option.map_eq_some_iff] at em
    obtain ⟨_, _, rfl⟩ := em
    exact trivial
  all := R.all
theorem Rel.later {K : PySem.W.Frag} {as : List Addr} {B H H2 : Hp} {M : Mem} (R : Rel K as B M H) (e : Same H H2) : Rel K as B M H2 ∧ Lat as B H as B H2 := by
  refine ⟨⟨R.len, R.nd, R.ex.trans e, R.sep, fun n a mo ea em => ?_, fun a ha => ?_⟩, List.prefix_refl _, Same.refl _, fun a o h _ => e a o h, fun a m n => absurd m n, fun a h => .inl h⟩
  · have q := R.obj n a mo ea em
    cases mo with
    | lst xs =>
      obtain ⟨vs, h1, h2⟩ := q
      exact ⟨vs, e _ _ h1, h2⟩
    | dct xs =>
      obtain ⟨vs, h1, h2⟩ := q
      exact ⟨vs, e _ _ h1, h2⟩
    | ins C fs =>
      obtain ⟨C2, dx, us, h0, h1, h2⟩ := q
      exact ⟨C2, dx, us, h0, e _ _ h1, h2⟩
    | gone => trivial
  · cases q : H a with
    | none => exact absurd q (R.all a ha)
    | some o =>
      rw [e a o q]
      exact fun z => nomatch z
section
variable {X : Cx} {K : PySem.W.Frag}
theorem paired_d {as : List Addr} {H : Hp} : ∀ {ds : List PyData} {vs : List V}, Paired (DR K H) ds vs → Paired (VR K as H) (ds.map .d) vs
  | [], _, .nil => .nil
  | _ :: _, _, .cons p q => .cons p (paired_d q)
theorem j_bor {n : Nat} {f : Fn} {t : TA} {g : Fa} (ht : J K (RA K) t g) : J K (VR K) (tCall (spF K n f) [] E0 t) (fBor n f g) := fun Γ M z M' h as B σ H R G Q q => by
  simp only [fBor, arity, Option.bind_eq_some_iff] at h
  obtain ⟨⟨x, M1⟩, h1, ds, h2, ⟨s, M3⟩, h3, h4⟩ := h
  obtain ⟨hn, h3⟩ := ite_opt h3
  refine ht Γ M x _ h1 as B σ H R G _ fun u as1 B1 H1 L1 R1 r1 => ?_
  have pd : Paired (DR K H1) ds u := snapAll_dr (fun s x v => snap_dr R1 4 s x v) h2 r1
  refine ⟨as1, H1, _, ds.map .d, s, M3, ?_, h3, R1.still, ?_, fun v as2 B2 H2 L2 R2 r2 => ?_⟩
  · rw [List.append_nil, ← Paired.length pd]
    rw [List.length_map] at hn
    exact hn
  · rw [List.append_nil]
    exact paired_d pd
  · obtain ⟨R3, L3⟩ := R1.later (L2.ex.trans R2.ex)
    have LL := L1.trans L3
    split at h4
    · rename_i b e
      cases h4
      rw [show s = _ from e] at r2
      rw [vr_bl r2]
      exact q _ as1 B1 H2 LL R3 (.bl _)
    · rename_i e
      cases h4
      rw [show s = _ from e] at r2
      rw [vr_non r2]
      exact q _ as1 B1 H2 LL R3 .non
    · rename_i b e
      cases h4
      rw [show s = _ from e] at r2
      rw [vr_int r2]
      exact q _ as1 B1 H2 LL R3 (.int _)
    · cases h4
variable {k n : Nat} {f : Addr} {fd : FuncData} {ps ks : List Str} {g : Fn} {x : Str} {p pos : Pos} {e : Expr} {es : List Expr} {ft : Fa}
theorem zbor (F : FnOk X.prog X.w X.K X.mg X.base CX0 k f fd ps (spF X.K n g)) (hr : Room k X.A) (hg : Gl X x) (hm : X.mg x = some (.ref f)) (hk : PySem.W.keepIn X.K (.ref f) = true) (hb : Binds X.K fd ps [])
    (ha : PAd X (e :: es) ft) (hdb : (x == ("__debug__" : Str)) = false := by decide) (he : starEach (e :: es) X.env = (false, eval e X.env) :: starEach es X.env := by rfl) (hpl : (backTo pos (starEach es X.env)).any (·.1) = false := by rfl) :
    PEd X (.Call (.Name x p) (e :: es) [] pos) (fBor n g ft) :=
  .of (pe_call F hr hg hm hk hb .nil pass0 ha.pe hdb he hpl) (j_bor ha.j)
end
theorem un1 {n : Nat} (h : n + 64 < cLine) : n + 1 < cLine := by omega
end Z
/-! a, b = a list or a tuple -/
namespace Z
open PySem PySem.Spec PyProof.Rows L2
def gEi (K : PySem.W.Frag) (n : Nat) (t : TGs) : TG := fun v σ H Q => gTup K n t v σ H Q ∨ gUnl K n t v σ H Q
section
variable {X : Cx} {pos : Pos} {K : PySem.W.Frag} {es : List Expr}
theorem pg_ei {k : Nat} {t : TGs} {n : Nat} (hc : X.calm = true) (h : PGs X es t) (hn : (assignEach es X.env).length = n := by rfl) (hst : (assignEach es X.env).findIdx? (·.1) = none := by rfl) : PG X (.Tuple es k pos) (gEi X.K n t) :=
  ⟨fun pins s σ H v u Q I r hw => by
    rcases hw with hw | hw
    · exact (pg_tup hc h hn hst).run pins s σ H v u Q I r hw
    · exact (pg_unl hc h hn hst).run pins s σ H v u Q I r hw⟩
def tgSeq (n : Nat) (g : Fgs) : Fg := fun x Γ M => (seqOf M x).bind fun xs => if xs.length = n then g xs Γ M else none
theorem zgseq {kk : Nat} {fgs : Fgs} {n : Nat} (hc : X.calm = true) (h : PGsd X es fgs) (hn : (assignEach es X.env).length = n := by rfl) (hst : (assignEach es X.env).findIdx? (·.1) = none := by rfl) : PGd X (.Tuple es kk pos) (tgSeq n fgs) :=
  .of (pg_ei hc h.pe hn hst) (fun x Γ M Γ' M' h1 as B σ H v R G r Q q => by
    simp only [tgSeq, Option.bind_eq_some_iff] at h1
    obtain ⟨xs, k1, k2⟩ := h1
    obtain ⟨k2, k3⟩ := ite_opt k2
    cases x with
    | loc m =>
      obtain ⟨a, ea, rfl⟩ := r
      cases em : M[m]? with
      | none => simp [seqOf, lstOf, em] at k1
      | some o =>
        cases o with
        | lst ys =>
          obtain ⟨vs, h3, h4⟩ := R.obj m a _ ea em
          have e1 : ys = xs := by simpa [seqOf, lstOf, em] using k1
          subst e1
          exact .inr ⟨a, vs, rfl, .inl (.inl h3), by rw [← h4.length]; exact k2, h.j ys Γ M Γ' M' k3 as B σ H vs R G h4 Q q⟩
        | dct ys => simp [seqOf, lstOf, em] at k1
        | ins C ys => simp [seqOf, lstOf, em] at k1
        | gone => simp [seqOf, lstOf, em] at k1
    | d y =>
      cases y with
      | tuple ys =>
        cases k1
        cases r with
        | @tup a vs _ r p =>
          have p2 : Paired (VR X.K as B) (ys.map .d) vs := paired_d p
          exact .inl ⟨a, vs, rfl, same_t R.ex r, by rw [← p2.length]; exact k2, h.j _ Γ M Γ' M' k3 as B σ H vs R G p2 Q q⟩
      | list ys =>
        cases k1
        cases r with
        | @lst a vs _ r p =>
          have p2 : Paired (VR X.K as B) (ys.map .d) vs := paired_d p
          exact .inr ⟨a, vs, rfl, .inl (same_rd R.ex r), by rw [← p2.length]; exact k2, h.j _ Γ M Γ' M' k3 as B σ H vs R G p2 Q q⟩
      | none => cases k1
      | bool b => cases k1
      | int b => cases k1
      | str b => cases k1
      | dict b => cases k1)
end
end Z
/-! instances of own classes: their fields, methods, how they are made -/
namespace Z
open PySem PySem.Spec PyProof.Rows L2
/-- a class of the text -/
structure ClsD (K : PySem.W.Frag) (C : Str) where
  a : Addr
  at_ : CAt K C a
  c : Cls K a
theorem CAt.same {K : PySem.W.Frag} {C : Str} {a b : Addr} (h : CAt K C a) (g : CAt K C b) : a = b := by
  unfold CAt at h g
  rw [h] at g
  cases g
  rfl
theorem kr_lookup {K : PySem.W.Frag} {as : List Addr} {B : Hp} {f : Str} : ∀ {fs : List (Str × SV)} {us : List (Str × V)}, Paired (KR K as B) fs us → ∀ s, fs.lookup f = some s → ∃ v, us.lookup f = some v ∧ VR K as B s v
  | [], _, .nil, s, e => by cases e
  | (g, x) :: r, (g', y) :: r', .cons h p, s, e => by
    obtain ⟨h1, h2⟩ := h
    have h1 : g = g' := h1
    subst h1
    by_cases c : f == g
    · rw [List.lookup, c] at e
      cases e
      exact ⟨y, by rw [List.lookup, c], h2⟩
    · have c : (f == g) = false := by simpa using c
      rw [List.lookup, c] at e
      rw [List.lookup, c]
      exact kr_lookup p s e
theorem kr_lookup0 {K : PySem.W.Frag} {as : List Addr} {B : Hp} {f : Str} : ∀ {fs : List (Str × SV)} {us : List (Str × V)}, Paired (KR K as B) fs us → fs.lookup f = none → us.lookup f = none
  | [], _, .nil, _ => rfl
  | (g, x) :: r, (g', y) :: r', .cons h p, e => by
    have h1 : g = g' := h.1
    subst h1
    by_cases c : f == g
    · rw [List.lookup, c] at e
      cases e
    · have c : (f == g) = false := by simpa using c
      rw [List.lookup, c] at e ⊢
      exact kr_lookup0 p e
def putS (f : Str) (v : SV) : List (Str × SV) → List (Str × SV)
  | [] => [(f, v)]
  | (g, x) :: r => if g = f then (g, v) :: r else (g, x) :: putS f v r
theorem kr_putF {K : PySem.W.Frag} {as : List Addr} {B : Hp} {f : Str} {s : SV} {v : V} (h : VR K as B s v) : ∀ {fs : List (Str × SV)} {us : List (Str × V)}, Paired (KR K as B) fs us → Paired (KR K as B) (putS f s fs) (putF f v us)
  | [], _, .nil => .cons ⟨rfl, h⟩ .nil
  | (g, x) :: r, (g', y) :: r', .cons k p => by
    have h1 : g = g' := k.1
    subst h1
    unfold putS putF
    by_cases c : g = f
    · rw [if_pos c, if_pos c]
      exact .cons ⟨rfl, h⟩ p
    · rw [if_neg c, if_neg c]
      exact .cons k (kr_putF h p)
section
variable {X : Cx} {K : PySem.W.Frag} {C f : Str} {e o value : Expr} {pos pos' : Pos} {fe fo fv : Fe}
/-- o.f -/
def fFld (C f : Str) (a : Fe) : Fe := fun Γ M => (a Γ M).bind fun p => match p.1 with
  | .loc n => match p.2[n]? with
    | some (.ins D fs) => if D = C then (fs.lookup f).map fun s => (s, p.2) else none
    | _ => none
  | _ => none
theorem zfld (D : ClsD X.K C) (hn : NoAttr X.K D.a f) (h : PEd X e fe) (hb : attributeBase e f X.env (eval e X.env) = eval e X.env := by rfl) : PEd X (.Attribute e f pos) (fFld C f fe) :=
  .of (pe_fld h.pe hb) (fun Γ M z M' h0 as B σ H R G Q q => by
    simp only [fFld, Option.bind_eq_some_iff] at h0
    obtain ⟨⟨s, M1⟩, h1, h2⟩ := h0
    refine h.j Γ M s M1 h1 as B σ H R G _ fun v as1 B1 H1 L1 R1 r1 => ?_
    split at h2
    · rename_i s' n e'
      rw [show s = _ from e'] at r1
      obtain ⟨a, ea, rfl⟩ := r1
      split at h2
      · rename_i C' fs em
        obtain ⟨hc, h5⟩ := ite_opt h2
        clear h2
        subst hc
        simp only [Option.map_eq_some_iff] at h5
        obtain ⟨t, h3, h4⟩ := h5
        cases h4
        obtain ⟨A, dx, us, k0, k1, k2⟩ := R1.obj n a _ ea em
        have hA := k0.same D.at_
        subst hA
        obtain ⟨w, k3, k4⟩ := kr_lookup k2 _ h3
        exact ⟨a, _, dx, us, w, rfl, k1, D.c, hn, k3, q w as1 B1 H1 L1 R1 k4⟩
      · cases h2
    · cases h2)
/-- o.f = v -/
def fFst (C f : Str) (a v : Fe) : Fs := fun Γ M => (v Γ M).bind fun p => (a Γ p.2).bind fun q => match q.1 with
  | .loc n => match q.2[n]? with
    | some (.ins D fs) => if D = C ∧ fs.length < 1000 then some (.nx Γ, q.2.set n (.ins C (putS f p.1 fs))) else none
    | _ => none
  | _ => none
theorem zsfld (D : ClsD X.K C) (hn : NoAttr X.K D.a f) (ho : PEd X o fo) (hv : PEd X value fv) (hs : swapsWith value (some (.Attribute o f pos')) pos.line X.env = pure false := by rfl) : PSd X (.Assign [.Attribute o f pos'] value pos) (fFst C f fo fv) :=
  .of (ps_fld ho.pe hv.pe hs) (fun Γ M z M' h0 as B σ H R G D' q => by
    simp only [fFst, Option.bind_eq_some_iff] at h0
    obtain ⟨⟨s, M1⟩, h1, ⟨t, M2⟩, h2, h3⟩ := h0
    refine hv.j Γ M s M1 h1 as B σ H R G _ fun v as1 B1 H1 L1 R1 r1 => ?_
    refine ho.j Γ M1 t M2 h2 as1 B1 σ H1 R1 (G.mono L1) _ fun u as2 B2 H2 L2 R2 r2 => ?_
    split at h3
    · rename_i s' n e'
      rw [show t = _ from e'] at r2
      obtain ⟨a, ea, rfl⟩ := r2
      split at h3
      · rename_i C' fs em
        obtain ⟨⟨hc, hz⟩, h3⟩ := ite_some h3
        subst hc
        cases h3
        obtain ⟨A, dx, us, k0, k1, k2⟩ := R2.obj n a _ ea em
        have hA := k0.same D.at_
        subst hA
        obtain ⟨R3, L3⟩ := R2.put (o := .ins _ dx (putF f v us)) (mo' := .ins C' (putS f s fs)) ea em (fun z => nomatch z) ⟨_, dx, _, k0, upd_same, kr_putF (r1.mono L2) k2⟩
        exact ⟨a, _, dx, us, rfl, k1, D.c, hn, by rw [← k2.length]; exact hz, q as2 B2 _ ((L1.trans L2).trans L3) R3 _ ((G.mono L1).mono L2 |>.mono L3)⟩
      · cases h3
    · cases h3)
variable {k n : Nat} {fa : Addr} {fd : FuncData} {ps : List Str} {g : Fn} {m x : Str} {p apos : Pos} {es : List Expr} {ft : Fa} {ae : Expr}
/-- o.m(a, ..) -/
def fMet (C m : Str) (n : Nat) (g : Fn) (o : Fe) (t : Fa) : Fe := fun Γ M => (o Γ M).bind fun p => match p.1 with
  | .loc l => match p.2[l]? with
    | some (.ins D fs) => if D = C ∧ fs.lookup m = none then (t Γ p.2).bind fun q => arity n g (.loc l :: q.1) q.2 else none
    | _ => none
  | _ => none
theorem j_met (D : ClsD K C) {to_ : TE} {t : TA} (ho : J K (VR K) to_ fo) (ht : J K (RA K) t ft) : J K (VR K) (tMeth D.a m (spF K n g) [] E0 to_ t) (fMet C m n g fo ft) := fun Γ M z M' h0 as B σ H R G Q q => by
  simp only [fMet, arity, Option.bind_eq_some_iff] at h0
  obtain ⟨⟨s, M1⟩, h1, h2⟩ := h0
  refine ho Γ M s M1 h1 as B σ H R G _ fun v as1 B1 H1 L1 R1 r1 => ?_
  split at h2
  · rename_i s' l e'
    have r1' := r1
    rw [show s = _ from e'] at r1 r1'
    obtain ⟨a, ea, rfl⟩ := r1
    split at h2
    · rename_i C' fs em
      obtain ⟨⟨hc, hl⟩, h5⟩ := ite_opt h2
      clear h2
      subst hc
      simp only [Option.bind_eq_some_iff] at h5
      obtain ⟨⟨xs, M2⟩, h3, h4⟩ := h5
      obtain ⟨hn, h4⟩ := ite_opt h4
      obtain ⟨A, dx, us, k0, k1, k2⟩ := R1.obj l a _ ea em
      have hA := k0.same D.at_
      subst hA
      refine ⟨a, dx, us, rfl, k1, kr_lookup0 k2 hl, ?_⟩
      refine ht Γ M1 xs M2 h3 as1 B1 σ H1 R1 (G.mono L1) _ fun u as2 B2 H2 L2 R2 r2 => ?_
      have pp : Paired (VR K as2 B2) (.loc l :: xs) (.ref a :: (u ++ [])) := by
        rw [List.append_nil]
        exact .cons (r1'.mono L2) r2
      exact ⟨as2, B2, M2, .loc l :: xs, z, M', by rw [← Paired.length pp]; exact hn, h4, R2, pp, fun v as3 B3 H3 L3 R3 r3 => q v as3 B3 H3 ((L1.trans L2).trans L3) R3 r3⟩
    · cases h2
  · cases h2
theorem zmet {pl : Sem Bool} (D : ClsD X.K C) (hm : Meth X.K D.a m fa) (F : FnOk X.prog X.w X.K X.mg X.base CX0 k fa fd ps (spF X.K n g)) (hr : Room k X.A) (hb : Binds X.K fd ps []) (ho : PEd X o fo) (ha : PAd X (ae :: es) ft)
    (hst : starEach (ae :: es) X.env = (false, eval ae X.env) :: starEach es X.env := by rfl) (hpl : (backTo pos (starEach es X.env)).any (·.1) = false := by rfl)
    (ht : eval (.Call (.Attribute o m apos) (ae :: es) [] pos) X.env = (do let ov ← eval o X.env; standAt apos.atName; let (f, first) ← holding [ov] (getMethod ov m pl); callWith pos f first (backTo pos (starEach (ae :: es) X.env)) (backToKw pos (keywordEach [] X.env))) := by rfl) :
    PEd X (.Call (.Attribute o m apos) (ae :: es) [] pos) (fMet C m n g fo ft) := .of (pe_meth ho.pe D.c hm F hr hb .nil pass0 ha.pe hst hpl ht) (j_met D ho.j ha.j)
theorem zmet0 {pl : Sem Bool} (D : ClsD X.K C) (hm : Meth X.K D.a m fa) (F : FnOk X.prog X.w X.K X.mg X.base CX0 k fa fd ps (spF X.K n g)) (hr : Room k X.A) (hb : Binds X.K fd ps []) (ho : PEd X o fo)
    (ht : eval (.Call (.Attribute o m apos) [] [] pos) X.env = (do let ov ← eval o X.env; standAt apos.atName; let (f, first) ← holding [ov] (getMethod ov m pl); callWith pos f first (backTo pos (starEach [] X.env)) (backToKw pos (keywordEach [] X.env))) := by rfl) :
    PEd X (.Call (.Attribute o m apos) [] [] pos) (fMet C m n g fo fNil) := .of (pe_meth0 ho.pe D.c hm F hr hb .nil pass0 ht) (j_met D ho.j j_nil)
/-- C(a, ..): a new place -/
def fMake (C : Str) (n : Nat) (g : Fn) (t : Fa) : Fe := fun Γ M => (t Γ M).bind fun p => (arity n g (.loc p.2.length :: p.1) (p.2 ++ [.ins C []])).bind fun q => match q.1 with
  | .d .none => some (.loc p.2.length, q.2)
  | _ => none
theorem j_make (D : ClsD K C) {t : TA} (ht : J K (RA K) t ft) : J K (VR K) (tMake D.a (spF K n g) [] E0 t) (fMake C n g ft) := fun Γ M z M' h0 as B σ H R G Q q => by
  simp only [fMake, arity, Option.bind_eq_some_iff] at h0
  obtain ⟨⟨xs, M1⟩, h1, ⟨s, M2⟩, h2, h3⟩ := h0
  obtain ⟨hn, h2⟩ := ite_opt h2
  refine ht Γ M xs M1 h1 as B σ H R G _ fun u as1 B1 H1 L1 R1 r1 => ?_
  intro x dx hx hdx hne
  obtain ⟨R2, L2⟩ := R1.data (o := .own x) hdx
  have hx2 : upd H1 dx (.own x) x = none := by
    rw [upd_ne (Ne.symm hne)]
    exact hx
  obtain ⟨R3, L3⟩ := R2.newL (o := .ins D.a dx []) (mo := .ins C []) hx2 ⟨D.a, dx, [], D.at_, upd_same, .nil⟩
  have L := L2.trans L3
  have rx : VR K (as1 ++ [x]) (upd B1 dx (.own x)) (.loc M1.length) (.ref x) := ⟨x, by rw [← R1.len]; simp, rfl⟩
  have pp : Paired (VR K (as1 ++ [x]) (upd B1 dx (.own x))) (.loc M1.length :: xs) (.ref x :: (u ++ [])) := by
    rw [List.append_nil]
    exact .cons rx (VR.monos L r1)
  refine ⟨_, _, _, _, s, M2, by rw [← Paired.length pp]; exact hn, h2, R3, pp, fun v as4 B4 H4 L4 R4 r4 => ?_⟩
  split at h3
  · rename_i e'
    cases h3
    rw [show s = _ from e'] at r4
    exact ⟨vr_non r4, q _ as4 B4 H4 ((L1.trans L).trans L4) R4 (rx.mono L4)⟩
  · cases h3
theorem zmake (D : ClsD X.K C) (M : Mk X.K D.a fa) (F : FnOk X.prog X.w X.K X.mg X.base CX0 k fa fd ps (spF X.K n g)) (hr : Room (k + 1) X.A) (hg : Gl X C) (hm : X.mg C = some (.ref D.a)) (hb : Binds X.K fd ps []) (ha : PAd X (ae :: es) ft)
    (hdb : (C == ("__debug__" : Str)) = false := by decide) (he : starEach (ae :: es) X.env = (false, eval ae X.env) :: starEach es X.env := by rfl) (hpl : (backTo pos (starEach es X.env)).any (·.1) = false := by rfl) :
    PEd X (.Call (.Name C p) (ae :: es) [] pos) (fMake C n g ft) := .of (pe_make M F hr hg hm hb .nil pass0 ha.pe hdb he hpl) (j_make D ha.j)
end
end Z
/-! a method called by names; what is never reached -/
namespace Z
open PySem PySem.Spec PyProof.Rows L2
section
variable {X : Cx} {K : PySem.W.Frag} {C m : Str} {o : Expr} {pos apos : Pos} {fo : Fe} {k n : Nat} {fa : Addr} {fd : FuncData} {ps ks : List Str} {g : Fn} {kws : List Keyword} {ta : TE} {tk : TA} {ft : Fa}
def tMetK (C : Addr) (m : Str) (sp : Sp) (gV : List V → List V → List V) (E : XK) (ta : TE) (tk : TA) : TE := fun σ H Q => ta σ H fun x H1 => ∃ a dx fs, x = .ref a ∧ H1 a = some (.ins C dx fs) ∧ fs.lookup m = none ∧ tk σ H1 fun zs H2 => sp (gV [x] zs) H2 Q E
/-- o.m(k = v, ..) -/
theorem pe_metK {CX : CXT} {sp : Sp} {E : XK} {A : Addr} {gg : List Value → List Value → List Value} {gV : List V → List V → List V} {pl : Sem Bool} (ho : PE X o ta) (c : Cls X.K A) (hm : Meth X.K A m fa) (F : FnOk X.prog X.w X.K X.mg X.base CX k fa fd ps sp) (hr : Room k X.A)
    (hb : KBinds X.K fd ps ks gg gV) (hx : Passes CX X E) (hkw : PK X kws tk) (hall : (backToKw pos (keywordEach kws X.env)).all (·.1.isSome) = true := by rfl) (hks : (backToKw pos (keywordEach kws X.env)).filterMap (·.1) = ks := by rfl)
    (hpl : ((backTo pos (starEach [] X.env)).any (·.1) || (backToKw pos (keywordEach kws X.env)).any (·.1.isNone)) = false := by rfl)
    (ht : eval (.Call (.Attribute o m apos) [] kws pos) X.env = (do let ov ← eval o X.env; standAt apos.atName; let (f, first) ← holding [ov] (getMethod ov m pl); callWith pos f first (backTo pos (starEach [] X.env)) (backToKw pos (keywordEach kws X.env))) := by rfl) :
    PE X (.Call (.Attribute o m apos) [] kws pos) (tMetK A m sp gV E ta tk) := ⟨fun pins s σ H Q I h => by
  refine PySem.W.methodCall_KW (pl := pl) (thn (ho.run pins s σ H _ I h) fun u s1 w => ?_) ht
  obtain ⟨x, H1, I1, rx, a, dx, fs, rfl, ea, l, q⟩ := w
  obtain rfl : u = Value.ref a := rx
  refine getmeth_ok I1 ea c hm l ?_
  refine PySem.W.callWith_KW0 (first := [.ref a]) (h₀ := X.base) I.ok.mod.kin hm.kp hall (thn (hkw.run pos pins s1 σ H1 _ I1 q) fun ws s2 w2 => ?_) hpl
  obtain ⟨zs, H2, I2, rz, q2⟩ := w2
  refine ⟨I2.kIn, ?_⟩
  rw [hks, List.append_nil]
  exact run_fnk (us := [.ref a]) (vs := [.ref a]) F hr hb hx I2 (.cons rfl .nil) rz q2⟩
def fMetK (C m : Str) (n : Nat) (perm : List Nat) (g : Fn) (o : Fe) (t : Fa) : Fe := fun Γ M => (o Γ M).bind fun p => match p.1 with
  | .loc l => match p.2[l]? with
    | some (.ins D fs) => if D = C ∧ fs.lookup m = none then (t Γ p.2).bind fun q => arity n g (gpm 1 perm [.loc l] q.1) q.2 else none
    | _ => none
  | _ => none
theorem j_metK {perm : List Nat} (D : ClsD K C) {to_ : TE} {t : TA} (ho : J K (VR K) to_ fo) (ht : J K (RA K) t ft) : J K (VR K) (tMetK D.a m (spF K n g) (gpm 1 perm) E0 to_ t) (fMetK C m n perm g fo ft) := fun Γ M z M' h0 as B σ H R G Q q => by
  simp only [fMetK, arity, Option.bind_eq_some_iff] at h0
  obtain ⟨⟨s, M1⟩, h1, h2⟩ := h0
  refine ho Γ M s M1 h1 as B σ H R G _ fun v as1 B1 H1 L1 R1 r1 => ?_
  split at h2
  · rename_i s' l e'
    have r1' := r1
    rw [show s = _ from e'] at r1 r1'
    obtain ⟨a, ea, rfl⟩ := r1
    split at h2
    · rename_i C' fs em
      obtain ⟨⟨hc, hl⟩, h5⟩ := ite_opt h2
      clear h2
      subst hc
      simp only [Option.bind_eq_some_iff] at h5
      obtain ⟨⟨xs, M2⟩, h3, h4⟩ := h5
      obtain ⟨hn, h4⟩ := ite_opt h4
      obtain ⟨A, dx, us, k0, k1, k2⟩ := R1.obj l a _ ea em
      have hA := k0.same D.at_
      subst hA
      refine ⟨a, dx, us, rfl, k1, kr_lookup0 k2 hl, ?_⟩
      refine ht Γ M1 xs M2 h3 as1 B1 σ H1 R1 (G.mono L1) _ fun u as2 B2 H2 L2 R2 r2 => ?_
      have pp : Paired (VR K as2 B2) (gpm 1 perm [.loc l] xs) (gpm 1 perm [.ref a] u) := Paired.gpm (.cons (r1'.mono L2) .nil) r2
      exact ⟨as2, B2, M2, _, z, M', by rw [← Paired.length pp]; exact hn, h4, R2, pp, fun v as3 B3 H3 L3 R3 r3 => q v as3 B3 H3 ((L1.trans L2).trans L3) R3 r3⟩
    · cases h2
  · cases h2
theorem zmetK {pl : Sem Bool} {perm : List Nat} {gg : List Value → List Value → List Value} (D : ClsD X.K C) (hm : Meth X.K D.a m fa) (F : FnOk X.prog X.w X.K X.mg X.base CX0 k fa fd ps (spF X.K n g)) (hr : Room k X.A) (hb : KBinds X.K fd ps ks gg (gpm 1 perm)) (ho : PEd X o fo) (hkw : PKd X kws ft)
    (hall : (backToKw pos (keywordEach kws X.env)).all (·.1.isSome) = true := by rfl) (hks : (backToKw pos (keywordEach kws X.env)).filterMap (·.1) = ks := by rfl)
    (hpl : ((backTo pos (starEach [] X.env)).any (·.1) || (backToKw pos (keywordEach kws X.env)).any (·.1.isNone)) = false := by rfl)
    (ht : eval (.Call (.Attribute o m apos) [] kws pos) X.env = (do let ov ← eval o X.env; standAt apos.atName; let (f, first) ← holding [ov] (getMethod ov m pl); callWith pos f first (backTo pos (starEach [] X.env)) (backToKw pos (keywordEach kws X.env))) := by rfl) :
    PEd X (.Call (.Attribute o m apos) [] kws pos) (fMetK C m n perm g fo ft) := .of (pe_metK ho.pe D.c hm F hr hb pass0 hkw.pe hall hks hpl ht) (j_metK D ho.j hkw.j)
/-! what is never reached needs no reading -/
def fNone : Fe := fun _ _ => none
theorem zenone {e : Expr} : PEd X e fNone := ⟨⟨fun pins s σ H Q I h => by
  obtain ⟨Γ, M, x, M', as, B, e, _⟩ := h
  cases e⟩⟩
def fStop : Fs := fun _ _ => none
theorem zsstop {st : Stmt} : PSd X st fStop := ⟨⟨fun pins s σ H D I h => by
  obtain ⟨Γ, M, o, M', as, B, e, _⟩ := h
  cases e⟩⟩
end
/-- a method of the text -/
structure Dm (K : PySem.W.Frag) (A : Addr) (m qual : Str) (st : Stmt) (ps : List Str) where
  a : Addr
  fd : FuncData
  F : Fun K m qual st a fd
  m : Meth K A m a
  b : Binds K fd ps []
end Z
/-! sorted of a list of ints -/
namespace Z
open PySem PySem.Spec PyProof.Rows L2
def intsOf : List PyData → Option (List Int)
  | [] => some []
  | .int i :: r => (intsOf r).map fun ns => i :: ns
  | _ => none
theorem intsOf_ok : ∀ {ds : List PyData} {ns : List Int}, intsOf ds = some ns → ds = ns.map .int
  | [], ns, h => by cases h; rfl
  | .int i :: r, ns, h => by
    simp only [intsOf, Option.map_eq_some_iff] at h
    obtain ⟨ms, h1, rfl⟩ := h
    rw [intsOf_ok h1]
    rfl
theorem intsOf_map : ∀ ns : List Int, intsOf (ns.map .int) = some ns
  | [] => rfl
  | i :: r => by
    show (intsOf (r.map .int)).map (fun ns => i :: ns) = _
    rw [intsOf_map r]
    rfl
theorem drs_ints {K : PySem.W.Frag} {B : Hp} : ∀ {ns : List Int} {vs : List V}, Paired (DR K B) (ns.map .int) vs → vs = ns.map V.int
  | [], _, .nil => rfl
  | i :: r, _, .cons p q => by
    rw [drs_ints q]
    cases p
    rfl
theorem ints_drs {K : PySem.W.Frag} {B : Hp} : ∀ ns : List Int, Paired (DR K B) (ns.map .int) (ns.map V.int)
  | [] => .nil
  | i :: r => .cons (.int i) (ints_drs r)
/-- the numbers in order -/
def srt (ns : List Int) : List Int := ns.mergeSort (fun a b => decide (a ≤ b))
theorem srt_perm (ns : List Int) : (srt ns).Perm ns := List.mergeSort_perm ns _
theorem srt_le (ns : List Int) : (srt ns).Pairwise (· ≤ ·) := by
  have h := List.pairwise_mergeSort (le := fun a b : Int => decide (a ≤ b)) (fun a b c h1 h2 => by simp only [decide_eq_true_eq] at *; omega) (fun a b => by simp only [Bool.or_eq_true, decide_eq_true_eq]; omega) ns
  exact h.imp fun h => by simpa using h
theorem srt_only {ns ms : List Int} (p : ms.Perm ns) (h : ms.Pairwise (· ≤ ·)) : ms = srt ns :=
  List.Perm.eq_of_pairwise (le := (· ≤ ·)) (fun a b _ _ h1 h2 => Int.le_antisymm h1 h2) h (srt_le ns) (p.trans (srt_perm ns).symm)
section
variable {K : PySem.W.Frag}
def gSrt : List SV → Mem → Option (SV × Mem)
  | [s], M => (lstOf M s).bind fun xs => (allD xs).bind fun ds => (intsOf ds).map fun ns => (.d (.list ((srt ns).map .int)), M)
  | _, _ => none
theorem g_srt : GA K (rSortedI K) gSrt := fun x M z M' h as B H R u rx Q q => by
  unfold gSrt at h
  split at h
  · simp only [Option.bind_eq_some_iff, Option.map_eq_some_iff] at h
    obtain ⟨xs, h0, ds, h1, ns, h2, h3⟩ := h
    cases h3
    obtain ⟨y, rfl, r⟩ := pr1 rx
    obtain ⟨a, vs, rfl, r', p⟩ := lstOf_ok R r h0
    have pp : Paired (DR K B) ds vs := drs_of (as := as) (by rw [← allD_some h1]; exact p)
    rw [intsOf_ok h2] at pp
    rw [drs_ints pp] at r'
    refine ⟨a, ns, rfl, .inl r', fun ns' t hp hs ht => ?_⟩
    rw [srt_only hp hs]
    obtain ⟨B', R', L', w⟩ := R.lstD ht (ints_drs (srt ns))
    exact q _ as B' _ L' R' w
  · cases h
theorem bb_sorted : bootBuiltins ("sorted" : Str) = some (.builtin "sorted") := by decide +kernel
end
end Z
/-! a comprehension of two clauses -/
namespace Z
open PySem PySem.Spec PyProof.Rows L2
section
variable {K : PySem.W.Frag} {as as1 : List Addr} {B B1 H : Hp} {M : Mem} {D : Addr}
theorem VR.la {s : SV} {v : V} (x : La as B as1 B1) (h : VR K as B s v) : VR K as1 B1 s v := by
  cases s with
  | d y => exact DR.mono x.ex _ _ h
  | loc n =>
    obtain ⟨a, e, rfl⟩ := h
    exact ⟨a, x.at e, rfl⟩
theorem GR.la {Γ : Gm} {σ : L2.St} (x : La as B as1 B1) (h : GR K as B Γ σ) : GR K as1 B1 Γ σ := L2.Paired.mapP h fun _ _ k s e => by
  obtain ⟨v, h1, h2⟩ := k s e
  exact ⟨v, h1, h2.la x⟩
theorem lcF_in {J : It} {g : TG} {fg : Fg} {tt : TT} {ft : Ft} {te : TE} {fe : Fe} {vs : List Nat} {kp : Option Nat} {all : List SV} (hg : Gwd K vs g fg) (ht : Z.J K RB tt ft) (he : Z.J K (VR K) te fe)
    {Γ : Gm} {acc ys : List SV} {M' : Mem} (h : lcF kp all vs fg ft fe all acc Γ M = some (ys, M'))
    {σ : L2.St} {as0 : List Addr} {B0 H0 : Hp} (L0 : Lat as0 B0 H0 as B H) (R : Rel K as B M H) (G : GR K as B Γ σ) (w : Wks K J as B H kp all) {us : List V} (hd : H D = some (.lst us)) (hD0 : H0 D = none) (p : Paired (VR K as B) acc us) (BD : B D = none) (aD : D ∉ as) {Nx : Hp → Prop}
    (q : ∀ (as' : List Addr) (B' H' : Hp) (us' : List V), Lat as0 B0 H0 as' B' H' → Rel K as' B' M' H' → H' D = some (.lst us') → Paired (VR K as' B') ys us' → B' D = none → D ∉ as' → Nx H') :
    ∃ W : Nat → Nat → Hp → Prop, (∃ m, W 0 m H) ∧ ∀ i m H, W i m H →
      (J.stop i H ∧ Nx H) ∨ (J.go i H ∧ ∃ Nx1 : Hp → Prop, (∀ H', Nx1 H' → ∃ m', m' < m ∧ W (i + 1) m' H') ∧ ∀ x H', J.yld i H x H' → g x (wipe σ vs) H' fun σ2 H2 => wipe σ2 vs = wipe σ vs ∧ tt σ2 H2 fun b H3 =>
        if b = true then te σ2 H3 fun y H4 => ∃ acc, H4 D = some (.lst acc) ∧ acc.length < sizeLine ∧ Nx1 (upd H4 D (.lst (acc ++ [y]))) else Nx1 H3) := by
  refine ⟨fun i m H' => m = all.length - i ∧ i ≤ all.length ∧ ∃ acc us M1 as' B', lcF kp all vs fg ft fe (all.drop i) acc Γ M1 = some (ys, M') ∧ Lat as0 B0 H0 as' B' H' ∧ La as B as' B' ∧ Rel K as' B' M1 H' ∧ H' D = some (.lst us) ∧ Paired (VR K as' B') acc us ∧ B' D = none ∧ D ∉ as',
    ⟨all.length, by omega, Nat.zero_le _, acc, us, M, as, B, h, L0, ⟨List.prefix_refl _, Same.refl _⟩, R, hd, p, BD, aD⟩, ?_⟩
  rintro i m H1 ⟨rfl, hi, acc, us, M1, as1, B1, h1, L1, La1, R1, hd1, p1, b1, a1⟩
  by_cases hlt : i < all.length
  · have e1 : all.drop i = all[i] :: all.drop (i + 1) := List.drop_eq_getElem_cons hlt
    rw [e1] at h1
    simp only [lcF] at h1
    obtain ⟨hk, h1⟩ := ite_opt h1
    simp only [Option.bind_eq_some_iff] at h1
    obtain ⟨⟨Γ2, M2⟩, h2, ⟨b, M3⟩, h3, h4⟩ := h1
    refine .inr ⟨w.go i as1 B1 H1 M1 La1 R1 hk hlt, fun H' => ∃ acc us M1 as' B', lcF kp all vs fg ft fe (all.drop (i + 1)) acc Γ M1 = some (ys, M') ∧ Lat as0 B0 H0 as' B' H' ∧ La as B as' B' ∧ Rel K as' B' M1 H' ∧ H' D = some (.lst us) ∧ Paired (VR K as' B') acc us ∧ B' D = none ∧ D ∉ as',
      fun H' p => ⟨all.length - (i + 1), by omega, rfl, hlt, p⟩, fun v H2 y => ?_⟩
    obtain ⟨B2, L2, R2, r2⟩ := w.yld i as1 B1 H1 M1 v H2 all[i] La1 R1 hk (List.getElem?_eq_getElem hlt) y
    have hd1' : H1 D ≠ none := by rw [hd1]; exact fun z => nomatch z
    obtain ⟨b2, a2⟩ := L2.keepB hd1' a1 b1
    have hd2 : H2 D = some (.lst us) := L2.fr D _ hd1 a1
    refine hg _ (wipeG Γ vs) M1 Γ2 M2 h2 as1 B2 (wipe σ vs) H2 v R2 (((GR.la La1 G).mono L2).wipe vs) r2 _ fun σ3 e3 G3 w3 => ⟨w3.trans wipe_wipe, ?_⟩
    subst e3
    refine ht Γ2 M2 b M3 h3 as1 B2 σ3 H2 R2 G3 _ fun b' as3 B3 H3 L3 R3 r3 => ?_
    cases (show b = b' from r3)
    have hd2' : H2 D ≠ none := by rw [hd2]; exact fun z => nomatch z
    obtain ⟨b3, a3⟩ := L3.keepB hd2' a2 b2
    have hd3 : H3 D = some (.lst us) := L3.fr D _ hd2 a2
    have L := (L1.trans L2).trans L3
    have La3 := (La1.trans L2.la).trans L3.la
    cases b with
    | false => exact ⟨acc, us, M3, as3, B3, h4, L, La3, R3, hd3, VR.monos L3 (VR.monos L2 p1), b3, a3⟩
    | true =>
      simp only [if_true, Option.bind_eq_some_iff] at h4
      obtain ⟨⟨y, M4⟩, h4, h5⟩ := h4
      obtain ⟨hz, h5⟩ := ite_opt h5
      refine he Γ2 M3 y M4 h4 as3 B3 σ3 H3 R3 (G3.mono L3) _ fun yv as4 B4 H4 L4 R4 r4 => ?_
      have hd3' : H3 D ≠ none := by rw [hd3]; exact fun z => nomatch z
      obtain ⟨b4, a4⟩ := L4.keepB hd3' a3 b3
      have hd4 : H4 D = some (.lst us) := L4.fr D _ hd3 a3
      have p4 := VR.monos L4 (VR.monos L3 (VR.monos L2 p1))
      exact ⟨us, hd4, by rw [← Paired.length p4]; exact hz, acc ++ [y], us ++ [yv], M4, as4, B4, h5, (L.trans L4).outside hD0, La3.trans L4.la, R4.outside a4 b4, upd_same, Z.Paired.app p4 (.cons r4 .nil), b4, a4⟩
  · have e : i = all.length := by omega
    subst e
    rw [List.drop_length] at h1
    simp only [lcF] at h1
    obtain ⟨hk, h1⟩ := ite_some h1
    cases h1
    exact .inl ⟨w.stop as1 B1 H1 _ La1 R1 hk, q as1 B1 H1 us L1 R1 hd1 p1 b1 a1⟩
end
/-- the new list's items, of two clauses -/
noncomputable def lc2F (kp : Option Nat) (all : List SV) (vs : List Nat) (g : Fg) (tt : Ft) (src1 : Fi) (vs1 : List Nat) (g1 : Fg) (tt1 : Ft) (te : Fe) : List SV → List SV → Gm → Mem → Option (List SV × Mem)
  | [], acc, _, M => if kept kp all M then some (acc, M) else none
  | x :: r, acc, Γ, M => if kept kp all M then
      (g x (wipeG Γ vs) M).bind fun p => (tt p.1 p.2).bind fun b => if b.1 = true then
        (src1 p.1 b.2).bind fun s => (lcF s.1.2 s.1.1 vs1 g1 tt1 te s.1.1 acc p.1 s.2).bind fun y => lc2F kp all vs g tt src1 vs1 g1 tt1 te r y.1 Γ y.2
        else lc2F kp all vs g tt src1 vs1 g1 tt1 te r acc Γ b.2
    else none
noncomputable def fLc2 (src : Fi) (vs : List Nat) (g : Fg) (tt : Ft) (src1 : Fi) (vs1 : List Nat) (g1 : Fg) (tt1 : Ft) (te : Fe) : Fe := fun Γ M => (src Γ M).bind fun p => (lc2F p.1.2 p.1.1 vs g tt src1 vs1 g1 tt1 te p.1.1 [] Γ p.2).bind fun q => (allD q.1).map fun ds => (.d (.list ds), q.2)
noncomputable def fLc2M (src : Fi) (vs : List Nat) (g : Fg) (tt : Ft) (src1 : Fi) (vs1 : List Nat) (g1 : Fg) (tt1 : Ft) (te : Fe) : Fe := fun Γ M => (src Γ M).bind fun p => (lc2F p.1.2 p.1.1 vs g tt src1 vs1 g1 tt1 te p.1.1 [] Γ p.2).map fun q => (.loc q.2.length, q.2 ++ [.lst q.1])
section
variable {X : Cx} {K : PySem.W.Frag} {as as1 : List Addr} {B B1 H H1 : Hp} {M : Mem} {D : Addr} {o : HO}
theorem lc2F_ok {J : It} {g g1 : TG} {fg fg1 : Fg} {tt tt1 : TT} {ft ft1 : Ft} {wi1 : TI} {fi1 : Fi} {te : TE} {fe : Fe} {vs vs1 : List Nat} {kp : Option Nat} {all : List SV} (hg : Gwd K vs g fg) (ht : Z.J K RB tt ft) (hi1 : Id_ K wi1 fi1) (hg1 : Gwd K vs1 g1 fg1) (ht1 : Z.J K RB tt1 ft1) (he : Z.J K (VR K) te fe) {Γ : Gm} {M : Mem} {ys : List SV} {M' : Mem}
    (h : lc2F kp all vs fg ft fi1 vs1 fg1 ft1 fe all [] Γ M = some (ys, M'))
    {σ : L2.St} (R : Rel K as B M H) (G : GR K as B Γ σ) (w : Wks K J as B H kp all) (hD : H D = none) {Q : VK}
    (q : ∀ (as' : List Addr) (B' H' : Hp) (us : List V), Lat as B H as' B' H' → Rel K as' B' M' H' → H' D = some (.lst us) → Paired (VR K as' B') ys us → B' D = none → D ∉ as' → Q (.ref D) H') :
    ∃ W : Nat → Nat → Hp → Prop, (∃ m, W 0 m (upd H D (.lst []))) ∧ ∀ i m H, W i m H →
      (J.stop i H ∧ Q (.ref D) H) ∨ (J.go i H ∧ ∃ Nx : Hp → Prop, (∀ H', Nx H' → ∃ m', m' < m ∧ W (i + 1) m' H') ∧ ∀ x H', J.yld i H x H' → g x (wipe σ vs) H' fun σ2 H2 => wipe σ2 vs = wipe σ vs ∧ tt σ2 H2 fun b H3 =>
        if b = true then wi1 σ2 H3 fun J1 H4 => ∃ W1 : Nat → Nat → Hp → Prop, (∃ m, W1 0 m H4) ∧ ∀ j k H, W1 j k H →
          (J1.stop j H ∧ Nx H) ∨ (J1.go j H ∧ ∃ Nx1 : Hp → Prop, (∀ H', Nx1 H' → ∃ k', k' < k ∧ W1 (j + 1) k' H') ∧ ∀ x H', J1.yld j H x H' → g1 x (wipe σ2 vs1) H' fun σ3 H5 => wipe σ3 vs1 = wipe σ2 vs1 ∧ tt1 σ3 H5 fun b H6 =>
            if b = true then te σ3 H6 fun y H7 => ∃ acc, H7 D = some (.lst acc) ∧ acc.length < sizeLine ∧ Nx1 (upd H7 D (.lst (acc ++ [y]))) else Nx1 H6)
        else Nx H3) := by
  have BD : B D = none := R.ex.free hD
  have aD : D ∉ as := fun m => R.all D m hD
  refine ⟨fun i m H' => m = all.length - i ∧ i ≤ all.length ∧ ∃ acc us M1 as' B', lc2F kp all vs fg ft fi1 vs1 fg1 ft1 fe (all.drop i) acc Γ M1 = some (ys, M') ∧ Lat as B H as' B' H' ∧ Rel K as' B' M1 H' ∧ H' D = some (.lst us) ∧ Paired (VR K as' B') acc us ∧ B' D = none ∧ D ∉ as',
    ⟨all.length, by omega, Nat.zero_le _, [], [], M, as, B, h, (Lat.refl as B H).outside hD, R.outside aD BD, upd_same, .nil, BD, aD⟩, ?_⟩
  rintro i m H1 ⟨rfl, hi, acc, us, M1, as1, B1, h1, L1, R1, hd1, p1, b1, a1⟩
  by_cases hlt : i < all.length
  · have e1 : all.drop i = all[i] :: all.drop (i + 1) := List.drop_eq_getElem_cons hlt
    rw [e1] at h1
    simp only [lc2F] at h1
    obtain ⟨hk, h1⟩ := ite_opt h1
    simp only [Option.bind_eq_some_iff] at h1
    obtain ⟨⟨Γ2, M2⟩, h2, ⟨b, M3⟩, h3, h4⟩ := h1
    refine .inr ⟨w.go i as1 B1 H1 M1 L1.la R1 hk hlt, fun H' => ∃ acc us M1 as' B', lc2F kp all vs fg ft fi1 vs1 fg1 ft1 fe (all.drop (i + 1)) acc Γ M1 = some (ys, M') ∧ Lat as B H as' B' H' ∧ Rel K as' B' M1 H' ∧ H' D = some (.lst us) ∧ Paired (VR K as' B') acc us ∧ B' D = none ∧ D ∉ as',
      fun H' p => ⟨all.length - (i + 1), by omega, rfl, hlt, p⟩, fun v H2 y => ?_⟩
    obtain ⟨B2, L2, R2, r2⟩ := w.yld i as1 B1 H1 M1 v H2 all[i] L1.la R1 hk (List.getElem?_eq_getElem hlt) y
    have hd1' : H1 D ≠ none := by rw [hd1]; exact fun z => nomatch z
    obtain ⟨b2, a2⟩ := L2.keepB hd1' a1 b1
    have hd2 : H2 D = some (.lst us) := L2.fr D _ hd1 a1
    refine hg _ (wipeG Γ vs) M1 Γ2 M2 h2 as1 B2 (wipe σ vs) H2 v R2 (((G.mono L1).mono L2).wipe vs) r2 _ fun σ3 e3 G3 w3 => ⟨w3.trans wipe_wipe, ?_⟩
    subst e3
    refine ht Γ2 M2 b M3 h3 as1 B2 σ3 H2 R2 G3 _ fun b' as3 B3 H3 L3 R3 r3 => ?_
    cases (show b = b' from r3)
    have hd2' : H2 D ≠ none := by rw [hd2]; exact fun z => nomatch z
    obtain ⟨b3, a3⟩ := L3.keepB hd2' a2 b2
    have hd3 : H3 D = some (.lst us) := L3.fr D _ hd2 a2
    have L := (L1.trans L2).trans L3
    cases b with
    | false => exact ⟨acc, us, M3, as3, B3, h4, L, R3, hd3, VR.monos L3 (VR.monos L2 p1), b3, a3⟩
    | true =>
      simp only [if_true, Option.bind_eq_some_iff] at h4
      obtain ⟨⟨⟨xs1, kp1⟩, M4⟩, h4, ⟨zs, M5⟩, h5, h6⟩ := h4
      refine hi1 Γ2 M3 xs1 kp1 M4 h4 as3 B3 σ3 H3 R3 (G3.mono L3) _ fun J1 as4 B4 H4 L4 R4 w4 => ?_
      have hd3' : H3 D ≠ none := by rw [hd3]; exact fun z => nomatch z
      obtain ⟨b4, a4⟩ := L4.keepB hd3' a3 b3
      have hd4 : H4 D = some (.lst us) := L4.fr D _ hd3 a3
      have p4 := VR.monos L4 (VR.monos L3 (VR.monos L2 p1))
      exact lcF_in hg1 ht1 he h5 (L.trans L4) R4 ((G3.mono L3).mono L4) w4 hd4 hD p4 b4 a4 fun as5 B5 H5 us5 L5 R5 hd5 p5 b5 a5 => ⟨zs, us5, M5, as5, B5, h6, L5, R5, hd5, p5, b5, a5⟩
  · have e : i = all.length := by omega
    subst e
    rw [List.drop_length] at h1
    simp only [lc2F] at h1
    obtain ⟨hk, h1⟩ := ite_some h1
    cases h1
    exact .inl ⟨w.stop as1 B1 H1 _ L1.la R1 hk, q as1 B1 H1 us L1 R1 hd1 p1 b1 a1⟩
theorem j_lc2 {wi wi1 : TI} {fi fi1 : Fi} {g g1 : TG} {fg fg1 : Fg} {tt tt1 : TT} {ft ft1 : Ft} {te : TE} {fe : Fe} {vs vs1 : List Nat} (hi : Id_ K wi fi) (hg : Gwd K vs g fg) (ht : Z.J K RB tt ft) (hi1 : Id_ K wi1 fi1) (hg1 : Gwd K vs1 g1 fg1) (ht1 : Z.J K RB tt1 ft1) (he : Z.J K (VR K) te fe) : Z.J K (VR K) (tLc2 wi g tt wi1 g1 tt1 te vs vs1) (fLc2 fi vs fg ft fi1 vs1 fg1 ft1 fe) := fun Γ M z M' h as B σ H R G Q q => by
  simp only [fLc2, Option.bind_eq_some_iff, Option.map_eq_some_iff] at h
  obtain ⟨⟨⟨xs, kp⟩, M1⟩, h1, ⟨ys, M2⟩, h2, ds, h3, h4⟩ := h
  cases h4
  refine hi Γ M xs kp M1 h1 as B σ H R G _ fun J as1 B1 H1 L1 R1 w D hD => ?_
  refine lc2F_ok hg ht hi1 hg1 ht1 he h2 R1 (G.mono L1) w hD fun as2 B2 H2 us L2 R2 hd p b2 a2 => ?_
  have pp : Paired (DR K B2) ds us := drs_of (as := as2) (by rw [← allD_some h3]; exact p)
  obtain ⟨R3, sB, w3⟩ := R2.freeze hd b2 a2 pp
  refine q _ as2 _ H2 (L1.trans ⟨L2.pre, L2.ex.trans sB, L2.fr, L2.new, fun a k => ?_⟩) R3 w3
  by_cases e : a = D
  · rw [e]
    exact .inr (.inl hD)
  · rw [upd_ne e] at k
    exact L2.nb a k
theorem j_lc2M {wi wi1 : TI} {fi fi1 : Fi} {g g1 : TG} {fg fg1 : Fg} {tt tt1 : TT} {ft ft1 : Ft} {te : TE} {fe : Fe} {vs vs1 : List Nat} (hi : Id_ K wi fi) (hg : Gwd K vs g fg) (ht : Z.J K RB tt ft) (hi1 : Id_ K wi1 fi1) (hg1 : Gwd K vs1 g1 fg1) (ht1 : Z.J K RB tt1 ft1) (he : Z.J K (VR K) te fe) : Z.J K (VR K) (tLc2 wi g tt wi1 g1 tt1 te vs vs1) (fLc2M fi vs fg ft fi1 vs1 fg1 ft1 fe) := fun Γ M z M' h as B σ H R G Q q => by
  simp only [fLc2M, Option.bind_eq_some_iff, Option.map_eq_some_iff] at h
  obtain ⟨⟨⟨xs, kp⟩, M1⟩, h1, ⟨ys, M2⟩, h2, h4⟩ := h
  cases h4
  refine hi Γ M xs kp M1 h1 as B σ H R G _ fun J as1 B1 H1 L1 R1 w D hD => ?_
  refine lc2F_ok hg ht hi1 hg1 ht1 he h2 R1 (G.mono L1) w hD fun as2 B2 H2 us L2 R2 hd p b2 a2 => ?_
  refine q _ (as2 ++ [D]) B2 H2 (L1.trans ⟨L2.pre.trans (List.prefix_append _ _), L2.ex, L2.fr, fun a m n => ?_, L2.nb⟩) (R2.own hd b2 a2 p) ⟨D, ?_, rfl⟩
  · rcases List.mem_append.mp m with k | k
    · exact L2.new a k n
    · rw [List.mem_singleton.mp k]
      exact hD
  · rw [← R2.len, List.getElem?_append_right (Nat.le_refl _), Nat.sub_self]
    rfl
variable {elt tg iter tg1 iter1 : Expr} {ifs ifs1 : List Expr} {scope : Scope} {own : List (Str × Nat)} {vs1 : List Nat} {pos : Pos} {fi fi1 : Fi} {fg fg1 : Fg} {ft ft1 : Ft} {fe : Fe}
theorem zlc2 (hc : X.calm = true) (hN : X.N.Nodup) (hi : PId X tg iter fi) (ok : BlkOk X.N X.env.scope scope own) (hv : ∀ i ∈ vs1, i ∈ own.map (·.2))
    (hg : ∀ (s : Shared) (H : Hp) (C : Addr) (cl : List (Str × Addr)) (fp : List Addr), PGwd (X.blk s H scope (compEnvC scope cl C X.env) fp) (own.map (·.2)) tg fg) (ht : ∀ (s : Shared) (H : Hp) (C : Addr) (cl : List (Str × Addr)) (fp : List Addr), PTsd (X.blk s H scope (compEnvC scope cl C X.env) fp) ifs ft)
    (hi1 : ∀ (s : Shared) (H : Hp) (C : Addr) (cl : List (Str × Addr)) (fp : List Addr), PId (X.blk s H scope (compEnvC scope cl C X.env) fp) tg1 iter1 fi1)
    (hg1 : ∀ (s : Shared) (H : Hp) (C : Addr) (cl : List (Str × Addr)) (fp : List Addr), PGwd (X.blk s H scope (compEnvC scope cl C X.env) fp) vs1 tg1 fg1) (ht1 : ∀ (s : Shared) (H : Hp) (C : Addr) (cl : List (Str × Addr)) (fp : List Addr), PTsd (X.blk s H scope (compEnvC scope cl C X.env) fp) ifs1 ft1)
    (he : ∀ (s : Shared) (H : Hp) (C : Addr) (cl : List (Str × Addr)) (fp : List Addr), PEd (X.blk s H scope (compEnvC scope cl C X.env) fp) elt fe) (hs : ∀ x, foldedSetIterable iter X.env x = pure x := by intro _; rfl) (hs1 : ∀ env x, foldedSetIterable iter1 env x = pure x := by intro _ _; rfl) :
    PEd X (.ListComp elt [⟨tg, iter, ifs, 0⟩, ⟨tg1, iter1, ifs1, 0⟩] scope pos) (fLc2 fi (own.map (·.2)) fg ft fi1 vs1 fg1 ft1 fe) :=
  .of (pe_lc2 hc hN hi.pe ok hv (fun s H C cl fp => (hg s H C cl fp).pe) (fun s H C cl fp => (ht s H C cl fp).pe) (fun s H C cl fp => (hi1 s H C cl fp).pe) (fun s H C cl fp => (hg1 s H C cl fp).pe) (fun s H C cl fp => (ht1 s H C cl fp).pe) (fun s H C cl fp => (he s H C cl fp).pe) hs hs1)
    (j_lc2 hi.j (hg X.s_0 X.H_0 0 [] []).j (ht X.s_0 X.H_0 0 [] []).j (hi1 X.s_0 X.H_0 0 [] []).j (hg1 X.s_0 X.H_0 0 [] []).j (ht1 X.s_0 X.H_0 0 [] []).j (he X.s_0 X.H_0 0 [] []).j)
theorem zlc2M (hc : X.calm = true) (hN : X.N.Nodup) (hi : PId X tg iter fi) (ok : BlkOk X.N X.env.scope scope own) (hv : ∀ i ∈ vs1, i ∈ own.map (·.2))
    (hg : ∀ (s : Shared) (H : Hp) (C : Addr) (cl : List (Str × Addr)) (fp : List Addr), PGwd (X.blk s H scope (compEnvC scope cl C X.env) fp) (own.map (·.2)) tg fg) (ht : ∀ (s : Shared) (H : Hp) (C : Addr) (cl : List (Str × Addr)) (fp : List Addr), PTsd (X.blk s H scope (compEnvC scope cl C X.env) fp) ifs ft)
    (hi1 : ∀ (s : Shared) (H : Hp) (C : Addr) (cl : List (Str × Addr)) (fp : List Addr), PId (X.blk s H scope (compEnvC scope cl C X.env) fp) tg1 iter1 fi1)
    (hg1 : ∀ (s : Shared) (H : Hp) (C : Addr) (cl : List (Str × Addr)) (fp : List Addr), PGwd (X.blk s H scope (compEnvC scope cl C X.env) fp) vs1 tg1 fg1) (ht1 : ∀ (s : Shared) (H : Hp) (C : Addr) (cl : List (Str × Addr)) (fp : List Addr), PTsd (X.blk s H scope (compEnvC scope cl C X.env) fp) ifs1 ft1)
    (he : ∀ (s : Shared) (H : Hp) (C : Addr) (cl : List (Str × Addr)) (fp : List Addr), PEd (X.blk s H scope (compEnvC scope cl C X.env) fp) elt fe) (hs : ∀ x, foldedSetIterable iter X.env x = pure x := by intro _; rfl) (hs1 : ∀ env x, foldedSetIterable iter1 env x = pure x := by intro _ _; rfl) :
    PEd X (.ListComp elt [⟨tg, iter, ifs, 0⟩, ⟨tg1, iter1, ifs1, 0⟩] scope pos) (fLc2M fi (own.map (·.2)) fg ft fi1 vs1 fg1 ft1 fe) :=
  .of (pe_lc2 hc hN hi.pe ok hv (fun s H C cl fp => (hg s H C cl fp).pe) (fun s H C cl fp => (ht s H C cl fp).pe) (fun s H C cl fp => (hi1 s H C cl fp).pe) (fun s H C cl fp => (hg1 s H C cl fp).pe) (fun s H C cl fp => (ht1 s H C cl fp).pe) (fun s H C cl fp => (he s H C cl fp).pe) hs hs1)
    (j_lc2M hi.j (hg X.s_0 X.H_0 0 [] []).j (ht X.s_0 X.H_0 0 [] []).j (hi1 X.s_0 X.H_0 0 [] []).j (hg1 X.s_0 X.H_0 0 [] []).j (ht1 X.s_0 X.H_0 0 [] []).j (he X.s_0 X.H_0 0 [] []).j)
theorem zssetLc2 {i : Nat} {y : Str} {py spos : Pos} (hc : X.calm = true) (hN : X.N.Nodup) (hy : X.N[i]? = some y) (hyl : X.env.scope.names.lookup y = some .local)
    (hsw : swapsWith (.ListComp elt [⟨tg, iter, ifs, 0⟩, ⟨tg1, iter1, ifs1, 0⟩] scope pos) (some (.Name y py)) spos.line X.env = pure true) (hi : PId X tg iter fi) (ok : BlkOk X.N X.env.scope scope own) (hv : ∀ i ∈ vs1, i ∈ own.map (·.2))
    (hg : ∀ (s : Shared) (H : Hp) (C : Addr) (cl : List (Str × Addr)) (fp : List Addr), PGwd (X.blk s H scope (compEnvC scope cl C X.env) fp) (own.map (·.2)) tg fg) (ht : ∀ (s : Shared) (H : Hp) (C : Addr) (cl : List (Str × Addr)) (fp : List Addr), PTsd (X.blk s H scope (compEnvC scope cl C X.env) fp) ifs ft)
    (hi1 : ∀ (s : Shared) (H : Hp) (C : Addr) (cl : List (Str × Addr)) (fp : List Addr), PId (X.blk s H scope (compEnvC scope cl C X.env) fp) tg1 iter1 fi1)
    (hg1 : ∀ (s : Shared) (H : Hp) (C : Addr) (cl : List (Str × Addr)) (fp : List Addr), PGwd (X.blk s H scope (compEnvC scope cl C X.env) fp) vs1 tg1 fg1) (ht1 : ∀ (s : Shared) (H : Hp) (C : Addr) (cl : List (Str × Addr)) (fp : List Addr), PTsd (X.blk s H scope (compEnvC scope cl C X.env) fp) ifs1 ft1)
    (he : ∀ (s : Shared) (H : Hp) (C : Addr) (cl : List (Str × Addr)) (fp : List Addr), PEd (X.blk s H scope (compEnvC scope cl C X.env) fp) elt fe) (hs : ∀ x, foldedSetIterable iter X.env x = pure x := by intro _; rfl) (hs1 : ∀ env x, foldedSetIterable iter1 env x = pure x := by intro _ _; rfl) :
    PSd X (.Assign [.Name y py] (.ListComp elt [⟨tg, iter, ifs, 0⟩, ⟨tg1, iter1, ifs1, 0⟩] scope pos) spos) (fAsg (fLc2 fi (own.map (·.2)) fg ft fi1 vs1 fg1 ft1 fe) (tgName i)) :=
  .of (ps_setLc2 hc hN hy hyl hsw hi.pe ok hv (fun s H C cl fp => (hg s H C cl fp).pe) (fun s H C cl fp => (ht s H C cl fp).pe) (fun s H C cl fp => (hi1 s H C cl fp).pe) (fun s H C cl fp => (hg1 s H C cl fp).pe) (fun s H C cl fp => (ht1 s H C cl fp).pe) (fun s H C cl fp => (he s H C cl fp).pe) hs hs1)
    (s_asg (j_lc2 hi.j (hg X.s_0 X.H_0 0 [] []).j (ht X.s_0 X.H_0 0 [] []).j (hi1 X.s_0 X.H_0 0 [] []).j (hg1 X.s_0 X.H_0 0 [] []).j (ht1 X.s_0 X.H_0 0 [] []).j (he X.s_0 X.H_0 0 [] []).j) g_name)
end
end Z
namespace Z
open PySem PySem.Spec PyProof.Rows L2
section
variable {P : Program} {w : World} {A : Around} {E : Value → Shared → Prop} {s : Shared}
/-- what set(..) begins with -/
def nuO (w : World) : Obj :=
  { cls := .type "set", dict := none
    data := .set #[] 0 (.fresh 0 0 (!w.params.followText "set-order")) }
/-- set(v): the new set, then its own init -/
theorem set_call {v : Value} {Q : Value → Shared → Prop}
    (hi : codeAny (model P w) A.in1 (.call (.builtin "set.__init__") ⟨[.ref s.heap.objs.size, v], []⟩)
      (wants (fun r z => r = .none ∧ Q (.ref s.heap.objs.size) z) E) { s with heap := s.heap.push (nuO w) }) :
    wpAny (model P w) A (call (.type "set") [v]) Q E s := by
  have ⟨c0, t0, mo⟩ := F.called_set.mro
  have ma := F.called_set.made
  have su := F.called_set.sub
  have nt := F.called_set.notType
  have cr := F.called_set.canCreate
  have tc := F.typeCall_set_1 v
  apply wpAny_call
  apply codeAny_of_tree
  change wpAny _ _ (callAny (.type "set") _) _ _ _
  apply wpAny_pure
  refine ⟨Code.quiet_builtin _ (by decide +kernel), ?_⟩
  apply codeAny_builtin F.entry_type_call
  rw [Around.under_plain (weight_type_call_type "set" [v] []) rfl]
  repeat (any_goals (first | assumption | wp_step))
  apply codeAny_mono (code_set_led1 v (E := E) (Q₁ := fun o z => o = .ref s.heap.objs.size ∧ z = { s with heap := s.heap.push (nuO w) }) ⟨rfl, rfl⟩)
  rintro (e | fl) z hz
  · exact hz
  cases fl with
  | ret o =>
    obtain ⟨rfl, rfl⟩ := hz
    have tS : Shared.TypeIs { s with heap := s.heap.push (nuO w) } (.ref s.heap.objs.size) "set" := ⟨_, Heap.get?_push_size _ rfl, rfl⟩
    have li := F.called_set.init.lookup
    have bi := F.called_set.init.bind (.ref s.heap.objs.size)
    repeat (any_goals (first | assumption | wp_step))
    apply codeAny_mono hi
    rintro (e2 | fl2) z2 hz2
    · exact hz2
    cases fl2 with
    | ret r =>
      obtain ⟨rfl, q⟩ := hz2
      repeat (any_goals (first | assumption | wp_step))
    | _ => exact hz2.elim
  | _ => exact hz.elim
set_option maxHeartbeats 8000000 in
/-- set(l) of a list of ints -/
theorem set_lst {l : Addr} {its : Array Value} (ns : List Int) {Q : Value → Shared → Prop} (hh : A.handled = none)
    (hl : s.heap.IsList l its) (hi : IntsAre its.toList ns) (hb : ns.length + 1 < scanBound)
    (h : ∀ (g : Heap) (tk c : Nat), SetR w g s.heap.objs.size (fun j => decide (j ∈ ns)) c → c ≤ ns.length →
      (∀ b o, s.heap.get? b = some o → g.get? b = some o) → Q (.ref s.heap.objs.size) { s with heap := g, toks := tk }) :
    wpAny (model P w) A (call (.type "set") [.ref l]) Q E s := by
  have zn : its.size = ns.length := by
    rw [← Array.length_toList]
    exact IntsAre.length hi
  apply set_call
  obtain ⟨⟨cl, di, da, so⟩, gl, ec, cn, ed⟩ := hl
  simp only at ec ed
  subst ec ed
  have lt : l < s.heap.objs.size := Heap.lt_size gl
  have gS : (s.heap.push (nuO w)).get? s.heap.objs.size = some (nuO w) := Heap.get?_push_size _ rfl
  have tS : Shared.TypeIs { s with heap := s.heap.push (nuO w) } (.ref s.heap.objs.size) "set" := ⟨_, gS, rfl⟩
  have gl1 := Heap.get?_push_of_some (nuO w) gl
  have il : (s.heap.push (nuO w)).IsList l its := ⟨_, gl1, rfl, cn, rfl⟩
  apply codeAny_call_builtin F.called_set.init.plain F.entry_set_init
  apply check_set_init_1 tS
  have sl := F.sub_list_set
  have sf := F.sub_list_frozenset
  have nd : (Value.type "list" == Value.type "dict") = false := by decide
  unfold Builtin.«set.__init__» noKeywords Builtin.Frozenset.updateFrom
  generalize hPI : pyIter = PI
  wp_walk
  subst hPI
  apply wpAny_pyIter_list il
  apply wpAny_bind
  apply wpAny_runValue
  have sz : (s.heap.push (nuO w)).objs.size = s.heap.objs.size + 1 := Heap.size_push ..
  have h3 : A.in1.in1.in1.handled = none := by simp [hh]
  have nl : l ≠ (s.heap.push (nuO w)).objs.size := by
    rw [sz]
    exact Nat.ne_of_lt (Nat.lt_succ_of_lt lt)
  have nS : s.heap.objs.size ∉ [(s.heap.push (nuO w)).objs.size, l] := by
    rw [sz]
    simp only [List.mem_cons, List.not_mem_nil, or_false, not_or]
    exact ⟨Nat.ne_of_lt (Nat.lt_succ_self _), Nat.ne_of_gt lt⟩
  have val : ∀ (i : Nat) (v : Value), its[i]? = some v → ∃ k t, ns[i]? = some k ∧ v = .int k t := fun i v e => by
    have b : i < ns.length := by
      rw [← zn]
      exact (Array.getElem?_eq_some_iff.mp e).1
    obtain ⟨t, q⟩ := IntsAre.int_at hi i v (by rw [Array.getElem?_toList]; exact e)
    have e2 := List.getElem?_eq_getElem b
    refine ⟨ns[i], t, e2, ?_⟩
    rw [q, List.getD_eq_getElem?_getD, e2]
    rfl
  refine set_update_ints ((Walks.list h3 _ l nl its).toS) _ nS ns zn hb val its.size 0 _ (by omega) (Nat.zero_le _) ⟨⟨_, Heap.get?_push_size _ rfl, rfl, rfl⟩, il.push _⟩ ?_ ?_
  · exact ⟨0, Nat.le_refl 0, setR_new_at (Heap.get?_push_of_some _ gS)⟩
  · rintro ⟨g, gg, dd, tk, oo⟩ c mv hc R
    have e1 : gg = s.gens := mv.gens
    have e2 : dd = s.drawn := mv.drawn
    have e3 : oo = s.os := mv.os
    subst e1 e2 e3
    change wpAny _ _ _ _ _ _
    apply wpAny_pure
    change wpAny _ _ (ret Value.none) _ _ _
    rw [zn] at hc
    refine wpAny_pure ⟨rfl, h g tk c R hc fun b o e => ?_⟩
    have b0 : b < s.heap.objs.size := Heap.lt_size e
    refine mv.heap b o ?_ (Heap.get?_push_of_some _ (Heap.get?_push_of_some _ e))
    simp only [List.mem_cons, List.not_mem_nil, or_false, not_or]
    rw [sz]
    exact ⟨Nat.ne_of_lt b0, Nat.ne_of_lt (Nat.lt_succ_of_lt b0)⟩
end
section
variable {X : Cx} {K : PySem.W.Frag}
/-- set(xs), xs a list of ints -/
def rSetI (K : PySem.W.Frag) (w : World) : List V → Hp → VK → Prop := fun xs H Q => ∃ (l : Addr) (ns : List Int), xs = [V.ref l] ∧ SqL K H l (ns.map V.int) ∧ ns.length + 1 < scanBound ∧
  ∀ (a : Addr) (c : Nat), c ≤ ns.length → H a = none → Q (.ref a) (upd H a (SetO w a (fun j => decide (j ∈ ns)) c))
theorem cr_setI (hc : X.calm = true) : CallR X (.type "set") (rSetI X.K X.w) := by
  intro pins s σ H xs us Q I r h
  obtain ⟨l, ns, rfl, hl, hz, q⟩ := h
  rw [Vals.ref1 r]
  obtain ⟨its, rv, pl, _⟩ := I.list hl
  have fr : H s.heap.objs.size = none := I.hok.fresh (Nat.le_refl _)
  refine set_lst ns (I.ok.hd hc) pl.isList (by simpa using ints_of_vals rv) hz fun g tk c R hc k => ?_
  exact ⟨.ref s.heap.objs.size, _, I.laid (t' := tk) k (Nat.le_refl _) (setO_new R), rfl, q _ c hc fr⟩
theorem bb_set : bootBuiltins ("set" : Str) = some (.type "set") := by decide +kernel
/-- without what comes again -/
def nub : List Int → List Int
  | [] => []
  | n :: r => if n ∈ r then nub r else n :: nub r
theorem nub_mem : ∀ (ns : List Int) (k : Int), k ∈ nub ns ↔ k ∈ ns
  | [], k => Iff.rfl
  | n :: r, k => by
    unfold nub
    split
    · rename_i h
      rw [nub_mem r k, List.mem_cons]
      exact ⟨.inr, fun q => q.elim (fun e => e ▸ h) id⟩
    · rw [List.mem_cons, List.mem_cons, nub_mem r k]
theorem nub_nd : ∀ ns : List Int, (nub ns).Nodup
  | [] => .nil
  | n :: r => by
    unfold nub
    split
    · exact nub_nd r
    · rename_i h
      exact List.nodup_cons.mpr ⟨fun m => h ((nub_mem r n).mp m), nub_nd r⟩
/-- sorted(set(ns)) -/
def uq (ns : List Int) : List Int := srt (nub ns)
theorem uq_mem (ns : List Int) (k : Int) : k ∈ uq ns ↔ k ∈ ns := ((srt_perm _).mem_iff).trans (nub_mem ns k)
theorem uq_lt (ns : List Int) : (uq ns).Pairwise (· < ·) := by
  have h1 := srt_le (nub ns)
  have h2 : (srt (nub ns)).Nodup := (srt_perm _).nodup_iff.mpr (nub_nd ns)
  exact (h1.and h2).imp fun ⟨a, b⟩ => by omega
theorem uq_only {ns ms : List Int} (h : ms.Pairwise (· < ·)) (m : ∀ k, k ∈ ms ↔ k ∈ ns) : ms = uq ns := by
  refine List.Perm.eq_of_pairwise (le := (· < ·)) (fun a b _ _ h1 h2 => by omega) h (uq_lt ns) ?_
  refine (List.perm_ext_iff_of_nodup (h.imp fun q => by omega) ((uq_lt ns).imp fun q => by omega)).mpr fun k => ?_
  rw [m k, uq_mem]
def fSS (a : Fe) : Fe := fun Γ M => (a Γ M).bind fun p => (lstOf p.2 p.1).bind fun xs => (allD xs).bind fun ds => (intsOf ds).bind fun ns =>
  if ns.length < 63 then some (.d (.list ((uq ns).map .int)), p.2) else none
theorem zss {e : Expr} {fa : Fe} {p p2 pos pos2 : Pos} (hc : X.calm = true) (hg : Gl X "sorted") (hm : X.mg "sorted" = none) (hg2 : Gl X "set") (hm2 : X.mg "set" = none) (ha : PEd X e fa)
    (n1 : starEach [e] X.env = (false, eval e X.env) :: starEach [] X.env := by rfl)
    (n2 : starEach [Expr.Call (.Name "set" p2) [e] [] pos2] X.env = (false, eval (.Call (.Name "set" p2) [e] [] pos2) X.env) :: starEach [] X.env := by rfl) :
    PEd X (.Call (.Name "sorted" p) [.Call (.Name "set" p2) [e] [] pos2] [] pos) (fSS fa) :=
  .of (pe_callB (cr_sortedSet hc) hg hm bb_sorted (pa_cons (pe_callTy (cr_setI hc) hg2 hm2 bb_set (pa_cons ha.pe pa_nil n1) (by decide) (by decide) n1 rfl) pa_nil n2) (by decide) (by decide) n2 rfl)
    (fun Γ M z M' h as B σ H R G Q q => by
      simp only [fSS, Option.bind_eq_some_iff] at h
      obtain ⟨⟨s, M1⟩, h1, xs, h2, ds, h3, ns, h4, h5⟩ := h
      obtain ⟨hz, h5⟩ := ite_some h5
      cases h5
      refine ha.j Γ M s M1 h1 as B σ H R G _ fun v as1 B1 H1 L1 R1 r1 => ?_
      obtain ⟨a, vs, rfl, r', pp⟩ := lstOf_ok R1 r1 h2
      have pd : Paired (DR X.K B1) ds vs := drs_of (as := as1) (by rw [← allD_some h3]; exact pp)
      rw [intsOf_ok h4] at pd
      rw [drs_ints pd] at r'
      refine ⟨a, ns, rfl, .inl r', by unfold scanBound; omega, fun b c hcl hb => ?_⟩
      obtain ⟨R2, L2⟩ := R1.data (o := SetO X.w b (fun j => decide (j ∈ ns)) c) hb
      refine ⟨b, _, c, rfl, upd_same, by omega, fun ms t hp hmem hlen ht => ?_⟩
      obtain rfl : ms = uq ns := uq_only hp fun k => by rw [hmem k, decide_eq_true_eq]
      obtain ⟨B', R3, L3, w⟩ := R2.lstD ht (ints_drs (uq ns))
      exact q _ as1 B' _ ((L1.trans L2).trans L3) R3 w)
/-- 0 .. j - 1 -/
def upto (j : Int) : List Int := (List.range j.toNat).map fun i => ((i : Nat) : Int)
theorem rgV_upto (j : Int) : rgV 0 j = (upto j).map V.int := by
  unfold rgV upto
  rw [List.map_map, Int.sub_zero]
  refine List.map_congr_left fun i _ => ?_
  show V.int (0 + _) = V.int _
  rw [Int.zero_add]
def fLR (a : Fe) : Fe := fun Γ M => (a Γ M).bind fun p => match p.1 with
  | .d (.int j) => if 0 ≤ j ∧ j ≤ 1000000 then some (.d (.list ((upto j).map .int)), p.2) else none
  | _ => none
def fLRM (a : Fe) : Fe := fun Γ M => (a Γ M).bind fun p => match p.1 with
  | .d (.int j) => if 0 ≤ j ∧ j ≤ 1000000 then some (.loc p.2.length, p.2 ++ [.lst ((upto j).map fun i => .d (.int i))]) else none
  | _ => none
theorem zlr {e : Expr} {fa : Fe} {p p2 pos pos2 : Pos} (hc : X.calm = true) (hg : Gl X "list") (hm : X.mg "list" = none) (hg2 : Gl X "range") (hm2 : X.mg "range" = none) (ha : PEd X e fa)
    (n1 : starEach [e] X.env = (false, eval e X.env) :: starEach [] X.env := by rfl)
    (n2 : starEach [Expr.Call (.Name "range" p2) [e] [] pos2] X.env = (false, eval (.Call (.Name "range" p2) [e] [] pos2) X.env) :: starEach [] X.env := by rfl) :
    PEd X (.Call (.Name "list" p) [.Call (.Name "range" p2) [e] [] pos2] [] pos) (fLR fa) :=
  .of (pe_listRg hc hg hm (prg_1 hg2 hm2 ha.pe n1) n2)
    (fun Γ M z M' h as B σ H R G Q q => by
      simp only [fLR, Option.bind_eq_some_iff] at h
      obtain ⟨⟨s, M1⟩, h1, h2⟩ := h
      refine ha.j Γ M s M1 h1 as B σ H R G _ fun v as1 B1 H1 L1 R1 r1 => ?_
      split at h2
      · rename_i s' j e'
        obtain ⟨⟨a1, a2⟩, h2⟩ := ite_some h2
        cases h2
        rw [show s = _ from e'] at r1
        rw [vr_int r1]
        refine ⟨j, rfl, RgOk.of_le (Int.le_refl 0) (by omega) (by omega) a1, fun t ht => ?_⟩
        rw [rgV_upto]
        obtain ⟨B', R2, L2, w⟩ := R1.lstD ht (ints_drs (upto j))
        exact q _ as1 B' _ (L1.trans L2) R2 w
      · cases h2)
theorem zlrM {e : Expr} {fa : Fe} {p p2 pos pos2 : Pos} (hc : X.calm = true) (hg : Gl X "list") (hm : X.mg "list" = none) (hg2 : Gl X "range") (hm2 : X.mg "range" = none) (ha : PEd X e fa)
    (n1 : starEach [e] X.env = (false, eval e X.env) :: starEach [] X.env := by rfl)
    (n2 : starEach [Expr.Call (.Name "range" p2) [e] [] pos2] X.env = (false, eval (.Call (.Name "range" p2) [e] [] pos2) X.env) :: starEach [] X.env := by rfl) :
    PEd X (.Call (.Name "list" p) [.Call (.Name "range" p2) [e] [] pos2] [] pos) (fLRM fa) :=
  .of (pe_listRg hc hg hm (prg_1 hg2 hm2 ha.pe n1) n2)
    (fun Γ M z M' h as B σ H R G Q q => by
      simp only [fLRM, Option.bind_eq_some_iff] at h
      obtain ⟨⟨s, M1⟩, h1, h2⟩ := h
      refine ha.j Γ M s M1 h1 as B σ H R G _ fun v as1 B1 H1 L1 R1 r1 => ?_
      split at h2
      · rename_i s' j e'
        obtain ⟨⟨a1, a2⟩, h2⟩ := ite_some h2
        cases h2
        rw [show s = _ from e'] at r1
        rw [vr_int r1]
        refine ⟨j, rfl, RgOk.of_le (Int.le_refl 0) (by omega) (by omega) a1, fun t ht => ?_⟩
        rw [rgV_upto]
        have pp : Paired (VR X.K as1 B1) ((upto j).map fun i => .d (.int i)) ((upto j).map V.int) := by
          have := vrs_d (K := X.K) (as := as1) (B := B1) (ints_drs (K := X.K) (B := B1) (upto j))
          rw [List.map_map] at this
          exact this
        obtain ⟨R2, L2⟩ := R1.newL (o := .lst ((upto j).map V.int)) (mo := .lst ((upto j).map fun i => .d (.int i))) ht ⟨_, upd_same, pp⟩
        refine q _ _ _ _ (L1.trans L2) R2 ⟨t, ?_, rfl⟩
        rw [← R1.len, List.getElem?_append_right (Nat.le_refl _), Nat.sub_self]
        rfl
      · cases h2)
end
end Z
/-! The helpers that the laws share, as functions of data and memory. -/
namespace ZL
open PySem L2 Z
noncomputable def box : Fn := runF 3 (fSeq (fAsg (fIf (fBool (fOp gLt (fVar 1) (fCB gLen (fCons (fVar 0) fNil)))) (fOp gIx (fVar 0) (fVar 1)) (fC (.int 0))) (tgName 2))
    (fRet (fLstM (fCons (fOp gMul (fCB gAbs (fCons (fVar 2) fNil)) (fCB gInt (fCons (fOp gGe (fCB gAbs (fCons (fVar 2) fNil)) (fOp gPow (fC (.int 10)) (fC (.int 18)))) fNil))) (fCons (fOp gAdd (fOp gAdd (fOp gMod (fCB gInt (fCons (fVar 2) fNil)) (fC (.int 2305843009213693951))) (fOp gMul (fC (.int 39373)) (fVar 1))) (fC (.int 101))) (fCons (fC (.int 0)) fNil))))))
noncomputable def take : Fn := runF 6 (fSeq (fIfS (fBool (fOp gGt (fOp gIx (fVar 0) (fC (.int 0))) (fC (.int 0)))) (fSeq (fAsg (fOp gMod (fCB gInt (fCons (fOp gIx (fVar 0) (fC (.int 0))) fNil)) (fVar 1)) (tgName 2))
    (fSeq (fAsg (fOp gDiv (fOp gIx (fVar 0) (fC (.int 0))) (fVar 1)) (tgSub (fVar 0) (fC (.int 0)) stL))
    (fRet (fVar 2)))) fNext)
    (fSeq (fAsg (fOp gAdd (fOp gIx (fVar 0) (fC (.int 2))) (fC (.int 1))) (tgSub (fVar 0) (fC (.int 2)) stL))
    (fSeq (fAsg (fOp gMod (fCB gInt (fCons (fOp gMul (fOp gAdd (fOp gIx (fVar 0) (fC (.int 1))) (fOp gMul (fC (.int 48271)) (fOp gIx (fVar 0) (fC (.int 2))))) (fOp gAdd (fC (.int 39373)) (fOp gIx (fVar 0) (fC (.int 2))))) fNil)) (fC (.int 2147483647))) (tgName 3))
    (fSeq (fAsg (fOp gAdd (fOp gMod (fCB gInt (fCons (fVar 3) fNil)) (fC (.int 40009))) (fC (.int 7))) (tgName 4))
    (fSeq (fAsg (fOp gMod (fCB gInt (fCons (fOp gMul (fOp gAdd (fOp gAdd (fVar 3) (fOp gIx (fVar 0) (fC (.int 2)))) (fOp gDiv (fOp gIx (fVar 0) (fC (.int 1))) (fC (.int 1000003)))) (fVar 4)) fNil)) (fC (.int 2147483629))) (tgName 5))
    (fRet (fOp gMod (fCB gInt (fCons (fOp gDiv (fOp gMod (fCB gInt (fCons (fOp gAdd (fOp gMul (fVar 5) (fC (.int 48271))) (fVar 3)) fNil)) (fC (.int 2147483587))) (fC (.int 64))) fNil)) (fVar 1))))))))
noncomputable def pick : Fn := runF 2 (fRet (fOp gIx (fVar 1) (fCall 2 take (fCons (fVar 0) (fCons (fCB gLen (fCons (fVar 1) fNil)) fNil)))))
noncomputable def same : Nat → Fn
  | 0 => fun _ _ => none
  | n + 1 => runF 4 (fSeq (fIfS (fTru (fIsi2 .list .tuple (fVar 1))) (fSeq (fIfS (fOrT (fBool (fOp gNe (fIsi .list (fVar 0)) (fIsi .list (fVar 1)))) (fBool (fOp gNe (fIsi .tuple (fVar 0)) (fIsi .tuple (fVar 1))))) (fRet (fC (.bool false))) fNext)
    (fRet (fAndV (fOp gEq (fCB gLen (fCons (fVar 0) fNil)) (fCB gLen (fCons (fVar 1) fNil))) (fCB gAll (fCons (fLc (fZip (fCons (fVar 0) (fCons (fVar 1) fNil))) [2, 3] (tgTup 2 (tgCons (tgName 2) (tgCons (tgName 3) tgNil))) fYes (fCall 2 (same n) (fCons (fVar 2) (fCons (fVar 3) fNil)))) fNil))))) fNext)
    (fSeq (fIfS (fOrT (fBool (fOp gIsN (fVar 1) (fC .none))) (fTru (fIsi2 .bool .str (fVar 1)))) (fRet (fAndV (fOp gEq (fVar 0) (fVar 1)) (fAndV (fOp gEq (fIsi .bool (fVar 0)) (fIsi .bool (fVar 1))) (fOp gEq (fOp gIsN (fVar 0) (fC .none)) (fOp gIsN (fVar 1) (fC .none)))))) fNext)
    (fRet (fAndV (fIsi .int (fVar 0)) (fAndV (fNotV (fIsi .bool (fVar 0))) (fOp gEq (fVar 0) (fVar 1)))))))
def Box (a b c : Int) : MO := .lst [.d (.int a), .d (.int b), .d (.int c)]
/-- a source of draws: c tells how many draws it has given at most -/
def BoxOk (M : Mem) (l : Nat) (n : Int) : Prop := ∃ a b c, M[l]? = some (Box a b c) ∧ 0 ≤ a ∧ 0 ≤ b ∧ b < 2 ^ 63 ∧ 0 ≤ c ∧ c ≤ n
theorem BoxOk.mono {M : Mem} {l : Nat} {n m : Int} (h : BoxOk M l n) (k : n ≤ m) : BoxOk M l m := by
  obtain ⟨a, b, c, h1, h2, h3, h4, h5, h6⟩ := h
  exact ⟨a, b, c, h1, h2, h3, h4, h5, by omega⟩
/-- the box was drawn from, nothing else was touched -/
def Drawn (M : Mem) (l : Nat) (n : Int) (M' : Mem) : Prop := ∃ o, M' = M.set l o ∧ BoxOk M' l n
theorem take_ok {M : Mem} {l : Nat} {n k : Int} (hB : BoxOk M l n) (hn : n < 2 ^ 40) (hk : 0 < k) (hk2 : k < 2 ^ 30) :
    ∃ r M', 0 ≤ r ∧ r < k ∧ take [.loc l, .d (.int k)] M = some (.d (.int r), M') ∧ Drawn M l (n + 1) M' := by
  obtain ⟨a, b, c, hM, ha, hb, hb2, hc, hcn⟩ := hB
  have hl : l < M.length := (List.getElem?_eq_some_iff.mp hM).1
  have hc2 : c < 2 ^ 40 := by omega
  suffices h : ∃ r a' c', 0 ≤ r ∧ r < k ∧ 0 ≤ a' ∧ c ≤ c' ∧ c' ≤ c + 1 ∧ take [.loc l, .d (.int k)] M = some (.d (.int r), M.set l (Box a' b c')) by
    obtain ⟨r, a', c', h1, h2, h3, h4, h5, h6⟩ := h
    exact ⟨r, _, h1, h2, h6, _, rfl, a', b, c', List.getElem?_set_self hl, h3, hb, hb2, by omega, by omega⟩
  unfold Box at *
  by_cases h0 : 0 < a
  · refine ⟨a % k, a / k, c, Int.emod_nonneg _ (by omega), Int.emod_lt_of_pos _ hk, Int.ediv_nonneg ha (by omega), by omega, by omega, ?_⟩
    have hd : CDivW a k := cdivw hk (by omega)
    simp only [take, runF, fVar, fC, fOp, fUn, fTru, fBool, fNotT, fAndT, fOrT, fAndV, fOrV, fNotV, fIf, fNil, fCons, fTup, fLst, fLstM, mkT, mkL, fCB, fCall, fCallK, arity, fSl, fNoP, fPart, fIsi, fIsi2, fNext, fSeq, fBreak, fCont, fRet, fRetN, fExpr, fIfS, fAsg, fPar, tgName, tgNil, tgCons, tgTup, tgSeq, tgSub, fBM, fFor, fLc, fLcM, fRng1, fRng2, fItS, fZip, fYes, fChain, boolOf, truth, intOf, gI, gIC, gAdd, Z.gSub, gMul, gDiv, gMod, gLt, gLe, gGt, gGe, gNeg, gEq, gNe, gIsN, gNotN, isN, gIn, gIx, gSl, gLen, gAbs, gInt, gMin2, gMax2, gListOf, gListM, gTupOf, gAll, gAny, boolsOf, gApp, stL, tyOk, tyS, isTy, rdD, seqD, seqOf, lstOf, tupOf, allD, allD_map, eqD_ii, eqD_ss, eqD_bb, eqD_nn, eqD_in, eqD_ni, eqD_bn, eqD_nb, eqD_sn, eqD_ns, eqD_is, eqD_si, eqD_bs, eqD_sb, eqD_tt, eqD_ll, gpm, ↓to_bnd, ↓to_bmp, bnd_some, bnd_none, bmp_some, bmp_none, List.getElem?_cons_zero, List.getElem?_cons_succ, List.set_cons_zero, List.set_cons_succ, List.map_cons, List.map_nil, List.replicate, List.cons_append, List.nil_append, List.append_nil, List.length_cons, List.length_nil, atI_0, atI_1, atI_2, atI_3, atI_4, atI_5, ixN_30, ixN_31, ixN_32, decide_eq_true_eq, Bool.not_true, Bool.not_false, Bool.true_and, Bool.false_and, Bool.and_true, Bool.and_false, Bool.or_true, Bool.true_or, Bool.or_false, Bool.false_or, Bool.false_eq_true, ↓reduceIte, decide_true, decide_false, reduceCtorEq, Nat.reduceAdd, Nat.reduceSub, Nat.reduceEqDiff, hM, h0, hk, hd, trunc_set]
  · have e0 : a = 0 := by omega
    subst e0
    have hb' : ∀ x : Int, 0 ≤ x % k ∧ x % k < k := fun x => ⟨Int.emod_nonneg _ (by omega), Int.emod_lt_of_pos _ hk⟩
    have d1 : CDivW b 1000003 := cdivw (by decide) (by decide)
    have d2 : ∀ x : Int, CDivW x 64 := fun x => cdivw (by decide) (by decide)
    have m1 : ∀ x : Int, CMul 48271 x ∨ CMulW 48271 x := fun x => cmull (by decide)
    have m2 : ∀ x : Int, CMul x (39373 + (c + 1)) ∨ CMulW x (39373 + (c + 1)) := fun x => cmulr (by omega)
    have m3 : ∀ x y : Int, CMul x (y % 40009 + 7) ∨ CMulW x (y % 40009 + 7) := fun x y => cmulr (by have := Int.emod_nonneg y (show (40009 : Int) ≠ 0 by decide); have := Int.emod_lt_of_pos y (show (0 : Int) < 40009 by decide); omega)
    have m4 : ∀ x : Int, CMul x 48271 ∨ CMulW x 48271 := fun x => cmulr (by decide)
    have p1 : (0 : Int) < 2147483647 := by decide
    have p2 : (0 : Int) < 40009 := by decide
    have p3 : (0 : Int) < 2147483629 := by decide
    have p4 : (0 : Int) < 2147483587 := by decide
    obtain ⟨p, e⟩ : ∃ p, take [.loc l, .d (.int k)] M = p := ⟨_, rfl⟩
    have e0 := e
    simp only [take, runF, fVar, fC, fOp, fUn, fTru, fBool, fNotT, fAndT, fOrT, fAndV, fOrV, fNotV, fIf, fNil, fCons, fTup, fLst, fLstM, mkT, mkL, fCB, fCall, fCallK, arity, fSl, fNoP, fPart, fIsi, fIsi2, fNext, fSeq, fBreak, fCont, fRet, fRetN, fExpr, fIfS, fAsg, fPar, tgName, tgNil, tgCons, tgTup, tgSeq, tgSub, fBM, fFor, fLc, fLcM, fRng1, fRng2, fItS, fZip, fYes, fChain, boolOf, truth, intOf, gI, gIC, gAdd, Z.gSub, gMul, gDiv, gMod, gLt, gLe, gGt, gGe, gNeg, gEq, gNe, gIsN, gNotN, isN, gIn, gIx, gSl, gLen, gAbs, gInt, gMin2, gMax2, gListOf, gListM, gTupOf, gAll, gAny, boolsOf, gApp, stL, tyOk, tyS, isTy, rdD, seqD, seqOf, lstOf, tupOf, allD, allD_map, eqD_ii, eqD_ss, eqD_bb, eqD_nn, eqD_in, eqD_ni, eqD_bn, eqD_nb, eqD_sn, eqD_ns, eqD_is, eqD_si, eqD_bs, eqD_sb, eqD_tt, eqD_ll, gpm, ↓to_bnd, ↓to_bmp, bnd_some, bnd_none, bmp_some, bmp_none, List.getElem?_cons_zero, List.getElem?_cons_succ, List.set_cons_zero, List.set_cons_succ, List.map_cons, List.map_nil, List.replicate, List.cons_append, List.nil_append, List.append_nil, List.length_cons, List.length_nil, atI_0, atI_1, atI_2, atI_3, atI_4, atI_5, ixN_30, ixN_31, ixN_32, decide_eq_true_eq, Bool.not_true, Bool.not_false, Bool.true_and, Bool.false_and, Bool.and_true, Bool.and_false, Bool.or_true, Bool.true_or, Bool.or_false, Bool.false_or, Bool.false_eq_true, ↓reduceIte, decide_true, decide_false, reduceCtorEq, Nat.reduceAdd, Nat.reduceSub, Nat.reduceEqDiff, hM, Int.lt_irrefl, hk, d1, d2, m1, m2, m3, m4, p1, p2, p3, p4, List.getElem?_set_self hl, trunc_set] at e
    rw [← e] at e0
    exact ⟨_, 0, c + 1, (hb' _).1, (hb' _).2, by omega, by omega, by omega, e0⟩
theorem Drawn.trans {M M1 M2 : Mem} {l : Nat} {n m : Int} (h : Drawn M l n M1) (k : Drawn M1 l m M2) : Drawn M l m M2 := by
  obtain ⟨o, rfl, h1⟩ := h
  obtain ⟨o', rfl, h2⟩ := k
  exact ⟨o', by rw [List.set_set], h2⟩
theorem Drawn.box {M M' : Mem} {l : Nat} {n : Int} (h : Drawn M l n M') : BoxOk M' l n := by
  obtain ⟨o, rfl, h1⟩ := h
  exact h1
theorem Drawn.len {M M' : Mem} {l : Nat} {n : Int} (h : Drawn M l n M') : M'.length = M.length := by
  obtain ⟨o, rfl, h1⟩ := h
  rw [List.length_set]
theorem Drawn.other {M M' : Mem} {l m : Nat} {n : Int} (h : Drawn M l n M') (k : m ≠ l) : M'[m]? = M[m]? := by
  obtain ⟨o, rfl, h1⟩ := h
  rw [List.getElem?_set_ne (Ne.symm k)]
theorem Drawn.mono {M M' : Mem} {l : Nat} {n m : Int} (h : Drawn M l n M') (k : n ≤ m) : Drawn M l m M' := by
  obtain ⟨o, rfl, h1⟩ := h
  exact ⟨o, rfl, h1.mono k⟩
theorem Drawn.seq {M M' : Mem} {l : Nat} {n : Int} {s : SV} {xs : List SV} (h : Drawn M l n M') (hs : s ≠ .loc l) (e : seqOf M s = some xs) : seqOf M' s = some xs := by
  cases s with
  | d x => cases x <;> exact e
  | loc m =>
    have hm : m ≠ l := fun q => hs (by rw [q])
    show (match M'[m]? with | some (.lst xs) => some xs | _ => none) = _
    rw [h.other hm]
    exact e
theorem pick_ok {M : Mem} {l : Nat} {n : Int} {s : SV} {xs : List SV} (hB : BoxOk M l n) (hn : n < 2 ^ 40) (hs : seqOf M s = some xs) (hl : s ≠ .loc l) (h0 : xs ≠ []) (h1 : xs.length < 2 ^ 30) :
    ∃ x M', x ∈ xs ∧ pick [.loc l, s] M = some (x, M') ∧ Drawn M l (n + 1) M' := by
  have hp : 0 < xs.length := List.length_pos_iff.mpr h0
  obtain ⟨r, M', k0, k1, k2, k3⟩ := take_ok (k := (xs.length : Int)) hB hn (by omega) (by omega)
  have lo : r.toNat < xs.length := by omega
  refine ⟨xs[r.toNat], M', List.getElem_mem lo, ?_, k3⟩
  have e2 := gIx_seq (k3.seq hl hs) k0 k1
  have tr : ∀ s : SV, trunc M.length s M' = (s, M') := fun s => trunc_id (by rw [k3.len]; exact Nat.le_refl _)
  simp only [pick, runF, fRet, fOp, fCall, arity, fCons, fNil, fVar, fCB, List.map_cons, List.map_nil, List.cons_append, List.nil_append, List.getElem?_cons_zero, List.getElem?_cons_succ, Option.bind_some, Option.map_some, List.length_cons, List.length_nil, Nat.reduceAdd, ↓reduceIte, gLen_seq hs, k2, e2, tr]
theorem box_ok {ns : List Int} {k : Nat} {M : Mem} (hk : k < 64) : ∃ M', box [scr ns, .d (.int k)] M = some (.loc M.length, M') ∧ M'.length = M.length + 1 ∧ (∀ m, m < M.length → M'[m]? = M[m]?) ∧ BoxOk M' M.length 0 := by
  have lenE : (ns.map fun n => ((.none, .int n) : PyData × PyData)).length = ns.length := List.length_map _
  obtain ⟨y, hy⟩ : ∃ y : Int, fIf (fBool (fOp gLt (fVar 1) (fCB gLen (fCons (fVar 0) fNil)))) (fOp gIx (fVar 0) (fVar 1)) (fC (.int 0)) [some (scr ns), some (.d (.int k)), none] M = some (.d (.int y), M) := by
    by_cases h : (k : Int) < (ns.length : Int)
    · have hk' : k < (ns.map fun n => ((.none, .int n) : PyData × PyData)).length := by rw [lenE]; omega
      refine ⟨ns[k]'(by omega), ?_⟩
      simp only [fVar, fC, fOp, fUn, fTru, fBool, fNotT, fAndT, fOrT, fAndV, fOrV, fNotV, fIf, fNil, fCons, fTup, fLst, fLstM, mkT, mkL, fCB, fCall, fCallK, arity, fSl, fNoP, fPart, fIsi, fIsi2, fNext, fSeq, fBreak, fCont, fRet, fRetN, fExpr, fIfS, fAsg, fPar, tgName, tgNil, tgCons, tgTup, tgSeq, tgSub, fBM, fFor, fLc, fLcM, fRng1, fRng2, fItS, fZip, fYes, fChain, boolOf, truth, intOf, gI, gIC, gAdd, Z.gSub, gMul, gDiv, gMod, gLt, gLe, gGt, gGe, gNeg, gEq, gNe, gIsN, gNotN, isN, gIn, gIx, gSl, gLen, gAbs, gInt, gMin2, gMax2, gListOf, gListM, gTupOf, gAll, gAny, boolsOf, gApp, stL, tyOk, tyS, isTy, rdD, seqD, seqOf, lstOf, tupOf, allD, allD_map, eqD_ii, eqD_ss, eqD_bb, eqD_nn, eqD_in, eqD_ni, eqD_bn, eqD_nb, eqD_sn, eqD_ns, eqD_is, eqD_si, eqD_bs, eqD_sb, eqD_tt, eqD_ll, gpm, ↓to_bnd, ↓to_bmp, bnd_some, bnd_none, bmp_some, bmp_none, List.getElem?_cons_zero, List.getElem?_cons_succ, List.set_cons_zero, List.set_cons_succ, List.map_cons, List.map_nil, List.replicate, List.cons_append, List.nil_append, List.append_nil, List.length_cons, List.length_nil, atI_0, atI_1, atI_2, atI_3, atI_4, atI_5, ixN_30, ixN_31, ixN_32, decide_eq_true_eq, Bool.not_true, Bool.not_false, Bool.true_and, Bool.false_and, Bool.and_true, Bool.and_false, Bool.or_true, Bool.true_or, Bool.or_false, Bool.false_or, Bool.false_eq_true, ↓reduceIte, decide_true, decide_false, reduceCtorEq, Nat.reduceAdd, Nat.reduceSub, Nat.reduceEqDiff, scr, List.length_map, h, atI_nat' hk', List.getElem?_map, List.getElem?_eq_getElem (show k < ns.length by omega)]
    · refine ⟨0, ?_⟩
      simp only [fVar, fC, fOp, fUn, fTru, fBool, fNotT, fAndT, fOrT, fAndV, fOrV, fNotV, fIf, fNil, fCons, fTup, fLst, fLstM, mkT, mkL, fCB, fCall, fCallK, arity, fSl, fNoP, fPart, fIsi, fIsi2, fNext, fSeq, fBreak, fCont, fRet, fRetN, fExpr, fIfS, fAsg, fPar, tgName, tgNil, tgCons, tgTup, tgSeq, tgSub, fBM, fFor, fLc, fLcM, fRng1, fRng2, fItS, fZip, fYes, fChain, boolOf, truth, intOf, gI, gIC, gAdd, Z.gSub, gMul, gDiv, gMod, gLt, gLe, gGt, gGe, gNeg, gEq, gNe, gIsN, gNotN, isN, gIn, gIx, gSl, gLen, gAbs, gInt, gMin2, gMax2, gListOf, gListM, gTupOf, gAll, gAny, boolsOf, gApp, stL, tyOk, tyS, isTy, rdD, seqD, seqOf, lstOf, tupOf, allD, allD_map, eqD_ii, eqD_ss, eqD_bb, eqD_nn, eqD_in, eqD_ni, eqD_bn, eqD_nb, eqD_sn, eqD_ns, eqD_is, eqD_si, eqD_bs, eqD_sb, eqD_tt, eqD_ll, gpm, ↓to_bnd, ↓to_bmp, bnd_some, bnd_none, bmp_some, bmp_none, List.getElem?_cons_zero, List.getElem?_cons_succ, List.set_cons_zero, List.set_cons_succ, List.map_cons, List.map_nil, List.replicate, List.cons_append, List.nil_append, List.append_nil, List.length_cons, List.length_nil, atI_0, atI_1, atI_2, atI_3, atI_4, atI_5, ixN_30, ixN_31, ixN_32, decide_eq_true_eq, Bool.not_true, Bool.not_false, Bool.true_and, Bool.false_and, Bool.and_true, Bool.and_false, Bool.or_true, Bool.true_or, Bool.or_false, Bool.false_or, Bool.false_eq_true, ↓reduceIte, decide_true, decide_false, reduceCtorEq, Nat.reduceAdd, Nat.reduceSub, Nat.reduceEqDiff, scr, List.length_map, h]
  have m1 : ∀ (z : Int) (q : Prop) [Decidable q], CMul z (if q then 1 else 0) ∨ CMulW z (if q then 1 else 0) := fun z q _ => cmulr (by split <;> decide)
  have m2 : CMul 39373 (k : Int) ∨ CMulW 39373 (k : Int) := cmull (by decide)
  have pw : CPow 10 18 := by decide
  have p1 : (0 : Int) < 2305843009213693951 := by decide
  have sz : 3 ≤ sizeLine := by decide
  have ab : 0 ≤ (if y < 0 then -y else y) := by split <;> omega
  have em0 := Int.emod_nonneg y (show (2305843009213693951 : Int) ≠ 0 by decide)
  have em1 := Int.emod_lt_of_pos y p1
  obtain ⟨p, e⟩ : ∃ p, box [scr ns, .d (.int k)] M = p := ⟨_, rfl⟩
  have e0 := e
  unfold box runF at e
  rw [show ([scr ns, SV.d (.int k)].map some ++ List.replicate (3 - [scr ns, SV.d (.int k)].length) none) = [some (scr ns), some (.d (.int k)), none] from rfl] at e
  unfold fSeq fAsg at e
  rw [hy] at e
  simp only [fVar, fC, fOp, fUn, fTru, fBool, fNotT, fAndT, fOrT, fAndV, fOrV, fNotV, fIf, fNil, fCons, fTup, fLst, fLstM, mkT, mkL, fCB, fCall, fCallK, arity, fSl, fNoP, fPart, fIsi, fIsi2, fNext, fSeq, fBreak, fCont, fRet, fRetN, fExpr, fIfS, fAsg, fPar, tgName, tgNil, tgCons, tgTup, tgSeq, tgSub, fBM, fFor, fLc, fLcM, fRng1, fRng2, fItS, fZip, fYes, fChain, boolOf, truth, intOf, gI, gIC, gAdd, Z.gSub, gMul, gDiv, gMod, gLt, gLe, gGt, gGe, gNeg, gEq, gNe, gIsN, gNotN, isN, gIn, gIx, gSl, gLen, gAbs, gInt, gMin2, gMax2, gListOf, gListM, gTupOf, gAll, gAny, boolsOf, gApp, stL, tyOk, tyS, isTy, rdD, seqD, seqOf, lstOf, tupOf, allD, allD_map, eqD_ii, eqD_ss, eqD_bb, eqD_nn, eqD_in, eqD_ni, eqD_bn, eqD_nb, eqD_sn, eqD_ns, eqD_is, eqD_si, eqD_bs, eqD_sb, eqD_tt, eqD_ll, gpm, ↓to_bnd, ↓to_bmp, bnd_some, bnd_none, bmp_some, bmp_none, List.getElem?_cons_zero, List.getElem?_cons_succ, List.set_cons_zero, List.set_cons_succ, List.map_cons, List.map_nil, List.replicate, List.cons_append, List.nil_append, List.append_nil, List.length_cons, List.length_nil, atI_0, atI_1, atI_2, atI_3, atI_4, atI_5, ixN_30, ixN_31, ixN_32, decide_eq_true_eq, Bool.not_true, Bool.not_false, Bool.true_and, Bool.false_and, Bool.and_true, Bool.and_false, Bool.or_true, Bool.true_or, Bool.or_false, Bool.false_or, Bool.false_eq_true, ↓reduceIte, decide_true, decide_false, reduceCtorEq, Nat.reduceAdd, Nat.reduceSub, Nat.reduceEqDiff, gPow, m1, m2, pw, p1, sz, trunc_loc] at e
  rw [← e] at e0
  refine ⟨_, e0, by rw [List.length_append]; rfl, fun m hm => List.getElem?_append_left hm, _, _, _, by rw [List.getElem?_append_right (Nat.le_refl _), Nat.sub_self]; rfl, ?_, ?_, ?_, Int.le_refl _, Int.le_refl _⟩
  · have hq : ∀ (q : Prop) [Decidable q], (0 : Int) ≤ if q then 1 else 0 := fun q _ => by split <;> decide
    exact Int.mul_nonneg ab (hq _)
  · omega
  · omega
/-- data without dicts, at most n deep -/
def plainD : Nat → PyData → Bool
  | 0, _ => false
  | n + 1, .list xs => decide (xs.length ≤ sizeLine) && xs.all (plainD n)
  | n + 1, .tuple xs => decide (xs.length ≤ sizeLine) && xs.all (plainD n)
  | _, .dict _ => false
  | _, _ => true
theorem zip_self {α : Type} : ∀ xs : List α, xs.zip xs = xs.map fun x => (x, x)
  | [] => rfl
  | x :: r => by rw [List.zip_cons_cons, zip_self r]; rfl
theorem same_refl : ∀ (n : Nat) (x : PyData) (M : Mem), plainD n x = true → same n [.d x, .d x] M = some (.d (.bool true), M)
  | 0, _, _, h => by cases h
  | n + 1, x, M, h => by
    have seq : ∀ xs : List PyData, xs.length ≤ sizeLine → xs.all (plainD n) = true → ∀ (Γ : Gm),
        lcF none (zipD xs xs) [2, 3] (tgTup 2 (tgCons (tgName 2) (tgCons (tgName 3) tgNil))) fYes (fCall 2 (same n) (fCons (fVar 2) (fCons (fVar 3) fNil))) (zipD xs xs) [] [some (Γ.getD 0 none |>.getD (.d .none)), some (Γ.getD 1 none |>.getD (.d .none)), none, none] M = some (xs.map fun _ => .d (.bool true), M) := fun xs hz hx Γ => by
      have hz2 : zipD xs xs = xs.map fun x => .d (.tuple [x, x]) := by
        unfold zipD
        rw [zip_self, List.map_map]
        rfl
      rw [hz2, lcF_map kept_none (fun _ => true) (fun _ => .d (.bool true)) _ [] (fun y hy => ?_) (by simpa using hz)]
      · rw [List.filter_eq_self.mpr (fun _ _ => rfl), List.map_map, List.nil_append]
        rfl
      · obtain ⟨z, hz, rfl⟩ := List.mem_map.mp hy
        have ih := same_refl n z M (List.all_eq_true.mp hx z hz)
        refine ⟨[some (Γ.getD 0 none |>.getD (.d .none)), some (Γ.getD 1 none |>.getD (.d .none)), some (.d z), some (.d z)], ?_, rfl, fun _ => ?_⟩
        · simp only [fVar, fC, fOp, fUn, fTru, fBool, fNotT, fAndT, fOrT, fAndV, fOrV, fNotV, fIf, fNil, fCons, fTup, fLst, fLstM, mkT, mkL, fCB, fCall, fCallK, arity, fSl, fNoP, fPart, fIsi, fIsi2, fNext, fSeq, fBreak, fCont, fRet, fRetN, fExpr, fIfS, fAsg, fPar, tgName, tgNil, tgCons, tgTup, tgSeq, tgSub, fBM, fFor, fLc, fLcM, fRng1, fRng2, fItS, fZip, fYes, fChain, boolOf, truth, intOf, gI, gIC, gAdd, Z.gSub, gMul, gDiv, gMod, gLt, gLe, gGt, gGe, gNeg, gEq, gNe, gIsN, gNotN, isN, gIn, gIx, gSl, gLen, gAbs, gInt, gMin2, gMax2, gListOf, gListM, gTupOf, gAll, gAny, boolsOf, gApp, stL, tyOk, tyS, isTy, rdD, seqD, seqOf, lstOf, tupOf, allD, allD_map, eqD_ii, eqD_ss, eqD_bb, eqD_nn, eqD_in, eqD_ni, eqD_bn, eqD_nb, eqD_sn, eqD_ns, eqD_is, eqD_si, eqD_bs, eqD_sb, eqD_tt, eqD_ll, gpm, ↓to_bnd, ↓to_bmp, bnd_some, bnd_none, bmp_some, bmp_none, List.getElem?_cons_zero, List.getElem?_cons_succ, List.set_cons_zero, List.set_cons_succ, List.map_cons, List.map_nil, List.replicate, List.cons_append, List.nil_append, List.append_nil, List.length_cons, List.length_nil, atI_0, atI_1, atI_2, atI_3, atI_4, atI_5, ixN_30, ixN_31, ixN_32, decide_eq_true_eq, Bool.not_true, Bool.not_false, Bool.true_and, Bool.false_and, Bool.and_true, Bool.and_false, Bool.or_true, Bool.true_or, Bool.or_false, Bool.false_or, Bool.false_eq_true, ↓reduceIte, decide_true, decide_false, reduceCtorEq, Nat.reduceAdd, Nat.reduceSub, Nat.reduceEqDiff, wipeG]
        · simp only [fVar, fC, fOp, fUn, fTru, fBool, fNotT, fAndT, fOrT, fAndV, fOrV, fNotV, fIf, fNil, fCons, fTup, fLst, fLstM, mkT, mkL, fCB, fCall, fCallK, arity, fSl, fNoP, fPart, fIsi, fIsi2, fNext, fSeq, fBreak, fCont, fRet, fRetN, fExpr, fIfS, fAsg, fPar, tgName, tgNil, tgCons, tgTup, tgSeq, tgSub, fBM, fFor, fLc, fLcM, fRng1, fRng2, fItS, fZip, fYes, fChain, boolOf, truth, intOf, gI, gIC, gAdd, Z.gSub, gMul, gDiv, gMod, gLt, gLe, gGt, gGe, gNeg, gEq, gNe, gIsN, gNotN, isN, gIn, gIx, gSl, gLen, gAbs, gInt, gMin2, gMax2, gListOf, gListM, gTupOf, gAll, gAny, boolsOf, gApp, stL, tyOk, tyS, isTy, rdD, seqD, seqOf, lstOf, tupOf, allD, allD_map, eqD_ii, eqD_ss, eqD_bb, eqD_nn, eqD_in, eqD_ni, eqD_bn, eqD_nb, eqD_sn, eqD_ns, eqD_is, eqD_si, eqD_bs, eqD_sb, eqD_tt, eqD_ll, gpm, ↓to_bnd, ↓to_bmp, bnd_some, bnd_none, bmp_some, bmp_none, List.getElem?_cons_zero, List.getElem?_cons_succ, List.set_cons_zero, List.set_cons_succ, List.map_cons, List.map_nil, List.replicate, List.cons_append, List.nil_append, List.append_nil, List.length_cons, List.length_nil, atI_0, atI_1, atI_2, atI_3, atI_4, atI_5, ixN_30, ixN_31, ixN_32, decide_eq_true_eq, Bool.not_true, Bool.not_false, Bool.true_and, Bool.false_and, Bool.and_true, Bool.and_false, Bool.or_true, Bool.true_or, Bool.or_false, Bool.false_or, Bool.false_eq_true, ↓reduceIte, decide_true, decide_false, reduceCtorEq, Nat.reduceAdd, Nat.reduceSub, Nat.reduceEqDiff, ih]
    cases x with
    | none => simp only [same, runF, fVar, fC, fOp, fUn, fTru, fBool, fNotT, fAndT, fOrT, fAndV, fOrV, fNotV, fIf, fNil, fCons, fTup, fLst, fLstM, mkT, mkL, fCB, fCall, fCallK, arity, fSl, fNoP, fPart, fIsi, fIsi2, fNext, fSeq, fBreak, fCont, fRet, fRetN, fExpr, fIfS, fAsg, fPar, tgName, tgNil, tgCons, tgTup, tgSeq, tgSub, fBM, fFor, fLc, fLcM, fRng1, fRng2, fItS, fZip, fYes, fChain, boolOf, truth, intOf, gI, gIC, gAdd, Z.gSub, gMul, gDiv, gMod, gLt, gLe, gGt, gGe, gNeg, gEq, gNe, gIsN, gNotN, isN, gIn, gIx, gSl, gLen, gAbs, gInt, gMin2, gMax2, gListOf, gListM, gTupOf, gAll, gAny, boolsOf, gApp, stL, tyOk, tyS, isTy, rdD, seqD, seqOf, lstOf, tupOf, allD, allD_map, eqD_ii, eqD_ss, eqD_bb, eqD_nn, eqD_in, eqD_ni, eqD_bn, eqD_nb, eqD_sn, eqD_ns, eqD_is, eqD_si, eqD_bs, eqD_sb, eqD_tt, eqD_ll, gpm, ↓to_bnd, ↓to_bmp, bnd_some, bnd_none, bmp_some, bmp_none, List.getElem?_cons_zero, List.getElem?_cons_succ, List.set_cons_zero, List.set_cons_succ, List.map_cons, List.map_nil, List.replicate, List.cons_append, List.nil_append, List.append_nil, List.length_cons, List.length_nil, atI_0, atI_1, atI_2, atI_3, atI_4, atI_5, ixN_30, ixN_31, ixN_32, decide_eq_true_eq, Bool.not_true, Bool.not_false, Bool.true_and, Bool.false_and, Bool.and_true, Bool.and_false, Bool.or_true, Bool.true_or, Bool.or_false, Bool.false_or, Bool.false_eq_true, ↓reduceIte, decide_true, decide_false, reduceCtorEq, Nat.reduceAdd, Nat.reduceSub, Nat.reduceEqDiff, trunc_same]
    | bool b => simp only [same, runF, fVar, fC, fOp, fUn, fTru, fBool, fNotT, fAndT, fOrT, fAndV, fOrV, fNotV, fIf, fNil, fCons, fTup, fLst, fLstM, mkT, mkL, fCB, fCall, fCallK, arity, fSl, fNoP, fPart, fIsi, fIsi2, fNext, fSeq, fBreak, fCont, fRet, fRetN, fExpr, fIfS, fAsg, fPar, tgName, tgNil, tgCons, tgTup, tgSeq, tgSub, fBM, fFor, fLc, fLcM, fRng1, fRng2, fItS, fZip, fYes, fChain, boolOf, truth, intOf, gI, gIC, gAdd, Z.gSub, gMul, gDiv, gMod, gLt, gLe, gGt, gGe, gNeg, gEq, gNe, gIsN, gNotN, isN, gIn, gIx, gSl, gLen, gAbs, gInt, gMin2, gMax2, gListOf, gListM, gTupOf, gAll, gAny, boolsOf, gApp, stL, tyOk, tyS, isTy, rdD, seqD, seqOf, lstOf, tupOf, allD, allD_map, eqD_ii, eqD_ss, eqD_bb, eqD_nn, eqD_in, eqD_ni, eqD_bn, eqD_nb, eqD_sn, eqD_ns, eqD_is, eqD_si, eqD_bs, eqD_sb, eqD_tt, eqD_ll, gpm, ↓to_bnd, ↓to_bmp, bnd_some, bnd_none, bmp_some, bmp_none, List.getElem?_cons_zero, List.getElem?_cons_succ, List.set_cons_zero, List.set_cons_succ, List.map_cons, List.map_nil, List.replicate, List.cons_append, List.nil_append, List.append_nil, List.length_cons, List.length_nil, atI_0, atI_1, atI_2, atI_3, atI_4, atI_5, ixN_30, ixN_31, ixN_32, decide_eq_true_eq, Bool.not_true, Bool.not_false, Bool.true_and, Bool.false_and, Bool.and_true, Bool.and_false, Bool.or_true, Bool.true_or, Bool.or_false, Bool.false_or, Bool.false_eq_true, ↓reduceIte, decide_true, decide_false, reduceCtorEq, Nat.reduceAdd, Nat.reduceSub, Nat.reduceEqDiff, trunc_same]
    | int i => simp only [same, runF, fVar, fC, fOp, fUn, fTru, fBool, fNotT, fAndT, fOrT, fAndV, fOrV, fNotV, fIf, fNil, fCons, fTup, fLst, fLstM, mkT, mkL, fCB, fCall, fCallK, arity, fSl, fNoP, fPart, fIsi, fIsi2, fNext, fSeq, fBreak, fCont, fRet, fRetN, fExpr, fIfS, fAsg, fPar, tgName, tgNil, tgCons, tgTup, tgSeq, tgSub, fBM, fFor, fLc, fLcM, fRng1, fRng2, fItS, fZip, fYes, fChain, boolOf, truth, intOf, gI, gIC, gAdd, Z.gSub, gMul, gDiv, gMod, gLt, gLe, gGt, gGe, gNeg, gEq, gNe, gIsN, gNotN, isN, gIn, gIx, gSl, gLen, gAbs, gInt, gMin2, gMax2, gListOf, gListM, gTupOf, gAll, gAny, boolsOf, gApp, stL, tyOk, tyS, isTy, rdD, seqD, seqOf, lstOf, tupOf, allD, allD_map, eqD_ii, eqD_ss, eqD_bb, eqD_nn, eqD_in, eqD_ni, eqD_bn, eqD_nb, eqD_sn, eqD_ns, eqD_is, eqD_si, eqD_bs, eqD_sb, eqD_tt, eqD_ll, gpm, ↓to_bnd, ↓to_bmp, bnd_some, bnd_none, bmp_some, bmp_none, List.getElem?_cons_zero, List.getElem?_cons_succ, List.set_cons_zero, List.set_cons_succ, List.map_cons, List.map_nil, List.replicate, List.cons_append, List.nil_append, List.append_nil, List.length_cons, List.length_nil, atI_0, atI_1, atI_2, atI_3, atI_4, atI_5, ixN_30, ixN_31, ixN_32, decide_eq_true_eq, Bool.not_true, Bool.not_false, Bool.true_and, Bool.false_and, Bool.and_true, Bool.and_false, Bool.or_true, Bool.true_or, Bool.or_false, Bool.false_or, Bool.false_eq_true, ↓reduceIte, decide_true, decide_false, reduceCtorEq, Nat.reduceAdd, Nat.reduceSub, Nat.reduceEqDiff, trunc_same]
    | str z => simp only [same, runF, fVar, fC, fOp, fUn, fTru, fBool, fNotT, fAndT, fOrT, fAndV, fOrV, fNotV, fIf, fNil, fCons, fTup, fLst, fLstM, mkT, mkL, fCB, fCall, fCallK, arity, fSl, fNoP, fPart, fIsi, fIsi2, fNext, fSeq, fBreak, fCont, fRet, fRetN, fExpr, fIfS, fAsg, fPar, tgName, tgNil, tgCons, tgTup, tgSeq, tgSub, fBM, fFor, fLc, fLcM, fRng1, fRng2, fItS, fZip, fYes, fChain, boolOf, truth, intOf, gI, gIC, gAdd, Z.gSub, gMul, gDiv, gMod, gLt, gLe, gGt, gGe, gNeg, gEq, gNe, gIsN, gNotN, isN, gIn, gIx, gSl, gLen, gAbs, gInt, gMin2, gMax2, gListOf, gListM, gTupOf, gAll, gAny, boolsOf, gApp, stL, tyOk, tyS, isTy, rdD, seqD, seqOf, lstOf, tupOf, allD, allD_map, eqD_ii, eqD_ss, eqD_bb, eqD_nn, eqD_in, eqD_ni, eqD_bn, eqD_nb, eqD_sn, eqD_ns, eqD_is, eqD_si, eqD_bs, eqD_sb, eqD_tt, eqD_ll, gpm, ↓to_bnd, ↓to_bmp, bnd_some, bnd_none, bmp_some, bmp_none, List.getElem?_cons_zero, List.getElem?_cons_succ, List.set_cons_zero, List.set_cons_succ, List.map_cons, List.map_nil, List.replicate, List.cons_append, List.nil_append, List.append_nil, List.length_cons, List.length_nil, atI_0, atI_1, atI_2, atI_3, atI_4, atI_5, ixN_30, ixN_31, ixN_32, decide_eq_true_eq, Bool.not_true, Bool.not_false, Bool.true_and, Bool.false_and, Bool.and_true, Bool.and_false, Bool.or_true, Bool.true_or, Bool.or_false, Bool.false_or, Bool.false_eq_true, ↓reduceIte, decide_true, decide_false, reduceCtorEq, Nat.reduceAdd, Nat.reduceSub, Nat.reduceEqDiff, trunc_same]
    | dict kvs => cases h
    | list xs =>
      simp only [plainD, Bool.and_eq_true, decide_eq_true_eq] at h
      have e := seq xs h.1 h.2 [some (.d (.list xs)), some (.d (.list xs))]
      simp only [List.getD_cons_zero, List.getD_cons_succ, Option.getD_some] at e
      simp only [same, runF, fVar, fC, fOp, fUn, fTru, fBool, fNotT, fAndT, fOrT, fAndV, fOrV, fNotV, fIf, fNil, fCons, fTup, fLst, fLstM, mkT, mkL, fCB, fCall, fCallK, arity, fSl, fNoP, fPart, fIsi, fIsi2, fNext, fSeq, fBreak, fCont, fRet, fRetN, fExpr, fIfS, fAsg, fPar, tgName, tgNil, tgCons, tgTup, tgSeq, tgSub, fBM, fFor, fLc, fLcM, fRng1, fRng2, fItS, fZip, fYes, fChain, boolOf, truth, intOf, gI, gIC, gAdd, Z.gSub, gMul, gDiv, gMod, gLt, gLe, gGt, gGe, gNeg, gEq, gNe, gIsN, gNotN, isN, gIn, gIx, gSl, gLen, gAbs, gInt, gMin2, gMax2, gListOf, gListM, gTupOf, gAll, gAny, boolsOf, gApp, stL, tyOk, tyS, isTy, rdD, seqD, seqOf, lstOf, tupOf, allD, allD_map, eqD_ii, eqD_ss, eqD_bb, eqD_nn, eqD_in, eqD_ni, eqD_bn, eqD_nb, eqD_sn, eqD_ns, eqD_is, eqD_si, eqD_bs, eqD_sb, eqD_tt, eqD_ll, gpm, ↓to_bnd, ↓to_bmp, bnd_some, bnd_none, bmp_some, bmp_none, List.getElem?_cons_zero, List.getElem?_cons_succ, List.set_cons_zero, List.set_cons_succ, List.map_cons, List.map_nil, List.replicate, List.cons_append, List.nil_append, List.append_nil, List.length_cons, List.length_nil, atI_0, atI_1, atI_2, atI_3, atI_4, atI_5, ixN_30, ixN_31, ixN_32, decide_eq_true_eq, Bool.not_true, Bool.not_false, Bool.true_and, Bool.false_and, Bool.and_true, Bool.and_false, Bool.or_true, Bool.true_or, Bool.or_false, Bool.false_or, Bool.false_eq_true, ↓reduceIte, decide_true, decide_false, reduceCtorEq, Nat.reduceAdd, Nat.reduceSub, Nat.reduceEqDiff, trunc_same, e]
      rw [allD_mapf (fun _ => PyData.bool true)]
      simp only [fVar, fC, fOp, fUn, fTru, fBool, fNotT, fAndT, fOrT, fAndV, fOrV, fNotV, fIf, fNil, fCons, fTup, fLst, fLstM, mkT, mkL, fCB, fCall, fCallK, arity, fSl, fNoP, fPart, fIsi, fIsi2, fNext, fSeq, fBreak, fCont, fRet, fRetN, fExpr, fIfS, fAsg, fPar, tgName, tgNil, tgCons, tgTup, tgSeq, tgSub, fBM, fFor, fLc, fLcM, fRng1, fRng2, fItS, fZip, fYes, fChain, boolOf, truth, intOf, gI, gIC, gAdd, Z.gSub, gMul, gDiv, gMod, gLt, gLe, gGt, gGe, gNeg, gEq, gNe, gIsN, gNotN, isN, gIn, gIx, gSl, gLen, gAbs, gInt, gMin2, gMax2, gListOf, gListM, gTupOf, gAll, gAny, boolsOf, gApp, stL, tyOk, tyS, isTy, rdD, seqD, seqOf, lstOf, tupOf, allD, allD_map, eqD_ii, eqD_ss, eqD_bb, eqD_nn, eqD_in, eqD_ni, eqD_bn, eqD_nb, eqD_sn, eqD_ns, eqD_is, eqD_si, eqD_bs, eqD_sb, eqD_tt, eqD_ll, gpm, ↓to_bnd, ↓to_bmp, bnd_some, bnd_none, bmp_some, bmp_none, List.getElem?_cons_zero, List.getElem?_cons_succ, List.set_cons_zero, List.set_cons_succ, List.map_cons, List.map_nil, List.replicate, List.cons_append, List.nil_append, List.append_nil, List.length_cons, List.length_nil, atI_0, atI_1, atI_2, atI_3, atI_4, atI_5, ixN_30, ixN_31, ixN_32, decide_eq_true_eq, Bool.not_true, Bool.not_false, Bool.true_and, Bool.false_and, Bool.and_true, Bool.and_false, Bool.or_true, Bool.true_or, Bool.or_false, Bool.false_or, Bool.false_eq_true, ↓reduceIte, decide_true, decide_false, reduceCtorEq, Nat.reduceAdd, Nat.reduceSub, Nat.reduceEqDiff, boolsOf_mapf (fun _ => true)]
      rw [List.all_map, show (xs.all (id ∘ fun _ => true)) = true from by simp [Function.comp], trunc_same]
    | tuple xs =>
      simp only [plainD, Bool.and_eq_true, decide_eq_true_eq] at h
      have e := seq xs h.1 h.2 [some (.d (.tuple xs)), some (.d (.tuple xs))]
      simp only [List.getD_cons_zero, List.getD_cons_succ, Option.getD_some] at e
      simp only [same, runF, fVar, fC, fOp, fUn, fTru, fBool, fNotT, fAndT, fOrT, fAndV, fOrV, fNotV, fIf, fNil, fCons, fTup, fLst, fLstM, mkT, mkL, fCB, fCall, fCallK, arity, fSl, fNoP, fPart, fIsi, fIsi2, fNext, fSeq, fBreak, fCont, fRet, fRetN, fExpr, fIfS, fAsg, fPar, tgName, tgNil, tgCons, tgTup, tgSeq, tgSub, fBM, fFor, fLc, fLcM, fRng1, fRng2, fItS, fZip, fYes, fChain, boolOf, truth, intOf, gI, gIC, gAdd, Z.gSub, gMul, gDiv, gMod, gLt, gLe, gGt, gGe, gNeg, gEq, gNe, gIsN, gNotN, isN, gIn, gIx, gSl, gLen, gAbs, gInt, gMin2, gMax2, gListOf, gListM, gTupOf, gAll, gAny, boolsOf, gApp, stL, tyOk, tyS, isTy, rdD, seqD, seqOf, lstOf, tupOf, allD, allD_map, eqD_ii, eqD_ss, eqD_bb, eqD_nn, eqD_in, eqD_ni, eqD_bn, eqD_nb, eqD_sn, eqD_ns, eqD_is, eqD_si, eqD_bs, eqD_sb, eqD_tt, eqD_ll, gpm, ↓to_bnd, ↓to_bmp, bnd_some, bnd_none, bmp_some, bmp_none, List.getElem?_cons_zero, List.getElem?_cons_succ, List.set_cons_zero, List.set_cons_succ, List.map_cons, List.map_nil, List.replicate, List.cons_append, List.nil_append, List.append_nil, List.length_cons, List.length_nil, atI_0, atI_1, atI_2, atI_3, atI_4, atI_5, ixN_30, ixN_31, ixN_32, decide_eq_true_eq, Bool.not_true, Bool.not_false, Bool.true_and, Bool.false_and, Bool.and_true, Bool.and_false, Bool.or_true, Bool.true_or, Bool.or_false, Bool.false_or, Bool.false_eq_true, ↓reduceIte, decide_true, decide_false, reduceCtorEq, Nat.reduceAdd, Nat.reduceSub, Nat.reduceEqDiff, trunc_same, e]
      rw [allD_mapf (fun _ => PyData.bool true)]
      simp only [fVar, fC, fOp, fUn, fTru, fBool, fNotT, fAndT, fOrT, fAndV, fOrV, fNotV, fIf, fNil, fCons, fTup, fLst, fLstM, mkT, mkL, fCB, fCall, fCallK, arity, fSl, fNoP, fPart, fIsi, fIsi2, fNext, fSeq, fBreak, fCont, fRet, fRetN, fExpr, fIfS, fAsg, fPar, tgName, tgNil, tgCons, tgTup, tgSeq, tgSub, fBM, fFor, fLc, fLcM, fRng1, fRng2, fItS, fZip, fYes, fChain, boolOf, truth, intOf, gI, gIC, gAdd, Z.gSub, gMul, gDiv, gMod, gLt, gLe, gGt, gGe, gNeg, gEq, gNe, gIsN, gNotN, isN, gIn, gIx, gSl, gLen, gAbs, gInt, gMin2, gMax2, gListOf, gListM, gTupOf, gAll, gAny, boolsOf, gApp, stL, tyOk, tyS, isTy, rdD, seqD, seqOf, lstOf, tupOf, allD, allD_map, eqD_ii, eqD_ss, eqD_bb, eqD_nn, eqD_in, eqD_ni, eqD_bn, eqD_nb, eqD_sn, eqD_ns, eqD_is, eqD_si, eqD_bs, eqD_sb, eqD_tt, eqD_ll, gpm, ↓to_bnd, ↓to_bmp, bnd_some, bnd_none, bmp_some, bmp_none, List.getElem?_cons_zero, List.getElem?_cons_succ, List.set_cons_zero, List.set_cons_succ, List.map_cons, List.map_nil, List.replicate, List.cons_append, List.nil_append, List.append_nil, List.length_cons, List.length_nil, atI_0, atI_1, atI_2, atI_3, atI_4, atI_5, ixN_30, ixN_31, ixN_32, decide_eq_true_eq, Bool.not_true, Bool.not_false, Bool.true_and, Bool.false_and, Bool.and_true, Bool.and_false, Bool.or_true, Bool.true_or, Bool.or_false, Bool.false_or, Bool.false_eq_true, ↓reduceIte, decide_true, decide_false, reduceCtorEq, Nat.reduceAdd, Nat.reduceSub, Nat.reduceEqDiff, boolsOf_mapf (fun _ => true)]
      rw [List.all_map, show (xs.all (id ∘ fun _ => true)) = true from by simp [Function.comp], trunc_same]
end ZL
/-! the second form of the laws' source of draws, over its constants -/
namespace ZL
open PySem L2 Z
structure Cst where
  (a1 a2 a3 a4 a5 b1 b2 b3 b4 b5 b6 b7 : Int)
def Cst.Ok (k : Cst) : Prop := (0 < k.a1 ∧ k.a1 < 2 ^ 62) ∧ (0 < k.a2 ∧ k.a2 < 2 ^ 20) ∧ (0 ≤ k.a3 ∧ k.a3 < 2 ^ 20) ∧ (0 < k.a4 ∧ k.a4 < 2 ^ 20) ∧ (0 < k.a5 ∧ k.a5 < 2 ^ 32) ∧
  (0 < k.b1 ∧ k.b1 < 2 ^ 20) ∧ (0 < k.b2 ∧ k.b2 < 2 ^ 32) ∧ (0 < k.b3 ∧ k.b3 < 2 ^ 20) ∧ (0 ≤ k.b4 ∧ k.b4 < 2 ^ 20) ∧ (0 < k.b5 ∧ k.b5 < 2 ^ 20) ∧ (0 < k.b6 ∧ k.b6 < 2 ^ 32) ∧ (0 < k.b7 ∧ k.b7 < 2 ^ 20)
instance (k : Cst) : Decidable k.Ok := by unfold Cst.Ok; exact inferInstance
noncomputable def box2 (k : Cst) : Fn := runF 4 (fSeq (fAsg (fIf (fBool (fOp gLt (fVar 1) (fCB gLen (fCons (fVar 0) fNil)))) (fOp gIx (fVar 0) (fVar 1)) (fC (.int 0))) (tgName 2))
  (fSeq (fAsg (fOp gMod (fCB gInt (fCons (fOp gMul (fOp gAdd (fOp gAdd (fOp gMod (fCB gInt (fCons (fVar 2) fNil)) (fC (.int k.a1))) (fOp gMul (fC (.int k.a2)) (fVar 1))) (fC (.int k.a3))) (fC (.int k.a4))) fNil)) (fC (.int k.a5))) (tgName 3))
  (fRet (fLstM (fCons (fOp gMul (fCB gAbs (fCons (fVar 2) fNil)) (fCB gInt (fCons (fOp gGe (fCB gAbs (fCons (fVar 2) fNil)) (fOp gPow (fC (.int 10)) (fC (.int 18)))) fNil))) (fCons (fVar 3) (fCons (fC (.int 0)) fNil)))))))
noncomputable def take2 (k : Cst) : Fn := runF 5 (fSeq (fIfS (fBool (fOp gGt (fOp gIx (fVar 0) (fC (.int 0))) (fC (.int 0)))) (fSeq (fAsg (fOp gMod (fCB gInt (fCons (fOp gIx (fVar 0) (fC (.int 0))) fNil)) (fVar 1)) (tgName 2))
  (fSeq (fAsg (fOp gDiv (fOp gIx (fVar 0) (fC (.int 0))) (fVar 1)) (tgSub (fVar 0) (fC (.int 0)) stL))
  (fRet (fVar 2)))) fNext)
  (fSeq (fAsg (fOp gAdd (fOp gIx (fVar 0) (fC (.int 2))) (fC (.int 1))) (tgSub (fVar 0) (fC (.int 2)) stL))
  (fSeq (fAsg (fOp gMod (fCB gInt (fCons (fOp gPow (fOp gAdd (fOp gIx (fVar 0) (fC (.int 1))) (fOp gMul (fC (.int k.b1)) (fOp gIx (fVar 0) (fC (.int 2))))) (fC (.int 3))) fNil)) (fC (.int k.b2))) (tgName 3))
  (fSeq (fAsg (fOp gAdd (fOp gMod (fCB gInt (fCons (fVar 3) fNil)) (fC (.int k.b3))) (fC (.int k.b4))) (tgName 4))
  (fRet (fOp gMod (fCB gInt (fCons (fOp gDiv (fOp gMod (fCB gInt (fCons (fOp gAdd (fOp gMul (fVar 3) (fVar 4)) (fOp gMul (fOp gIx (fVar 0) (fC (.int 2))) (fC (.int k.b5)))) fNil)) (fC (.int k.b6))) (fC (.int k.b7))) fNil)) (fVar 1)))))))
noncomputable def pick2 (k : Cst) : Fn := runF 2 (fRet (fOp gIx (fVar 1) (fCall 2 (take2 k) (fCons (fVar 0) (fCons (fCB gLen (fCons (fVar 1) fNil)) fNil)))))
theorem cpow3 {b c k : Int} (hb : 0 ≤ b) (hb2 : b < 2 ^ 63) (hc : 0 ≤ c) (hc2 : c ≤ 2 ^ 40) (hk : 0 < k) (hk2 : k < 2 ^ 20) : CPow (b + k * c) 3 := by
  have h1 : 0 ≤ k * c := Int.mul_nonneg (by omega) hc
  have h2 : k * c ≤ 2 ^ 20 * 2 ^ 40 := Int.mul_le_mul (by omega) hc2 hc (by decide)
  unfold CPow
  omega
theorem take2_ok {k : Cst} (ok : k.Ok) {M : Mem} {l : Nat} {n j : Int} (hB : BoxOk M l n) (hn : n < 2 ^ 40) (hk : 0 < j) (hk2 : j < 2 ^ 30) :
    ∃ r M', 0 ≤ r ∧ r < j ∧ take2 k [.loc l, .d (.int j)] M = some (.d (.int r), M') ∧ Drawn M l (n + 1) M' := by
  obtain ⟨a, b, c, hM, ha, hb, hb2, hc, hcn⟩ := hB
  have hl : l < M.length := (List.getElem?_eq_some_iff.mp hM).1
  have hc2 : c < 2 ^ 40 := by omega
  suffices h : ∃ r a' c', 0 ≤ r ∧ r < j ∧ 0 ≤ a' ∧ c ≤ c' ∧ c' ≤ c + 1 ∧ take2 k [.loc l, .d (.int j)] M = some (.d (.int r), M.set l (Box a' b c')) by
    obtain ⟨r, a', c', h1, h2, h3, h4, h5, h6⟩ := h
    exact ⟨r, _, h1, h2, h6, _, rfl, a', b, c', List.getElem?_set_self hl, h3, hb, hb2, by omega, by omega⟩
  unfold Box at *
  by_cases h0 : 0 < a
  · refine ⟨a % j, a / j, c, Int.emod_nonneg _ (by omega), Int.emod_lt_of_pos _ hk, Int.ediv_nonneg ha (by omega), by omega, by omega, ?_⟩
    have hd : CDivW a j := cdivw hk (by omega)
    simp only [take2, runF, fVar, fC, fOp, fUn, fTru, fBool, fNotT, fAndT, fOrT, fAndV, fOrV, fNotV, fIf, fNil, fCons, fTup, fLst, fLstM, mkT, mkL, fCB, fCall, fCallK, arity, fSl, fNoP, fPart, fIsi, fIsi2, fNext, fSeq, fBreak, fCont, fRet, fRetN, fExpr, fIfS, fAsg, fPar, tgName, tgNil, tgCons, tgTup, tgSeq, tgSub, fBM, fFor, fLc, fLcM, fRng1, fRng2, fItS, fZip, fYes, fChain, boolOf, truth, intOf, gI, gIC, gAdd, Z.gSub, gMul, gDiv, gMod, gLt, gLe, gGt, gGe, gNeg, gEq, gNe, gIsN, gNotN, isN, gIn, gIx, gSl, gLen, gAbs, gInt, gMin2, gMax2, gListOf, gListM, gTupOf, gAll, gAny, boolsOf, gApp, stL, tyOk, tyS, isTy, rdD, seqD, seqOf, lstOf, tupOf, allD, allD_map, eqD_ii, eqD_ss, eqD_bb, eqD_nn, eqD_in, eqD_ni, eqD_bn, eqD_nb, eqD_sn, eqD_ns, eqD_is, eqD_si, eqD_bs, eqD_sb, eqD_tt, eqD_ll, gpm, ↓to_bnd, ↓to_bmp, bnd_some, bnd_none, bmp_some, bmp_none, List.getElem?_cons_zero, List.getElem?_cons_succ, List.set_cons_zero, List.set_cons_succ, List.map_cons, List.map_nil, List.replicate, List.cons_append, List.nil_append, List.append_nil, List.length_cons, List.length_nil, atI_0, atI_1, atI_2, atI_3, atI_4, atI_5, ixN_30, ixN_31, ixN_32, decide_eq_true_eq, Bool.not_true, Bool.not_false, Bool.true_and, Bool.false_and, Bool.and_true, Bool.and_false, Bool.or_true, Bool.true_or, Bool.or_false, Bool.false_or, Bool.false_eq_true, ↓reduceIte, decide_true, decide_false, reduceCtorEq, Nat.reduceAdd, Nat.reduceSub, Nat.reduceEqDiff, hM, h0, hk, hd, trunc_set]
  · have e0 : a = 0 := by omega
    subst e0
    obtain ⟨_, _, _, _, _, k1, k2, k3, k4, k5, k6, k7⟩ := ok
    have hb' : ∀ x : Int, 0 ≤ x % j ∧ x % j < j := fun x => ⟨Int.emod_nonneg _ (by omega), Int.emod_lt_of_pos _ hk⟩
    have p1 := cpow3 (c := c + 1) hb hb2 (by omega) (by omega) k1.1 k1.2
    have d2 : ∀ x : Int, CDivW x k.b7 := fun x => cdivw k7.1 (by omega)
    have m1 : ∀ x : Int, CMul k.b1 x ∨ CMulW k.b1 x := fun x => cmull (by omega)
    have m3 : ∀ x y : Int, CMul x (y % k.b3 + k.b4) ∨ CMulW x (y % k.b3 + k.b4) := fun x y => cmulr (by have := Int.emod_nonneg y (show k.b3 ≠ 0 by omega); have := Int.emod_lt_of_pos y k3.1; omega)
    have m4 : ∀ x : Int, CMul x k.b5 ∨ CMulW x k.b5 := fun x => cmulr (by omega)
    have q2 := k2.1
    have q3 := k3.1
    have q6 := k6.1
    obtain ⟨p, e⟩ : ∃ p, take2 k [.loc l, .d (.int j)] M = p := ⟨_, rfl⟩
    have e0 := e
    simp only [take2, runF, fVar, fC, fOp, fUn, fTru, fBool, fNotT, fAndT, fOrT, fAndV, fOrV, fNotV, fIf, fNil, fCons, fTup, fLst, fLstM, mkT, mkL, fCB, fCall, fCallK, arity, fSl, fNoP, fPart, fIsi, fIsi2, fNext, fSeq, fBreak, fCont, fRet, fRetN, fExpr, fIfS, fAsg, fPar, tgName, tgNil, tgCons, tgTup, tgSeq, tgSub, fBM, fFor, fLc, fLcM, fRng1, fRng2, fItS, fZip, fYes, fChain, boolOf, truth, intOf, gI, gIC, gAdd, Z.gSub, gMul, gDiv, gMod, gLt, gLe, gGt, gGe, gNeg, gEq, gNe, gIsN, gNotN, isN, gIn, gIx, gSl, gLen, gAbs, gInt, gMin2, gMax2, gListOf, gListM, gTupOf, gAll, gAny, boolsOf, gApp, stL, tyOk, tyS, isTy, rdD, seqD, seqOf, lstOf, tupOf, allD, allD_map, eqD_ii, eqD_ss, eqD_bb, eqD_nn, eqD_in, eqD_ni, eqD_bn, eqD_nb, eqD_sn, eqD_ns, eqD_is, eqD_si, eqD_bs, eqD_sb, eqD_tt, eqD_ll, gpm, ↓to_bnd, ↓to_bmp, bnd_some, bnd_none, bmp_some, bmp_none, List.getElem?_cons_zero, List.getElem?_cons_succ, List.set_cons_zero, List.set_cons_succ, List.map_cons, List.map_nil, List.replicate, List.cons_append, List.nil_append, List.append_nil, List.length_cons, List.length_nil, atI_0, atI_1, atI_2, atI_3, atI_4, atI_5, ixN_30, ixN_31, ixN_32, decide_eq_true_eq, Bool.not_true, Bool.not_false, Bool.true_and, Bool.false_and, Bool.and_true, Bool.and_false, Bool.or_true, Bool.true_or, Bool.or_false, Bool.false_or, Bool.false_eq_true, ↓reduceIte, decide_true, decide_false, reduceCtorEq, Nat.reduceAdd, Nat.reduceSub, Nat.reduceEqDiff, gPow, hM, Int.lt_irrefl, hk, p1, d2, m1, m3, m4, q2, q3, q6, List.getElem?_set_self hl, trunc_set] at e
    rw [← e] at e0
    exact ⟨_, 0, c + 1, (hb' _).1, (hb' _).2, by omega, by omega, by omega, e0⟩
theorem pick2_ok {k : Cst} (ok : k.Ok) {M : Mem} {l : Nat} {n : Int} {s : SV} {xs : List SV} (hB : BoxOk M l n) (hn : n < 2 ^ 40) (hs : seqOf M s = some xs) (hl : s ≠ .loc l) (h0 : xs ≠ []) (h1 : xs.length < 2 ^ 30) :
    ∃ x M', x ∈ xs ∧ pick2 k [.loc l, s] M = some (x, M') ∧ Drawn M l (n + 1) M' := by
  have hp : 0 < xs.length := List.length_pos_iff.mpr h0
  obtain ⟨r, M', k0, k1, k2, k3⟩ := take2_ok ok (j := (xs.length : Int)) hB hn (by omega) (by omega)
  have lo : r.toNat < xs.length := by omega
  refine ⟨xs[r.toNat], M', List.getElem_mem lo, ?_, k3⟩
  have e2 := gIx_seq (k3.seq hl hs) k0 k1
  have tr : ∀ s : SV, trunc M.length s M' = (s, M') := fun s => trunc_id (by rw [k3.len]; exact Nat.le_refl _)
  simp only [pick2, runF, fRet, fOp, fCall, arity, fCons, fNil, fVar, fCB, List.map_cons, List.map_nil, List.cons_append, List.nil_append, List.getElem?_cons_zero, List.getElem?_cons_succ, Option.bind_some, Option.map_some, List.length_cons, List.length_nil, Nat.reduceAdd, ↓reduceIte, gLen_seq hs, k2, e2, tr]
theorem box2_ok {c : Cst} (ok : c.Ok) {ns : List Int} {k : Nat} {M : Mem} (hk : k < 64) : ∃ M', box2 c [scr ns, .d (.int k)] M = some (.loc M.length, M') ∧ M'.length = M.length + 1 ∧ (∀ m, m < M.length → M'[m]? = M[m]?) ∧ BoxOk M' M.length 0 := by
  have lenE : (ns.map fun n => ((.none, .int n) : PyData × PyData)).length = ns.length := List.length_map _
  obtain ⟨y, hy⟩ : ∃ y : Int, fIf (fBool (fOp gLt (fVar 1) (fCB gLen (fCons (fVar 0) fNil)))) (fOp gIx (fVar 0) (fVar 1)) (fC (.int 0)) [some (scr ns), some (.d (.int k)), none, none] M = some (.d (.int y), M) := by
    by_cases h : (k : Int) < (ns.length : Int)
    · have hk' : k < (ns.map fun n => ((.none, .int n) : PyData × PyData)).length := by rw [lenE]; omega
      refine ⟨ns[k]'(by omega), ?_⟩
      simp only [fVar, fC, fOp, fUn, fTru, fBool, fNotT, fAndT, fOrT, fAndV, fOrV, fNotV, fIf, fNil, fCons, fTup, fLst, fLstM, mkT, mkL, fCB, fCall, fCallK, arity, fSl, fNoP, fPart, fIsi, fIsi2, fNext, fSeq, fBreak, fCont, fRet, fRetN, fExpr, fIfS, fAsg, fPar, tgName, tgNil, tgCons, tgTup, tgSeq, tgSub, fBM, fFor, fLc, fLcM, fRng1, fRng2, fItS, fZip, fYes, fChain, boolOf, truth, intOf, gI, gIC, gAdd, Z.gSub, gMul, gDiv, gMod, gLt, gLe, gGt, gGe, gNeg, gEq, gNe, gIsN, gNotN, isN, gIn, gIx, gSl, gLen, gAbs, gInt, gMin2, gMax2, gListOf, gListM, gTupOf, gAll, gAny, boolsOf, gApp, stL, tyOk, tyS, isTy, rdD, seqD, seqOf, lstOf, tupOf, allD, allD_map, eqD_ii, eqD_ss, eqD_bb, eqD_nn, eqD_in, eqD_ni, eqD_bn, eqD_nb, eqD_sn, eqD_ns, eqD_is, eqD_si, eqD_bs, eqD_sb, eqD_tt, eqD_ll, gpm, ↓to_bnd, ↓to_bmp, bnd_some, bnd_none, bmp_some, bmp_none, List.getElem?_cons_zero, List.getElem?_cons_succ, List.set_cons_zero, List.set_cons_succ, List.map_cons, List.map_nil, List.replicate, List.cons_append, List.nil_append, List.append_nil, List.length_cons, List.length_nil, atI_0, atI_1, atI_2, atI_3, atI_4, atI_5, ixN_30, ixN_31, ixN_32, decide_eq_true_eq, Bool.not_true, Bool.not_false, Bool.true_and, Bool.false_and, Bool.and_true, Bool.and_false, Bool.or_true, Bool.true_or, Bool.or_false, Bool.false_or, Bool.false_eq_true, ↓reduceIte, decide_true, decide_false, reduceCtorEq, Nat.reduceAdd, Nat.reduceSub, Nat.reduceEqDiff, scr, List.length_map, h, atI_nat' hk', List.getElem?_map, List.getElem?_eq_getElem (show k < ns.length by omega)]
    · refine ⟨0, ?_⟩
      simp only [fVar, fC, fOp, fUn, fTru, fBool, fNotT, fAndT, fOrT, fAndV, fOrV, fNotV, fIf, fNil, fCons, fTup, fLst, fLstM, mkT, mkL, fCB, fCall, fCallK, arity, fSl, fNoP, fPart, fIsi, fIsi2, fNext, fSeq, fBreak, fCont, fRet, fRetN, fExpr, fIfS, fAsg, fPar, tgName, tgNil, tgCons, tgTup, tgSeq, tgSub, fBM, fFor, fLc, fLcM, fRng1, fRng2, fItS, fZip, fYes, fChain, boolOf, truth, intOf, gI, gIC, gAdd, Z.gSub, gMul, gDiv, gMod, gLt, gLe, gGt, gGe, gNeg, gEq, gNe, gIsN, gNotN, isN, gIn, gIx, gSl, gLen, gAbs, gInt, gMin2, gMax2, gListOf, gListM, gTupOf, gAll, gAny, boolsOf, gApp, stL, tyOk, tyS, isTy, rdD, seqD, seqOf, lstOf, tupOf, allD, allD_map, eqD_ii, eqD_ss, eqD_bb, eqD_nn, eqD_in, eqD_ni, eqD_bn, eqD_nb, eqD_sn, eqD_ns, eqD_is, eqD_si, eqD_bs, eqD_sb, eqD_tt, eqD_ll, gpm, ↓to_bnd, ↓to_bmp, bnd_some, bnd_none, bmp_some, bmp_none, List.getElem?_cons_zero, List.getElem?_cons_succ, List.set_cons_zero, List.set_cons_succ, List.map_cons, List.map_nil, List.replicate, List.cons_append, List.nil_append, List.append_nil, List.length_cons, List.length_nil, atI_0, atI_1, atI_2, atI_3, atI_4, atI_5, ixN_30, ixN_31, ixN_32, decide_eq_true_eq, Bool.not_true, Bool.not_false, Bool.true_and, Bool.false_and, Bool.and_true, Bool.and_false, Bool.or_true, Bool.true_or, Bool.or_false, Bool.false_or, Bool.false_eq_true, ↓reduceIte, decide_true, decide_false, reduceCtorEq, Nat.reduceAdd, Nat.reduceSub, Nat.reduceEqDiff, scr, List.length_map, h]
  obtain ⟨k1, k2, k3, k4, k5, _⟩ := ok
  have m1 : ∀ (z : Int) (q : Prop) [Decidable q], CMul z (if q then 1 else 0) ∨ CMulW z (if q then 1 else 0) := fun z q _ => cmulr (by split <;> decide)
  have m2 : CMul c.a2 (k : Int) ∨ CMulW c.a2 (k : Int) := cmull (by omega)
  have m3 : ∀ x : Int, CMul x c.a4 ∨ CMulW x c.a4 := fun x => cmulr (by omega)
  have pw : CPow 10 18 := by decide
  have p1 := k1.1
  have p5 := k5.1
  have sz : 3 ≤ sizeLine := by decide
  have ab : 0 ≤ (if y < 0 then -y else y) := by split <;> omega
  have em0 := fun x : Int => Int.emod_nonneg x (show c.a5 ≠ 0 by omega)
  have em1 := fun x : Int => Int.emod_lt_of_pos x p5
  obtain ⟨p, e⟩ : ∃ p, box2 c [scr ns, .d (.int k)] M = p := ⟨_, rfl⟩
  have e0 := e
  unfold box2 runF at e
  rw [show ([scr ns, SV.d (.int k)].map some ++ List.replicate (4 - [scr ns, SV.d (.int k)].length) none) = [some (scr ns), some (.d (.int k)), none, none] from rfl] at e
  unfold fSeq fAsg at e
  rw [hy] at e
  simp only [fVar, fC, fOp, fUn, fTru, fBool, fNotT, fAndT, fOrT, fAndV, fOrV, fNotV, fIf, fNil, fCons, fTup, fLst, fLstM, mkT, mkL, fCB, fCall, fCallK, arity, fSl, fNoP, fPart, fIsi, fIsi2, fNext, fSeq, fBreak, fCont, fRet, fRetN, fExpr, fIfS, fAsg, fPar, tgName, tgNil, tgCons, tgTup, tgSeq, tgSub, fBM, fFor, fLc, fLcM, fRng1, fRng2, fItS, fZip, fYes, fChain, boolOf, truth, intOf, gI, gIC, gAdd, Z.gSub, gMul, gDiv, gMod, gLt, gLe, gGt, gGe, gNeg, gEq, gNe, gIsN, gNotN, isN, gIn, gIx, gSl, gLen, gAbs, gInt, gMin2, gMax2, gListOf, gListM, gTupOf, gAll, gAny, boolsOf, gApp, stL, tyOk, tyS, isTy, rdD, seqD, seqOf, lstOf, tupOf, allD, allD_map, eqD_ii, eqD_ss, eqD_bb, eqD_nn, eqD_in, eqD_ni, eqD_bn, eqD_nb, eqD_sn, eqD_ns, eqD_is, eqD_si, eqD_bs, eqD_sb, eqD_tt, eqD_ll, gpm, ↓to_bnd, ↓to_bmp, bnd_some, bnd_none, bmp_some, bmp_none, List.getElem?_cons_zero, List.getElem?_cons_succ, List.set_cons_zero, List.set_cons_succ, List.map_cons, List.map_nil, List.replicate, List.cons_append, List.nil_append, List.append_nil, List.length_cons, List.length_nil, atI_0, atI_1, atI_2, atI_3, atI_4, atI_5, ixN_30, ixN_31, ixN_32, decide_eq_true_eq, Bool.not_true, Bool.not_false, Bool.true_and, Bool.false_and, Bool.and_true, Bool.and_false, Bool.or_true, Bool.true_or, Bool.or_false, Bool.false_or, Bool.false_eq_true, ↓reduceIte, decide_true, decide_false, reduceCtorEq, Nat.reduceAdd, Nat.reduceSub, Nat.reduceEqDiff, gPow, m1, m2, m3, pw, p1, p5, sz, trunc_loc] at e
  rw [← e] at e0
  refine ⟨_, e0, by rw [List.length_append]; rfl, fun m hm => List.getElem?_append_left hm, _, _, _, by rw [List.getElem?_append_right (Nat.le_refl _), Nat.sub_self]; rfl, ?_, em0 _, ?_, Int.le_refl _, Int.le_refl _⟩
  · have hq : ∀ (q : Prop) [Decidable q], (0 : Int) ≤ if q then 1 else 0 := fun q _ => by split <;> decide
    exact Int.mul_nonneg ab (hq _)
  · exact Int.lt_trans (em1 _) (by omega)
end ZL
/-! several names at once, lists that may change among the values; pop -/
namespace Z
open PySem PySem.Spec PyProof.Rows L2
def fUnp (n : Nat) (t : Fa) (g : Fgs) : Fs := fun Γ M => (t Γ M).bind fun p => if p.1.length = n then (g p.1 Γ p.2).map fun q => (.nx q.1, q.2) else none
section
variable {X : Cx} {K : PySem.W.Frag} {pos : Pos}
theorem zsunp {es vs : List Expr} {kk k2 n : Nat} {tpos pos2 : Pos} {f1 : Fa} {fgs : Fgs} (hc : X.calm = true) (ha : PAd X vs f1) (hg : PGsd X es fgs) (hz : n ≤ sizeLine)
    (hn : (assignEach es X.env).length = n := by rfl) (hst : (assignEach es X.env).findIdx? (·.1) = none := by rfl)
    (hs : swapsWithSole [.Tuple es kk tpos] (.Tuple vs k2 pos2) pos.line X.env = pure false := by rfl) (hw : swappedStores [.Tuple es kk tpos] (.Tuple vs k2 pos2) X.env = pure none := by rfl)
    (h1 : (assignEach [.Tuple es kk tpos] X.env).map (·.2) = [assign (.Tuple es kk tpos) X.env] := by rfl) :
    PSd X (.Assign [.Tuple es kk tpos] (.Tuple vs k2 pos2) pos) (fUnp n f1 fgs) :=
  .of (ps_asg (pe_tup ha.pe) (pg_tup hc hg.pe hn hst) hs hw h1) (fun Γ M o M' h as B σ H R G D q => by
    simp only [fUnp, Option.bind_eq_some_iff] at h
    obtain ⟨⟨xs, M1⟩, h2, h3⟩ := h
    obtain ⟨h4, h3⟩ := ite_opt h3
    simp only [Option.map_eq_some_iff] at h3
    obtain ⟨⟨Γ2, M2⟩, h5, h6⟩ := h3
    cases h6
    refine ha.j Γ M xs M1 h2 as B σ H R G _ fun us as1 B1 H1 L1 R1 r1 => ?_
    refine ⟨by rw [← Paired.length r1]; show xs.length ≤ _; rw [h4]; exact hz, fun p hp => ?_⟩
    obtain ⟨R2, L2⟩ := R1.data (o := .tup us) hp
    refine ⟨p, us, rfl, .inl (.inl upd_same), by rw [← Paired.length r1]; exact h4, ?_⟩
    exact hg.j xs Γ M1 Γ2 _ h5 as1 _ σ _ us R2 (G.mono (L1.trans L2)) (VR.monos L2 r1) _ fun σ2 as2 B2 H2 L3 R3 G3 => q as2 B2 H2 ((L1.trans L2).trans L3) R3 σ2 G3)
/-- xs.pop(i) -/
def gPopAt : SV → List SV → Mem → Option (SV × Mem)
  | .loc n, [.d (.int i)], M => match M[n]? with
    | some (.lst xs) => if 0 ≤ i ∧ i < xs.length ∧ xs.length < sizeLine then xs[i.toNat]?.map fun y => (y, M.set n (.lst (xs.eraseIdx i.toNat))) else none
    | _ => none
  | _, _, _ => none
theorem paired_erase {α β : Type} {F : α → β → Prop} : ∀ {xs : List α} {ys : List β} (_ : Paired F xs ys) (k : Nat), Paired F (xs.eraseIdx k) (ys.eraseIdx k)
  | _, _, .nil, _ => .nil
  | _, _, .cons _ t, 0 => t
  | _, _, .cons p t, k + 1 => .cons p (paired_erase t k)
theorem g_popAt : GM K rPopAt gPopAt := fun x xs M z M' h as B H R u us rx rxs Q q => by
  unfold gPopAt at h
  split at h
  · rename_i n i
    split at h
    · rename_i ys em
      obtain ⟨⟨i0, i1, i2⟩, h⟩ := ite_opt h
      simp only [Option.map_eq_some_iff] at h
      obtain ⟨y, hy, h⟩ := h
      cases h
      obtain ⟨l, ea, rfl⟩ := rx
      obtain ⟨c, rfl, rv⟩ := pr1 rxs
      obtain ⟨vs, h3, h4⟩ := R.obj n l _ ea em
      obtain ⟨v, hv, rv2⟩ := Z.Paired.at h4 hy
      have hl : ys.length = vs.length := Paired.length h4
      refine ⟨l, vs, i, i.toNat, v, rfl, by rw [vr_int rv], h3, by omega, ?_, ?_, hv, ?_⟩
      · exact Int.lt_of_lt_of_le i1 (Int.le_trans (Int.ofNat_le.mpr (Nat.le_of_lt i2)) (by decide))
      · unfold seqIndex?
        have k0 : ¬ i < 0 := by omega
        have k1 : i < (vs.length : Int) := by omega
        simp only [k0, if_false, i0, k1, decide_true, Bool.and_self, if_true]
      · obtain ⟨R', L'⟩ := R.put (o := .lst (vs.eraseIdx i.toNat)) (mo' := .lst (ys.eraseIdx i.toNat)) ea em (fun z => nomatch z) ⟨_, upd_same, paired_erase h4 _⟩
        exact q _ _ _ _ L' R' (rv2.mono L')
    · cases h
  · cases h
theorem zspar3 {i j l : Nat} {x y z : Str} {ea eb ec : Expr} {fa : Fa} {px py pz pt : Pos} {kt k2 pt2} (hc : X.calm = true) (hN : X.N.Nodup) (hi : X.N[i]? = some x) (hj : X.N[j]? = some y) (hl : X.N[l]? = some z) (hij : i ≠ j) (hil : i ≠ l) (hjl : j ≠ l)
    (hx : X.env.scope.names.lookup x = some .local) (hy : X.env.scope.names.lookup y = some .local) (hz : X.env.scope.names.lookup z = some .local) (ha : PAd X [ea, eb, ec] fa)
    (hw : swappedStores [.Tuple [.Name x px, .Name y py, .Name z pz] kt pt] (.Tuple [ea, eb, ec] k2 pt2) X.env = pure (some [x, y, z]))
    (hs : swapsWithSole [.Tuple [.Name x px, .Name y py, .Name z pz] kt pt] (.Tuple [ea, eb, ec] k2 pt2) pos.line X.env = pure false := by rfl) :
    PSd X (.Assign [.Tuple [.Name x px, .Name y py, .Name z pz] kt pt] (.Tuple [ea, eb, ec] k2 pt2) pos) (fUnp 3 fa (tgCons (tgName i) (tgCons (tgName j) (tgCons (tgName l) tgNil)))) := .of (ps_par3 hc hN hi hj hl hij hil hjl hx hy hz ha.pe hw hs) (fun Γ M o M' h as B σ H R G D q => by
      simp only [fUnp, Option.bind_eq_some_iff] at h
      obtain ⟨⟨xs, M1⟩, h1, h2⟩ := h
      obtain ⟨h3, h2⟩ := ite_opt h2
      refine ha.j Γ M xs M1 h1 as B σ H R G _ fun v as1 B1 H1 L1 R1 r1 => ?_
      match xs, h3, h2, r1 with
      | [a, b, c], _, h2, r1 =>
        cases h2
        obtain ⟨v1, v2, v3, rfl, p1, p2, p3⟩ : ∃ v1 v2 v3, v = [v1, v2, v3] ∧ VR X.K as1 B1 a v1 ∧ VR X.K as1 B1 b v2 ∧ VR X.K as1 B1 c v3 := by
          cases r1 with
          | cons p q =>
            cases q with
            | cons p' q' =>
              cases q' with
              | cons p'' q'' =>
                cases q''
                exact ⟨_, _, _, rfl, p, p', p''⟩
        exact ⟨v1, v2, v3, rfl, q as1 B1 H1 L1 R1 _ ((((G.mono L1).set p1).set p2).set p3)⟩)
end
end Z
/-! name += e; min, max of data -/
namespace Z
open PySem PySem.Spec PyProof.Rows L2
def fAug (f : Int → Int → Int) (i : Nat) (a : Fe) : Fs := fun Γ M => match Γ[i]? with
  | some (some (.d (.int x))) => (a Γ M).bind fun p => match p.1 with
    | .d (.int y) => some (.nx (Γ.set i (some (.d (.int (f x y))))), p.2)
    | _ => none
  | _ => none
section
variable {X : Cx} {K : PySem.W.Frag} {pos : Pos}
theorem zsaug {i : Nat} {x : Str} {e : Expr} {fe : Fe} {op : Operator} {f : Int → Int → Int} {pos' : Pos} (hN : X.N.Nodup) (hi : X.N[i]? = some x) (hx : Loc X.env.scope x) (ho : PIp X op (ipI f)) (he : PEd X e fe) (hf : X.fn x = true ∨ X.env.scope.names.lookup x = some .local := by first | exact .inl rfl | exact .inr rfl | assumption) :
    PSd X (.AugAssign (.Name x pos') op e pos) (fAug f i fe) := .of (ps_aug hN hi hx he.pe ho hf) (fun Γ M o M' h as B σ H R G D q => by
      unfold fAug at h
      split at h
      · rename_i z ez
        simp only [Option.bind_eq_some_iff] at h
        obtain ⟨⟨s, M1⟩, h1, h2⟩ := h
        split at h2
        · rename_i s' y e'
          cases h2
          obtain ⟨v, ev, hv⟩ := Z.Paired.at G ez
          obtain ⟨v', e2, r⟩ := hv _ rfl
          subst e2
          rw [vr_int r] at ev
          refine ⟨_, ev, he.j Γ M s _ h1 as B σ H R G _ fun u as1 B1 H1 L1 R1 r1 => ?_⟩
          rw [show s = _ from e'] at r1
          exact ⟨z, y, rfl, vr_int r1, q as1 B1 H1 L1 R1 _ ((G.mono L1).set (.int _))⟩
        · cases h2
      · cases h)
/-- alike, none of them None -/
def likeB (xs : List PyData) : Bool := (xs.all fun x => xs.all fun y => PySem.W.alike x y) && xs.all fun x => match x with
  | .none => false
  | _ => true
theorem likeB_ok {xs : List PyData} (h : likeB xs = true) : PySem.W.AlikeAll xs := by
  unfold likeB at h
  rw [Bool.and_eq_true, List.all_eq_true, List.all_eq_true] at h
  refine ⟨fun x hx y hy => List.all_eq_true.mp (h.1 x hx) y hy, fun x hx e => ?_⟩
  have := h.2 x hx
  rw [e] at this
  cases this
def bestMin : List PyData → Option PyData
  | d :: r => if PyData.canLayAll0 (d :: r) = true ∧ PyData.depthAll (d :: r) ≤ 60 ∧ likeB (d :: r) = true then some (PySem.W.minD d r) else none
  | [] => none
def rBestMin (K : PySem.W.Frag) : List V → Hp → VK → Prop := fun xs H Q => ∃ (p : Addr) (vs : List V) (d : PyData) (r : List PyData), xs = [.ref p] ∧ (SqL K H p vs ∨ SqT K H p vs) ∧ DpAll K H vs (d :: r) ∧ PySem.W.AlikeAll (d :: r) ∧ PyData.depthAll (d :: r) ≤ 60 ∧
  ∀ (i : Nat) (w : V), vs[i]? = some w → (d :: r)[i]? = some (PySem.W.minD d r) → Q w H
theorem cr_minD (hc : X.calm = true) (hu : X.A.units + 65 < cLine) : CallR X (.builtin "min") (rBestMin X.K) := by
  intro pins s σ H xs us Q I rr h
  obtain ⟨p, vs, d, r, rfl, hs, hd, ha, hz, q⟩ := h
  rw [Vals.ref1 rr]
  have fin : ∀ (its : List Value), Vals vs its → ∀ as, ReadsAll s.heap its (d :: r) as → ∀ (i : Nat) (v : Value) (h' : Heap) (tk : Nat) (bs : List Addr), its.toArray[i]? = some v → Reads h' v (PySem.W.minD d r) bs → (∀ b o, s.heap.get? b = some o → h'.get? b = some o) →
      EP X pins σ Q v { s with heap := h', toks := tk } := fun its rv as hr i v h' tk bs hv hr2 hk => by
    have hv : its[i]? = some v := by simpa using hv
    obtain ⟨cs, r1, hi, _, _⟩ := PySem.W.readsAll_at hr i v hv
    obtain ⟨e, _⟩ := PyProof.Rows.reads_det (fun b o e _ => hk b o e) r1 hr2
    obtain ⟨w, hw, rw'⟩ := Z.Paired.atR rv hv
    refine ⟨w, H, I.kept hk, rw', q i w hw ?_⟩
    rw [e, List.getD_eq_getElem?_getD, List.getElem?_eq_getElem hi]
    rfl
  rcases hs with hs | hs
  · obtain ⟨its, rv, hl, _⟩ := I.list hs
    obtain ⟨as, hr⟩ := Dp.readsAll I (d :: r) vs its hd rv
    exact PySem.W.min_list_data (I.ok.hd hc) hl.isList hr ha (by omega) fun i v h' tk bs e r2 hk => fin its rv as hr i v h' tk bs e r2 hk
  · obtain ⟨its, rv, ⟨o, ho, hcl, n, hdt⟩, _⟩ := I.tuple hs
    obtain ⟨as, hr⟩ := Dp.readsAll I (d :: r) vs its hd rv
    exact PySem.W.min_tuple_data (I.ok.hd hc) ⟨o, ho, hcl, n, hdt⟩ hr ha (by omega) fun i v h' tk bs e r2 hk => fin its rv as hr i v h' tk bs e r2 hk
def gBestMin : List SV → Mem → Option (SV × Mem)
  | [s], M => (seqOf M s).bind fun xs => (allD xs).bind fun ds => (bestMin ds).map fun z => (.d z, M)
  | _, _ => none
theorem g_bestMin : GA K (rBestMin K) gBestMin := fun x M z M' h as B H R u rx Q q => by
  unfold gBestMin at h
  split at h
  · simp only [Option.bind_eq_some_iff, Option.map_eq_some_iff] at h
    obtain ⟨xs, h0, ds, h1, y, h2, h3⟩ := h
    cases h3
    obtain ⟨v, rfl, r⟩ := pr1 rx
    obtain ⟨a, vs, rfl, r', p⟩ := seqOf_ok R r h0
    have pp : Paired (DR K B) ds vs := drs_of (as := as) (by rw [← allD_some h1]; exact p)
    cases ds with
    | nil => cases h2
    | cons d t =>
      unfold bestMin at h2
      obtain ⟨⟨c1, c2, c3⟩, h2⟩ := ite_some h2
      cases h2
      refine ⟨a, vs, d, t, rfl, r', DR.dps (d :: t) vs c1 (DR.monos R.ex _ _ pp), likeB_ok c3, c2, fun i w hw hi => ?_⟩
      obtain ⟨w', e1, e2⟩ := Z.Paired.at pp hi
      rw [hw] at e1
      cases e1
      exact q _ as B H (Lat.refl _ _ _) R e2
  · cases h
def bestMax : List PyData → Option PyData
  | d :: r => if PyData.canLayAll0 (d :: r) = true ∧ PyData.depthAll (d :: r) ≤ 60 ∧ likeB (d :: r) = true then some (PySem.W.maxD d r) else none
  | [] => none
def rBestMax (K : PySem.W.Frag) : List V → Hp → VK → Prop := fun xs H Q => ∃ (p : Addr) (vs : List V) (d : PyData) (r : List PyData), xs = [.ref p] ∧ (SqL K H p vs ∨ SqT K H p vs) ∧ DpAll K H vs (d :: r) ∧ PySem.W.AlikeAll (d :: r) ∧ PyData.depthAll (d :: r) ≤ 60 ∧
  ∀ (i : Nat) (w : V), vs[i]? = some w → (d :: r)[i]? = some (PySem.W.maxD d r) → Q w H
theorem cr_maxD (hc : X.calm = true) (hu : X.A.units + 65 < cLine) : CallR X (.builtin "max") (rBestMax X.K) := by
  intro pins s σ H xs us Q I rr h
  obtain ⟨p, vs, d, r, rfl, hs, hd, ha, hz, q⟩ := h
  rw [Vals.ref1 rr]
  have fin : ∀ (its : List Value), Vals vs its → ∀ as, ReadsAll s.heap its (d :: r) as → ∀ (i : Nat) (v : Value) (h' : Heap) (tk : Nat) (bs : List Addr), its.toArray[i]? = some v → Reads h' v (PySem.W.maxD d r) bs → (∀ b o, s.heap.get? b = some o → h'.get? b = some o) →
      EP X pins σ Q v { s with heap := h', toks := tk } := fun its rv as hr i v h' tk bs hv hr2 hk => by
    have hv : its[i]? = some v := by simpa using hv
    obtain ⟨cs, r1, hi, _, _⟩ := PySem.W.readsAll_at hr i v hv
    obtain ⟨e, _⟩ := PyProof.Rows.reads_det (fun b o e _ => hk b o e) r1 hr2
    obtain ⟨w, hw, rw'⟩ := Z.Paired.atR rv hv
    refine ⟨w, H, I.kept hk, rw', q i w hw ?_⟩
    rw [e, List.getD_eq_getElem?_getD, List.getElem?_eq_getElem hi]
    rfl
  rcases hs with hs | hs
  · obtain ⟨its, rv, hl, _⟩ := I.list hs
    obtain ⟨as, hr⟩ := Dp.readsAll I (d :: r) vs its hd rv
    exact PySem.W.max_list_data (I.ok.hd hc) hl.isList hr ha (by omega) fun i v h' tk bs e r2 hk => fin its rv as hr i v h' tk bs e r2 hk
  · obtain ⟨its, rv, ⟨o, ho, hcl, n, hdt⟩, _⟩ := I.tuple hs
    obtain ⟨as, hr⟩ := Dp.readsAll I (d :: r) vs its hd rv
    exact PySem.W.max_tuple_data (I.ok.hd hc) ⟨o, ho, hcl, n, hdt⟩ hr ha (by omega) fun i v h' tk bs e r2 hk => fin its rv as hr i v h' tk bs e r2 hk
def gBestMax : List SV → Mem → Option (SV × Mem)
  | [s], M => (seqOf M s).bind fun xs => (allD xs).bind fun ds => (bestMax ds).map fun z => (.d z, M)
  | _, _ => none
theorem g_bestMax : GA K (rBestMax K) gBestMax := fun x M z M' h as B H R u rx Q q => by
  unfold gBestMax at h
  split at h
  · simp only [Option.bind_eq_some_iff, Option.map_eq_some_iff] at h
    obtain ⟨xs, h0, ds, h1, y, h2, h3⟩ := h
    cases h3
    obtain ⟨v, rfl, r⟩ := pr1 rx
    obtain ⟨a, vs, rfl, r', p⟩ := seqOf_ok R r h0
    have pp : Paired (DR K B) ds vs := drs_of (as := as) (by rw [← allD_some h1]; exact p)
    cases ds with
    | nil => cases h2
    | cons d t =>
      unfold bestMax at h2
      obtain ⟨⟨c1, c2, c3⟩, h2⟩ := ite_some h2
      cases h2
      refine ⟨a, vs, d, t, rfl, r', DR.dps (d :: t) vs c1 (DR.monos R.ex _ _ pp), likeB_ok c3, c2, fun i w hw hi => ?_⟩
      obtain ⟨w', e1, e2⟩ := Z.Paired.at pp hi
      rw [hw] at e1
      cases e1
      exact q _ as B H (Lat.refl _ _ _) R e2
  · cases h
end
end Z
/-! t[::-1] -/
namespace HT
open PySem PySem.Spec PyProof.Rows L2
section
variable {prog : Program} {w : World} {A : Around} {E : Value → Shared → Prop} {s : Shared}
theorem sliceApplied_rev {sl : Addr} {t : Tok} {n : Nat} {Q : Int × Int × Nat → Shared → Prop} (hs : s.heap.IsSliceOf sl .none .none (.int (-1) t))
    (h : Q ((n : Int) - 1, -1, n) s) : wpAny (model prog w) A (Builtin.Slice.sliceApplied (.ref sl) (pure (n : Int))) Q E s := by
  obtain ⟨os, hos, hcs, hds⟩ := id hs
  unfold Builtin.Slice.sliceApplied Builtin.Slice.sliceFields
  refine wpAny_bind (wpAny_bind (wpAny_field hos hds (x := .none) rfl (wpAny_bind (wpAny_field hos hds (x := .none) rfl (wpAny_bind (wpAny_field hos hds (x := .int (-1) t) rfl (wpAny_pure ?_)))))))
  refine wpAny_bind (slicePart_int ?_)
  show wpAny _ _ (if ((-1 : Int) == 0) = true then _ else _) _ _ s
  rw [if_neg (by decide)]
  refine wpAny_bind (slicePart_none (wpAny_bind (slicePart_none (wpAny_bind (wpAny_pure ?_)))))
  show wpAny _ _ (match Builtin.Slice.sliceAdjust none none (-1) (n : Int) with | (lo, hi) => pure (lo, (-1 : Int), Builtin.Slice.slicePlaces lo hi (-1))) _ _ s
  have e : Builtin.Slice.sliceAdjust none none (-1) (n : Int) = ((n : Int) - 1, -1) := by
    unfold Builtin.Slice.sliceAdjust
    rfl
  rw [e]
  show wpAny _ _ (pure ((n : Int) - 1, (-1 : Int), Builtin.Slice.slicePlaces ((n : Int) - 1) (-1) (-1))) _ _ s
  have e2 : Builtin.Slice.slicePlaces ((n : Int) - 1) (-1) (-1) = n := by
    unfold Builtin.Slice.slicePlaces
    have h1 : ¬ ((-1 : Int) > 0) := by omega
    simp only [h1, if_false, Int.neg_neg, Int.ediv_one]
    split <;> omega
  rw [e2]
  exact wpAny_pure h
theorem pick_rev (xs : Array Value) : ((List.range xs.size).filterMap fun (m : Nat) => xs[((xs.size : Int) - 1 + (m : Int) * -1).toNat]?).toArray = xs.toList.reverse.toArray := by
  congr 1
  have e : (List.range xs.size).filterMap (fun (m : Nat) => xs[((xs.size : Int) - 1 + (m : Int) * -1).toNat]?) = (List.range xs.size).map fun m => xs.toList.reverse.getD m .none := by
    rw [← List.filterMap_eq_map]
    refine List.ext_getElem? fun i => ?_
    congr 1
    have key : ∀ L : List Nat, (∀ m ∈ L, m < xs.size) → L.filterMap (fun (m : Nat) => xs[((xs.size : Int) - 1 + (m : Int) * -1).toNat]?) = L.filterMap (some ∘ fun m => xs.toList.reverse.getD m .none) := fun L hL => by
      induction L with
      | nil => rfl
      | cons m r ih =>
        have hm := hL m List.mem_cons_self
        have e0 : ((xs.size : Int) - 1 + (m : Int) * -1).toNat = xs.size - 1 - m := by omega
        have e1 : xs[((xs.size : Int) - 1 + (m : Int) * -1).toNat]? = some (xs.toList.reverse.getD m .none) := by
          rw [e0, List.getD_eq_getElem?_getD, List.getElem?_reverse (by rw [Array.length_toList]; exact hm), Array.length_toList, Array.getElem?_toList]
          rw [Array.getElem?_eq_getElem (show xs.size - 1 - m < xs.size by omega)]
          rfl
        rw [List.filterMap_cons, List.filterMap_cons, e1, ih fun k hk => hL k (List.mem_cons_of_mem _ hk)]
        rfl
    exact key _ fun m hm => List.mem_range.mp hm
  rw [e]
  refine List.ext_getElem? fun i => ?_
  rw [List.getElem?_map]
  by_cases h : i < xs.size
  · rw [List.getElem?_range h, Option.map_some, List.getD_eq_getElem?_getD]
    have : i < xs.toList.reverse.length := by rw [List.length_reverse, Array.length_toList]; exact h
    rw [List.getElem?_eq_getElem this]
    rfl
  · rw [List.getElem?_eq_none (by rw [List.length_range]; omega), List.getElem?_eq_none (by rw [List.length_reverse, Array.length_toList]; omega)]
    rfl
theorem getItem_tuple_rev {t sl : Addr} {items : Array Value} {tk : Tok} {Q : Value → Shared → Prop} (ht : IsTup s.heap t items) (hs : s.heap.IsSliceOf sl .none .none (.int (-1) tk))
    (h : Q (.ref s.heap.objs.size) { s with heap := s.heap.push { cls := .type "tuple", data := .seq items.toList.reverse.toArray } })
    (hsz : items.size ≤ sizeLine) : wpAny (model prog w) A (getItem (.ref t) (.ref sl)) Q E s := by
  have htake : sizeOk (.seq items.toList.reverse.toArray) := by
    show items.toList.reverse.toArray.size ≤ sizeLine
    rw [List.size_toArray, List.length_reverse, Array.length_toList]
    exact hsz
  obtain ⟨os, hos, hcs, hds⟩ := id hs
  have hTs : s.TypeIs (.ref sl) "slice" := ⟨os, hos, hcs⟩
  unfold getItem
  try with_reducible refine wpAny_holding ?_
  first | refine wpAny_bind (wpAny_pure ?_) | skip
  refine wpAny_bind (wpAny_sequenceKey ht.typeIs (by decide) ?_)
  refine wpAny_bind (wpAny_callSpecial?_slot (name := Str.ofString "__getitem__") ht.typeIs PyProof.Rows.slot_tuple_getitem
    (wpAny_call_entry PyProof.Rows.slot_tuple_getitem ht.typeIs entry_tuple_getitem ?_ (args_tuple_getitem _ _)))
  show wpAny _ _ (Builtin.Tuple.tupleItemsOf (.ref t) >>= _) _ _ s
  refine wpAny_bind (tupleItemsOf_ ht ?_)
  refine wpAny_bind (wpAny_typeOf hTs ?_)
  rw [if_pos (by decide)]
  refine wpAny_bind (sliceApplied_rev hs ?_)
  have hno : ¬ ((((items.size : Int) - 1) == 0 && (-1 : Int) == 1 && items.size == items.size) = true) := by
    intro q
    rw [Bool.and_eq_true, Bool.and_eq_true] at q
    have q1 : (-1 : Int) = 1 := eq_of_beq q.1.2
    omega
  show wpAny _ _ (if (((items.size : Int) - 1) == 0 && (-1 : Int) == 1 && items.size == items.size) = true then _ else _) _ _ s
  rw [if_neg hno, pick_rev]
  first
    | exact wpAny_bind (m := Builtin.Tuple.tupleExact _) (wpAny_newObj_type (wpAny_pure ⟨_, rfl, wpAny_pure h⟩) htake)
    | exact wpAny_bind (m := Builtin.Tuple.tupleExact _) (wpAny_newObj_type (wpAny_bind (wpAny_pure (wpAny_pure ⟨_, rfl, wpAny_pure h⟩))) htake)
    | exact wpAny_bind (wpAny_bind (m := Builtin.Tuple.tupleExact _) (wpAny_newObj_type (wpAny_pure (wpAny_pure ⟨_, rfl, wpAny_pure h⟩)) htake))
    | exact wpAny_bind (wpAny_bind (m := Builtin.Tuple.tupleExact _) (wpAny_newObj_type (wpAny_pure ⟨_, rfl, wpAny_pure h⟩) htake))
end
end HT
namespace Z
open PySem PySem.Spec PyProof.Rows L2
section
variable {X : Cx} {K : PySem.W.Frag} {pos : Pos}
theorem pe_sliceR {e st : Expr} {te : TE} {ts : TO} {p2 : Pos} (he : PE X e te) (hs : PO X (some st) ts) :
    PE X (.Subscript e (.Slice none none (some st) p2) pos) (fun σ H Q => te σ H fun x H1 => ts σ H1 fun k H2 => k = some (-1) ∧ ∃ a xs, x = .ref a ∧ SqT X.K H2 a xs ∧ ∀ p, H2 p = none → Q (.ref p) (upd H2 p (.tup xs.reverse))) := by
  refine ⟨fun pins s σ H Q I h => ?_⟩
  refine Subscript_ (thn (he.run pins s σ H _ I h) fun v s1 ⟨x, H1, I1, r1, q1⟩ => ?_)
  refine wpAny_Slice ?_
  rw [evalPart_none]
  refine wpAny_pure ?_
  refine wpAny_pure ?_
  refine thn (hs.run pins s1 σ H1 _ I1 q1) fun vk s3 ⟨k, H3, I3, pk, q3⟩ => ?_
  obtain ⟨rfl, a, xs, rfl, hx, q⟩ := q3
  cases r1
  cases pk with
  | int i t =>
    have I4 : Inv X pins σ H3 { s3 with heap := s3.heap.push { cls := .type "slice", data := .fields #[.none, .none, .int (-1) t] } } := I3.kept (t' := s3.toks) fun b ob q => Heap.get?_push_of_some _ q
    obtain ⟨its, r, ht, hz⟩ := I4.tuple hx
    show wpAny (model X.prog X.w) X.A (subscriptTail e (.Slice none none (some st) p2) (.ref a) (.ref s3.heap.objs.size)) (EP X pins σ Q) X.xe { s3 with heap := s3.heap.push { cls := .type "slice", data := .fields #[.none, .none, .int (-1) t] } }
    refine tail_any (ops := [.ref a, .ref s3.heap.objs.size]) ht.typeIs PyProof.Rows.slot_tuple_getitem.lookup ?_ (by with_unfolding_all rfl)
    refine HT.getItem_tuple_rev ht (Heap.IsSliceOf.new ..) ?_ (by rw [List.size_toArray, ← r.length]; exact hz)
    refine ⟨.ref _, _, I4.laid (t' := s3.toks) (o := .tup xs.reverse) (fun b ob q => Heap.get?_push_of_some _ q) (Nat.le_refl _) ?_, rfl, q _ (I4.hok.fresh (Nat.le_refl _))⟩
    exact ⟨by rw [List.length_reverse]; exact hz, its.toArray.toList.reverse, Vals.reverse (by simpa using r), IsTup.new _ _⟩
def fRev (a : Fe) (k : Fo) : Fe := fun Γ M => (a Γ M).bind fun p => (k Γ p.2).bind fun q => match p.1, q.1 with
  | .d (.tuple xs), some (-1) => some (.d (.tuple xs.reverse), q.2)
  | _, _ => none
theorem paired_rev {α β : Type} {F : α → β → Prop} {xs : List α} {ys : List β} (h : Paired F xs ys) : Paired F xs.reverse ys.reverse := by
  induction h with
  | nil => exact .nil
  | cons p _ ih =>
    rw [List.reverse_cons, List.reverse_cons]
    exact Z.Paired.app ih (.cons p .nil)
theorem zrev {e st : Expr} {fe : Fe} {fk : Fo} {p2 : Pos} (he : PEd X e fe) (hs : POd X (some st) fk) : PEd X (.Subscript e (.Slice none none (some st) p2) pos) (fRev fe fk) :=
  .of (pe_sliceR he.pe hs.pe) (fun Γ M z M' h as B σ H R G Q q => by
    simp only [fRev, Option.bind_eq_some_iff] at h
    obtain ⟨⟨x, M1⟩, h1, ⟨k, M2⟩, h2, h3⟩ := h
    split at h3
    · rename_i e1 e2
      cases h3
      refine he.j Γ M x _ h1 as B σ H R G _ fun u as1 B1 H1 L1 R1 r1 => ?_
      refine hs.j Γ M1 k _ h2 as1 B1 σ H1 R1 (G.mono L1) _ fun k' as2 B2 H2 L2 R2 r2 => ?_
      rw [show x = _ from e1] at r1
      have r3 := r1.mono L2
      cases r2
      cases r3 with
      | tup r p =>
        refine ⟨e2, _, _, rfl, same_t R2.ex r, fun t ht => ?_⟩
        obtain ⟨B', R', L', w⟩ := R2.tupD ht (paired_rev p)
        exact q _ as2 B' _ ((L1.trans L2).trans L') R' w
    · cases h3)
end
end Z
/-! sorted of a list of data -/
namespace Z
open PySem PySem.Spec PyProof.Rows L2
section
variable {X : Cx} {K : PySem.W.Frag} {pos : Pos}
theorem paired_zip {F : PyData → V → Prop} : ∀ {ds : List PyData} {vs : List V}, Paired F ds vs → ∀ p ∈ vs.zip ds, F p.2 p.1
  | _, _, .nil, p, h => by cases h
  | _, _, .cons a t, p, h => by
    rw [List.zip_cons_cons] at h
    rcases List.mem_cons.mp h with e | e
    · cases e; exact a
    · exact paired_zip t p e
theorem paired_unzip {F : PyData → V → Prop} : ∀ {L : List (V × PyData)}, (∀ p ∈ L, F p.2 p.1) → Paired F (L.map (·.2)) (L.map (·.1))
  | [], _ => .nil
  | p :: r, h => .cons (h p List.mem_cons_self) (paired_unzip fun q hq => h q (List.mem_cons_of_mem _ hq))
def sortD (ds : List PyData) : List PyData := ds.mergeSort (PySem.W.dataLe false id)
def sortV (vs : List V) (ds : List PyData) : List (V × PyData) := (vs.zip ds).mergeSort (PySem.W.dataLe false (·.2))
theorem sortV_d {vs : List V} {ds : List PyData} (h : vs.length = ds.length) : (sortV vs ds).map (·.2) = sortD ds := by
  unfold sortV sortD
  rw [List.map_mergeSort (r := PySem.W.dataLe false (·.2)) (s := PySem.W.dataLe false id) (f := fun x : V × PyData => x.2) (l := vs.zip ds) (fun a _ b _ => rfl), List.map_snd_zip (by omega)]
def rSortedD (K : PySem.W.Frag) : List V → Hp → VK → Prop := fun xs H Q => ∃ (a : Addr) (vs : List V) (ds : List PyData), xs = [.ref a] ∧ SqL K H a vs ∧ DpAll K H vs ds ∧ PySem.W.AllAlike ds ∧ PySem.W.Sortable ds ∧ (∀ d ∈ ds, d.depth ≤ 60) ∧
  ∀ p, H p = none → Q (.ref p) (upd H p (.lst ((sortV vs ds).map (·.1))))
theorem each_of {s : Shared} {vs : List V} {us : List Value} (h : Vals vs us) : ∀ {ds : List PyData} {as : List Addr}, ReadsAll s.heap us ds as → PySem.W.EachIs (fun u (b : V × PyData) => RelV b.1 u ∧ ∃ as, Reads s.heap u b.2 as) us (vs.zip ds) := by
  induction h with
  | nil =>
    intro ds as r
    cases r
    exact .nil
  | cons a _ ih =>
    intro ds as r
    cases r with
    | cons r1 r2 => exact .cons ⟨a, _, r1⟩ (ih r2)
theorem dpAll_len {H : Hp} : ∀ {vs : List V} {ds : List PyData}, DpAll K H vs ds → vs.length = ds.length
  | _, _, .nil => rfl
  | _, _, .cons _ t => by rw [List.length_cons, List.length_cons, dpAll_len t]
theorem vals_each {us : List Value} {L : List (V × PyData)} (h : PySem.W.EachIs (fun u (b : V × PyData) => RelV b.1 u) us L) : Vals (L.map (·.1)) us := by
  induction h with
  | nil => exact .nil
  | cons a _ ih => exact .cons a ih
theorem cr_sortedD (hu : X.A.units + 65 < cLine) : CallR X (.builtin "sorted") (rSortedD X.K) := by
  intro pins s σ H xs us Q I r h
  obtain ⟨a, vs, ds, rfl, hs, hd, ha, hk, hz, q⟩ := h
  obtain ⟨its, rv, hl, hlen⟩ := I.list hs
  rw [Vals.ref1 r]
  obtain ⟨as, hr⟩ := Dp.readsAll I ds vs its hd rv
  have e := each_of (s := s) rv hr
  have hm : (vs.zip ds).map (·.2) = ds := List.map_snd_zip (by have := dpAll_len hd; omega)
  have hL : (vs.zip ds).length ≤ sizeLine := by rw [List.length_zip]; omega
  refine PySem.W.sorted_data (bs := vs.zip ds) (enc := (·.2)) (R := fun u (b : V × PyData) => RelV b.1 u) hl.isList (e.mono fun _ _ h => h.1) (e.mono fun _ _ h => h.2) (by rw [hm]; exact ha) (by rw [hm]; exact hk) hL (fun b hb => ?_) fun out h1 h2 => ?_
  · have := hz b.2 (by rw [← hm]; exact List.mem_map.mpr ⟨b, hb, rfl⟩)
    omega
  · obtain ⟨ep, he'⟩ := PyProof.Rows.sortedAll_at s.heap its out.toArray
    have hl2 : ((sortV vs ds).map (·.1)).length ≤ sizeLine := by
      rw [List.length_map]
      unfold sortV
      rw [List.length_mergeSort]
      exact hL
    exact ⟨.ref _, upd H (s.heap.objs.size + 1) (.lst ((sortV vs ds).map (·.1))), I.laid (t' := s.toks) (fun _ _ => PyProof.Rows.sortedAll_old) (Nat.le_succ _) ⟨hl2, out, ep, vals_each h2, by simpa using he'⟩, rfl, q _ (I.hok.fresh (Nat.le_succ _))⟩
def alikeB (xs : List PyData) : Bool := xs.all fun x => xs.all fun y => PySem.W.alike x y
def sortB (xs : List PyData) : Bool := (xs.all fun x => match x with
  | .tuple (_ :: _) => true
  | _ => false) || xs.all fun x => match x with
  | .none => false
  | .tuple _ => false
  | _ => true
theorem alikeB_ok {xs : List PyData} (h : alikeB xs = true) : PySem.W.AllAlike xs := fun x hx y hy => List.all_eq_true.mp (List.all_eq_true.mp h x hx) y hy
theorem sortB_ok {xs : List PyData} (h : sortB xs = true) : PySem.W.Sortable xs := by
  unfold sortB at h
  rw [Bool.or_eq_true, List.all_eq_true, List.all_eq_true] at h
  rcases h with h | h
  · refine .inl fun d hd => ?_
    have := h d hd
    split at this
    · exact ⟨_, _, rfl⟩
    · cases this
  · refine .inr fun d hd => ⟨fun e => ?_, fun xs e => ?_⟩
    · have := h d hd
      rw [e] at this
      cases this
    · have := h d hd
      rw [e] at this
      cases this
/-- sorted, of ints or of other data -/
def srtD (ds : List PyData) : Option (List PyData) := match intsOf ds with
  | some ns => some ((srt ns).map .int)
  | none => if PyData.canLayAll0 ds = true ∧ alikeB ds = true ∧ sortB ds = true ∧ (ds.all fun d => decide (d.depth ≤ 60)) = true then some (sortD ds) else none
def gSrtZ : List SV → Mem → Option (SV × Mem)
  | [s], M => (lstOf M s).bind fun xs => (allD xs).bind fun ds => (srtD ds).map fun es => (.d (.list es), M)
  | _, _ => none
theorem g_srtZ : GA K (fun xs H Q => rSortedI K xs H Q ∨ rSortedD K xs H Q) gSrtZ := fun x M z M' h as B H R u rx Q q => by
  unfold gSrtZ at h
  split at h
  · simp only [Option.bind_eq_some_iff, Option.map_eq_some_iff] at h
    obtain ⟨xs, h0, ds, h1, es, h2, h3⟩ := h
    cases h3
    obtain ⟨y, rfl, r⟩ := pr1 rx
    obtain ⟨a, vs, rfl, r', p⟩ := lstOf_ok R r h0
    have pp : Paired (DR K B) ds vs := drs_of (as := as) (by rw [← allD_some h1]; exact p)
    unfold srtD at h2
    split at h2
    · rename_i ns hn
      cases h2
      rw [intsOf_ok hn] at pp
      rw [drs_ints pp] at r'
      refine .inl ⟨a, ns, rfl, .inl r', fun ns' t hp hs ht => ?_⟩
      rw [srt_only hp hs]
      obtain ⟨B', R', L', w⟩ := R.lstD ht (ints_drs (srt ns))
      exact q _ as B' _ L' R' w
    · obtain ⟨⟨c1, c2, c3, c4⟩, h2⟩ := ite_some h2
      cases h2
      have hl : vs.length = ds.length := (Paired.length pp).symm
      refine .inr ⟨a, vs, ds, rfl, .inl r', DR.dps ds vs c1 (DR.monos R.ex _ _ pp), alikeB_ok c2, sortB_ok c3, fun d hd => of_decide_eq_true (List.all_eq_true.mp c4 d hd), fun t ht => ?_⟩
      have pz : Paired (DR K B) (sortD ds) ((sortV vs ds).map (·.1)) := by
        rw [← sortV_d hl]
        refine paired_unzip fun p hp => ?_
        unfold sortV at hp
        exact paired_zip pp p ((List.mergeSort_perm _ _).mem_iff.mp hp)
      obtain ⟨B', R', L', w⟩ := R.lstD ht pz
      exact q _ as B' _ L' R' w
  · cases h
end
end Z
/-! sorted(set(xs)), xs ints or tuples of ints -/
namespace Z
open PySem PySem.Spec PyProof.Rows L2
def keysOf : List PyData → Option (List (List Int))
  | [] => some []
  | .tuple xs :: r => (intsOf xs).bind fun k => (keysOf r).map (k :: ·)
  | _ => none
def nubT : List (List Int) → List (List Int)
  | [] => []
  | n :: r => if n ∈ r then nubT r else n :: nubT r
theorem nubT_mem : ∀ (ns : List (List Int)) (k : List Int), k ∈ nubT ns ↔ k ∈ ns
  | [], k => Iff.rfl
  | n :: r, k => by
    unfold nubT
    split
    · rename_i h
      rw [nubT_mem r k, List.mem_cons]
      exact ⟨.inr, fun q => q.elim (fun e => e ▸ h) id⟩
    · rw [List.mem_cons, List.mem_cons, nubT_mem r k]
theorem nubT_nd : ∀ ns : List (List Int), (nubT ns).Nodup
  | [] => .nil
  | n :: r => by
    unfold nubT
    split
    · exact nubT_nd r
    · rename_i h
      exact List.nodup_cons.mpr ⟨fun m => h ((nubT_mem r n).mp m), nubT_nd r⟩
def codeLe (a b : List Int) : Bool := decide (TS.code 1000 a ≤ TS.code 1000 b)
def uqT (ks : List (List Int)) : List (List Int) := (nubT ks).mergeSort codeLe
theorem uqT_mem (ks : List (List Int)) (k : List Int) : k ∈ uqT ks ↔ k ∈ ks := ((List.mergeSort_perm _ _).mem_iff).trans (nubT_mem ks k)
theorem uqT_nd (ks : List (List Int)) : (uqT ks).Nodup := (List.mergeSort_perm _ _).nodup_iff.mpr (nubT_nd ks)
theorem uqT_le (ks : List (List Int)) : (uqT ks).Pairwise fun a b => TS.code 1000 a ≤ TS.code 1000 b := by
  have h := List.pairwise_mergeSort (le := codeLe) (fun a b c h1 h2 => by unfold codeLe at *; simp only [decide_eq_true_eq] at *; omega) (fun a b => by unfold codeLe; simp only [Bool.or_eq_true, decide_eq_true_eq]; omega) (nubT ks)
  exact h.imp fun h => by simpa [codeLe] using h
theorem code_inj {B : Int} : ∀ {a b : List Int}, a.length = b.length → TS.Bd B a → TS.Bd B b → TS.code B a = TS.code B b → a = b
  | [], [], _, _, _, _ => rfl
  | [], _ :: _, h, _, _, _ => by cases h
  | _ :: _, [], h, _, _, _ => by cases h
  | x :: a, y :: b, h, h1, h2, e => by
    have hl : a.length = b.length := by simpa using h
    rcases Int.lt_trichotomy x y with c | c | c
    · have := TS.code_lt hl h1.tail h2.tail c
      omega
    · subst c
      have e2 : TS.code B a = TS.code B b := by
        have n1 : ¬ TS.code B a < TS.code B b := fun q => by have := (TS.code_same (d := x) hl).mpr q; omega
        have n2 : ¬ TS.code B b < TS.code B a := fun q => by have := (TS.code_same (d := x) hl.symm).mpr q; omega
        omega
      rw [code_inj hl h1.tail h2.tail e2]
    · have := TS.code_lt hl.symm h2.tail h1.tail c
      omega
def okT (d : Nat) (ks : List (List Int)) : Bool := ks.all fun k => decide (k.length = d) && k.all fun m => decide (0 ≤ m) && decide (m < 1000)
theorem okT_at {d : Nat} {ks : List (List Int)} (h : okT d ks = true) : ∀ k ∈ ks, k.length = d ∧ TS.Bd 1000 k := fun k hk => by
  have := List.all_eq_true.mp h k hk
  simp only [Bool.and_eq_true, decide_eq_true_eq, List.all_eq_true] at this
  exact ⟨this.1, fun m hm => this.2 m hm⟩
theorem uqT_only {d : Nat} {ks ms : List (List Int)} (ok : okT d ks = true) (hn : ms.Nodup) (hm : ∀ k, k ∈ ms ↔ k ∈ ks) (hs : ms.Pairwise fun a b => TS.code 1000 a ≤ TS.code 1000 b) : ms = uqT ks := by
  refine List.Perm.eq_of_pairwise (le := fun a b => TS.code 1000 a ≤ TS.code 1000 b) (fun a b ha hb h1 h2 => ?_) hs (uqT_le ks) ((List.perm_ext_iff_of_nodup hn (uqT_nd ks)).mpr fun k => by rw [hm, uqT_mem])
  have a1 := okT_at ok a ((hm a).mp ha)
  have b1 := okT_at ok b ((uqT_mem ks b).mp hb)
  exact code_inj (a1.1.trans b1.1.symm) a1.2 b1.2 (Int.le_antisymm h1 h2)
def encT (k : List Int) : PyData := .tuple (k.map .int)
section
variable {X : Cx} {K : PySem.W.Frag}
theorem keys_dr {B : Hp} : ∀ {ds : List PyData} {kk : List (List Int)} {vs : List V}, keysOf ds = some kk → Paired (DR K B) ds vs → ∃ ks : List (Addr × List Int), vs = ks.map (fun p => V.ref p.1) ∧ ks.map (·.2) = kk ∧ ∀ p ∈ ks, SqT K B p.1 (p.2.map V.int)
  | [], _, _, e, .nil => by cases e; exact ⟨[], rfl, rfl, fun _ h => nomatch h⟩
  | x :: r, kk, v :: vs, e, .cons p q => by
    cases x with
    | tuple xs =>
      simp only [keysOf, Option.bind_eq_some_iff, Option.map_eq_some_iff] at e
      obtain ⟨k, h1, kr, h2, rfl⟩ := e
      obtain ⟨ks, e1, e2, e3⟩ := keys_dr h2 q
      cases p with
      | @tup a ws _ t d =>
        rw [intsOf_ok h1] at d
        rw [drs_ints d] at t
        exact ⟨(a, k) :: ks, by rw [e1]; rfl, by rw [List.map_cons, e2], fun p hp => by
          rcases List.mem_cons.mp hp with rfl | hp
          · exact t
          · exact e3 p hp⟩
    | _ => cases e
def uqZ (ds : List PyData) : Option (List PyData) := match intsOf ds with
  | some ns => if ns.length < 63 then some ((uq ns).map .int) else none
  | none => match keysOf ds with
    | some (k :: kk) => if (k :: kk).length < 63 ∧ 1 ≤ k.length ∧ okT k.length (k :: kk) = true then some ((uqT (k :: kk)).map encT) else none
    | _ => none
def fSSZ (a : Fe) : Fe := fun Γ M => (a Γ M).bind fun p => (lstOf p.2 p.1).bind fun xs => (allD xs).bind fun ds => (uqZ ds).map fun es => (.d (.list es), p.2)
theorem same_new {H : Hp} {a : Addr} {o : HO} (h : H a = none) : Same H (upd H a o) := fun b u e => by
  rw [upd_ne (ne_of_none e h)]
  exact e
theorem zssZ {e : Expr} {fa : Fe} {p p2 pos pos2 : Pos} (hc : X.calm = true) (hu : X.A.units + 65 < cLine) (hg : Gl X "sorted") (hm : X.mg "sorted" = none) (hg2 : Gl X "set") (hm2 : X.mg "set" = none) (ha : PEd X e fa)
    (n1 : starEach [e] X.env = (false, eval e X.env) :: starEach [] X.env := by rfl)
    (n2 : starEach [Expr.Call (.Name "set" p2) [e] [] pos2] X.env = (false, eval (.Call (.Name "set" p2) [e] [] pos2) X.env) :: starEach [] X.env := by rfl) :
    PEd X (.Call (.Name "sorted" p) [.Call (.Name "set" p2) [e] [] pos2] [] pos) (fSSZ fa) :=
  .of (pe_callB (CallR.or (cr_sortedSet hc) (cr_sortedT hc)) hg hm bb_sorted (pa_cons (pe_callTy (CallR.or (cr_setI hc) (cr_setOfT hc (by omega))) hg2 hm2 bb_set (pa_cons ha.pe pa_nil n1) (by decide) (by decide) n1 rfl) pa_nil n2) (by decide) (by decide) n2 rfl)
    (fun Γ M z M' h as B σ H R G Q q => by
      simp only [fSSZ, Option.bind_eq_some_iff, Option.map_eq_some_iff] at h
      obtain ⟨⟨s, M1⟩, h1, xs, h2, ds, h3, es, h4, h5⟩ := h
      cases h5
      refine ha.j Γ M s M1 h1 as B σ H R G _ fun v as1 B1 H1 L1 R1 r1 => ?_
      obtain ⟨a, vs, rfl, r', pp⟩ := lstOf_ok R1 r1 h2
      have pd : Paired (DR X.K B1) ds vs := drs_of (as := as1) (by rw [← allD_some h3]; exact pp)
      unfold uqZ at h4
      split at h4
      · rename_i ns hn
        obtain ⟨hz, h4⟩ := ite_some h4
        cases h4
        rw [intsOf_ok hn] at pd
        rw [drs_ints pd] at r'
        refine .inl ⟨a, ns, rfl, .inl r', by unfold scanBound; omega, fun b c hcl hb => ?_⟩
        obtain ⟨R2, L2⟩ := R1.data (o := SetO X.w b (fun j => decide (j ∈ ns)) c) hb
        refine .inl ⟨b, _, c, rfl, upd_same, by omega, fun ms t hp hmem hlen ht => ?_⟩
        obtain rfl : ms = uq ns := uq_only hp fun k => by rw [hmem k, decide_eq_true_eq]
        obtain ⟨B', R3, L3, w⟩ := R2.lstD ht (ints_drs (uq ns))
        exact q _ as1 B' _ ((L1.trans L2).trans L3) R3 w
      · split at h4
        · rename_i k kk hk
          obtain ⟨⟨c1, c2, c3⟩, h4⟩ := ite_some h4
          cases h4
          obtain ⟨ks, rfl, e2, e3⟩ := keys_dr hk pd
          have hl : ks.length = (k :: kk).length := by rw [← e2, List.length_map]
          refine .inr ⟨a, ks, rfl, .inl r', fun p hp => same_t R1.ex (e3 p hp), by omega, fun b L hb l1 l2 => ?_⟩
          obtain ⟨R2, L2⟩ := R1.data (o := SetTO X.prog X.w b L) hb
          have at_ : ∀ p ∈ L, p.2 ∈ k :: kk := fun p hp => by
            rw [← e2]
            exact List.mem_map.mpr ⟨p, l1 p hp, rfl⟩
          refine .inr ⟨b, L, k.length, 1000, rfl, upd_same, fun p hp => same_t (same_new hb) (same_t R1.ex (e3 p (l1 p hp))), c2, fun p hp => okT_at c3 p.2 (at_ p hp), fun L' t p1 p2 p3 p4 ht => ?_⟩
          have ms : L'.map (·.2) = uqT (k :: kk) := uqT_only c3 p2 (fun x => by
            constructor
            · intro hx
              obtain ⟨p, hp, rfl⟩ := List.mem_map.mp hx
              exact at_ p (p1.mem_iff.mp hp)
            · intro hx
              rw [← e2] at hx
              obtain ⟨p, hp, rfl⟩ := List.mem_map.mp hx
              obtain ⟨p', hp', e⟩ := List.mem_map.mp (l2 p hp)
              exact List.mem_map.mpr ⟨p', p1.mem_iff.mpr hp', e⟩) (by rw [List.pairwise_map]; exact p4)
          have pz : ∀ L' : List (Addr × List Int), (∀ p ∈ L', SqT X.K (upd B1 b (SetTO X.prog X.w b L)) p.1 (p.2.map V.int)) → Paired (DR X.K (upd B1 b (SetTO X.prog X.w b L))) ((L'.map (·.2)).map encT) (L'.map fun q => V.ref q.1) := fun L' hL => by
            induction L' with
            | nil => exact .nil
            | cons p r ih => exact .cons (.tup (hL p List.mem_cons_self) (ints_drs p.2)) (ih fun q hq => hL q (List.mem_cons_of_mem _ hq))
          obtain ⟨B', R3, L3, w⟩ := R2.lstD ht (pz L' fun p hp => same_t L2.ex (e3 p (l1 p (p1.mem_iff.mp hp))))
          rw [ms] at w
          exact q _ as1 B' _ ((L1.trans L2).trans L3) R3 w
        · cases h4)
end
end Z
/-! xs + ys, a list that may change -/
namespace Z
open PySem PySem.Spec PyProof.Rows L2
def gAddM (x y : SV) (M : Mem) : Option (SV × Mem) := (lstOf M x).bind fun xs => (lstOf M y).bind fun ys => if xs.length + ys.length ≤ sizeLine then some (.loc M.length, M ++ [.lst (xs ++ ys)]) else none
theorem g_addM {K : PySem.W.Frag} : G2 K (rAddZ K) gAddM := fun x y M z M' h as B H R u v rx ry Q q => by
  simp only [gAddM, Option.bind_eq_some_iff] at h
  obtain ⟨xs, h1, ys, h2, h3⟩ := h
  obtain ⟨hs, h3⟩ := ite_some h3
  cases h3
  obtain ⟨a, vs, rfl, r, p⟩ := lstOf_ok R rx h1
  obtain ⟨b, ws, rfl, r', p'⟩ := lstOf_ok R ry h2
  refine .inr (.inr (.inr ⟨a, b, vs, ws, rfl, rfl, r, r', by rw [← p.length, ← p'.length]; exact hs, fun t ht => ?_⟩))
  obtain ⟨R', L'⟩ := R.newL (o := .lst (vs ++ ws)) (mo := .lst (xs ++ ys)) ht ⟨_, upd_same, Z.Paired.app p p'⟩
  refine q _ _ _ _ L' R' ⟨t, ?_, rfl⟩
  rw [← R.len, List.getElem?_append_right (Nat.le_refl _), Nat.sub_self]
  rfl
end Z
/-! a < b < c < d; len(set(xs)) -/
namespace Z
open PySem PySem.Spec PyProof.Rows L2
def tChain3 (r r' r'' : R2) (ta tb tc td : TE) : TE := fun σ H Q => ta σ H fun x H1 => tb σ H1 fun y H2 => r x y H2 fun z H3 => ∃ k, z = .bl k ∧
  (if k = true then tc σ H3 fun u H4 => r' y u H4 fun z' H5 => ∃ k', z' = .bl k' ∧ (if k' = true then td σ H5 fun v H6 => r'' u v H6 Q else Q (.bl false) H5) else Q (.bl false) H3)
def fChain3 (g g' g'' : SV → SV → Mem → Option (SV × Mem)) (a b c d : Fe) : Fe := fun Γ M => (a Γ M).bind fun p => (b Γ p.2).bind fun q => (g p.1 q.1 q.2).bind fun r => (boolOf r.1).bind fun k =>
  if k = true then (c Γ r.2).bind fun s => (g' q.1 s.1 s.2).bind fun r' => (boolOf r'.1).bind fun k' => if k' = true then (d Γ r'.2).bind fun t => g'' s.1 t.1 t.2 else some (.d (.bool false), r'.2) else some (.d (.bool false), r.2)
section
variable {X : Cx} {K : PySem.W.Frag} {ta tb tc td : TE} {fa fb fc fd : Fe} {a b c d : Expr} {pos : Pos}
theorem pe_chain3 {op op' op'' : CmpOp} {r r' r'' : R2} (ho : OpR X (compareOp op) r) (ho' : OpR X (compareOp op') r') (ho'' : OpR X (compareOp op'') r'') (ha : PE X a ta) (hb : PE X b tb) (hc : PE X c tc) (hd : PE X d td)
    (hm : lastMarks [op, op', op''] [b, c, d] = false := by with_unfolding_all rfl) : PE X (.Compare a [op, op', op''] [b, c, d] pos) (tChain3 r r' r'' ta tb tc td) := by
  refine ⟨fun pins s σ H Q I h => Compare_chain (thn (ha.run pins s σ H _ I h) ?_) hm⟩
  rintro v s1 ⟨x, H1, I1, r1, q1⟩
  refine chain_link (thn (hb.run pins s1 σ H1 _ I1 q1) ?_)
  rintro u s2 ⟨y, H2, I2, r2, q2⟩
  refine thn (ho pins s2 σ H2 x y v u _ I2 r1 r2 q2) ?_
  rintro e s3 ⟨z, H3, I3, r3, k, rfl, q3⟩
  cases r3
  refine wpAny_truthy_bool ?_
  cases k with
  | false => exact ite_ff ⟨.bl false, H3, I3, rfl, q3⟩
  | true =>
    refine ite_tt (chain_link (thn (hc.run pins s3 σ H3 _ I3 q3) ?_))
    rintro u' s4 ⟨y', H4, I4, r4, q4⟩
    refine thn (ho' pins s4 σ H4 y y' u u' _ I4 r2 r4 q4) ?_
    rintro e' s5 ⟨z', H5, I5, r5, k', rfl, q5⟩
    cases r5
    refine wpAny_truthy_bool ?_
    cases k' with
    | false => exact ite_ff ⟨.bl false, H5, I5, rfl, q5⟩
    | true =>
      refine ite_tt (chain_last (thn (hd.run pins s5 σ H5 _ I5 q5) ?_))
      rintro u'' s6 ⟨y'', H6, I6, r6, q6⟩
      exact ho'' pins s6 σ H6 y' y'' u' u'' Q I6 r4 r6 q6
theorem j_chain3 {r r' r'' : R2} {g g' g'' : SV → SV → Mem → Option (SV × Mem)} (hg : G2 K r g) (hg' : G2 K r' g') (hg'' : G2 K r'' g'') (ha : J K (VR K) ta fa) (hb : J K (VR K) tb fb) (hc : J K (VR K) tc fc) (hd : J K (VR K) td fd) : J K (VR K) (tChain3 r r' r'' ta tb tc td) (fChain3 g g' g'' fa fb fc fd) := fun Γ M z M' h as B σ H R G Q q => by
  simp only [fChain3, Option.bind_eq_some_iff] at h
  obtain ⟨⟨x, M1⟩, h1, ⟨y, M2⟩, h2, ⟨w, M3⟩, h3, k, h4, h5⟩ := h
  refine ha Γ M x M1 h1 as B σ H R G _ fun u as1 B1 H1 L1 R1 r1 => hb Γ M1 y M2 h2 as1 B1 σ H1 R1 (G.mono L1) _ fun v as2 B2 H2 L2 R2 r2 => ?_
  refine hg x y M2 w M3 h3 as2 B2 H2 R2 u v (r1.mono L2) r2 _ fun w' as3 B3 H3 L3 R3 r3 => ⟨k, boolOf_ok r3 h4, ?_⟩
  have LL := (L1.trans L2).trans L3
  cases k with
  | false => cases h5; exact q _ as3 B3 H3 LL R3 (.bl _)
  | true =>
    simp only [if_true, Option.bind_eq_some_iff] at h5
    obtain ⟨⟨s, M4⟩, h6, ⟨w2, M5⟩, h7, k', h8, h9⟩ := h5
    refine hc Γ M3 s M4 h6 as3 B3 σ H3 R3 (((G.mono L1).mono L2).mono L3) _ fun s' as4 B4 H4 L4 R4 r4 => ?_
    refine hg' y s M4 w2 M5 h7 as4 B4 H4 R4 v s' ((r2.mono L3).mono L4) r4 _ fun w2' as5 B5 H5 L5 R5 r5 => ⟨k', boolOf_ok r5 h8, ?_⟩
    have L6 := (LL.trans L4).trans L5
    cases k' with
    | false => cases h9; exact q _ as5 B5 H5 L6 R5 (.bl _)
    | true =>
      simp only [if_true, Option.bind_eq_some_iff] at h9
      obtain ⟨⟨t, M6⟩, h10, h11⟩ := h9
      refine hd Γ M5 t M6 h10 as5 B5 σ H5 R5 (G.mono L6) _ fun t' as6 B6 H6 L7 R6 r6 => ?_
      exact hg'' s t M6 z M' h11 as6 B6 H6 R6 s' t' ((r4.mono L5).mono L7) r6 Q fun z' as7 B7 H7 L8 R7 r7 => q z' as7 B7 H7 ((L6.trans L7).trans L8) R7 r7
theorem zchain3 {op op' op'' : CmpOp} {r r' r'' : R2} {g g' g'' : SV → SV → Mem → Option (SV × Mem)} (ho : OpR X (compareOp op) r) (ho' : OpR X (compareOp op') r') (ho'' : OpR X (compareOp op'') r'') (hg : G2 X.K r g) (hg' : G2 X.K r' g') (hg'' : G2 X.K r'' g'') (ha : PEd X a fa) (hb : PEd X b fb) (hc : PEd X c fc) (hd : PEd X d fd)
    (hm : lastMarks [op, op', op''] [b, c, d] = false := by with_unfolding_all rfl) : PEd X (.Compare a [op, op', op''] [b, c, d] pos) (fChain3 g g' g'' fa fb fc fd) := .of (pe_chain3 ho ho' ho'' ha.pe hb.pe hc.pe hd.pe hm) (j_chain3 hg hg' hg'' ha.j hb.j hc.j hd.j)
/-! len(set(xs)) -/
def rLenO (w : World) : List V → Hp → VK → Prop := fun xs H Q => ∃ (a : Addr) (S : Int → Bool) (n : Nat), xs = [V.ref a] ∧ H a = some (SetO w a S n) ∧ n < 64 ∧ ∀ ms : List Int, ms.Nodup → (∀ k, k ∈ ms ↔ S k = true) → ms.length = n → Q (.int n) H
theorem cr_lenO : CallR X (.builtin "len") (rLenO X.w) := by
  intro pins s σ H xs us Q I rr h
  obtain ⟨a, S, n, rfl, ha, hz, q⟩ := h
  rw [Vals.ref1 rr]
  obtain ⟨o, es, ep, t, h1, h2, h3, _, nd, hm, _, hf, hn, _, _⟩ := setO_get I ha
  refine call_len_set h1 h2 h3 hf (by omega) ⟨.int n, H, I.tok _, ⟨_, by rw [hn]⟩, q _ nd (fun k => (hm k).symm) ?_⟩
  rw [List.length_map, Array.length_toList, hn]
def fLenSet (a : Fe) : Fe := fun Γ M => (a Γ M).bind fun p => (lstOf p.2 p.1).bind fun xs => (allD xs).bind fun ds => (intsOf ds).bind fun ns => if ns.length < 63 then some (.d (.int ((uq ns).length : Nat)), p.2) else none
theorem zlenSet {e : Expr} {fe : Fe} {p p2 pos2 : Pos} (hc : X.calm = true) (hg : Gl X "len") (hm : X.mg "len" = none) (hg2 : Gl X "set") (hm2 : X.mg "set" = none) (ha : PEd X e fe)
    (n1 : starEach [e] X.env = (false, eval e X.env) :: starEach [] X.env := by rfl)
    (n2 : starEach [Expr.Call (.Name "set" p2) [e] [] pos2] X.env = (false, eval (.Call (.Name "set" p2) [e] [] pos2) X.env) :: starEach [] X.env := by rfl) :
    PEd X (.Call (.Name "len" p) [.Call (.Name "set" p2) [e] [] pos2] [] pos) (fLenSet fe) :=
  .of (pe_callB cr_lenO hg hm bb_len (pa_cons (pe_callTy (cr_setI hc) hg2 hm2 bb_set (pa_cons ha.pe pa_nil n1) (by decide) (by decide) n1 rfl) pa_nil n2) (by decide) (by decide) n2 rfl)
    (fun Γ M z M' h as B σ H R G Q q => by
      simp only [fLenSet, Option.bind_eq_some_iff] at h
      obtain ⟨⟨s, M1⟩, h1, xs, h2, ds, h3, ns, h4, h5⟩ := h
      obtain ⟨hz, h5⟩ := ite_some h5
      cases h5
      refine ha.j Γ M s M1 h1 as B σ H R G _ fun v as1 B1 H1 L1 R1 r1 => ?_
      obtain ⟨a, vs, rfl, r', pp⟩ := lstOf_ok R1 r1 h2
      have pd : Paired (DR X.K B1) ds vs := drs_of (as := as1) (by rw [← allD_some h3]; exact pp)
      rw [intsOf_ok h4] at pd
      rw [drs_ints pd] at r'
      refine ⟨a, ns, rfl, .inl r', by unfold scanBound; omega, fun b c hcl hb => ?_⟩
      obtain ⟨R2, L2⟩ := R1.data (o := SetO X.w b (fun j => decide (j ∈ ns)) c) hb
      refine ⟨b, _, c, rfl, upd_same, by omega, fun ms nd hmem hlen => ?_⟩
      have e1 : (uq ns).length = c := by
        rw [← hlen]
        refine List.Perm.length_eq ((List.perm_ext_iff_of_nodup ((uq_lt ns).imp fun h => by omega) nd).mpr fun k => ?_)
        rw [uq_mem, hmem k, decide_eq_true_eq]
      have := q (.int ((uq ns).length : Nat)) as1 _ _ (L1.trans L2) R2 (.int _)
      rw [e1] at this
      exact this)
end
end Z
/-! sorted of a tuple of data -/
namespace Z
open PySem PySem.Spec PyProof.Rows L2
section
variable {prog : Program} {w : World} {A : Around} {E : Value → Shared → Prop} {s : Shared} {l : Addr} {us : List Value}
theorem coll_tup {Q : List Value → Shared → Prop} (tup : IsTup s.heap l us.toArray) (few : us.length ≤ sizeLine)
    (q : Q us { s with heap := (s.heap.push (seqObj "list" #[] 0)).update s.heap.objs.size (Obj.mapSeq (· ++ us.toArray)) }) : wpAny (model prog w) A (collect (.ref l)) Q E s := by
  obtain ⟨ob, at_, cl, k, dat⟩ := tup
  have at2 : (s.heap.push (seqObj "list" #[] 0)).get? l = some ob := Heap.get?_push_of_some _ at_
  have new : (s.heap.push (seqObj "list" #[] 0)).get? s.heap.objs.size = some (seqObj "list" #[] 0) := Heap.get?_push_size _ rfl
  have big : (#[] ++ us.toArray : Array Value).size ≤ sizeLine + 1 := by
    rw [Array.size_append, List.size_toArray]
    show 0 + us.length ≤ sizeLine + 1
    omega
  unfold collect
  refine wpAny_bind (wpAny_runValue (codeAny_builtin PyProof.Rows.entry_proto_collect' ?_))
  refine wpAny_bind (m := newList []) (wpAny_newList (wpAny_pure (And.intro (Code.quiet_builtin _ (by decide +kernel)) (codeAny_builtin PyProof.Rows.entry_list_iadd' ?_))))
  show wpAny _ _ (Builtin.List.listExtendWith (.ref s.heap.objs.size) (.ref l) _) _ _ { s with heap := _ }
  unfold Builtin.List.listExtendWith
  refine wpAny_bind (wpAny_typeOf (T := "tuple") ⟨ob, at2, cl⟩ ?_)
  have yes : (Builtin.List.listSameRef (.ref s.heap.objs.size) (.ref l) || Value.type "tuple" == .type "list" || Value.type "tuple" == .type "tuple") = true := by
    rw [show (Value.type "tuple" == Value.type "tuple") = true from rfl, Bool.or_true]
  rw [if_pos yes]
  refine wpAny_bind (listItems_at at2 dat (wpAny_bind (listItems_at new rfl ?_)))
  rw [if_neg (by simp)]
  refine wpAny_bind (listUpdate_at new rfl (wpAny_pure ?_) (Nat.zero_le _) big)
  refine wpAny_bind (wpAny_load (get?_update_seq new _) ?_)
  have e : ((#[] : Array Value) ++ us.toArray).toList = us := by simp
  show wpAny _ _ (pure ((#[] : Array Value) ++ us.toArray).toList) Q E _
  rw [e]
  exact wpAny_pure q
theorem sorted_tup {Q : Value → Shared → Prop} {κ : PyProof.Rows.KeyKind} (tup : IsTup s.heap l us.toArray) (few : us.length ≤ sizeLine)
    (S : PySem.W.SortsAt prog w A.in1.in1 { s with heap := PySem.W.sortingHeap (PySem.W.copyHeap s.heap us) (s.heap.objs.size + 1) us } κ us)
    (q : Q (.ref (s.heap.objs.size + 1)) { s with heap := sortedAll s.heap us (PySem.W.sortVals κ false us us).toArray }) : wpAny (model prog w) A (call (.builtin "sorted") [.ref l]) Q E s := by
  refine Calls.call_function_entry kind_sorted plain_sorted entry_sorted (args_sorted1 _) ?_
  unfold Builtin.«sorted»
  refine wpAny_bind (m := checkCount "sorted" 1 1 _) (wpAny_pure (wpAny_bind (coll_tup tup few (wpAny_bind (wpAny_newList ?_ few)))))
  have size : ((s.heap.push (seqObj "list" #[] 0)).update s.heap.objs.size (Obj.mapSeq (· ++ us.toArray))).objs.size = s.heap.objs.size + 1 := by
    rw [Heap.size_update, size_push']
  show wpAny _ _ _ _ _ { s with heap := PySem.W.copyHeap s.heap us }
  rw [size]
  refine wpAny_bind (wpAny_holding (wpAny_call_entry slot_list_sort ⟨_, PySem.W.copyHeap_at s.heap us, rfl⟩ entry_list_sort ?_ (args_list_sort _)))
  refine PySem.W.list_sort_vals (s := { s with heap := PySem.W.copyHeap s.heap us }) (PySem.W.copyHeap_at s.heap us) S few ⟨_, rfl, wpAny_pure ⟨_, rfl, q⟩⟩
end
def rSortedDT (K : PySem.W.Frag) : List V → Hp → VK → Prop := fun xs H Q => ∃ (a : Addr) (vs : List V) (ds : List PyData), xs = [.ref a] ∧ SqT K H a vs ∧ DpAll K H vs ds ∧ PySem.W.AllAlike ds ∧ PySem.W.Sortable ds ∧ (∀ d ∈ ds, d.depth ≤ 60) ∧
  ∀ p, H p = none → Q (.ref p) (upd H p (.lst ((sortV vs ds).map (·.1))))
section
variable {X : Cx} {K : PySem.W.Frag}
theorem cr_sortedDT (hu : X.A.units + 65 < cLine) : CallR X (.builtin "sorted") (rSortedDT X.K) := by
  intro pins s σ H xs us Q I r h
  obtain ⟨a, vs, ds, rfl, hs, hd, ha, hk, hz, q⟩ := h
  obtain ⟨its, rv, hl, hlen⟩ := I.tuple hs
  rw [Vals.ref1 r]
  obtain ⟨as, hr⟩ := Dp.readsAll I ds vs its hd rv
  have ev := each_of (s := s) rv hr
  have snd : (vs.zip ds).map (·.2) = ds := List.map_snd_zip (by have := dpAll_len hd; omega)
  have il : its.length = vs.length := rv.length.symm
  have keys : PySem.W.EachIs (fun u (b : V × PyData) => ∃ as, Reads (PySem.W.sortingHeap (PySem.W.copyHeap s.heap its) (s.heap.objs.size + 1) its) u b.2 as) its (vs.zip ds) :=
    ev.mono fun _ _ h => by
      obtain ⟨_, as, r⟩ := h
      exact ⟨as, PyProof.Rows.Reads.keeps (fun _ _ e => PySem.W.sorting_copy_old e) r⟩
  have low : ∀ d, d ∈ (vs.zip ds).map (·.2) → X.A.in1.in1.units + d.depth < cLine := fun d m => by
    rw [snd] at m
    have := hz d m
    show X.A.units + 1 + 1 + d.depth < cLine
    omega
  have keys2 := PySem.W.each_map (R := fun u d => ∃ as, Reads (PySem.W.sortingHeap (PySem.W.copyHeap s.heap its) (s.heap.objs.size + 1) its) u d as) (fun b : V × PyData => b.2) keys
  refine sorted_tup hl (by omega) (PySem.W.SortsAt.data (s := { s with heap := _ }) keys2 (by rw [snd]; exact ha) (by rw [snd]; exact hk) low) ?_
  have out := PySem.W.sortVals_data (enc := fun b : V × PyData => b.2) false (ev.mono fun _ _ h => h.1) keys (by rw [snd]; exact ha)
  obtain ⟨ep, he'⟩ := PyProof.Rows.sortedAll_at s.heap its (PySem.W.sortVals (PySem.W.dataKind (PySem.W.sortingHeap (PySem.W.copyHeap s.heap its) (s.heap.objs.size + 1) its) ((vs.zip ds).map (·.2))) false its its).toArray
  have hl2 : ((sortV vs ds).map (·.1)).length ≤ sizeLine := by
    rw [List.length_map]
    unfold sortV
    rw [List.length_mergeSort, List.length_zip]
    omega
  exact ⟨.ref _, upd H (s.heap.objs.size + 1) (.lst ((sortV vs ds).map (·.1))), I.laid (t' := s.toks) (fun _ _ => PyProof.Rows.sortedAll_old) (Nat.le_succ _) ⟨hl2, _, ep, vals_each out, by simpa using he'⟩, rfl, q _ (I.hok.fresh (Nat.le_succ _))⟩
/-- sorted, of a tuple of data or as before -/
def srtT (ds : List PyData) : Option (List PyData) := match ds with
  | d :: r => if PyData.canLayAll0 (d :: r) = true ∧ alikeB (d :: r) = true ∧ sortB (d :: r) = true ∧ ((d :: r).all fun d => decide (d.depth ≤ 60)) = true then some (sortD (d :: r)) else none
  | [] => none
def gSrtT : List SV → Mem → Option (SV × Mem)
  | [.d (.tuple ds)], M => (srtT ds).map fun es => (.d (.list es), M)
  | ss, M => gSrtZ ss M
theorem g_srtT : GA K (fun xs H Q => (rSortedI K xs H Q ∨ rSortedD K xs H Q) ∨ rSortedDT K xs H Q) gSrtT := fun x M z M' h as B H R u rx Q q => by
  unfold gSrtT at h
  split at h
  · rename_i ds
    simp only [Option.map_eq_some_iff] at h
    obtain ⟨es, h2, h3⟩ := h
    cases h3
    obtain ⟨y, rfl, r⟩ := pr1 rx
    cases r with
    | @tup a vs _ r' pp =>
      unfold srtT at h2
      split at h2
      · rename_i d t
        obtain ⟨⟨c1, c2, c3, c4⟩, h2⟩ := ite_some h2
        cases h2
        have hl : vs.length = (d :: t).length := (Paired.length pp).symm
        refine .inr ⟨a, vs, d :: t, rfl, same_t R.ex r', DR.dps (d :: t) vs c1 (DR.monos R.ex _ _ pp), alikeB_ok c2, sortB_ok c3, fun d hd => of_decide_eq_true (List.all_eq_true.mp c4 d hd), fun p hp => ?_⟩
        have pz : Paired (DR K B) (sortD (d :: t)) ((sortV vs (d :: t)).map (·.1)) := by
          rw [← sortV_d hl]
          refine paired_unzip fun p hp => ?_
          unfold sortV at hp
          exact paired_zip pp p ((List.mergeSort_perm _ _).mem_iff.mp hp)
        obtain ⟨B', R', L', w⟩ := R.lstD hp pz
        exact q _ as B' _ L' R' w
      · cases h2
  · exact .inl (g_srtZ _ M z M' h as B H R u rx Q q)
end
end Z
/-! Values alone: a reading where all is data but the lists that a def makes and changes. -/
namespace Y
open PySem L2 Z
/-! values, draws, errors -/
abbrev PW (α : Type) := Nat → (α → Nat → Prop) → Prop
def ret {α : Type} (x : α) : PW α := fun n Q => Q x n
def bd {α β : Type} (f : α → PW β) (_ : Shut f) (m : PW α) : PW β := fun n Q => m n fun x k => f x k Q
def bad {α : Type} : PW α := fun _ _ => False
def ofO {α : Type} : Option α → PW α
  | some x => ret x
  | none => bad
def draw (k : Int) : PW PyData := fun n Q => (0 < k ∧ k < 2 ^ 30 ∧ (n : Int) < 2 ^ 40) ∧ ∀ r : Int, 0 ≤ r → r < k → Q (.int r) (n + 1)
def sc : PyData → Bool
  | .bool _ => true
  | .none => true
  | .int _ => true
  | _ => false
def bor (m : PW PyData) : PW PyData := fun n Q => ∃ x, m = ret x ∧ sc x = true ∧ Q x n
theorem bd_ret {α β : Type} {f : α → PW β} {u : Shut f} {x : α} : bd f u (ret x) = f x := funext fun _ => funext fun _ => rfl
theorem bd_bad {α β : Type} {f : α → PW β} {u : Shut f} : bd f u bad = bad := funext fun _ => funext fun _ => rfl
theorem ofO_some {α : Type} {x : α} : ofO (some x) = ret x := rfl
theorem ofO_none {α : Type} : ofO (none : Option α) = bad := rfl
theorem ret_inj {α : Type} {x y : α} (h : (ret x : PW α) = ret y) : x = y := by
  have e := congrFun (congrFun h 0) (fun z _ => z = y)
  exact (show (x = y) = (y = y) from e).mpr rfl
theorem bor_ret {x : PyData} (h : sc x = true) : bor (ret x) = ret x := by
  funext n Q
  refine propext ⟨fun ⟨y, e, _, q⟩ => ?_, fun q => ⟨x, rfl, h, q⟩⟩
  rw [ret_inj e]
  exact q
theorem bor_bool {b : Bool} : bor (ret (.bool b)) = ret (.bool b) := bor_ret rfl
theorem ofO_inv {α : Type} {o : Option α} {n : Nat} {Q : α → Nat → Prop} (h : ofO o n Q) : ∃ z, o = some z ∧ Q z n := by
  cases o with
  | none => exact h.elim
  | some z => exact ⟨z, rfl, h⟩
abbrev Env := List (Option PyData)
abbrev Pe := Env → PW PyData
abbrev Pt := Env → PW Bool
abbrev Pa := Env → PW (List PyData)
abbrev Po := Env → PW (Option Int)
abbrev Pg := PyData → Env → PW Env
abbrev Pgs := List PyData → Env → PW Env
abbrev Pf := List PyData → PW PyData
/-! what a reading's memory has to do with it -/
def BoxQ (l : Option Nat) (M : Mem) (n : Nat) : Prop := ∀ k, l = some k → ZL.BoxOk M k n
structure Later (l : Option Nat) (M M' : Mem) : Prop where
  len : M.length ≤ M'.length
  old : ∀ m, m < M.length → l ≠ some m → M'[m]? = M[m]?
theorem Later.refl (l : Option Nat) (M : Mem) : Later l M M := ⟨Nat.le_refl _, fun _ _ _ => rfl⟩
theorem Later.trans {l : Option Nat} {M M1 M2 : Mem} (h : Later l M M1) (g : Later l M1 M2) : Later l M M2 := ⟨Nat.le_trans h.len g.len, fun m hm k => by rw [g.old m (Nat.lt_of_lt_of_le hm h.len) k, h.old m hm k]⟩
theorem Later.at {l : Option Nat} {M M' : Mem} (h : Later l M M') {w : Nat} {o : MO} (k : l ≠ some w) (e : M[w]? = some o) : M'[w]? = some o := by
  rw [h.old w (List.getElem?_eq_some_iff.mp e).1 k]
  exact e
theorem Later.app (l : Option Nat) (M G : Mem) : Later l M (M ++ G) := ⟨by rw [List.length_append]; omega, fun m hm _ => List.getElem?_append_left hm⟩
theorem box_lt {M : Mem} {l : Nat} {n : Int} (h : ZL.BoxOk M l n) : l < M.length := by
  obtain ⟨a, b, c, w, _⟩ := h
  exact (List.getElem?_eq_some_iff.mp w).1
theorem box_of {M M' : Mem} {l : Nat} {n : Int} (h : ZL.BoxOk M l n) (e : M'[l]? = M[l]?) : ZL.BoxOk M' l n := by
  obtain ⟨a, b, c, w, k⟩ := h
  exact ⟨a, b, c, by rw [e]; exact w, k⟩
theorem BoxQ.lt {l : Option Nat} {M : Mem} {n : Nat} (h : BoxQ l M n) {k : Nat} (e : l = some k) : k < M.length := box_lt (h k e)
theorem BoxQ.of {l : Option Nat} {M M' : Mem} {n : Nat} (h : BoxQ l M n) (e : ∀ k, l = some k → M'[k]? = M[k]?) : BoxQ l M' n := fun k q => box_of (h k q) (e k q)
theorem BoxQ.app {l : Option Nat} {M : Mem} {n : Nat} (h : BoxQ l M n) (G : Mem) : BoxQ l (M ++ G) n := h.of fun k q => List.getElem?_append_left (h.lt q)
/-- a value as data: data, or a list of data at a place -/
def RdS (l : Option Nat) (M : Mem) (s : SV) (x : PyData) : Prop := s = .d x ∨ ∃ w ds, s = .loc w ∧ l ≠ some w ∧ x = .list ds ∧ M[w]? = some (.lst (ds.map .d))
theorem RdS.later {l : Option Nat} {M M' : Mem} {s : SV} {x : PyData} (h : RdS l M s x) (L : Later l M M') : RdS l M' s x := by
  rcases h with h | ⟨w, ds, h1, h2, h3, h4⟩
  · exact .inl h
  · exact .inr ⟨w, ds, h1, h2, h3, L.at h2 h4⟩
theorem RdS.rd {l : Option Nat} {M : Mem} {s : SV} {x : PyData} (h : RdS l M s x) : rdD M s = some x := by
  rcases h with rfl | ⟨w, ds, rfl, h2, rfl, h4⟩
  · rfl
  · simp only [rdD, h4, allD_map, Option.map_some]
theorem RdS.lst {l : Option Nat} {M : Mem} {s : SV} {ds : List PyData} (h : RdS l M s (.list ds)) : lstOf M s = some (ds.map .d) := by
  rcases h with rfl | ⟨w, ds', rfl, h2, h3, h4⟩
  · rfl
  · cases h3
    simp only [lstOf, h4]
theorem RdS.d {l : Option Nat} {M : Mem} {s : SV} {x : PyData} (h : RdS l M s x) (k : ∀ ds, x ≠ .list ds) : s = .d x := by
  rcases h with rfl | ⟨w, ds', rfl, h2, h3, h4⟩
  · rfl
  · exact absurd h3 (k _)
theorem RdS.seq {l : Option Nat} {M : Mem} {s : SV} {x : PyData} {ds : List PyData} (h : RdS l M s x) (e : seqD x = some ds) : seqOf M s = some (ds.map .d) := by
  cases x with
  | list es =>
    cases e
    have := h.lst
    cases s with
    | d y => cases y <;> first | exact this | cases this
    | loc w => exact this
  | tuple es =>
    cases e
    rw [h.d (fun _ z => nomatch z)]
    rfl
  | _ => cases e
def seqP (x : PyData) : Option (List PyData) := seqD x
structure St (b : Nat) (l bx : Option Nat) (O : List Nat) (E : Env) (Γ : Gm) (M : Mem) : Prop where
  hl : ∀ k, l = some k → k < b
  hb : b ≤ M.length
  len : E.length = Γ.length
  box : ∀ i : Nat, bx = some i → ∃ k : Nat, l = some k ∧ Γ[i]? = some (some (SV.loc k))
  lt : ∀ (i w : Nat), Γ[i]? = some (some (.loc w)) → w < M.length
  var : ∀ (i : Nat) (x : PyData), E[i]? = some (some x) → i ∉ O → Γ[i]? = some (some (SV.d x))
  own : ∀ (i : Nat) (x : PyData), E[i]? = some (some x) → i ∈ O → ∃ (w : Nat) (ds : List PyData), Γ[i]? = some (some (.loc w)) ∧ b ≤ w ∧ x = .list ds ∧ M[w]? = some (.lst (ds.map .d)) ∧ ∀ j, j ∈ O → j ≠ i → Γ[j]? ≠ some (some (.loc w))
section
variable {b : Nat} {l bx : Option Nat} {O : List Nat} {E E' : Env} {Γ : Gm} {M M' : Mem} {n : Nat}
theorem St.ne (S : St b l bx O E Γ M) {w : Nat} (h : b ≤ w) : l ≠ some w := fun e => by
  have := S.hl w e
  omega
theorem St.later (S : St b l bx O E Γ M) (L : Later l M M') : St b l bx O E Γ M' where
  hl := S.hl
  hb := Nat.le_trans S.hb L.len
  len := S.len
  box := S.box
  lt := fun i w e => Nat.lt_of_lt_of_le (S.lt i w e) L.len
  var := S.var
  own := fun i x e h => by
    obtain ⟨w, ds, h1, h2, h3, h4, h5⟩ := S.own i x e h
    exact ⟨w, ds, h1, h2, h3, L.at (S.ne h2) h4, h5⟩
theorem St.rd (S : St b l bx O E Γ M) {i : Nat} {x : PyData} (e : E[i]? = some (some x)) : ∃ s, Γ[i]? = some (some s) ∧ RdS l M s x := by
  by_cases h : i ∈ O
  · obtain ⟨w, ds, h1, h2, h3, h4, h5⟩ := S.own i x e h
    exact ⟨_, h1, .inr ⟨w, ds, rfl, S.ne h2, h3, h4⟩⟩
  · exact ⟨_, S.var i x e h, .inl rfl⟩
/-- a name gets data -/
theorem St.setD (S : St b l bx O E Γ M) {i : Nat} {x : PyData} (hO : i ∉ O) (hx : bx ≠ some i) : St b l bx O (E.set i (some x)) (Γ.set i (some (.d x))) M where
  hl := S.hl
  hb := S.hb
  len := by rw [List.length_set, List.length_set]; exact S.len
  box := fun j e => by
    obtain ⟨k, h1, h2⟩ := S.box j e
    exact ⟨k, h1, by rw [List.getElem?_set_ne (fun q => hx (by rw [q]; exact e))]; exact h2⟩
  lt := fun j w e => by
    by_cases q : i = j
    · subst q
      by_cases q2 : i < Γ.length
      · rw [List.getElem?_set_self q2] at e
        cases e
      · rw [List.getElem?_eq_none (by rw [List.length_set]; omega)] at e
        cases e
    · rw [List.getElem?_set_ne q] at e
      exact S.lt j w e
  var := fun j y e h => by
    by_cases q : i = j
    · subst q
      have q2 : i < E.length := by have := (List.getElem?_eq_some_iff.mp e).1; rw [List.length_set] at this; exact this
      rw [List.getElem?_set_self q2] at e
      cases e
      exact List.getElem?_set_self (by rw [← S.len]; exact q2)
    · rw [List.getElem?_set_ne q] at e ⊢
      exact S.var j y e h
  own := fun j y e h => by
    have q : i ≠ j := fun q => hO (q ▸ h)
    rw [List.getElem?_set_ne q] at e ⊢
    obtain ⟨w, ds, h1, h2, h3, h4, h5⟩ := S.own j y e h
    refine ⟨w, ds, h1, h2, h3, h4, fun k hk hkj => ?_⟩
    have q3 : i ≠ k := fun q => hO (q ▸ hk)
    rw [List.getElem?_set_ne q3]
    exact h5 k hk hkj
/-- a name gets a new list -/
theorem St.setN (S : St b l bx O E Γ M) {i w : Nat} {ds : List PyData} (hO : i ∈ O) (hx : bx ≠ some i) (hw : b ≤ w) (hm : M[w]? = some (.lst (ds.map .d))) (hn : ∀ j : Nat, Γ[j]? ≠ some (some (.loc w))) :
    St b l bx O (E.set i (some (.list ds))) (Γ.set i (some (.loc w))) M where
  hl := S.hl
  hb := S.hb
  len := by rw [List.length_set, List.length_set]; exact S.len
  box := fun j e => by
    obtain ⟨k, h1, h2⟩ := S.box j e
    exact ⟨k, h1, by rw [List.getElem?_set_ne (fun q => hx (by rw [q]; exact e))]; exact h2⟩
  lt := fun j w' e => by
    by_cases q : i = j
    · subst q
      by_cases q2 : i < Γ.length
      · rw [List.getElem?_set_self q2] at e
        cases e
        exact (List.getElem?_eq_some_iff.mp hm).1
      · rw [List.getElem?_eq_none (by rw [List.length_set]; omega)] at e
        cases e
    · rw [List.getElem?_set_ne q] at e
      exact S.lt j w' e
  var := fun j y e h => by
    have q : i ≠ j := fun q => h (q ▸ hO)
    rw [List.getElem?_set_ne q] at e ⊢
    exact S.var j y e h
  own := fun j y e h => by
    by_cases q : i = j
    · subst q
      have q2 : i < E.length := by have := (List.getElem?_eq_some_iff.mp e).1; rw [List.length_set] at this; exact this
      rw [List.getElem?_set_self q2] at e
      cases e
      refine ⟨w, ds, List.getElem?_set_self (by rw [← S.len]; exact q2), hw, rfl, hm, fun k hk hkj => ?_⟩
      rw [List.getElem?_set_ne (Ne.symm hkj)]
      exact hn k
    · rw [List.getElem?_set_ne q] at e ⊢
      obtain ⟨w', ds', h1, h2, h3, h4, h5⟩ := S.own j y e h
      refine ⟨w', ds', h1, h2, h3, h4, fun k hk hkj => ?_⟩
      by_cases q3 : i = k
      · subst q3
        intro e3
        by_cases q4 : i < Γ.length
        · rw [List.getElem?_set_self q4] at e3
          cases e3
          exact hn j h1
        · rw [List.getElem?_eq_none (by rw [List.length_set]; omega)] at e3
          cases e3
      · rw [List.getElem?_set_ne q3]
        exact h5 k hk hkj
/-- a list of one's own changes -/
theorem St.put (S : St b l bx O E Γ M) {i w : Nat} {ds ds' : List PyData} (hO : i ∈ O) (e : E[i]? = some (some (.list ds))) (hw : Γ[i]? = some (some (.loc w))) :
    St b l bx O (E.set i (some (.list ds'))) Γ (M.set w (.lst (ds'.map .d))) where
  hl := S.hl
  hb := by rw [List.length_set]; exact S.hb
  len := by rw [List.length_set]; exact S.len
  box := S.box
  lt := fun j w' e => by rw [List.length_set]; exact S.lt j w' e
  var := fun j y e h => by
    have q : i ≠ j := fun q => h (q ▸ hO)
    rw [List.getElem?_set_ne q] at e
    exact S.var j y e h
  own := fun j y e' h => by
    obtain ⟨w0, ds0, k1, k2, k3, k4, k5⟩ := S.own i _ e hO
    rw [hw] at k1
    cases k1
    by_cases q : i = j
    · subst q
      rw [List.getElem?_set_self (List.getElem?_eq_some_iff.mp e).1] at e'
      cases e'
      exact ⟨w, ds', hw, k2, rfl, List.getElem?_set_self (List.getElem?_eq_some_iff.mp k4).1, k5⟩
    · rw [List.getElem?_set_ne q] at e'
      obtain ⟨w', ds'', h1, h2, h3, h4, h5⟩ := S.own j y e' h
      have ne : w ≠ w' := fun z => k5 j h (Ne.symm q) (by rw [z]; exact h1)
      exact ⟨w', ds'', h1, h2, h3, by rw [List.getElem?_set_ne ne]; exact h4, h5⟩
/-- names forgotten -/
theorem St.drop (S : St b l bx O E Γ M) {i : Nat} (hO : i ∉ O) (hx : bx ≠ some i) : St b l bx O (E.set i none) (Γ.set i none) M where
  hl := S.hl
  hb := S.hb
  len := by rw [List.length_set, List.length_set]; exact S.len
  box := fun j e => by
    obtain ⟨k, h1, h2⟩ := S.box j e
    exact ⟨k, h1, by rw [List.getElem?_set_ne (fun q => hx (by rw [q]; exact e))]; exact h2⟩
  lt := fun j w' e => by
    by_cases q : i = j
    · subst q
      by_cases q2 : i < Γ.length
      · rw [List.getElem?_set_self q2] at e
        cases e
      · rw [List.getElem?_eq_none (by rw [List.length_set]; omega)] at e
        cases e
    · rw [List.getElem?_set_ne q] at e
      exact S.lt j w' e
  var := fun j y e h => by
    by_cases q : i = j
    · subst q
      have q2 : i < E.length := by have := (List.getElem?_eq_some_iff.mp e).1; rw [List.length_set] at this; exact this
      rw [List.getElem?_set_self q2] at e
      cases e
    · rw [List.getElem?_set_ne q] at e ⊢
      exact S.var j y e h
  own := fun j y e h => by
    have q : i ≠ j := fun q => hO (q ▸ h)
    rw [List.getElem?_set_ne q] at e ⊢
    obtain ⟨w, ds, h1, h2, h3, h4, h5⟩ := S.own j y e h
    refine ⟨w, ds, h1, h2, h3, h4, fun k hk hkj => ?_⟩
    have q3 : i ≠ k := fun q => hO (q ▸ hk)
    rw [List.getElem?_set_ne q3]
    exact h5 k hk hkj
end
def wipeE (E : Env) : List Nat → Env
  | [] => E
  | v :: vs => (wipeE E vs).set v none
theorem St.wipe {b : Nat} {l bx : Option Nat} {O : List Nat} {E : Env} {Γ : Gm} {M : Mem} (S : St b l bx O E Γ M) : ∀ vs : List Nat, (∀ v ∈ vs, v ∉ O ∧ bx ≠ some v) → St b l bx O (wipeE E vs) (wipeG Γ vs) M
  | [], _ => S
  | v :: vs, h => (S.wipe vs fun u hu => h u (List.mem_cons_of_mem _ hu)).drop (h v List.mem_cons_self).1 (h v List.mem_cons_self).2
/-- a reading does what a reading of values does -/
def SR {α β : Type} (bx : Option Nat) (O : List Nat) (R : Option Nat → Mem → α → β → Prop) (f : Gm → Mem → Option (α × Mem)) (p : Env → PW β) : Prop :=
  ∀ (b : Nat) (l : Option Nat) (E : Env) (Γ : Gm) (M : Mem) (n : Nat) (Q : β → Nat → Prop), St b l bx O E Γ M → BoxQ l M n → p E n Q → ∃ a M' x n', f Γ M = some (a, M') ∧ Later l M M' ∧ BoxQ l M' n' ∧ R l M' a x ∧ Q x n'
def RD : Option Nat → Mem → SV → PyData → Prop := fun _ _ s x => s = .d x
def RQ {α : Type} : Option Nat → Mem → α → α → Prop := fun _ _ a x => a = x
def RA (k : Nat) : Option Nat → Mem → List SV → List PyData → Prop := fun l M ss xs => Paired (RdS l M) ss xs ∧ xs.length = k
def RAD (k : Nat) : Option Nat → Mem → List SV → List PyData → Prop := fun _ _ ss xs => ss = xs.map .d ∧ xs.length = k
def SI (bx : Option Nat) (O : List Nat) (f : Fi) (p : Env → PW (List PyData)) : Prop := SR bx O (fun l M a xs => a.1 = xs.map .d ∧ ∀ w, a.2 = some w → l ≠ some w ∧ M[w]? = some (.lst (xs.map .d))) f p
def SI0 (bx : Option Nat) (O : List Nat) (f : Fi) (p : Env → PW (List PyData)) : Prop := SR bx O (fun l M a xs => a = (xs.map .d, none)) f p
/-- a new list -/
def SN (bx : Option Nat) (O : List Nat) (f : Fe) (p : Pe) : Prop :=
  ∀ (b : Nat) (l : Option Nat) (E : Env) (Γ : Gm) (M : Mem) (n : Nat) (Q : PyData → Nat → Prop), St b l bx O E Γ M → BoxQ l M n → p E n Q → ∃ w M' ds n', f Γ M = some (.loc w, M') ∧ M.length ≤ w ∧ Later l M M' ∧ BoxQ l M' n' ∧ M'[w]? = some (.lst (ds.map .d)) ∧ Q (.list ds) n'
def SF (f : Fn) (p : Pf) : Prop := ∀ (l : Option Nat) (M : Mem) (n : Nat) (ds : List PyData) (Q : PyData → Nat → Prop), BoxQ l M n → p ds n Q → ∃ x M' n', f (ds.map .d) M = some (.d x, M') ∧ Later l M M' ∧ BoxQ l M' n' ∧ Q x n'
def SFB (f : Fn) (p : Pf) : Prop := ∀ (k : Nat) (M : Mem) (n : Nat) (ds : List PyData) (Q : PyData → Nat → Prop), ZL.BoxOk M k n → p ds n Q → ∃ x M' n', f (.loc k :: ds.map .d) M = some (.d x, M') ∧ Later (some k) M M' ∧ ZL.BoxOk M' k (n' : Nat) ∧ Q x n'
section
variable {bx : Option Nat} {O : List Nat}
theorem sd_e {f : Fe} {p : Pe} (h : SR bx O RD f p) : SR bx O RdS f p := fun b l E Γ M n Q S B q => by
  obtain ⟨a, M', x, n', h1, h2, h3, h4, h5⟩ := h b l E Γ M n Q S B q
  exact ⟨a, M', x, n', h1, h2, h3, .inl h4, h5⟩
def pVar (i : Nat) : Pe := fun E => match E[i]? with
  | some (some x) => ret x
  | _ => bad
theorem pvar_inv {i : Nat} {E : Env} {n : Nat} {Q : PyData → Nat → Prop} (h : pVar i E n Q) : ∃ x, E[i]? = some (some x) ∧ Q x n := by
  unfold pVar at h
  cases e : E[i]? with
  | none => rw [e] at h; exact h.elim
  | some o => cases o with
    | none => rw [e] at h; exact h.elim
    | some x => rw [e] at h; exact ⟨x, rfl, h⟩
theorem se_var {i : Nat} : SR bx O RdS (fVar i) (pVar i) := fun b l E Γ M n Q S B q => by
  obtain ⟨x, e, q⟩ := pvar_inv q
  obtain ⟨s, e1, r⟩ := S.rd e
  exact ⟨s, M, x, n, by unfold fVar; rw [e1], Later.refl _ _, B, r, q⟩
theorem sd_var {i : Nat} (h : i ∉ O) : SR bx O RD (fVar i) (pVar i) := fun b l E Γ M n Q S B q => by
  obtain ⟨x, e, q⟩ := pvar_inv q
  exact ⟨_, M, x, n, by unfold fVar; rw [S.var i x e h], Later.refl _ _, B, rfl, q⟩
def pC (x : PyData) : Pe := fun _ => ret x
theorem sd_c {x : PyData} : SR bx O RD (fC x) (pC x) := fun b l E Γ M n Q S B q => ⟨_, M, x, n, rfl, Later.refl _ _, B, rfl, q⟩
/-! operators -/
def pOp (g : PyData → PyData → Option PyData) (a b : Pe) : Pe := fun E => bd (fun x => bd (fun y => ofO (g x y)) ⟨⟩ (b E)) ⟨⟩ (a E)
def SG (g : SV → SV → Mem → Option (SV × Mem)) (p : PyData → PyData → Option PyData) : Prop := ∀ (l : Option Nat) (M : Mem) (s t : SV) (x y z : PyData), RdS l M s x → RdS l M t y → p x y = some z → g s t M = some (.d z, M)
theorem sd_op {g : SV → SV → Mem → Option (SV × Mem)} {pg : PyData → PyData → Option PyData} {a b : Fe} {pa pb : Pe} (hg : SG g pg) (ha : SR bx O RdS a pa) (hb : SR bx O RdS b pb) : SR bx O RD (fOp g a b) (pOp pg pa pb) := fun b' l E Γ M n Q S B q => by
  obtain ⟨s, M1, x, n1, e1, L1, B1, r1, q⟩ := ha b' l E Γ M n _ S B q
  obtain ⟨t, M2, y, n2, e2, L2, B2, r2, q⟩ := hb b' l E Γ M1 n1 _ (S.later L1) B1 q
  obtain ⟨z, e3, q⟩ := ofO_inv q
  refine ⟨_, M2, z, n2, ?_, L1.trans L2, B2, rfl, q⟩
  unfold fOp
  rw [e1, Option.bind_some]
  simp only
  rw [e2, Option.bind_some]
  exact hg l M2 s t x y z (r1.later L2) r2 e3
def pUn (g : PyData → Option PyData) (a : Pe) : Pe := fun E => bd (fun x => ofO (g x)) ⟨⟩ (a E)
def pNeg : PyData → Option PyData
  | .int i => some (.int (-i))
  | _ => none
theorem sd_neg {a : Fe} {pa : Pe} (ha : SR bx O RdS a pa) : SR bx O RD (fUn gNeg a) (pUn pNeg pa) := fun b' l E Γ M n Q S B q => by
  obtain ⟨s, M1, x, n1, e1, L1, B1, r1, q⟩ := ha b' l E Γ M n _ S B q
  obtain ⟨z, e3, q⟩ := ofO_inv q
  refine ⟨_, M1, z, n1, ?_, L1, B1, rfl, q⟩
  unfold fUn
  rw [e1, Option.bind_some]
  cases x with
  | int i =>
    rw [r1.d (fun _ z => nomatch z)]
    cases e3
    rfl
  | _ => cases e3
def pAdd : PyData → PyData → Option PyData
  | .int i, .int j => some (.int (i + j))
  | .str a, .str b => if a.length + b.length ≤ sizeLine then some (.str (a ++ b)) else none
  | .tuple a, .tuple b => if a.length + b.length ≤ sizeLine then some (.tuple (a ++ b)) else none
  | .list a, .list b => if a.length + b.length ≤ sizeLine then some (.list (a ++ b)) else none
  | _, _ => none
theorem ite_some' {α : Type} {c : Prop} [Decidable c] {x y : α} (h : (if c then some x else none) = some y) : c ∧ x = y := by
  by_cases k : c
  · rw [if_pos k] at h
    cases h
    exact ⟨k, rfl⟩
  · rw [if_neg k] at h
    cases h
theorem sg_add : SG gAdd pAdd := fun l M s t x y z r1 r2 e => by
  unfold pAdd at e
  split at e
  · cases e
    rw [r1.d (fun _ z => nomatch z), r2.d (fun _ z => nomatch z)]
    rfl
  · obtain ⟨h, e⟩ := ite_some' e
    cases e
    rw [r1.d (fun _ z => nomatch z), r2.d (fun _ z => nomatch z)]
    exact if_pos h
  · obtain ⟨h, e⟩ := ite_some' e
    cases e
    rw [r1.d (fun _ z => nomatch z), r2.d (fun _ z => nomatch z)]
    exact if_pos h
  · rename_i a b
    obtain ⟨h, e⟩ := ite_some' e
    cases e
    have k : gAdd s t M = (lstOf M s).bind fun xs => (lstOf M t).bind fun ys => mkL (xs ++ ys) M := by
      rcases r1 with rfl | ⟨w, ds, rfl, _, _, _⟩
      · rfl
      · rfl
    rw [k, r1.lst, Option.bind_some, r2.lst, Option.bind_some]
    unfold mkL
    rw [← List.map_append, allD_map, Option.bind_some, List.length_append, if_pos h]
  · cases e
def pI (g : Int → Int → PyData) : PyData → PyData → Option PyData
  | .int i, .int j => some (g i j)
  | _, _ => none
theorem sg_i {g : Int → Int → PyData} : SG (gI g) (pI g) := fun l M s t x y z r1 r2 e => by
  unfold pI at e
  split at e
  · cases e
    rw [r1.d (fun _ z => nomatch z), r2.d (fun _ z => nomatch z)]
    rfl
  · cases e
def pIC (C : Int → Int → Prop) [∀ i j, Decidable (C i j)] (g : Int → Int → PyData) : PyData → PyData → Option PyData
  | .int i, .int j => if C i j then some (g i j) else none
  | _, _ => none
theorem sg_ic {C : Int → Int → Prop} [∀ i j, Decidable (C i j)] {g : Int → Int → PyData} : SG (gIC C g) (pIC C g) := fun l M s t x y z r1 r2 e => by
  unfold pIC at e
  split at e
  · obtain ⟨h, e⟩ := ite_some' e
    cases e
    rw [r1.d (fun _ z => nomatch z), r2.d (fun _ z => nomatch z)]
    exact if_pos h
  · cases e
def pSub := pI fun i j => .int (i - j)
def pLt := pI fun i j => .bool (decide (i < j))
def pLe := pI fun i j => .bool (decide (i ≤ j))
def pGt := pI fun i j => .bool (decide (j < i))
def pGe := pI fun i j => .bool (decide (j ≤ i))
def pDiv := pIC CDivW fun i j => .int (i / j)
def pMod := pIC (fun _ j => 0 < j) fun i j => .int (i % j)
def pPow := pIC CPow fun i j => .int (i ^ j.toNat)
theorem sg_sub : SG Z.gSub pSub := sg_i
theorem sg_lt : SG gLt pLt := sg_i
theorem sg_le : SG gLe pLe := sg_i
theorem sg_gt : SG gGt pGt := sg_i
theorem sg_ge : SG gGe pGe := sg_i
theorem sg_div : SG gDiv pDiv := sg_ic
theorem sg_mod : SG gMod pMod := sg_ic
theorem sg_pow : SG gPow pPow := sg_ic
def pMul : PyData → PyData → Option PyData
  | .int i, .int j => if CMul i j ∨ CMulW i j then some (.int (i * j)) else none
  | .list xs, .int k => if -(2 ^ 63) ≤ k ∧ k < 2 ^ 63 ∧ xs.length * k.toNat ≤ sizeLine then some (.list (List.replicate k.toNat xs).flatten) else none
  | _, _ => none
theorem sg_mul : SG gMul pMul := fun l M s t x y z r1 r2 e => by
  unfold pMul at e
  split at e
  · obtain ⟨h, e⟩ := ite_some' e
    cases e
    rw [r1.d (fun _ z => nomatch z), r2.d (fun _ z => nomatch z)]
    exact if_pos h
  · rename_i xs k
    obtain ⟨h, e⟩ := ite_some' e
    cases e
    rw [r2.d (fun _ z => nomatch z)]
    have q : gMul s (.d (.int k)) M = (lstOf M s).bind fun xs => if -(2 ^ 63) ≤ k ∧ k < 2 ^ 63 ∧ xs.length * k.toNat ≤ sizeLine then (allD (List.replicate k.toNat xs).flatten).map fun ds => (.d (.list ds), M) else none := by
      rcases r1 with rfl | ⟨w, ds, rfl, _, _, _⟩
      · rfl
      · rfl
    rw [q, r1.lst, Option.bind_some, List.length_map, if_pos h]
    have : (List.replicate k.toNat (xs.map SV.d)).flatten = (List.replicate k.toNat xs).flatten.map SV.d := by
      rw [List.map_flatten, List.map_replicate]
    rw [this, allD_map]
    rfl
  · cases e
def pEq (x y : PyData) : Option PyData := (eqD x y).map .bool
def pNe (x y : PyData) : Option PyData := (eqD x y).map fun k => .bool (!k)
theorem sg_eq : SG gEq pEq := fun l M s t x y z r1 r2 e => by
  unfold gEq
  rw [r1.rd, r2.rd, Option.bind_some, Option.bind_some]
  unfold pEq at e
  cases h : eqD x y with
  | none => rw [h] at e; cases e
  | some k => rw [h] at e; cases e; rfl
theorem sg_ne : SG gNe pNe := fun l M s t x y z r1 r2 e => by
  unfold gNe
  rw [r1.rd, r2.rd, Option.bind_some, Option.bind_some]
  unfold pNe at e
  cases h : eqD x y with
  | none => rw [h] at e; cases e
  | some k => rw [h] at e; cases e; rfl
def pIn (neg : Bool) (x y : PyData) : Option PyData := (seqD y).bind fun ds => if SeqAt.shaped x = true ∧ SeqAt.shaped (.list ds) = true then some (.bool (if neg then !(ds.any fun z => PyData.eqv z x) else ds.any fun z => PyData.eqv z x)) else none
theorem sg_in {neg : Bool} : SG (gIn neg) (pIn neg) := fun l M s t x y z r1 r2 e => by
  unfold gIn
  rw [r1.rd, r2.rd, Option.bind_some, Option.bind_some]
  unfold pIn at e
  cases h : seqD y with
  | none => rw [h] at e; cases e
  | some k =>
    rw [h] at e
    obtain ⟨h1, e⟩ := ite_some' e
    cases e
    exact if_pos h1
def isNP : PyData → Bool
  | .none => true
  | _ => false
theorem isN_rd {l : Option Nat} {M : Mem} {s : SV} {x : PyData} (h : RdS l M s x) : isN s = isNP x := by
  rcases h with rfl | ⟨w, ds, rfl, _, rfl, _⟩
  · cases x <;> rfl
  · rfl
def pIsN (x y : PyData) : Option PyData := if isNP y = true then some (.bool (isNP x)) else none
def pNotN (x y : PyData) : Option PyData := if isNP y = true then some (.bool (!isNP x)) else none
theorem sg_isN : SG gIsN pIsN := fun l M s t x y z r1 r2 e => by
  obtain ⟨h, e⟩ := ite_some' e
  cases e
  unfold gIsN
  rw [isN_rd r1, isN_rd r2, if_pos h]
theorem sg_notN : SG gNotN pNotN := fun l M s t x y z r1 r2 e => by
  obtain ⟨h, e⟩ := ite_some' e
  cases e
  unfold gNotN
  rw [isN_rd r1, isN_rd r2, if_pos h]
def pIx : PyData → PyData → Option PyData
  | .str z, .int i => if z.length ≤ sizeLine then (atI z.cps.toList i).map fun c => .str ⟨#[c]⟩ else none
  | .tuple xs, .int i => atI xs i
  | .list xs, .int i => atI xs i
  | _, _ => none
theorem atI_map {α β : Type} (f : α → β) (xs : List α) (i : Int) : atI (xs.map f) i = (atI xs i).map f := by
  unfold atI
  rw [List.length_map]
  cases ixN xs.length i with
  | none => rfl
  | some j => exact List.getElem?_map
theorem sg_ix : SG gIx pIx := fun l M s t x y z r1 r2 e => by
  unfold pIx at e
  split at e
  · rename_i z' i
    rw [r1.d (fun _ z => nomatch z), r2.d (fun _ z => nomatch z)]
    by_cases h : z'.length ≤ sizeLine
    · rw [if_pos h] at e
      show (if z'.length ≤ sizeLine then _ else _) = _
      rw [if_pos h]
      cases h2 : atI z'.cps.toList i with
      | none => rw [h2] at e; cases e
      | some c => rw [h2] at e; cases e; rfl
    · rw [if_neg h] at e
      cases e
  · rename_i xs i
    rw [r1.d (fun _ z => nomatch z), r2.d (fun _ z => nomatch z)]
    show (atI xs i).map _ = _
    rw [e]
    rfl
  · rename_i xs i
    rw [r2.d (fun _ z => nomatch z)]
    have q : gIx s (.d (.int i)) M = (lstOf M s).bind fun xs => (atI xs i).map fun c => (c, M) := by
      rcases r1 with rfl | ⟨w, ds, rfl, _, _, _⟩
      · rfl
      · rfl
    rw [q, r1.lst, Option.bind_some, atI_map, e]
    rfl
  · cases e
/-! tests -/
def boolP : PyData → Option Bool
  | .bool b => some b
  | _ => none
def truP : PyData → Option Bool
  | .bool b => some b
  | .none => some false
  | .int i => some (i != 0)
  | .str z => if z.length ≤ sizeLine then some (z.length != 0) else none
  | .tuple xs => some (!xs.isEmpty)
  | .list xs => some (!xs.isEmpty)
  | .dict _ => none
theorem tru_rd {l : Option Nat} {M : Mem} {s : SV} {x : PyData} (h : RdS l M s x) : truth M s = truP x := by
  rcases h with rfl | ⟨w, ds, rfl, _, rfl, h4⟩
  · cases x <;> first | rfl | (simp only [truth, lstOf, truP, Option.map_some, List.isEmpty_map, Option.map_none])
  · simp only [truth, lstOf, h4, truP, Option.map_some, List.isEmpty_map]
theorem bool_rd {l : Option Nat} {M : Mem} {s : SV} {x : PyData} (h : RdS l M s x) : boolOf s = boolP x := by
  rcases h with rfl | ⟨w, ds, rfl, _, rfl, h4⟩
  · cases x <;> rfl
  · rfl
def pTru (a : Pe) : Pt := fun E => bd (fun x => ofO (truP x)) ⟨⟩ (a E)
def pBool (a : Pe) : Pt := fun E => bd (fun x => ofO (boolP x)) ⟨⟩ (a E)
theorem st_tru {a : Fe} {pa : Pe} (ha : SR bx O RdS a pa) : SR bx O RQ (fTru a) (pTru pa) := fun b' l E Γ M n Q S B q => by
  obtain ⟨s, M1, x, n1, e1, L1, B1, r1, q⟩ := ha b' l E Γ M n _ S B q
  obtain ⟨z, e3, q⟩ := ofO_inv q
  refine ⟨_, M1, z, n1, ?_, L1, B1, rfl, q⟩
  unfold fTru
  rw [e1, Option.bind_some]
  simp only
  rw [tru_rd r1, e3]
  rfl
theorem st_bool {a : Fe} {pa : Pe} (ha : SR bx O RdS a pa) : SR bx O RQ (fBool a) (pBool pa) := fun b' l E Γ M n Q S B q => by
  obtain ⟨s, M1, x, n1, e1, L1, B1, r1, q⟩ := ha b' l E Γ M n _ S B q
  obtain ⟨z, e3, q⟩ := ofO_inv q
  refine ⟨_, M1, z, n1, ?_, L1, B1, rfl, q⟩
  unfold fBool
  rw [e1, Option.bind_some]
  simp only
  rw [bool_rd r1, e3]
  rfl
def pNotT (a : Pt) : Pt := fun E => bd (fun x => ret (!x)) ⟨⟩ (a E)
def pAndT (a b : Pt) : Pt := fun E => bd (fun x => if x = true then b E else ret false) ⟨⟩ (a E)
def pOrT (a b : Pt) : Pt := fun E => bd (fun x => if x = true then ret true else b E) ⟨⟩ (a E)
theorem st_not {a : Ft} {pa : Pt} (ha : SR bx O RQ a pa) : SR bx O RQ (fNotT a) (pNotT pa) := fun b' l E Γ M n Q S B q => by
  obtain ⟨s, M1, x, n1, e1, L1, B1, rfl, q⟩ := ha b' l E Γ M n _ S B q
  exact ⟨_, M1, _, n1, by unfold fNotT; rw [e1]; rfl, L1, B1, rfl, q⟩
theorem st_and {a b : Ft} {pa pb : Pt} (ha : SR bx O RQ a pa) (hb : SR bx O RQ b pb) : SR bx O RQ (fAndT a b) (pAndT pa pb) := fun b' l E Γ M n Q S B q => by
  obtain ⟨s, M1, x, n1, e1, L1, B1, rfl, q⟩ := ha b' l E Γ M n _ S B q
  cases s with
  | false => exact ⟨_, M1, _, n1, by unfold fAndT; rw [e1]; rfl, L1, B1, rfl, q⟩
  | true =>
    obtain ⟨t, M2, y, n2, e2, L2, B2, rfl, q⟩ := hb b' l E Γ M1 n1 _ (S.later L1) B1 q
    exact ⟨_, M2, _, n2, by unfold fAndT; rw [e1]; exact e2, L1.trans L2, B2, rfl, q⟩
theorem st_or {a b : Ft} {pa pb : Pt} (ha : SR bx O RQ a pa) (hb : SR bx O RQ b pb) : SR bx O RQ (fOrT a b) (pOrT pa pb) := fun b' l E Γ M n Q S B q => by
  obtain ⟨s, M1, x, n1, e1, L1, B1, rfl, q⟩ := ha b' l E Γ M n _ S B q
  cases s with
  | true => exact ⟨_, M1, _, n1, by unfold fOrT; rw [e1]; rfl, L1, B1, rfl, q⟩
  | false =>
    obtain ⟨t, M2, y, n2, e2, L2, B2, rfl, q⟩ := hb b' l E Γ M1 n1 _ (S.later L1) B1 q
    exact ⟨_, M2, _, n2, by unfold fOrT; rw [e1]; exact e2, L1.trans L2, B2, rfl, q⟩
def pYes : Pt := fun _ => ret true
theorem st_yes : SR bx O RQ fYes pYes := fun b' l E Γ M n Q S B q => ⟨_, M, _, n, rfl, Later.refl _ _, B, rfl, q⟩
def pAndV (a b : Pe) : Pe := fun E => bd (fun x => bd (fun k => if k = true then b E else ret (.bool false)) ⟨⟩ (ofO (boolP x))) ⟨⟩ (a E)
def pOrV (a b : Pe) : Pe := fun E => bd (fun x => bd (fun k => if k = true then ret (.bool true) else b E) ⟨⟩ (ofO (boolP x))) ⟨⟩ (a E)
def pNotV (a : Pe) : Pe := fun E => bd (fun x => bd (fun k => ret (.bool (!k))) ⟨⟩ (ofO (boolP x))) ⟨⟩ (a E)
def pIf (c : Pt) (a b : Pe) : Pe := fun E => bd (fun k => if k = true then a E else b E) ⟨⟩ (c E)
theorem sd_and {a b : Fe} {pa pb : Pe} (ha : SR bx O RdS a pa) (hb : SR bx O RD b pb) : SR bx O RD (fAndV a b) (pAndV pa pb) := fun b' l E Γ M n Q S B q => by
  obtain ⟨s, M1, x, n1, e1, L1, B1, r1, q⟩ := ha b' l E Γ M n _ S B q
  obtain ⟨z, e3, q⟩ := ofO_inv (show ofO (boolP x) n1 _ from q)
  have e4 : boolOf s = some z := by rw [bool_rd r1, e3]
  cases z with
  | false => exact ⟨_, M1, _, n1, by unfold fAndV; rw [e1, Option.bind_some]; simp only; rw [e4]; rfl, L1, B1, rfl, q⟩
  | true =>
    obtain ⟨t, M2, y, n2, e2, L2, B2, r2, q⟩ := hb b' l E Γ M1 n1 _ (S.later L1) B1 q
    exact ⟨_, M2, _, n2, by unfold fAndV; rw [e1, Option.bind_some]; simp only; rw [e4]; exact e2, L1.trans L2, B2, r2, q⟩
theorem sd_or {a b : Fe} {pa pb : Pe} (ha : SR bx O RdS a pa) (hb : SR bx O RD b pb) : SR bx O RD (fOrV a b) (pOrV pa pb) := fun b' l E Γ M n Q S B q => by
  obtain ⟨s, M1, x, n1, e1, L1, B1, r1, q⟩ := ha b' l E Γ M n _ S B q
  obtain ⟨z, e3, q⟩ := ofO_inv (show ofO (boolP x) n1 _ from q)
  have e4 : boolOf s = some z := by rw [bool_rd r1, e3]
  cases z with
  | true => exact ⟨_, M1, _, n1, by unfold fOrV; rw [e1, Option.bind_some]; simp only; rw [e4]; rfl, L1, B1, rfl, q⟩
  | false =>
    obtain ⟨t, M2, y, n2, e2, L2, B2, r2, q⟩ := hb b' l E Γ M1 n1 _ (S.later L1) B1 q
    exact ⟨_, M2, _, n2, by unfold fOrV; rw [e1, Option.bind_some]; simp only; rw [e4]; exact e2, L1.trans L2, B2, r2, q⟩
theorem sd_notV {a : Fe} {pa : Pe} (ha : SR bx O RdS a pa) : SR bx O RD (fNotV a) (pNotV pa) := fun b' l E Γ M n Q S B q => by
  obtain ⟨s, M1, x, n1, e1, L1, B1, r1, q⟩ := ha b' l E Γ M n _ S B q
  obtain ⟨z, e3, q⟩ := ofO_inv (show ofO (boolP x) n1 _ from q)
  have e4 : boolOf s = some z := by rw [bool_rd r1, e3]
  exact ⟨_, M1, _, n1, by unfold fNotV; rw [e1, Option.bind_some]; simp only; rw [e4]; rfl, L1, B1, rfl, q⟩
theorem sr_if {R : Option Nat → Mem → SV → PyData → Prop} {c : Ft} {pc : Pt} {a b : Fe} {pa pb : Pe} (hc : SR bx O RQ c pc) (ha : SR bx O R a pa) (hb : SR bx O R b pb) : SR bx O R (fIf c a b) (pIf pc pa pb) := fun b' l E Γ M n Q S B q => by
  obtain ⟨s, M1, x, n1, e1, L1, B1, rfl, q⟩ := hc b' l E Γ M n _ S B q
  cases s with
  | true =>
    obtain ⟨t, M2, y, n2, e2, L2, B2, r2, q⟩ := ha b' l E Γ M1 n1 _ (S.later L1) B1 q
    exact ⟨_, M2, _, n2, by unfold fIf; rw [e1]; exact e2, L1.trans L2, B2, r2, q⟩
  | false =>
    obtain ⟨t, M2, y, n2, e2, L2, B2, r2, q⟩ := hb b' l E Γ M1 n1 _ (S.later L1) B1 q
    exact ⟨_, M2, _, n2, by unfold fIf; rw [e1]; exact e2, L1.trans L2, B2, r2, q⟩
/-! several values -/
def pNil : Pa := fun _ => ret []
def pCons (a : Pe) (r : Pa) : Pa := fun E => bd (fun x => bd (fun xs => ret (x :: xs)) ⟨⟩ (r E)) ⟨⟩ (a E)
theorem sa_nil : SR bx O (RA 0) fNil pNil := fun b' l E Γ M n Q S B q => ⟨_, M, _, n, rfl, Later.refl _ _, B, ⟨.nil, rfl⟩, q⟩
theorem sad_nil : SR bx O (RAD 0) fNil pNil := fun b' l E Γ M n Q S B q => ⟨_, M, _, n, rfl, Later.refl _ _, B, ⟨rfl, rfl⟩, q⟩
theorem paired_later {l : Option Nat} {M M' : Mem} {ss : List SV} {xs : List PyData} (h : Paired (RdS l M) ss xs) (L : Later l M M') : Paired (RdS l M') ss xs := by
  induction h with
  | nil => exact .nil
  | cons a _ ih => exact .cons (a.later L) ih
theorem sa_cons {k : Nat} {a : Fe} {pa : Pe} {r : Fa} {pr : Pa} (ha : SR bx O RdS a pa) (hr : SR bx O (RA k) r pr) : SR bx O (RA (k + 1)) (fCons a r) (pCons pa pr) := fun b' l E Γ M n Q S B q => by
  obtain ⟨s, M1, x, n1, e1, L1, B1, r1, q⟩ := ha b' l E Γ M n _ S B q
  obtain ⟨t, M2, y, n2, e2, L2, B2, ⟨r2, r3⟩, q⟩ := hr b' l E Γ M1 n1 _ (S.later L1) B1 q
  exact ⟨_, M2, _, n2, by unfold fCons; rw [e1, Option.bind_some]; simp only; rw [e2]; rfl, L1.trans L2, B2, ⟨.cons (r1.later L2) r2, by rw [List.length_cons, r3]⟩, q⟩
theorem sad_cons {k : Nat} {a : Fe} {pa : Pe} {r : Fa} {pr : Pa} (ha : SR bx O RD a pa) (hr : SR bx O (RAD k) r pr) : SR bx O (RAD (k + 1)) (fCons a r) (pCons pa pr) := fun b' l E Γ M n Q S B q => by
  obtain ⟨s, M1, x, n1, e1, L1, B1, r1, q⟩ := ha b' l E Γ M n _ S B q
  obtain ⟨t, M2, y, n2, e2, L2, B2, ⟨r2, r3⟩, q⟩ := hr b' l E Γ M1 n1 _ (S.later L1) B1 q
  exact ⟨_, M2, _, n2, by unfold fCons; rw [e1, Option.bind_some]; simp only; rw [e2]; rfl, L1.trans L2, B2, ⟨by rw [r1, r2]; rfl, by rw [List.length_cons, r3]⟩, q⟩
def pTup (t : Pa) : Pe := fun E => bd (fun xs => if xs.length ≤ sizeLine then ret (.tuple xs) else bad) ⟨⟩ (t E)
def pLst (t : Pa) : Pe := fun E => bd (fun xs => if xs.length ≤ sizeLine then ret (.list xs) else bad) ⟨⟩ (t E)
theorem ite_bad {α : Type} {c : Prop} [Decidable c] {m : PW α} {n : Nat} {Q : α → Nat → Prop} (h : (if c then m else bad) n Q) : c ∧ m n Q := by
  by_cases k : c
  · rw [if_pos k] at h
    exact ⟨k, h⟩
  · rw [if_neg k] at h
    exact h.elim
theorem sd_tup {k : Nat} {t : Fa} {pt : Pa} (ht : SR bx O (RAD k) t pt) : SR bx O RD (fTup t) (pTup pt) := fun b' l E Γ M n Q S B q => by
  obtain ⟨s, M1, x, n1, e1, L1, B1, ⟨r1, _⟩, q⟩ := ht b' l E Γ M n _ S B q
  obtain ⟨h, q⟩ := ite_bad q
  exact ⟨_, M1, _, n1, by unfold fTup mkT; rw [e1, Option.bind_some]; simp only; rw [r1, allD_map, Option.bind_some, if_pos h], L1, B1, rfl, q⟩
theorem sd_lst {k : Nat} {t : Fa} {pt : Pa} (ht : SR bx O (RAD k) t pt) : SR bx O RD (fLst t) (pLst pt) := fun b' l E Γ M n Q S B q => by
  obtain ⟨s, M1, x, n1, e1, L1, B1, ⟨r1, _⟩, q⟩ := ht b' l E Γ M n _ S B q
  obtain ⟨h, q⟩ := ite_bad q
  exact ⟨_, M1, _, n1, by unfold fLst mkL; rw [e1, Option.bind_some]; simp only; rw [r1, allD_map, Option.bind_some, if_pos h], L1, B1, rfl, q⟩
theorem sn_lst {k : Nat} {t : Fa} {pt : Pa} (ht : SR bx O (RAD k) t pt) : SN bx O (fLstM t) (pLst pt) := fun b' l E Γ M n Q S B q => by
  obtain ⟨s, M1, x, n1, e1, L1, B1, ⟨r1, _⟩, q⟩ := ht b' l E Γ M n _ S B q
  obtain ⟨h, q⟩ := ite_bad q
  exact ⟨M1.length, M1 ++ [.lst s], x, n1, by unfold fLstM; rw [e1, Option.bind_some]; simp only; rw [r1, List.length_map, if_pos h], L1.len, L1.trans (Later.app _ _ _), B1.app _, by rw [r1]; simp, q⟩
/-! calls of built-ins -/
def SB (g : List SV → Mem → Option (SV × Mem)) (p : List PyData → Option PyData) : Prop := ∀ (l : Option Nat) (M : Mem) (ss : List SV) (xs : List PyData) (z : PyData), Paired (RdS l M) ss xs → p xs = some z → g ss M = some (.d z, M)
def pCB (g : List PyData → Option PyData) (t : Pa) : Pe := fun E => bd (fun xs => ofO (g xs)) ⟨⟩ (t E)
theorem sd_cb {k : Nat} {g : List SV → Mem → Option (SV × Mem)} {pg : List PyData → Option PyData} {t : Fa} {pt : Pa} (hg : SB g pg) (ht : SR bx O (RA k) t pt) : SR bx O RD (fCB g t) (pCB pg pt) := fun b' l E Γ M n Q S B q => by
  obtain ⟨s, M1, x, n1, e1, L1, B1, ⟨r1, _⟩, q⟩ := ht b' l E Γ M n _ S B q
  obtain ⟨z, e3, q⟩ := ofO_inv q
  exact ⟨_, M1, z, n1, by unfold fCB; rw [e1, Option.bind_some]; exact hg l M1 s x z r1 e3, L1, B1, rfl, q⟩
theorem pr1' {F : SV → PyData → Prop} {ss : List SV} {x : PyData} (h : Paired F ss [x]) : ∃ s, ss = [s] ∧ F s x := by
  cases h with
  | cons a t => cases t; exact ⟨_, rfl, a⟩
theorem pr2' {F : SV → PyData → Prop} {ss : List SV} {x y : PyData} (h : Paired F ss [x, y]) : ∃ s t, ss = [s, t] ∧ F s x ∧ F t y := by
  cases h with
  | cons a t =>
    obtain ⟨u, rfl, r⟩ := pr1' t
    exact ⟨_, _, rfl, a, r⟩
def pLen : List PyData → Option PyData
  | [.str z] => if z.length ≤ sizeLine then some (.int z.length) else none
  | [.list xs] => some (.int xs.length)
  | [.tuple xs] => some (.int xs.length)
  | _ => none
theorem sb_len : SB gLen pLen := fun l M ss xs z r e => by
  unfold pLen at e
  split at e
  · obtain ⟨h, e⟩ := ite_some' e
    cases e
    obtain ⟨s, rfl, u⟩ := pr1' r
    rw [u.d (fun _ z => nomatch z)]
    exact if_pos h
  · cases e
    obtain ⟨s, rfl, u⟩ := pr1' r
    rw [gLen_seq (u.seq rfl), List.length_map]
  · cases e
    obtain ⟨s, rfl, u⟩ := pr1' r
    rw [gLen_seq (u.seq rfl), List.length_map]
  · cases e
def pAbs : List PyData → Option PyData
  | [.int i] => some (.int (if i < 0 then -i else i))
  | _ => none
theorem sb_abs : SB gAbs pAbs := fun l M ss xs z r e => by
  unfold pAbs at e
  split at e
  · cases e
    obtain ⟨s, rfl, u⟩ := pr1' r
    rw [u.d (fun _ z => nomatch z)]
    rfl
  · cases e
def pInt : List PyData → Option PyData
  | [.int i] => some (.int i)
  | [.bool b] => some (.int (if b then 1 else 0))
  | _ => none
theorem sb_int : SB gInt pInt := fun l M ss xs z r e => by
  unfold pInt at e
  split at e
  · cases e
    obtain ⟨s, rfl, u⟩ := pr1' r
    rw [u.d (fun _ z => nomatch z)]
    rfl
  · cases e
    obtain ⟨s, rfl, u⟩ := pr1' r
    rw [u.d (fun _ z => nomatch z)]
    rfl
  · cases e
def pMin2 : List PyData → Option PyData
  | [.int i, .int j] => some (.int (if j < i then j else i))
  | _ => none
def pMax2 : List PyData → Option PyData
  | [.int i, .int j] => some (.int (if j > i then j else i))
  | _ => none
theorem sb_min2 : SB gMin2 pMin2 := fun l M ss xs z r e => by
  unfold pMin2 at e
  split at e
  · cases e
    obtain ⟨s, t, rfl, u, u'⟩ := pr2' r
    rw [u.d (fun _ z => nomatch z), u'.d (fun _ z => nomatch z)]
    rfl
  · cases e
theorem sb_max2 : SB gMax2 pMax2 := fun l M ss xs z r e => by
  unfold pMax2 at e
  split at e
  · cases e
    obtain ⟨s, t, rfl, u, u'⟩ := pr2' r
    rw [u.d (fun _ z => nomatch z), u'.d (fun _ z => nomatch z)]
    rfl
  · cases e
def pListOf : List PyData → Option PyData
  | [x] => (seqD x).map .list
  | _ => none
def pTupOf : List PyData → Option PyData
  | [x] => (seqD x).map .tuple
  | _ => none
theorem map_some' {α β : Type} {o : Option α} {f : α → β} {z : β} (h : o.map f = some z) : ∃ x, o = some x ∧ f x = z := Option.map_eq_some_iff.mp h
theorem sb_listOf : SB gListOf pListOf := fun l M ss xs z r e => by
  unfold pListOf at e
  split at e
  · obtain ⟨ds, h, rfl⟩ := map_some' e
    obtain ⟨s, rfl, u⟩ := pr1' r
    unfold gListOf
    simp only
    rw [u.seq h, Option.bind_some, allD_map]
    rfl
  · cases e
theorem sb_tupOf : SB gTupOf pTupOf := fun l M ss xs z r e => by
  unfold pTupOf at e
  split at e
  · obtain ⟨ds, h, rfl⟩ := map_some' e
    obtain ⟨s, rfl, u⟩ := pr1' r
    unfold gTupOf
    simp only
    rw [u.seq h, Option.bind_some, allD_map]
    rfl
  · cases e
theorem sn_listM {t : Fa} {pt : Pa} (ht : SR bx O (RA 1) t pt) : SN bx O (fCB gListM t) (pCB pListOf pt) := fun b' l E Γ M n Q S B q => by
  obtain ⟨s, M1, x, n1, e1, L1, B1, ⟨r1, _⟩, q⟩ := ht b' l E Γ M n _ S B q
  obtain ⟨z, e3, q⟩ := ofO_inv q
  unfold pListOf at e3
  split at e3
  · obtain ⟨ds, h, rfl⟩ := map_some' e3
    obtain ⟨s, rfl, r⟩ := pr1' r1
    exact ⟨M1.length, M1 ++ [.lst (ds.map .d)], ds, n1, by unfold fCB gListM; rw [e1, Option.bind_some]; simp only; rw [r.seq h]; rfl, L1.len, L1.trans (Later.app _ _ _), B1.app _, by simp, q⟩
  · cases e3
def boolsP : List PyData → Option (List Bool)
  | [] => some []
  | .bool b :: r => (boolsP r).map (b :: ·)
  | _ => none
theorem bools_d : ∀ ds : List PyData, boolsOf (ds.map .d) = boolsP ds
  | [] => rfl
  | x :: r => by cases x <;> first | rfl | (show (boolsOf (r.map .d)).map _ = (boolsP r).map _; rw [bools_d r])
def pAll : List PyData → Option PyData
  | [.list xs] => (boolsP xs).map fun bs => .bool (bs.all id)
  | _ => none
def pAny : List PyData → Option PyData
  | [.list xs] => (boolsP xs).map fun bs => .bool (bs.any id)
  | _ => none
theorem sb_all : SB gAll pAll := fun l M ss xs z r e => by
  unfold pAll at e
  split at e
  · obtain ⟨bs, h, rfl⟩ := map_some' e
    obtain ⟨s, rfl, u⟩ := pr1' r
    unfold gAll
    simp only
    rw [u.lst, Option.bind_some, bools_d, h]
    rfl
  · cases e
theorem sb_any : SB gAny pAny := fun l M ss xs z r e => by
  unfold pAny at e
  split at e
  · obtain ⟨bs, h, rfl⟩ := map_some' e
    obtain ⟨s, rfl, u⟩ := pr1' r
    unfold gAny
    simp only
    rw [u.lst, Option.bind_some, bools_d, h]
    rfl
  · cases e
def pSrt : List PyData → Option PyData
  | [.list xs] => (intsOf xs).map fun ns => .list ((srt ns).map .int)
  | _ => none
theorem sb_srt : SB gSrt pSrt := fun l M ss xs z r e => by
  unfold pSrt at e
  split at e
  · obtain ⟨bs, h, rfl⟩ := map_some' e
    obtain ⟨s, rfl, u⟩ := pr1' r
    unfold gSrt
    simp only
    rw [u.lst, Option.bind_some, allD_map, Option.bind_some, h]
    rfl
  · cases e
def pSS (a : Pe) : Pe := fun E => bd (fun x => match x with
  | .list xs => bd (fun ns => if ns.length < 63 then ret (.list ((uq ns).map .int)) else bad) ⟨⟩ (ofO (intsOf xs))
  | _ => bad) ⟨⟩ (a E)
theorem sd_ss {a : Fe} {pa : Pe} (ha : SR bx O RdS a pa) : SR bx O RD (fSS a) (pSS pa) := fun b' l E Γ M n Q S B q => by
  obtain ⟨s, M1, x, n1, e1, L1, B1, r1, q⟩ := ha b' l E Γ M n _ S B q
  cases x with
  | list xs =>
    obtain ⟨ns, h, q⟩ := ofO_inv (show ofO (intsOf xs) n1 _ from q)
    obtain ⟨hz, q⟩ := ite_bad q
    exact ⟨_, M1, _, n1, by unfold fSS; rw [e1, Option.bind_some]; simp only; rw [r1.lst, Option.bind_some, allD_map, Option.bind_some, h, Option.bind_some, if_pos hz], L1, B1, rfl, q⟩
  | _ => exact q.elim
def pLR (a : Pe) : Pe := fun E => bd (fun x => match x with
  | .int j => if 0 ≤ j ∧ j ≤ 1000000 then ret (.list ((upto j).map .int)) else bad
  | _ => bad) ⟨⟩ (a E)
theorem sd_lr {a : Fe} {pa : Pe} (ha : SR bx O RdS a pa) : SR bx O RD (fLR a) (pLR pa) := fun b' l E Γ M n Q S B q => by
  obtain ⟨s, M1, x, n1, e1, L1, B1, r1, q⟩ := ha b' l E Γ M n _ S B q
  cases x with
  | int j =>
    obtain ⟨hz, q⟩ := ite_bad q
    rw [r1.d (fun _ z => nomatch z)] at e1
    exact ⟨_, M1, _, n1, by unfold fLR; rw [e1, Option.bind_some]; simp only; rw [if_pos hz], L1, B1, rfl, q⟩
  | _ => exact q.elim
theorem sn_lr {a : Fe} {pa : Pe} (ha : SR bx O RdS a pa) : SN bx O (fLRM a) (pLR pa) := fun b' l E Γ M n Q S B q => by
  obtain ⟨s, M1, x, n1, e1, L1, B1, r1, q⟩ := ha b' l E Γ M n _ S B q
  cases x with
  | int j =>
    obtain ⟨hz, q⟩ := ite_bad q
    rw [r1.d (fun _ z => nomatch z)] at e1
    exact ⟨M1.length, M1 ++ [.lst ((upto j).map fun i => .d (.int i))], (upto j).map .int, n1, by unfold fLRM; rw [e1, Option.bind_some]; simp only; rw [if_pos hz], L1.len, L1.trans (Later.app _ _ _), B1.app _, by rw [List.map_map]; simp, q⟩
  | _ => exact q.elim
def tyP : PyData → Option Ty
  | .none => some .non
  | .bool _ => some .bool
  | .int _ => some .int
  | .str _ => some .str
  | .list _ => some .list
  | .tuple _ => some .tuple
  | .dict _ => none
theorem ty_rd {l : Option Nat} {M : Mem} {s : SV} {x : PyData} (h : RdS l M s x) : tyS M s = tyP x := by
  rcases h with rfl | ⟨w, ds, rfl, _, rfl, h4⟩
  · cases x <;> rfl
  · simp only [tyS, h4, tyP]
def pIsi (t : Ty) (a : Pe) : Pe := fun E => bd (fun x => bd (fun s => ret (.bool (isTy s t))) ⟨⟩ (ofO (tyP x))) ⟨⟩ (a E)
def pIsi2 (t t' : Ty) (a : Pe) : Pe := fun E => bd (fun x => bd (fun s => ret (.bool (isTy s t || isTy s t'))) ⟨⟩ (ofO (tyP x))) ⟨⟩ (a E)
theorem sd_isi {t : Ty} {a : Fe} {pa : Pe} (ha : SR bx O RdS a pa) : SR bx O RD (fIsi t a) (pIsi t pa) := fun b' l E Γ M n Q S B q => by
  obtain ⟨s, M1, x, n1, e1, L1, B1, r1, q⟩ := ha b' l E Γ M n _ S B q
  obtain ⟨z, e3, q⟩ := ofO_inv (show ofO (tyP x) n1 _ from q)
  exact ⟨_, M1, _, n1, by unfold fIsi; rw [e1, Option.bind_some]; simp only; rw [ty_rd r1, e3]; rfl, L1, B1, rfl, q⟩
theorem sd_isi2 {t t' : Ty} {a : Fe} {pa : Pe} (ha : SR bx O RdS a pa) : SR bx O RD (fIsi2 t t' a) (pIsi2 t t' pa) := fun b' l E Γ M n Q S B q => by
  obtain ⟨s, M1, x, n1, e1, L1, B1, r1, q⟩ := ha b' l E Γ M n _ S B q
  obtain ⟨z, e3, q⟩ := ofO_inv (show ofO (tyP x) n1 _ from q)
  exact ⟨_, M1, _, n1, by unfold fIsi2; rw [e1, Option.bind_some]; simp only; rw [ty_rd r1, e3]; rfl, L1, B1, rfl, q⟩
def pChain (g g' : PyData → PyData → Option PyData) (a b c : Pe) : Pe := fun E => bd (fun x => bd (fun y => bd (fun r => bd (fun k => if k = true then bd (fun z => ofO (g' y z)) ⟨⟩ (c E) else ret (.bool false)) ⟨⟩ (ofO (boolP r))) ⟨⟩ (ofO (g x y))) ⟨⟩ (b E)) ⟨⟩ (a E)
theorem sd_chain {g g' : SV → SV → Mem → Option (SV × Mem)} {pg pg' : PyData → PyData → Option PyData} {a b c : Fe} {pa pb pc : Pe} (hg : SG g pg) (hg' : SG g' pg') (ha : SR bx O RdS a pa) (hb : SR bx O RdS b pb) (hc : SR bx O RdS c pc) : SR bx O RD (fChain g g' a b c) (pChain pg pg' pa pb pc) := fun b' l E Γ M n Q S B q => by
  obtain ⟨s, M1, x, n1, e1, L1, B1, r1, q⟩ := ha b' l E Γ M n _ S B q
  obtain ⟨t, M2, y, n2, e2, L2, B2, r2, q⟩ := hb b' l E Γ M1 n1 _ (S.later L1) B1 q
  obtain ⟨r, e3, q⟩ := ofO_inv (show ofO (pg x y) n2 _ from q)
  obtain ⟨k, e4, q⟩ := ofO_inv (show ofO (boolP r) n2 _ from q)
  have e5 := hg l M2 s t x y r (r1.later L2) r2 e3
  have e6 : boolOf (.d r) = some k := by rw [bool_rd (l := l) (M := M2) (x := r) (.inl rfl), e4]
  cases k with
  | false => exact ⟨_, M2, _, n2, by unfold fChain; rw [e1, Option.bind_some]; simp only; rw [e2, Option.bind_some]; simp only; rw [e5, Option.bind_some]; simp only; rw [e6]; rfl, L1.trans L2, B2, rfl, q⟩
  | true =>
    obtain ⟨u, M3, z, n3, e7, L3, B3, r3, q⟩ := hc b' l E Γ M2 n2 _ ((S.later L1).later L2) B2 q
    obtain ⟨v, e8, q⟩ := ofO_inv q
    have e9 := hg' l M3 t u y z v (r2.later L3) r3 e8
    refine ⟨_, M3, _, n3, ?_, (L1.trans L2).trans L3, B3, rfl, q⟩
    unfold fChain
    rw [e1, Option.bind_some]
    simp only
    rw [e2, Option.bind_some]
    simp only
    rw [e5, Option.bind_some]
    simp only
    rw [e6, Option.bind_some]
    simp only [if_true]
    rw [e7, Option.bind_some]
    exact e9
/-! slices -/
def pNoP : Po := fun _ => ret none
def intP : PyData → Option Int
  | .int i => some i
  | _ => none
def pPart (a : Pe) : Po := fun E => bd (fun x => bd (fun i => ret (some i)) ⟨⟩ (ofO (intP x))) ⟨⟩ (a E)
theorem so_no : SR bx O RQ fNoP pNoP := fun b' l E Γ M n Q S B q => ⟨_, M, _, n, rfl, Later.refl _ _, B, rfl, q⟩
theorem so_part {a : Fe} {pa : Pe} (ha : SR bx O RdS a pa) : SR bx O RQ (fPart a) (pPart pa) := fun b' l E Γ M n Q S B q => by
  obtain ⟨s, M1, x, n1, e1, L1, B1, r1, q⟩ := ha b' l E Γ M n _ S B q
  obtain ⟨z, e3, q⟩ := ofO_inv (show ofO (intP x) n1 _ from q)
  have e4 : intOf s = some z := by
    cases x with
    | int i => rw [r1.d (fun _ z => nomatch z)]; exact e3
    | _ => cases e3
  exact ⟨_, M1, _, n1, by unfold fPart; rw [e1, Option.bind_some]; simp only; rw [e4]; rfl, L1, B1, rfl, q⟩
def slP (x : PyData) (lo hi : Option Int) : Option PyData := match x with
  | .tuple xs => some (.tuple (cutG xs lo hi))
  | .list xs => some (.list (cutG xs lo hi))
  | _ => none
theorem cutG_map {α β : Type} (f : α → β) (xs : List α) (lo hi : Option Int) : cutG (xs.map f) lo hi = (cutG xs lo hi).map f := by
  unfold cutG
  rw [List.length_map, List.map_take, List.map_drop]
def pSl (a : Pe) (lo hi : Po) : Pe := fun E => bd (fun x => bd (fun i => bd (fun j => ofO (slP x i j)) ⟨⟩ (hi E)) ⟨⟩ (lo E)) ⟨⟩ (a E)
theorem sd_sl {a : Fe} {pa : Pe} {lo hi : Fo} {plo phi : Po} (ha : SR bx O RdS a pa) (hlo : SR bx O RQ lo plo) (hhi : SR bx O RQ hi phi) : SR bx O RD (fSl a lo hi) (pSl pa plo phi) := fun b' l E Γ M n Q S B q => by
  obtain ⟨s, M1, x, n1, e1, L1, B1, r1, q⟩ := ha b' l E Γ M n _ S B q
  obtain ⟨i, M2, _, n2, e2, L2, B2, rfl, q⟩ := hlo b' l E Γ M1 n1 _ (S.later L1) B1 q
  obtain ⟨j, M3, _, n3, e3, L3, B3, rfl, q⟩ := hhi b' l E Γ M2 n2 _ ((S.later L1).later L2) B2 q
  obtain ⟨z, e4, q⟩ := ofO_inv q
  refine ⟨_, M3, z, n3, ?_, (L1.trans L2).trans L3, B3, rfl, q⟩
  unfold fSl
  rw [e1, Option.bind_some]
  simp only
  rw [e2, Option.bind_some]
  simp only
  rw [e3, Option.bind_some]
  simp only
  have r3 := (r1.later L2).later L3
  unfold slP at e4
  split at e4
  · cases e4
    rw [r3.d (fun _ z => nomatch z)]
    rfl
  · rename_i xs
    cases e4
    have k : gSl s i j M3 = (lstOf M3 s).bind fun xs => (allD (cutG xs i j)).map fun ds => (.d (.list ds), M3) := by
      rcases r3 with rfl | ⟨w, ds, rfl, _, _, _⟩ <;> rfl
    rw [k, r3.lst, Option.bind_some, cutG_map, allD_map]
    rfl
  · cases e4
/-! calls -/
def pCall (p : Pf) (t : Pa) : Pe := fun E => bd (fun xs => p xs) ⟨⟩ (t E)
theorem sd_call {k : Nat} {f : Fn} {p : Pf} {t : Fa} {pt : Pa} (hf : SF f p) (ht : SR bx O (RAD k) t pt) : SR bx O RD (fCall k f t) (pCall p pt) := fun b' l E Γ M n Q S B q => by
  obtain ⟨s, M1, x, n1, e1, L1, B1, ⟨r1, hk⟩, q⟩ := ht b' l E Γ M n _ S B q
  obtain ⟨y, M2, n2, e2, L2, B2, q⟩ := hf l M1 n1 x _ B1 q
  exact ⟨_, M2, y, n2, by unfold fCall arity; rw [e1, Option.bind_some]; simp only; rw [r1, List.length_map, if_pos hk]; exact e2, L1.trans L2, B2, rfl, q⟩
theorem sd_callB {i k : Nat} {f : Fn} {p : Pf} {t : Fa} {pt : Pa} (hx : bx = some i) (hf : SFB f p) (ht : SR bx O (RAD k) t pt) : SR bx O RD (fCall (k + 1) f (fCons (fVar i) t)) (pCall p pt) := fun b' l E Γ M n Q S B q => by
  obtain ⟨c, rfl, hc⟩ := S.box i hx
  obtain ⟨s, M1, x, n1, e1, L1, B1, ⟨r1, hk⟩, q⟩ := ht b' _ E Γ M n _ S B q
  obtain ⟨y, M2, n2, e2, L2, B2, q⟩ := hf c M1 n1 x _ (B1 c rfl) q
  have e0 : fVar i Γ M = some (.loc c, M) := by unfold fVar; rw [hc]
  exact ⟨_, M2, y, n2, by unfold fCall arity fCons; rw [e0, Option.bind_some]; simp only; rw [e1, Option.map_some, Option.bind_some]; simp only; rw [r1, List.length_cons, List.length_map, if_pos (by rw [hk])]; exact e2, L1.trans L2, fun c' e => by cases e; exact B2, rfl, q⟩
def pCallK (m : Nat) (perm : List Nat) (p : Pf) (t tk : Pa) : Pe := fun E => bd (fun xs => bd (fun ws => p (gpm m perm xs ws)) ⟨⟩ (tk E)) ⟨⟩ (t E)
theorem gpm_map {m : Nat} {perm : List Nat} {α β : Type} (f : α → β) (us ws : List α) : gpm m perm (us.map f) (ws.map f) = (gpm m perm us ws).map f := by
  unfold gpm
  rw [List.length_map]
  by_cases h : us.length = m
  · rw [if_pos h, if_pos h, List.map_append, List.map_filterMap]
    congr 2
    funext i
    rw [List.getElem?_map]
  · rw [if_neg h, if_neg h]
    rfl
theorem gpm_len {m k : Nat} {perm : List Nat} {α : Type} {us ws : List α} (h1 : us.length = m) (h2 : ws.length = k) (h3 : (perm.all fun i => decide (i < k)) = true) : (gpm m perm us ws).length = m + perm.length := by
  unfold gpm
  rw [if_pos h1, List.length_append, h1]
  congr 1
  induction perm with
  | nil => rfl
  | cons i r ih =>
    simp only [List.all_cons, Bool.and_eq_true, decide_eq_true_eq] at h3
    rw [List.filterMap_cons, List.getElem?_eq_getElem (by omega)]
    simp only [List.length_cons]
    rw [ih h3.2]
theorem sd_callK {m k n : Nat} {perm : List Nat} {f : Fn} {p : Pf} {t tk : Fa} {pt ptk : Pa} (hf : SF f p) (ht : SR bx O (RAD m) t pt) (htk : SR bx O (RAD k) tk ptk) (hp : (decide (m + perm.length = n) && perm.all fun i => decide (i < k)) = true) : SR bx O RD (fCallK n m perm f t tk) (pCallK m perm p pt ptk) := fun b' l E Γ M n' Q S B q => by
  obtain ⟨s, M1, x, n1, e1, L1, B1, ⟨r1, hm⟩, q⟩ := ht b' l E Γ M n' _ S B q
  obtain ⟨s2, M2, y, n2, e2, L2, B2, ⟨r2, hk⟩, q⟩ := htk b' l E Γ M1 n1 _ (S.later L1) B1 q
  obtain ⟨z, M3, n3, e3, L3, B3, q⟩ := hf l M2 n2 (gpm m perm x y) _ B2 q
  simp only [Bool.and_eq_true, decide_eq_true_eq] at hp
  refine ⟨_, M3, z, n3, ?_, (L1.trans L2).trans L3, B3, rfl, q⟩
  unfold fCallK arity
  rw [e1, Option.bind_some]
  simp only
  rw [e2, Option.bind_some]
  simp only
  rw [r1, r2, gpm_map, List.length_map, if_pos (by rw [gpm_len hm hk hp.2]; exact hp.1)]
  exact e3
def pBor (p : Pf) (t : Pa) : Pe := fun E => bd (fun xs => bor (p xs)) ⟨⟩ (t E)
theorem snapAll_ds {f : SV → Option PyData} (h : ∀ x, f (.d x) = some x) : ∀ ds : List PyData, snapAll f (ds.map .d) = some ds
  | [] => rfl
  | x :: r => by
    show ((f (.d x)).bind fun d => (snapAll f (r.map .d)).map fun ds => d :: ds) = _
    rw [h, snapAll_ds h r]
    rfl
theorem snap_rd {l : Option Nat} {M : Mem} {s : SV} {x : PyData} {k : Nat} (h : RdS l M s x) : snap (k + 1) M s = some x := by
  rcases h with rfl | ⟨w, ds, rfl, _, rfl, h4⟩
  · rfl
  · have q : ∀ x, snap k M (.d x) = some x := fun x => by cases k <;> rfl
    simp only [snap, h4, snapAll_ds q]
    rfl
theorem snapAll_rd {l : Option Nat} {M : Mem} {ss : List SV} {xs : List PyData} (h : Paired (RdS l M) ss xs) : snapAll (snap 4 M) ss = some xs := by
  induction h with
  | nil => rfl
  | cons a _ ih => rw [snapAll, snap_rd a, Option.bind_some, ih]; rfl
theorem sd_bor {k : Nat} {f : Fn} {p : Pf} {t : Fa} {pt : Pa} (hf : SF f p) (ht : SR bx O (RA k) t pt) : SR bx O RD (fBor k f t) (pBor p pt) := fun b' l E Γ M n Q S B q => by
  obtain ⟨s, M1, x, n1, e1, L1, B1, ⟨r1, hk⟩, q⟩ := ht b' l E Γ M n _ S B q
  obtain ⟨y, e2, hs, q⟩ := q
  obtain ⟨z, M2, n2, e3, _, _, q2⟩ := hf none (M1.map fun _ => .gone) n1 x (fun z _ => z = y) (fun _ h => nomatch h) (by rw [e2]; exact rfl)
  subst q2
  refine ⟨_, M1, z, n1, ?_, L1, B1, rfl, q⟩
  unfold fBor arity
  rw [e1, Option.bind_some]
  simp only
  rw [snapAll_rd r1, Option.bind_some, List.length_map, if_pos hk, e3, Option.bind_some]
  cases z <;> first | rfl | cases hs
/-! sources -/
def pItS (a : Pe) : Env → PW (List PyData) := fun E => bd (fun x => ofO (seqD x)) ⟨⟩ (a E)
theorem si_seq {a : Fe} {pa : Pe} (ha : SR bx O RdS a pa) : SI bx O (fItS a) (pItS pa) := fun b' l E Γ M n Q S B q => by
  obtain ⟨s, M1, x, n1, e1, L1, B1, r1, q⟩ := ha b' l E Γ M n _ S B q
  obtain ⟨ds, e3, q⟩ := ofO_inv q
  cases x with
  | list xs =>
    cases e3
    rcases r1 with rfl | ⟨w, ds', rfl, h2, h3, h4⟩
    · exact ⟨(List.map .d ds, none), M1, ds, n1, by unfold fItS; rw [e1]; rfl, L1, B1, ⟨rfl, fun _ h => nomatch h⟩, q⟩
    · cases h3
      exact ⟨(ds.map .d, some w), M1, ds, n1, by unfold fItS; rw [e1, Option.bind_some]; simp only; rw [h4], L1, B1, ⟨rfl, fun _ h => by cases h; exact ⟨h2, h4⟩⟩, q⟩
  | tuple xs =>
    cases e3
    rw [r1.d (fun _ z => nomatch z)] at e1
    exact ⟨(ds.map .d, none), M1, ds, n1, by unfold fItS; rw [e1]; rfl, L1, B1, ⟨rfl, fun _ h => nomatch h⟩, q⟩
  | _ => cases e3
theorem si0_seq {a : Fe} {pa : Pe} (ha : SR bx O RD a pa) : SI0 bx O (fItS a) (pItS pa) := fun b' l E Γ M n Q S B q => by
  obtain ⟨s, M1, x, n1, e1, L1, B1, r1, q⟩ := ha b' l E Γ M n _ S B q
  obtain ⟨ds, e3, q⟩ := ofO_inv q
  cases r1
  cases x with
  | list xs =>
    cases e3
    exact ⟨(ds.map .d, none), M1, ds, n1, by unfold fItS; rw [e1]; rfl, L1, B1, rfl, q⟩
  | tuple xs =>
    cases e3
    exact ⟨(ds.map .d, none), M1, ds, n1, by unfold fItS; rw [e1]; rfl, L1, B1, rfl, q⟩
  | _ => cases e3
theorem si_of {f : Fi} {p : Env → PW (List PyData)} (h : SI0 bx O f p) : SI bx O f p := fun b' l E Γ M n Q S B q => by
  obtain ⟨a, M', x, n', h1, h2, h3, h4, h5⟩ := h b' l E Γ M n Q S B q
  exact ⟨a, M', x, n', h1, h2, h3, ⟨by rw [h4], fun w e => by rw [h4] at e; cases e⟩, h5⟩
def rngP (lo : Int) (n : Nat) : List PyData := (List.range n).map fun i => .int (lo + (i : Nat))
theorem rng_d (lo : Int) (n : Nat) : rng lo n = (rngP lo n).map .d := by
  unfold rng rngP
  rw [List.map_map]
  rfl
def rg1 : List PyData → PW (List PyData)
  | [.int j] => if -(2 ^ 62) ≤ j ∧ j < 2 ^ 62 then ret (rngP 0 j.toNat) else bad
  | _ => bad
def rg2 : List PyData → PW (List PyData)
  | [.int i, .int j] => if -(2 ^ 62) ≤ i ∧ i < 2 ^ 62 ∧ -(2 ^ 62) ≤ j ∧ j < 2 ^ 62 then ret (rngP i (j - i).toNat) else bad
  | _ => bad
def pRng1 (t : Pa) : Env → PW (List PyData) := fun E => bd (fun xs => rg1 xs) ⟨⟩ (t E)
def pRng2 (t : Pa) : Env → PW (List PyData) := fun E => bd (fun xs => rg2 xs) ⟨⟩ (t E)
theorem si_rng1 {k : Nat} {t : Fa} {pt : Pa} (ht : SR bx O (RAD k) t pt) : SI0 bx O (fRng1 t) (pRng1 pt) := fun b' l E Γ M n Q S B q => by
  obtain ⟨s, M1, x, n1, e1, L1, B1, ⟨r1, _⟩, q⟩ := ht b' l E Γ M n _ S B q
  have q : rg1 x n1 Q := q
  unfold rg1 at q
  split at q
  · obtain ⟨h, q⟩ := ite_bad q
    exact ⟨_, M1, _, n1, by unfold fRng1; rw [e1, Option.bind_some, r1]; show (if _ then _ else _) = _; rw [if_pos h], L1, B1, by rw [rng_d], q⟩
  · exact q.elim
theorem si_rng2 {k : Nat} {t : Fa} {pt : Pa} (ht : SR bx O (RAD k) t pt) : SI0 bx O (fRng2 t) (pRng2 pt) := fun b' l E Γ M n Q S B q => by
  obtain ⟨s, M1, x, n1, e1, L1, B1, ⟨r1, _⟩, q⟩ := ht b' l E Γ M n _ S B q
  have q : rg2 x n1 Q := q
  unfold rg2 at q
  split at q
  · obtain ⟨h, q⟩ := ite_bad q
    exact ⟨_, M1, _, n1, by unfold fRng2; rw [e1, Option.bind_some, r1]; show (if _ then _ else _) = _; rw [if_pos h], L1, B1, by rw [rng_d], q⟩
  · exact q.elim
def zipP (xs ys : List PyData) : List PyData := (xs.zip ys).map fun p => .tuple [p.1, p.2]
def zp : List PyData → PW (List PyData)
  | [.tuple xs, .tuple ys] => ret (zipP xs ys)
  | [.list xs, .list ys] => ret (zipP xs ys)
  | _ => bad
def pZip (t : Pa) : Env → PW (List PyData) := fun E => bd (fun xs => zp xs) ⟨⟩ (t E)
theorem zip_d (xs ys : List PyData) : zipD xs ys = (zipP xs ys).map .d := by
  unfold zipD zipP
  rw [List.map_map]
  rfl
theorem si_zip {k : Nat} {t : Fa} {pt : Pa} (ht : SR bx O (RAD k) t pt) : SI0 bx O (fZip t) (pZip pt) := fun b' l E Γ M n Q S B q => by
  obtain ⟨s, M1, x, n1, e1, L1, B1, ⟨r1, _⟩, q⟩ := ht b' l E Γ M n _ S B q
  have q : zp x n1 Q := q
  unfold zp at q
  split at q
  · exact ⟨_, M1, _, n1, by unfold fZip; rw [e1, Option.bind_some, r1]; rfl, L1, B1, by rw [zip_d], q⟩
  · exact ⟨_, M1, _, n1, by unfold fZip; rw [e1, Option.bind_some, r1]; rfl, L1, B1, by rw [zip_d], q⟩
  · exact q.elim
def enP (xs : List PyData) : List PyData := (List.range xs.length).map fun i => .tuple [.int (i : Nat), xs.getD i .none]
def en1 : List PyData → PW (List PyData)
  | [x] => bd (fun xs => ret (enP xs)) ⟨⟩ (ofO (seqD x))
  | _ => bad
def pEnum (t : Pa) : Env → PW (List PyData) := fun E => bd (fun xs => en1 xs) ⟨⟩ (t E)
theorem en_d (xs : List PyData) : enD xs = (enP xs).map .d := by
  unfold enD enP
  rw [List.map_map]
  rfl
theorem si_enum {k : Nat} {t : Fa} {pt : Pa} (ht : SR bx O (RAD k) t pt) : SI0 bx O (fEnum t) (pEnum pt) := fun b' l E Γ M n Q S B q => by
  obtain ⟨s, M1, x, n1, e1, L1, B1, ⟨r1, _⟩, q⟩ := ht b' l E Γ M n _ S B q
  have q : en1 x n1 Q := q
  match x, r1, q with
  | [y], r1, q =>
    obtain ⟨ds, e3, q⟩ := ofO_inv (show ofO (seqD y) n1 _ from q)
    cases y with
    | list ys => cases e3; exact ⟨_, M1, _, n1, by unfold fEnum; rw [e1, Option.bind_some, r1]; rfl, L1, B1, by rw [en_d], q⟩
    | tuple ys => cases e3; exact ⟨_, M1, _, n1, by unfold fEnum; rw [e1, Option.bind_some, r1]; rfl, L1, B1, by rw [en_d], q⟩
    | _ => cases e3
  | [], _, q => exact q.elim
  | _ :: _ :: _, _, q => exact q.elim
end
end Y
/-! Comprehensions, statements, defs. -/
namespace Y
open PySem L2 Z
section
variable {bx : Option Nat} {O : List Nat}
/-! targets that are names -/
def SGn (bx : Option Nat) (O : List Nat) (g : Fg) (p : Pg) : Prop :=
  ∀ (b : Nat) (l : Option Nat) (E : Env) (Γ : Gm) (M : Mem) (n : Nat) (x : PyData) (Q : Env → Nat → Prop), St b l bx O E Γ M → p x E n Q → ∃ Γ' E', g (.d x) Γ M = some (Γ', M) ∧ St b l bx O E' Γ' M ∧ Q E' n
def SGns (bx : Option Nat) (O : List Nat) (g : Fgs) (p : Pgs) : Prop :=
  ∀ (b : Nat) (l : Option Nat) (E : Env) (Γ : Gm) (M : Mem) (n : Nat) (xs : List PyData) (Q : Env → Nat → Prop), St b l bx O E Γ M → p xs E n Q → ∃ Γ' E', g (xs.map .d) Γ M = some (Γ', M) ∧ St b l bx O E' Γ' M ∧ Q E' n
def free (bx : Option Nat) (O : List Nat) (i : Nat) : Bool := decide (i ∉ O) && decide (bx ≠ some i)
def pgName (i : Nat) : Pg := fun x E => ret (E.set i (some x))
theorem sg_name {i : Nat} (h : free bx O i = true) : SGn bx O (tgName i) (pgName i) := fun b l E Γ M n x Q S q => by
  simp only [free, Bool.and_eq_true, decide_eq_true_eq] at h
  exact ⟨_, _, rfl, S.setD h.1 h.2, q⟩
def pgNil : Pgs := fun xs E => match xs with
  | [] => ret E
  | _ => bad
def pgCons (f : Pg) (g : Pgs) : Pgs := fun xs E => match xs with
  | x :: r => bd (fun E1 => g r E1) ⟨⟩ (f x E)
  | _ => bad
theorem sgs_nil : SGns bx O tgNil pgNil := fun b l E Γ M n xs Q S q => by
  cases xs with
  | nil => exact ⟨_, _, rfl, S, q⟩
  | cons _ _ => exact q.elim
theorem sgs_cons {f : Fg} {pf : Pg} {g : Fgs} {pg : Pgs} (hf : SGn bx O f pf) (hg : SGns bx O g pg) : SGns bx O (tgCons f g) (pgCons pf pg) := fun b l E Γ M n xs Q S q => by
  cases xs with
  | nil => exact q.elim
  | cons x r =>
    obtain ⟨Γ1, E1, e1, S1, q⟩ := hf b l E Γ M n x _ S q
    obtain ⟨Γ2, E2, e2, S2, q⟩ := hg b l E1 Γ1 M n r _ S1 q
    exact ⟨Γ2, E2, by show (f (.d x) Γ M).bind _ = _; rw [e1]; exact e2, S2, q⟩
def pgTup (k : Nat) (g : Pgs) : Pg := fun x E => match x with
  | .tuple xs => if xs.length = k then g xs E else bad
  | _ => bad
def pgSeq (k : Nat) (g : Pgs) : Pg := fun x E => bd (fun xs => if xs.length = k then g xs E else bad) ⟨⟩ (ofO (seqD x))
theorem sg_tup {k : Nat} {g : Fgs} {pg : Pgs} (hg : SGns bx O g pg) : SGn bx O (tgTup k g) (pgTup k pg) := fun b l E Γ M n x Q S q => by
  cases x with
  | tuple xs =>
    obtain ⟨h, q⟩ := ite_bad q
    obtain ⟨Γ1, E1, e1, S1, q⟩ := hg b l E Γ M n xs _ S q
    exact ⟨Γ1, E1, by show (if (xs.map SV.d).length = k then _ else _) = _; rw [List.length_map, if_pos h]; exact e1, S1, q⟩
  | _ => exact q.elim
theorem sg_seq {k : Nat} {g : Fgs} {pg : Pgs} (hg : SGns bx O g pg) : SGn bx O (tgSeq k g) (pgSeq k pg) := fun b l E Γ M n x Q S q => by
  obtain ⟨xs, e, q⟩ := ofO_inv (show ofO (seqD x) n _ from q)
  obtain ⟨h, q⟩ := ite_bad q
  obtain ⟨Γ1, E1, e1, S1, q⟩ := hg b l E Γ M n xs _ S q
  have e2 : seqOf M (.d x) = some (xs.map .d) := RdS.seq (l := none) (.inl rfl) e
  exact ⟨Γ1, E1, by unfold tgSeq; rw [e2, Option.bind_some, List.length_map, if_pos h]; exact e1, S1, q⟩
/-! comprehensions -/
def lcP (vs : List Nat) (g : Pg) (tt : Pt) (te : Pe) : List PyData → List PyData → Env → PW (List PyData)
  | [], acc, _ => ret acc
  | x :: r, acc, E => bd (fun E1 => bd (fun b => if b = true then bd (fun y => if acc.length < sizeLine then lcP vs g tt te r (acc ++ [y]) E else bad) ⟨⟩ (te E1) else lcP vs g tt te r acc E) ⟨⟩ (tt E1)) ⟨⟩ (g x (wipeE E vs))
def pLc (src : Env → PW (List PyData)) (vs : List Nat) (g : Pg) (tt : Pt) (te : Pe) : Pe := fun E => bd (fun xs => bd (fun ys => ret (.list ys)) ⟨⟩ (lcP vs g tt te xs [] E)) ⟨⟩ (src E)
theorem lcF_ok {vs : List Nat} {g : Fg} {pg : Pg} {tt : Ft} {ptt : Pt} {te : Fe} {pte : Pe} (hv : ∀ v ∈ vs, v ∉ O ∧ bx ≠ some v) (hg : SGn bx O g pg) (ht : SR bx O RQ tt ptt) (he : SR bx O RD te pte) (kp : Option Nat) (all : List PyData) {b : Nat} {l : Option Nat} {E : Env} {Γ : Gm} {Q : List PyData → Nat → Prop} :
    ∀ (xs acc : List PyData) (M : Mem) (n : Nat), St b l bx O E Γ M → BoxQ l M n → (∀ w, kp = some w → l ≠ some w ∧ M[w]? = some (.lst (all.map .d))) → lcP vs pg ptt pte xs acc E n Q →
      ∃ ys M' n', lcF kp (all.map .d) vs g tt te (xs.map .d) (acc.map .d) Γ M = some (ys.map .d, M') ∧ Later l M M' ∧ BoxQ l M' n' ∧ Q ys n'
  | [], acc, M, n, S, B, hk, q => ⟨acc, M, n, by show lcF kp (all.map .d) vs g tt te [] (acc.map .d) Γ M = _; unfold lcF; exact if_pos (show kept kp _ M from fun w e => (hk w e).2), Later.refl _ _, B, q⟩
  | x :: r, acc, M, n, S, B, hk, q => by
    obtain ⟨Γ1, E1, e1, S1, q⟩ := hg b l _ _ M n x _ (S.wipe vs hv) (show (pg x (wipeE E vs)) n _ from q)
    obtain ⟨k, M2, _, n2, e2, L2, B2, rfl, q⟩ := ht b l E1 Γ1 M n _ S1 B q
    have hk2 : ∀ w, kp = some w → l ≠ some w ∧ M2[w]? = some (.lst (all.map .d)) := fun w e => ⟨(hk w e).1, L2.at (hk w e).1 (hk w e).2⟩
    have step : ∀ z, lcF kp (all.map .d) vs g tt te ((x :: r).map .d) (acc.map .d) Γ M = z ↔ (if k = true then (te Γ1 M2).bind (fun y => if acc.length < sizeLine then lcF kp (all.map .d) vs g tt te (r.map .d) (acc.map .d ++ [y.1]) Γ y.2 else none) else lcF kp (all.map .d) vs g tt te (r.map .d) (acc.map .d) Γ M2) = z := fun z => by
      rw [List.map_cons]
      conv => lhs; unfold lcF
      rw [if_pos (show kept kp (all.map .d) M from fun w e => (hk w e).2), e1, Option.bind_some]
      simp only
      rw [e2, Option.bind_some, List.length_map]
    cases k with
    | false =>
      obtain ⟨ys, M3, n3, e3, L3, B3, q⟩ := lcF_ok hv hg ht he kp all r acc M2 n2 (S.later L2) B2 hk2 (show lcP vs pg ptt pte r acc E n2 Q from q)
      exact ⟨ys, M3, n3, (step _).mpr e3, L2.trans L3, B3, q⟩
    | true =>
      obtain ⟨y, M3, y', n3, e3, L3, B3, rfl, q⟩ := he b l E1 Γ1 M2 n2 _ (S1.later L2) B2 (show (pte E1) n2 _ from q)
      obtain ⟨hz, q⟩ := ite_bad q
      obtain ⟨ys, M4, n4, e4, L4, B4, q⟩ := lcF_ok hv hg ht he kp all r (acc ++ [y']) M3 n3 ((S.later L2).later L3) B3 (fun w e => ⟨(hk2 w e).1, L3.at (hk2 w e).1 (hk2 w e).2⟩) q
      refine ⟨ys, M4, n4, (step _).mpr ?_, (L2.trans L3).trans L4, B4, q⟩
      rw [if_pos rfl, e3, Option.bind_some, if_pos hz]
      rw [List.map_append] at e4
      exact e4
def frees (bx : Option Nat) (O vs : List Nat) : Bool := vs.all (free bx O)
theorem frees_ok {vs : List Nat} (h : frees bx O vs = true) : ∀ v ∈ vs, v ∉ O ∧ bx ≠ some v := fun v hv => by
  have := List.all_eq_true.mp h v hv
  simpa only [free, Bool.and_eq_true, decide_eq_true_eq] using this
theorem sd_lc {src : Fi} {ps : Env → PW (List PyData)} {vs : List Nat} {g : Fg} {pg : Pg} {tt : Ft} {ptt : Pt} {te : Fe} {pte : Pe} (hv : frees bx O vs = true) (hs : SI bx O src ps) (hg : SGn bx O g pg) (ht : SR bx O RQ tt ptt) (he : SR bx O RD te pte) :
    SR bx O RD (fLc src vs g tt te) (pLc ps vs pg ptt pte) := fun b l E Γ M n Q S B q => by
  obtain ⟨⟨xs, kp⟩, M1, ds, n1, e1, L1, B1, ⟨r1, r2⟩, q⟩ := hs b l E Γ M n _ S B q
  obtain rfl : xs = ds.map .d := r1
  obtain ⟨ys, M2, n2, e2, L2, B2, q⟩ := lcF_ok (frees_ok hv) hg ht he kp ds ds [] M1 n1 (S.later L1) B1 r2 (show lcP vs pg ptt pte ds [] E n1 _ from q)
  refine ⟨_, M2, .list ys, n2, ?_, L1.trans L2, B2, rfl, q⟩
  unfold fLc
  rw [e1, Option.bind_some]
  simp only
  rw [show ([] : List SV) = ([] : List PyData).map .d from rfl, e2, Option.bind_some, allD_map]
  rfl
theorem sn_lc {src : Fi} {ps : Env → PW (List PyData)} {vs : List Nat} {g : Fg} {pg : Pg} {tt : Ft} {ptt : Pt} {te : Fe} {pte : Pe} (hv : frees bx O vs = true) (hs : SI bx O src ps) (hg : SGn bx O g pg) (ht : SR bx O RQ tt ptt) (he : SR bx O RD te pte) :
    SN bx O (fLcM src vs g tt te) (pLc ps vs pg ptt pte) := fun b l E Γ M n Q S B q => by
  obtain ⟨⟨xs, kp⟩, M1, ds, n1, e1, L1, B1, ⟨r1, r2⟩, q⟩ := hs b l E Γ M n _ S B q
  obtain rfl : xs = ds.map .d := r1
  obtain ⟨ys, M2, n2, e2, L2, B2, q⟩ := lcF_ok (frees_ok hv) hg ht he kp ds ds [] M1 n1 (S.later L1) B1 r2 (show lcP vs pg ptt pte ds [] E n1 _ from q)
  refine ⟨M2.length, M2 ++ [.lst (ys.map .d)], ys, n2, ?_, (L1.trans L2).len, (L1.trans L2).trans (Later.app _ _ _), B2.app _, by simp, q⟩
  unfold fLcM
  rw [e1, Option.bind_some]
  simp only
  rw [show ([] : List SV) = ([] : List PyData).map .d from rfl, e2]
  rfl
/-- two clauses -/
def lc2P (vs : List Nat) (g : Pg) (tt : Pt) (src1 : Env → PW (List PyData)) (vs1 : List Nat) (g1 : Pg) (tt1 : Pt) (te : Pe) : List PyData → List PyData → Env → PW (List PyData)
  | [], acc, _ => ret acc
  | x :: r, acc, E => bd (fun E1 => bd (fun b => if b = true then bd (fun xs => bd (fun ys => lc2P vs g tt src1 vs1 g1 tt1 te r ys E) ⟨⟩ (lcP vs1 g1 tt1 te xs acc E1)) ⟨⟩ (src1 E1) else lc2P vs g tt src1 vs1 g1 tt1 te r acc E) ⟨⟩ (tt E1)) ⟨⟩ (g x (wipeE E vs))
def pLc2 (src : Env → PW (List PyData)) (vs : List Nat) (g : Pg) (tt : Pt) (src1 : Env → PW (List PyData)) (vs1 : List Nat) (g1 : Pg) (tt1 : Pt) (te : Pe) : Pe := fun E => bd (fun xs => bd (fun ys => ret (.list ys)) ⟨⟩ (lc2P vs g tt src1 vs1 g1 tt1 te xs [] E)) ⟨⟩ (src E)
theorem lc2F_ok {vs vs1 : List Nat} {g g1 : Fg} {pg pg1 : Pg} {tt tt1 : Ft} {ptt ptt1 : Pt} {src1 : Fi} {ps1 : Env → PW (List PyData)} {te : Fe} {pte : Pe} (hv : ∀ v ∈ vs, v ∉ O ∧ bx ≠ some v) (hv1 : ∀ v ∈ vs1, v ∉ O ∧ bx ≠ some v) (hg : SGn bx O g pg) (ht : SR bx O RQ tt ptt) (hs1 : SI bx O src1 ps1) (hg1 : SGn bx O g1 pg1) (ht1 : SR bx O RQ tt1 ptt1) (he : SR bx O RD te pte)
    (kp : Option Nat) (all : List PyData) {b : Nat} {l : Option Nat} {E : Env} {Γ : Gm} {Q : List PyData → Nat → Prop} :
    ∀ (xs acc : List PyData) (M : Mem) (n : Nat), St b l bx O E Γ M → BoxQ l M n → (∀ w, kp = some w → l ≠ some w ∧ M[w]? = some (.lst (all.map .d))) → lc2P vs pg ptt ps1 vs1 pg1 ptt1 pte xs acc E n Q →
      ∃ ys M' n', lc2F kp (all.map .d) vs g tt src1 vs1 g1 tt1 te (xs.map .d) (acc.map .d) Γ M = some (ys.map .d, M') ∧ Later l M M' ∧ BoxQ l M' n' ∧ Q ys n'
  | [], acc, M, n, S, B, hk, q => ⟨acc, M, n, by show lc2F kp (all.map .d) vs g tt src1 vs1 g1 tt1 te [] (acc.map .d) Γ M = _; unfold lc2F; exact if_pos (show kept kp _ M from fun w e => (hk w e).2), Later.refl _ _, B, q⟩
  | x :: r, acc, M, n, S, B, hk, q => by
    obtain ⟨Γ1, E1, e1, S1, q⟩ := hg b l _ _ M n x _ (S.wipe vs hv) (show (pg x (wipeE E vs)) n _ from q)
    obtain ⟨k, M2, _, n2, e2, L2, B2, rfl, q⟩ := ht b l E1 Γ1 M n _ S1 B q
    have hk2 : ∀ w, kp = some w → l ≠ some w ∧ M2[w]? = some (.lst (all.map .d)) := fun w e => ⟨(hk w e).1, L2.at (hk w e).1 (hk w e).2⟩
    have step : ∀ z, lc2F kp (all.map .d) vs g tt src1 vs1 g1 tt1 te ((x :: r).map .d) (acc.map .d) Γ M = z ↔ (if k = true then (src1 Γ1 M2).bind (fun s => (lcF s.1.2 s.1.1 vs1 g1 tt1 te s.1.1 (acc.map .d) Γ1 s.2).bind fun y => lc2F kp (all.map .d) vs g tt src1 vs1 g1 tt1 te (r.map .d) y.1 Γ y.2) else lc2F kp (all.map .d) vs g tt src1 vs1 g1 tt1 te (r.map .d) (acc.map .d) Γ M2) = z := fun z => by
      rw [List.map_cons]
      conv => lhs; unfold lc2F
      rw [if_pos (show kept kp (all.map .d) M from fun w e => (hk w e).2), e1, Option.bind_some]
      simp only
      rw [e2, Option.bind_some]
    cases k with
    | false =>
      obtain ⟨ys, M3, n3, e3, L3, B3, q⟩ := lc2F_ok hv hv1 hg ht hs1 hg1 ht1 he kp all r acc M2 n2 (S.later L2) B2 hk2 (show lc2P vs pg ptt ps1 vs1 pg1 ptt1 pte r acc E n2 Q from q)
      exact ⟨ys, M3, n3, (step _).mpr e3, L2.trans L3, B3, q⟩
    | true =>
      obtain ⟨⟨xs1, kp1⟩, M3, ds, n3, e3, L3, B3, ⟨r1, r2⟩, q⟩ := hs1 b l E1 Γ1 M2 n2 _ (S1.later L2) B2 (show (ps1 E1) n2 _ from q)
      obtain rfl : xs1 = ds.map .d := r1
      obtain ⟨ys1, M4, n4, e4, L4, B4, q⟩ := lcF_ok hv1 hg1 ht1 he kp1 ds ds acc M3 n3 ((S1.later L2).later L3) B3 r2 (show lcP vs1 pg1 ptt1 pte ds acc E1 n3 _ from q)
      obtain ⟨ys, M5, n5, e5, L5, B5, q⟩ := lc2F_ok hv hv1 hg ht hs1 hg1 ht1 he kp all r ys1 M4 n4 (((S.later L2).later L3).later L4) B4 (fun w e => ⟨(hk2 w e).1, L4.at (hk2 w e).1 (L3.at (hk2 w e).1 (hk2 w e).2)⟩) q
      refine ⟨ys, M5, n5, (step _).mpr ?_, ((L2.trans L3).trans L4).trans L5, B5, q⟩
      rw [if_pos rfl, e3, Option.bind_some]
      simp only
      rw [e4, Option.bind_some]
      exact e5
theorem sd_lc2 {src src1 : Fi} {ps ps1 : Env → PW (List PyData)} {vs vs1 : List Nat} {g g1 : Fg} {pg pg1 : Pg} {tt tt1 : Ft} {ptt ptt1 : Pt} {te : Fe} {pte : Pe} (hv : frees bx O vs = true) (hv1 : frees bx O vs1 = true) (hs : SI bx O src ps) (hg : SGn bx O g pg) (ht : SR bx O RQ tt ptt) (hs1 : SI bx O src1 ps1) (hg1 : SGn bx O g1 pg1) (ht1 : SR bx O RQ tt1 ptt1) (he : SR bx O RD te pte) :
    SR bx O RD (fLc2 src vs g tt src1 vs1 g1 tt1 te) (pLc2 ps vs pg ptt ps1 vs1 pg1 ptt1 pte) := fun b l E Γ M n Q S B q => by
  obtain ⟨⟨xs, kp⟩, M1, ds, n1, e1, L1, B1, ⟨r1, r2⟩, q⟩ := hs b l E Γ M n _ S B q
  obtain rfl : xs = ds.map .d := r1
  obtain ⟨ys, M2, n2, e2, L2, B2, q⟩ := lc2F_ok (frees_ok hv) (frees_ok hv1) hg ht hs1 hg1 ht1 he kp ds ds [] M1 n1 (S.later L1) B1 r2 (show lc2P vs pg ptt ps1 vs1 pg1 ptt1 pte ds [] E n1 _ from q)
  refine ⟨_, M2, .list ys, n2, ?_, L1.trans L2, B2, rfl, q⟩
  unfold fLc2
  rw [e1, Option.bind_some]
  simp only
  rw [show ([] : List SV) = ([] : List PyData).map .d from rfl, e2, Option.bind_some, allD_map]
  rfl
theorem sn_lc2 {src src1 : Fi} {ps ps1 : Env → PW (List PyData)} {vs vs1 : List Nat} {g g1 : Fg} {pg pg1 : Pg} {tt tt1 : Ft} {ptt ptt1 : Pt} {te : Fe} {pte : Pe} (hv : frees bx O vs = true) (hv1 : frees bx O vs1 = true) (hs : SI bx O src ps) (hg : SGn bx O g pg) (ht : SR bx O RQ tt ptt) (hs1 : SI bx O src1 ps1) (hg1 : SGn bx O g1 pg1) (ht1 : SR bx O RQ tt1 ptt1) (he : SR bx O RD te pte) :
    SN bx O (fLc2M src vs g tt src1 vs1 g1 tt1 te) (pLc2 ps vs pg ptt ps1 vs1 pg1 ptt1 pte) := fun b l E Γ M n Q S B q => by
  obtain ⟨⟨xs, kp⟩, M1, ds, n1, e1, L1, B1, ⟨r1, r2⟩, q⟩ := hs b l E Γ M n _ S B q
  obtain rfl : xs = ds.map .d := r1
  obtain ⟨ys, M2, n2, e2, L2, B2, q⟩ := lc2F_ok (frees_ok hv) (frees_ok hv1) hg ht hs1 hg1 ht1 he kp ds ds [] M1 n1 (S.later L1) B1 r2 (show lc2P vs pg ptt ps1 vs1 pg1 ptt1 pte ds [] E n1 _ from q)
  refine ⟨M2.length, M2 ++ [.lst (ys.map .d)], ys, n2, ?_, (L1.trans L2).len, (L1.trans L2).trans (Later.app _ _ _), B2.app _, by simp, q⟩
  unfold fLc2M
  rw [e1, Option.bind_some]
  simp only
  rw [show ([] : List SV) = ([] : List PyData).map .d from rfl, e2]
  rfl
/-! statements -/
inductive PO where
  | nx (E : Env)
  | rt (x : PyData)
  | bk (E : Env)
  | ct (E : Env)
abbrev Ps := Env → PW PO
def RO (b : Nat) (l bx : Option Nat) (O : List Nat) (M : Mem) : Out → PO → Prop
  | .nx Γ, .nx E => St b l bx O E Γ M
  | .bk Γ, .bk E => St b l bx O E Γ M
  | .ct Γ, .ct E => St b l bx O E Γ M
  | .rt s, .rt x => s = .d x
  | _, _ => False
/-- what stood before the def stands -/
structure Lt (b : Nat) (l : Option Nat) (M M' : Mem) : Prop where
  len : M.length ≤ M'.length
  old : ∀ m, m < b → l ≠ some m → M'[m]? = M[m]?
theorem Lt.refl (b : Nat) (l : Option Nat) (M : Mem) : Lt b l M M := ⟨Nat.le_refl _, fun _ _ _ => rfl⟩
theorem Lt.trans {b : Nat} {l : Option Nat} {M M1 M2 : Mem} (h : Lt b l M M1) (g : Lt b l M1 M2) : Lt b l M M2 := ⟨Nat.le_trans h.len g.len, fun m hm k => by rw [g.old m hm k, h.old m hm k]⟩
theorem Later.lt {b : Nat} {l : Option Nat} {M M' : Mem} (h : Later l M M') (hb : b ≤ M.length) : Lt b l M M' := ⟨h.len, fun m hm k => h.old m (Nat.lt_of_lt_of_le hm hb) k⟩
def SS (bx : Option Nat) (O : List Nat) (f : Fs) (p : Ps) : Prop :=
  ∀ (b : Nat) (l : Option Nat) (E : Env) (Γ : Gm) (M : Mem) (n : Nat) (Q : PO → Nat → Prop), St b l bx O E Γ M → BoxQ l M n → p E n Q → ∃ o M' po n', f Γ M = some (o, M') ∧ Lt b l M M' ∧ BoxQ l M' n' ∧ RO b l bx O M' o po ∧ Q po n'
def pNext : Ps := fun E => ret (.nx E)
def pSeq (f g : Ps) : Ps := fun E => bd (fun o => match o with
  | .nx E' => g E'
  | o => ret o) ⟨⟩ (f E)
def pBreak : Ps := fun E => ret (.bk E)
def pCont : Ps := fun E => ret (.ct E)
def pRet (a : Pe) : Ps := fun E => bd (fun x => ret (.rt x)) ⟨⟩ (a E)
def pRetN : Ps := fun _ => ret (.rt .none)
def pExpr (a : Pe) : Ps := fun E => bd (fun _ => ret (.nx E)) ⟨⟩ (a E)
def pIfS (c : Pt) (f g : Ps) : Ps := fun E => bd (fun k => if k = true then f E else g E) ⟨⟩ (c E)
def pAsg (a : Pe) (g : Pg) : Ps := fun E => bd (fun x => bd (fun E' => ret (.nx E')) ⟨⟩ (g x E)) ⟨⟩ (a E)
theorem ss_next : SS bx O fNext pNext := fun b l E Γ M n Q S B q => ⟨.nx Γ, M, .nx E, n, rfl, Lt.refl _ _ _, B, S, q⟩
theorem ss_break : SS bx O fBreak pBreak := fun b l E Γ M n Q S B q => ⟨.bk Γ, M, .bk E, n, rfl, Lt.refl _ _ _, B, S, q⟩
theorem ss_cont : SS bx O fCont pCont := fun b l E Γ M n Q S B q => ⟨.ct Γ, M, .ct E, n, rfl, Lt.refl _ _ _, B, S, q⟩
theorem ss_retN : SS bx O fRetN pRetN := fun b l E Γ M n Q S B q => ⟨.rt (.d .none), M, .rt .none, n, rfl, Lt.refl _ _ _, B, rfl, q⟩
theorem ss_seq {f g : Fs} {pf pg : Ps} (hf : SS bx O f pf) (hg : SS bx O g pg) : SS bx O (fSeq f g) (pSeq pf pg) := fun b l E Γ M n Q S B q => by
  obtain ⟨o, M1, po, n1, e1, L1, B1, R1, q⟩ := hf b l E Γ M n _ S B q
  cases po with
  | nx E' =>
    cases o with
    | nx Γ' =>
      obtain ⟨o2, M2, po2, n2, e2, L2, B2, R2, q⟩ := hg b l E' Γ' M1 n1 _ R1 B1 q
      exact ⟨o2, M2, po2, n2, by unfold fSeq; rw [e1]; exact e2, L1.trans L2, B2, R2, q⟩
    | _ => exact R1.elim
  | rt x =>
    cases o with
    | rt s => exact ⟨.rt s, M1, .rt x, n1, by unfold fSeq; rw [e1]; rfl, L1, B1, R1, q⟩
    | _ => exact R1.elim
  | bk E' =>
    cases o with
    | bk s => exact ⟨.bk s, M1, .bk E', n1, by unfold fSeq; rw [e1]; rfl, L1, B1, R1, q⟩
    | _ => exact R1.elim
  | ct E' =>
    cases o with
    | ct s => exact ⟨.ct s, M1, .ct E', n1, by unfold fSeq; rw [e1]; rfl, L1, B1, R1, q⟩
    | _ => exact R1.elim
theorem ss_ret {a : Fe} {pa : Pe} (ha : SR bx O RD a pa) : SS bx O (fRet a) (pRet pa) := fun b l E Γ M n Q S B q => by
  obtain ⟨s, M1, x, n1, e1, L1, B1, r1, q⟩ := ha b l E Γ M n _ S B q
  exact ⟨.rt s, M1, .rt x, n1, by unfold fRet; rw [e1]; rfl, L1.lt S.hb, B1, r1, q⟩
/-- a list of one's own is told -/
theorem ss_retF {i : Nat} (hO : i ∈ O) : SS bx O (fRet (fFrz (fVar i))) (pRet (pVar i)) := fun b l E Γ M n Q S B q => by
  obtain ⟨x, e, q⟩ := pvar_inv (show pVar i E n _ from q)
  obtain ⟨w, ds, h1, h2, rfl, h4, h5⟩ := S.own i x e hO
  have e0 : fVar i Γ M = some (.loc w, M) := by unfold fVar; rw [h1]
  refine ⟨.rt (.d (.list ds)), M.set w .gone, .rt (.list ds), n, ?_, ⟨by rw [List.length_set]; exact Nat.le_refl _, fun m hm _ => List.getElem?_set_ne (by omega)⟩, B.of fun k e => List.getElem?_set_ne (fun z => S.ne h2 (by rw [z]; exact e)), rfl, q⟩
  unfold fRet fFrz
  rw [e0, Option.bind_some]
  simp only
  rw [h4]
  simp only
  rw [allD_map]
  rfl
theorem sd_frz {a : Fe} {pa : Pe} (ha : SR bx O RD a pa) : SR bx O RD (fFrz a) pa := fun b l E Γ M n Q S B q => by
  obtain ⟨s, M1, x, n1, e1, L1, B1, rfl, q⟩ := ha b l E Γ M n _ S B q
  exact ⟨_, M1, _, n1, by unfold fFrz; rw [e1]; rfl, L1, B1, rfl, q⟩
theorem ss_expr {a : Fe} {pa : Pe} (ha : SR bx O RdS a pa) : SS bx O (fExpr a) (pExpr pa) := fun b l E Γ M n Q S B q => by
  obtain ⟨s, M1, x, n1, e1, L1, B1, r1, q⟩ := ha b l E Γ M n _ S B q
  exact ⟨.nx Γ, M1, .nx E, n1, by unfold fExpr; rw [e1]; rfl, L1.lt S.hb, B1, S.later L1, q⟩
theorem ss_if {c : Ft} {pc : Pt} {f g : Fs} {pf pg : Ps} (hc : SR bx O RQ c pc) (hf : SS bx O f pf) (hg : SS bx O g pg) : SS bx O (fIfS c f g) (pIfS pc pf pg) := fun b l E Γ M n Q S B q => by
  obtain ⟨k, M1, _, n1, e1, L1, B1, rfl, q⟩ := hc b l E Γ M n _ S B q
  cases k with
  | true =>
    obtain ⟨o2, M2, po2, n2, e2, L2, B2, R2, q⟩ := hf b l E Γ M1 n1 _ (S.later L1) B1 q
    exact ⟨o2, M2, po2, n2, by unfold fIfS; rw [e1]; exact e2, (L1.lt S.hb).trans L2, B2, R2, q⟩
  | false =>
    obtain ⟨o2, M2, po2, n2, e2, L2, B2, R2, q⟩ := hg b l E Γ M1 n1 _ (S.later L1) B1 q
    exact ⟨o2, M2, po2, n2, by unfold fIfS; rw [e1]; exact e2, (L1.lt S.hb).trans L2, B2, R2, q⟩
theorem ss_asg {a : Fe} {pa : Pe} {g : Fg} {pg : Pg} (ha : SR bx O RD a pa) (hg : SGn bx O g pg) : SS bx O (fAsg a g) (pAsg pa pg) := fun b l E Γ M n Q S B q => by
  obtain ⟨s, M1, x, n1, e1, L1, B1, rfl, q⟩ := ha b l E Γ M n _ S B q
  obtain ⟨Γ2, E2, e2, S2, q⟩ := hg b l E Γ M1 n1 x _ (S.later L1) q
  exact ⟨.nx Γ2, M1, .nx E2, n1, by unfold fAsg; rw [e1, Option.bind_some]; simp only; rw [e2]; rfl, L1.lt S.hb, B1, S2, q⟩
theorem St.noloc {b : Nat} {l : Option Nat} {E : Env} {Γ : Gm} {M : Mem} (S : St b l bx O E Γ M) {w : Nat} (h : M.length ≤ w) (j : Nat) : Γ[j]? ≠ some (some (.loc w)) := fun e => by
  have := S.lt j w e
  omega
theorem ss_asgN {i : Nat} {a : Fe} {pa : Pe} (h : (decide (i ∈ O) && decide (bx ≠ some i)) = true) (ha : SN bx O a pa) : SS bx O (fAsg a (tgName i)) (pAsg pa (pgName i)) := fun b l E Γ M n Q S B q => by
  simp only [Bool.and_eq_true, decide_eq_true_eq] at h
  obtain ⟨w, M1, ds, n1, e1, hw, L1, B1, hm, q⟩ := ha b l E Γ M n _ S B q
  exact ⟨.nx _, M1, .nx _, n1, by unfold fAsg; rw [e1]; rfl, L1.lt S.hb, B1, (S.later L1).setN h.1 h.2 (Nat.le_trans S.hb hw) hm (S.noloc hw), q⟩
/-- two names at once -/
def pPar (i j : Nat) (t : Pa) : Ps := fun E => bd (fun xs => match xs with
  | [x, y] => ret (.nx ((E.set i (some x)).set j (some y)))
  | _ => bad) ⟨⟩ (t E)
def own (bx : Option Nat) (O : List Nat) (i : Nat) : Bool := decide (i ∈ O) && decide (bx ≠ some i)
theorem free_ok {i : Nat} (h : free bx O i = true) : i ∉ O ∧ bx ≠ some i := by simpa only [free, Bool.and_eq_true, decide_eq_true_eq] using h
theorem own_ok {i : Nat} (h : own bx O i = true) : i ∈ O ∧ bx ≠ some i := by simpa only [own, Bool.and_eq_true, decide_eq_true_eq] using h
section
variable {i j : Nat} {a c : Fe} {pa pc : Pe}
theorem ss_parDD (hi : free bx O i = true) (hj : free bx O j = true) (ha : SR bx O RD a pa) (hc : SR bx O RD c pc) : SS bx O (fPar i j (fCons a (fCons c fNil))) (pPar i j (pCons pa (pCons pc pNil))) := fun b l E Γ M n Q S B q => by
  obtain ⟨s, M1, x, n1, e1, L1, B1, rfl, q⟩ := ha b l E Γ M n _ S B q
  obtain ⟨t, M2, y, n2, e2, L2, B2, rfl, q⟩ := hc b l E Γ M1 n1 _ (S.later L1) B1 q
  have LL := L1.trans L2
  exact ⟨.nx _, M2, .nx _, n2, by unfold fPar fCons fNil; rw [e1, Option.bind_some]; simp only; rw [e2]; rfl, LL.lt S.hb, B2, ((S.later LL).setD (free_ok hi).1 (free_ok hi).2).setD (free_ok hj).1 (free_ok hj).2, q⟩
theorem set_loc {Γ : Gm} {i k w : Nat} {s : SV} (e : (Γ.set i (some s))[k]? = some (some (.loc w))) : s = .loc w ∨ Γ[k]? = some (some (.loc w)) := by
  by_cases q : i = k
  · subst q
    by_cases q2 : i < Γ.length
    · rw [List.getElem?_set_self q2] at e
      cases e
      exact .inl rfl
    · rw [List.getElem?_eq_none (by rw [List.length_set]; omega)] at e
      cases e
  · rw [List.getElem?_set_ne q] at e
    exact .inr e
theorem ss_parDN (hi : free bx O i = true) (hj : own bx O j = true) (ha : SR bx O RD a pa) (hc : SN bx O c pc) : SS bx O (fPar i j (fCons a (fCons c fNil))) (pPar i j (pCons pa (pCons pc pNil))) := fun b l E Γ M n Q S B q => by
  obtain ⟨s, M1, x, n1, e1, L1, B1, rfl, q⟩ := ha b l E Γ M n _ S B q
  obtain ⟨w, M2, ds, n2, e2, hw, L2, B2, hm, q⟩ := hc b l E Γ M1 n1 _ (S.later L1) B1 q
  have LL := L1.trans L2
  refine ⟨.nx _, M2, .nx _, n2, by unfold fPar fCons fNil; rw [e1, Option.bind_some]; simp only; rw [e2]; rfl, LL.lt S.hb, B2, ((S.later LL).setD (free_ok hi).1 (free_ok hi).2).setN (own_ok hj).1 (own_ok hj).2 (Nat.le_trans (Nat.le_trans S.hb L1.len) hw) hm fun k e => ?_, q⟩
  rcases set_loc e with z | z
  · cases z
  · exact (S.later L1).noloc hw k z
theorem ss_parND (hi : own bx O i = true) (hj : free bx O j = true) (ha : SN bx O a pa) (hc : SR bx O RD c pc) : SS bx O (fPar i j (fCons a (fCons c fNil))) (pPar i j (pCons pa (pCons pc pNil))) := fun b l E Γ M n Q S B q => by
  obtain ⟨w, M1, ds, n1, e1, hw, L1, B1, hm, q⟩ := ha b l E Γ M n _ S B q
  obtain ⟨t, M2, y, n2, e2, L2, B2, rfl, q⟩ := hc b l E Γ M1 n1 _ (S.later L1) B1 q
  have LL := L1.trans L2
  exact ⟨.nx _, M2, .nx _, n2, by unfold fPar fCons fNil; rw [e1, Option.bind_some]; simp only; rw [e2]; rfl, LL.lt S.hb, B2, ((S.later LL).setN (own_ok hi).1 (own_ok hi).2 (Nat.le_trans S.hb hw) (L2.at (S.ne (Nat.le_trans S.hb hw)) hm) (S.noloc hw)).setD (free_ok hj).1 (free_ok hj).2, q⟩
theorem ss_parNN (hi : own bx O i = true) (hj : own bx O j = true) (ha : SN bx O a pa) (hc : SN bx O c pc) : SS bx O (fPar i j (fCons a (fCons c fNil))) (pPar i j (pCons pa (pCons pc pNil))) := fun b l E Γ M n Q S B q => by
  obtain ⟨w, M1, ds, n1, e1, hw, L1, B1, hm, q⟩ := ha b l E Γ M n _ S B q
  obtain ⟨w2, M2, ds2, n2, e2, hw2, L2, B2, hm2, q⟩ := hc b l E Γ M1 n1 _ (S.later L1) B1 q
  have LL := L1.trans L2
  refine ⟨.nx _, M2, .nx _, n2, by unfold fPar fCons fNil; rw [e1, Option.bind_some]; simp only; rw [e2]; rfl, LL.lt S.hb, B2, ((S.later LL).setN (own_ok hi).1 (own_ok hi).2 (Nat.le_trans S.hb hw) (L2.at (S.ne (Nat.le_trans S.hb hw)) hm) (S.noloc hw)).setN (own_ok hj).1 (own_ok hj).2 (Nat.le_trans (Nat.le_trans S.hb L1.len) hw2) hm2 fun k e => ?_, q⟩
  rcases set_loc e with z | z
  · cases z
    have := (List.getElem?_eq_some_iff.mp hm).1
    omega
  · exact (S.later L1).noloc hw2 k z
end
/-- xs.append(x) -/
def appP (i : Nat) (E : Env) (x : PyData) : PW PO := match E[i]? with
  | some (some (.list ds)) => if ds.length < sizeLine then ret (.nx (E.set i (some (.list (ds ++ [x]))))) else bad
  | _ => bad
def pApp (i : Nat) (a : Pe) : Ps := fun E => bd (fun x => appP i E x) ⟨⟩ (a E)
theorem ss_app {i : Nat} {a : Fe} {pa : Pe} (hO : own bx O i = true) (ha : SR bx O RD a pa) : SS bx O (fExpr (fBM "list" gApp (fVar i) (fCons a fNil))) (pApp i pa) := fun b l E Γ M n Q S B q => by
  obtain ⟨s, M1, x, n1, e1, L1, B1, rfl, q⟩ := ha b l E Γ M n _ S B q
  have q : appP i E x n1 Q := q
  unfold appP at q
  cases e : E[i]? with
  | none => rw [e] at q; exact q.elim
  | some o =>
    rw [e] at q
    cases o with
    | none => exact q.elim
    | some y =>
      cases y with
      | list ds =>
        obtain ⟨hz, q⟩ := ite_bad q
        obtain ⟨w, ds', h1, h2, h3, h4, h5⟩ := S.own i _ e (own_ok hO).1
        cases h3
        have h4' := L1.at (S.ne h2) h4
        have e0 : fVar i Γ M = some (.loc w, M) := by unfold fVar; rw [h1]
        have t0 : tyOk "list" M (.loc w) = true := by unfold tyOk; simp only [h4]; rfl
        have S' := (S.later L1).put (ds' := ds ++ [x]) (own_ok hO).1 e h1
        refine ⟨.nx Γ, M1.set w (.lst ((ds ++ [x]).map .d)), .nx _, n1, ?_, ⟨by rw [List.length_set]; exact L1.len, fun m hm k => ?_⟩, B1.of fun k e => List.getElem?_set_ne (fun z => S.ne h2 (by rw [z]; exact e)), S', q⟩
        · unfold fExpr fBM
          rw [e0, Option.bind_some]
          simp only
          rw [if_pos t0]
          unfold fCons fNil
          rw [e1, Option.bind_some]
          simp only [Option.map_some, Option.bind_some, gApp, h4', List.length_map, if_pos hz, List.map_append, List.map_cons, List.map_nil]
        · rw [List.getElem?_set_ne (by omega)]
          exact L1.old m (Nat.lt_of_lt_of_le hm S.hb) k
      | _ => exact q.elim
/-- xs[k] = x -/
def setP (i : Nat) (E : Env) (x y : PyData) : PW PO := match E[i]?, y with
  | some (some (.list ds)), .int k => bd (fun j => ret (.nx (E.set i (some (.list (ds.set j x)))))) ⟨⟩ (ofO (ixN ds.length k))
  | _, _ => bad
def pSet (i : Nat) (a k : Pe) : Ps := fun E => bd (fun x => bd (fun y => setP i E x y) ⟨⟩ (k E)) ⟨⟩ (a E)
theorem ss_sub {i : Nat} {a k : Fe} {pa pk : Pe} (hO : own bx O i = true) (ha : SR bx O RD a pa) (hk : SR bx O RdS k pk) : SS bx O (fAsg a (tgSub (fVar i) k stL)) (pSet i pa pk) := fun b l E Γ M n Q S B q => by
  obtain ⟨s, M1, x, n1, e1, L1, B1, rfl, q⟩ := ha b l E Γ M n _ S B q
  obtain ⟨t, M2, y, n2, e2, L2, B2, r2, q⟩ := hk b l E Γ M1 n1 _ (S.later L1) B1 q
  have LL := L1.trans L2
  have q : setP i E x y n2 Q := q
  unfold setP at q
  cases e : E[i]? with
  | none => rw [e] at q; exact q.elim
  | some o =>
    rw [e] at q
    cases o with
    | none => exact q.elim
    | some v =>
      cases v with
      | list ds =>
        cases y with
        | int k' =>
          obtain ⟨j, e3, q⟩ := ofO_inv (show ofO (ixN ds.length k') n2 _ from q)
          obtain ⟨w, ds', h1, h2, h3, h4, h5⟩ := S.own i _ e (own_ok hO).1
          cases h3
          rw [r2.d (fun _ z => nomatch z)] at e2
          have h4' := LL.at (S.ne h2) h4
          have e0 : ∀ M, fVar i Γ M = some (.loc w, M) := fun M => by unfold fVar; rw [h1]
          have S' := (S.later LL).put (ds' := ds.set j x) (own_ok hO).1 e h1
          refine ⟨.nx Γ, M2.set w (.lst ((ds.set j x).map .d)), .nx _, n2, ?_, ⟨by rw [List.length_set]; exact LL.len, fun m hm k => ?_⟩, B2.of fun k e => List.getElem?_set_ne (fun z => S.ne h2 (by rw [z]; exact e)), S', q⟩
          · unfold fAsg
            rw [e1, Option.bind_some]
            simp only
            unfold tgSub
            rw [e0, Option.bind_some]
            simp only
            rw [e2, Option.bind_some]
            simp only [stL, h4', List.length_map, e3, Option.map_some, List.map_set]
          · rw [List.getElem?_set_ne (by omega)]
            exact LL.old m (Nat.lt_of_lt_of_le hm S.hb) k
        | _ => exact q.elim
      | _ => exact q.elim
/-! loops -/
def forP (g : Pg) (body : Ps) : List PyData → Env → PW PO
  | [], E => ret (.nx E)
  | x :: r, E => bd (fun E1 => bd (fun o => match o with
    | .nx E' => forP g body r E'
    | .ct E' => forP g body r E'
    | .bk E' => ret (.nx E')
    | .rt x => ret (.rt x)) ⟨⟩ (body E1)) ⟨⟩ (g x E)
def pFor (src : Env → PW (List PyData)) (g : Pg) (body : Ps) : Ps := fun E => bd (fun xs => forP g body xs E) ⟨⟩ (src E)
theorem forF_ok {g : Fg} {pg : Pg} {f : Fs} {pf : Ps} (hg : SGn bx O g pg) (hf : SS bx O f pf) (all : List SV) {b : Nat} {l : Option Nat} {Q : PO → Nat → Prop} :
    ∀ (xs : List PyData) (E : Env) (Γ : Gm) (M : Mem) (n : Nat), St b l bx O E Γ M → BoxQ l M n → forP pg pf xs E n Q →
      ∃ o M' po n', forF none all g f (xs.map .d) Γ M = some (o, M') ∧ Lt b l M M' ∧ BoxQ l M' n' ∧ RO b l bx O M' o po ∧ Q po n'
  | [], E, Γ, M, n, S, B, q => ⟨.nx Γ, M, .nx E, n, by show forF none all g f [] Γ M = _; unfold forF; rw [if_pos kept_none], Lt.refl _ _ _, B, S, q⟩
  | x :: r, E, Γ, M, n, S, B, q => by
    obtain ⟨Γ1, E1, e1, S1, q⟩ := hg b l E Γ M n x _ S (show pg x E n _ from q)
    obtain ⟨o, M1, po, n1, e2, L1, B1, R1, q⟩ := hf b l E1 Γ1 M n _ S1 B q
    have step : forF none all g f ((x :: r).map .d) Γ M = (match (generalizing := false) o with
        | .nx Γ' => forF none all g f (r.map .d) Γ' M1
        | .ct Γ' => forF none all g f (r.map .d) Γ' M1
        | .bk Γ' => some (.nx Γ', M1)
        | .rt s => some (.rt s, M1)) := by
      rw [List.map_cons]
      conv => lhs; unfold forF
      rw [if_pos kept_none, e1, Option.bind_some]
      simp only
      rw [e2, Option.bind_some]
      all_goals (cases o <;> rfl)
    cases po with
    | nx E' =>
      cases o with
      | nx Γ' =>
        obtain ⟨o2, M2, po2, n2, e3, L2, B2, R2, q⟩ := forF_ok hg hf all r E' Γ' M1 n1 R1 B1 q
        exact ⟨o2, M2, po2, n2, step.trans e3, L1.trans L2, B2, R2, q⟩
      | _ => exact R1.elim
    | ct E' =>
      cases o with
      | ct Γ' =>
        obtain ⟨o2, M2, po2, n2, e3, L2, B2, R2, q⟩ := forF_ok hg hf all r E' Γ' M1 n1 R1 B1 q
        exact ⟨o2, M2, po2, n2, step.trans e3, L1.trans L2, B2, R2, q⟩
      | _ => exact R1.elim
    | rt x =>
      cases o with
      | rt s => exact ⟨.rt s, M1, .rt x, n1, step, L1, B1, R1, q⟩
      | _ => exact R1.elim
    | bk E' =>
      cases o with
      | bk s => exact ⟨.nx s, M1, .nx E', n1, step, L1, B1, R1, q⟩
      | _ => exact R1.elim
theorem ss_for {src : Fi} {ps : Env → PW (List PyData)} {g : Fg} {pg : Pg} {f : Fs} {pf : Ps} (hs : SI0 bx O src ps) (hg : SGn bx O g pg) (hf : SS bx O f pf) : SS bx O (fFor src g f) (pFor ps pg pf) := fun b l E Γ M n Q S B q => by
  obtain ⟨_, M1, ds, n1, e1, L1, B1, rfl, q⟩ := hs b l E Γ M n _ S B q
  obtain ⟨o, M2, po, n2, e2, L2, B2, R2, q⟩ := forF_ok hg hf (ds.map .d) ds E Γ M1 n1 (S.later L1) B1 (show forP pg pf ds E n1 Q from q)
  exact ⟨o, M2, po, n2, by unfold fFor; rw [e1]; exact e2, (L1.lt S.hb).trans L2, B2, R2, q⟩
def whileP (c : Pt) (body : Ps) : Nat → Env → PW PO
  | 0, _ => bad
  | k + 1, E => bd (fun z => if z = true then bd (fun o => match o with
    | .nx E' => whileP c body k E'
    | .ct E' => whileP c body k E'
    | .bk E' => ret (.nx E')
    | .rt x => ret (.rt x)) ⟨⟩ (body E) else ret (.nx E)) ⟨⟩ (c E)
def pWhile (k : Nat) (c : Pt) (body : Ps) : Ps := fun E => whileP c body k E
theorem whileF_ok {c : Ft} {pc : Pt} {f : Fs} {pf : Ps} (hc : SR bx O RQ c pc) (hf : SS bx O f pf) {b : Nat} {l : Option Nat} {Q : PO → Nat → Prop} :
    ∀ (k : Nat) (E : Env) (Γ : Gm) (M : Mem) (n : Nat), St b l bx O E Γ M → BoxQ l M n → whileP pc pf k E n Q →
      ∃ o M' po n', whileF c f k Γ M = some (o, M') ∧ Lt b l M M' ∧ BoxQ l M' n' ∧ RO b l bx O M' o po ∧ Q po n'
  | 0, E, Γ, M, n, S, B, q => q.elim
  | k + 1, E, Γ, M, n, S, B, q => by
    obtain ⟨z, M0, _, n0, e0, L0, B0, rfl, q⟩ := hc b l E Γ M n _ S B (show pc E n _ from q)
    cases z with
    | false => exact ⟨.nx Γ, M0, .nx E, n0, by unfold whileF; rw [e0]; rfl, L0.lt S.hb, B0, S.later L0, q⟩
    | true =>
      obtain ⟨o, M1, po, n1, e2, L1, B1, R1, q⟩ := hf b l E Γ M0 n0 _ (S.later L0) B0 (show pf E n0 _ from q)
      have LL := (L0.lt S.hb).trans L1
      have step : whileF c f (k + 1) Γ M = (match (generalizing := false) o with
          | .nx Γ' => whileF c f k Γ' M1
          | .ct Γ' => whileF c f k Γ' M1
          | .bk Γ' => some (.nx Γ', M1)
          | .rt s => some (.rt s, M1)) := by
        conv => lhs; unfold whileF
        rw [e0, Option.bind_some]
        simp only [if_true]
        rw [e2, Option.bind_some]
        all_goals (cases o <;> rfl)
      cases po with
      | nx E' =>
        cases o with
        | nx Γ' =>
          obtain ⟨o2, M2, po2, n2, e3, L2, B2, R2, q⟩ := whileF_ok hc hf k E' Γ' M1 n1 R1 B1 q
          exact ⟨o2, M2, po2, n2, step.trans e3, LL.trans L2, B2, R2, q⟩
        | _ => exact R1.elim
      | ct E' =>
        cases o with
        | ct Γ' =>
          obtain ⟨o2, M2, po2, n2, e3, L2, B2, R2, q⟩ := whileF_ok hc hf k E' Γ' M1 n1 R1 B1 q
          exact ⟨o2, M2, po2, n2, step.trans e3, LL.trans L2, B2, R2, q⟩
        | _ => exact R1.elim
      | rt x =>
        cases o with
        | rt s => exact ⟨.rt s, M1, .rt x, n1, step, LL, B1, R1, q⟩
        | _ => exact R1.elim
      | bk E' =>
        cases o with
        | bk s => exact ⟨.nx s, M1, .nx E', n1, step, LL, B1, R1, q⟩
        | _ => exact R1.elim
theorem ss_while {k : Nat} {c : Ft} {pc : Pt} {f : Fs} {pf : Ps} (hc : SR bx O RQ c pc) (hf : SS bx O f pf) : SS bx O (fWhile k c f) (pWhile k pc pf) := fun b l E Γ M n Q S B q => whileF_ok hc hf k E Γ M n S B q
end
/-! defs -/
def endP : PO → PW PyData
  | .nx _ => ret .none
  | .rt x => ret x
  | _ => bad
def runP (k N : Nat) (pb : Ps) : Pf := fun ds => if ds.length = k then bd (fun o => endP o) ⟨⟩ (pb (ds.map some ++ List.replicate (N - k) none)) else bad
def runPB (k N : Nat) (pb : Ps) : Pf := fun ds => if ds.length = k then bd (fun o => endP o) ⟨⟩ (pb (none :: (ds.map some ++ List.replicate (N - (k + 1)) none))) else bad
theorem trunc_cut (n : Nat) (x : PyData) (M : Mem) : ∃ M', trunc n (.d x) M = (.d x, M') ∧ (M' = M ∨ M' = M.take n) := by
  unfold trunc
  split
  · exact ⟨_, rfl, .inr rfl⟩
  · exact ⟨_, rfl, .inl rfl⟩
theorem Lt.cut {l : Option Nat} {M M' M2 : Mem} {n : Nat} (h : Lt M.length l M M') (B : BoxQ l M' n) (hl : ∀ k, l = some k → k < M.length) (e : M2 = M' ∨ M2 = M'.take M.length) : Later l M M2 ∧ BoxQ l M2 n := by
  rcases e with rfl | rfl
  · exact ⟨⟨h.len, h.old⟩, B⟩
  · have q : ∀ m, m < M.length → (M'.take M.length)[m]? = M'[m]? := fun m hm => List.getElem?_take_of_lt hm
    exact ⟨⟨by rw [List.length_take]; exact Nat.le_min.mpr ⟨Nat.le_refl _, h.len⟩, fun m hm k => by rw [q m hm]; exact h.old m hm k⟩, B.of fun k e => q k (hl k e)⟩
theorem start_at {i : Nat} {x : PyData} {k : Nat} : ∀ {ds : List PyData}, (ds.map some ++ List.replicate k none)[i]? = some (some x) → ds[i]? = some x := fun {ds} e => by
  by_cases h : i < ds.length
  · rw [List.getElem?_append_left (by rw [List.length_map]; exact h), List.getElem?_map] at e
    cases h2 : ds[i]? with
    | none => rw [h2] at e; cases e
    | some y => rw [h2] at e; cases e; rfl
  · rw [List.getElem?_append_right (by rw [List.length_map]; omega)] at e
    have := List.mem_of_getElem? e
    rw [List.mem_replicate] at this
    cases this.2
theorem start_sv {i : Nat} {k : Nat} {x : PyData} : ∀ {ds : List PyData}, ds[i]? = some x → ((ds.map SV.d).map some ++ List.replicate k none)[i]? = some (some (SV.d x)) := fun {ds} e => by
  have h := (List.getElem?_eq_some_iff.mp e).1
  rw [List.getElem?_append_left (by rw [List.length_map, List.length_map]; exact h), List.map_map, List.getElem?_map, e]
  rfl
theorem start_loc {i w k : Nat} {ds : List PyData} (e : ((ds.map SV.d).map some ++ List.replicate k none)[i]? = some (some (SV.loc w))) : False := by
  have := List.mem_of_getElem? e
  rw [List.mem_append, List.mem_replicate] at this
  rcases this with h | h
  · rw [List.map_map] at h
    obtain ⟨y, _, hy⟩ := List.mem_map.mp h
    cases hy
  · cases h.2
theorem sf_run {O : List Nat} {N : Nat} {fb : Fs} {pb : Ps} (k : Nat) (hO : (O.all fun i => decide (k ≤ i)) = true) (h : SS none O fb pb) : SF (runF N fb) (runP k N pb) := fun l M n ds Q B q => by
  have hl := fun k e => B.lt (k := k) e
  obtain ⟨hk, q⟩ := ite_bad q
  subst hk
  have S : St M.length l none O (ds.map some ++ List.replicate (N - ds.length) none) ((ds.map SV.d).map some ++ List.replicate (N - (ds.map SV.d).length) none) M := by
    refine ⟨hl, Nat.le_refl _, by simp, (fun _ e => nomatch e), (fun i w e => (start_loc e).elim), fun i x e _ => start_sv (start_at e), fun i x e hi => ?_⟩
    have h1 := (List.getElem?_eq_some_iff.mp (start_at e)).1
    have h2 := List.all_eq_true.mp hO i hi
    simp only [decide_eq_true_eq] at h2
    omega
  obtain ⟨o, M1, po, n1, e1, L1, B1, R1, q⟩ := h M.length l _ _ M n _ S B q
  cases po with
  | nx E' =>
    cases o with
    | nx Γ' =>
      obtain ⟨M2, e2, hc⟩ := trunc_cut M.length .none M1
      obtain ⟨L2, B2⟩ := L1.cut B1 hl hc
      exact ⟨.none, M2, n1, by unfold runF; rw [e1, Option.bind_some]; simp only; rw [e2], L2, B2, q⟩
    | _ => exact R1.elim
  | rt x =>
    cases o with
    | rt s =>
      obtain rfl : s = .d x := R1
      obtain ⟨M2, e2, hc⟩ := trunc_cut M.length x M1
      obtain ⟨L2, B2⟩ := L1.cut B1 hl hc
      exact ⟨x, M2, n1, by unfold runF; rw [e1, Option.bind_some]; simp only; rw [e2], L2, B2, q⟩
    | _ => exact R1.elim
  | _ => exact q.elim
theorem sfb_run {O : List Nat} {N : Nat} {fb : Fs} {pb : Ps} (k : Nat) (hO : (O.all fun i => decide (k < i)) = true) (h : SS (some 0) O fb pb) : SFB (runF N fb) (runPB k N pb) := fun c M n ds Q B q => by
  have hc := box_lt B
  obtain ⟨hk, q⟩ := ite_bad q
  subst hk
  have S : St M.length (some c) (some 0) O (none :: (ds.map some ++ List.replicate (N - (ds.length + 1)) none)) ((SV.loc c :: ds.map SV.d).map some ++ List.replicate (N - (SV.loc c :: ds.map SV.d).length) none) M := by
    rw [List.length_cons, List.length_map, List.map_cons, List.cons_append]
    refine ⟨fun k e => by cases e; exact hc, Nat.le_refl _, by simp, fun i e => ⟨c, rfl, by cases e; rfl⟩, fun i w e => ?_, fun i x e _ => ?_, fun i x e hi => ?_⟩
    · cases i with
      | zero => cases e; exact hc
      | succ i => exact (start_loc (by simpa using e)).elim
    · cases i with
      | zero => cases e
      | succ i =>
        rw [List.getElem?_cons_succ] at e ⊢
        exact start_sv (start_at e)
    · cases i with
      | zero => cases e
      | succ i =>
        rw [List.getElem?_cons_succ] at e
        have h1 := (List.getElem?_eq_some_iff.mp (start_at e)).1
        have h2 := List.all_eq_true.mp hO _ hi
        simp only [decide_eq_true_eq] at h2
        omega
  obtain ⟨o, M1, po, n1, e1, L1, B1, R1, q⟩ := h M.length (some c) _ _ M n _ S (fun k e => by cases e; exact B) q
  have hl : ∀ k, some c = some k → k < M.length := fun k e => by cases e; exact hc
  cases po with
  | nx E' =>
    cases o with
    | nx Γ' =>
      obtain ⟨M2, e2, hc⟩ := trunc_cut M.length .none M1
      obtain ⟨L2, B2⟩ := L1.cut B1 hl hc
      exact ⟨.none, M2, n1, by unfold runF; rw [e1, Option.bind_some]; simp only; rw [e2], L2, B2 c rfl, q⟩
    | _ => exact R1.elim
  | rt x =>
    cases o with
    | rt s =>
      obtain rfl : s = .d x := R1
      obtain ⟨M2, e2, hc⟩ := trunc_cut M.length x M1
      obtain ⟨L2, B2⟩ := L1.cut B1 hl hc
      exact ⟨x, M2, n1, by unfold runF; rw [e1, Option.bind_some]; simp only; rw [e2], L2, B2 c rfl, q⟩
    | _ => exact R1.elim
  | _ => exact q.elim
/-! draws -/
def pTake : Pf := fun ds => match ds with
  | [.int k] => draw k
  | _ => bad
theorem sfb_take2 {c : ZL.Cst} (ok : c.Ok) : SFB (ZL.take2 c) pTake := fun k M n ds Q B q => by
  match ds, q with
  | [.int j], q =>
    obtain ⟨⟨h1, h2, h3⟩, q⟩ := q
    obtain ⟨r, M', r0, r1, e, D⟩ := ZL.take2_ok ok B h3 h1 h2
    exact ⟨.int r, M', n + 1, e, ⟨by rw [D.len]; exact Nat.le_refl _, fun m hm h => D.other fun z => h (by rw [z])⟩, D.box, q r r0 r1⟩
  | [], q => exact q.elim
  | [.none], q => exact q.elim
  | [.bool _], q => exact q.elim
  | [.str _], q => exact q.elim
  | [.list _], q => exact q.elim
  | [.tuple _], q => exact q.elim
  | [.dict _], q => exact q.elim
  | a :: _ :: _, q => exact (by cases a <;> exact False.elim q)
theorem sfb_take1 : SFB ZL.take pTake := fun k M n ds Q B q => by
  match ds, q with
  | [.int j], q =>
    obtain ⟨⟨h1, h2, h3⟩, q⟩ := q
    obtain ⟨r, M', r0, r1, e, D⟩ := ZL.take_ok B h3 h1 h2
    exact ⟨.int r, M', n + 1, e, ⟨by rw [D.len]; exact Nat.le_refl _, fun m hm h => D.other fun z => h (by rw [z])⟩, D.box, q r r0 r1⟩
  | [], q => exact q.elim
  | [.none], q => exact q.elim
  | [.bool _], q => exact q.elim
  | [.str _], q => exact q.elim
  | [.list _], q => exact q.elim
  | [.tuple _], q => exact q.elim
  | [.dict _], q => exact q.elim
  | a :: _ :: _, q => exact (by cases a <;> exact False.elim q)
theorem draw_bd {β : Type} {f : PyData → PW β} {u : Shut f} {k : Int} {n : Nat} {Q : β → Nat → Prop} : bd f u (draw k) n Q = ((0 < k ∧ k < 2 ^ 30 ∧ (n : Int) < 2 ^ 40) ∧ ∀ r : Int, 0 ≤ r → r < k → f (.int r) (n + 1) Q) := propext Iff.rfl
theorem sf_zero : SF (fun _ _ => none) (fun _ => bad) := fun l M n ds Q B q => q.elim
/-! displays of lists of one's own, told to a call that only looks -/
def RX : Option Nat → Mem → SV → PyData → Prop := fun l M s x => RdS l M s x ∨ ∃ w ss xs, s = .loc w ∧ l ≠ some w ∧ x = .list xs ∧ M[w]? = some (.lst ss) ∧ Paired (RdS l M) ss xs
theorem RX.later {l : Option Nat} {M M' : Mem} {s : SV} {x : PyData} (h : RX l M s x) (L : Later l M M') : RX l M' s x := by
  rcases h with h | ⟨w, ss, xs, h1, h2, h3, h4, h5⟩
  · exact .inl (h.later L)
  · exact .inr ⟨w, ss, xs, h1, h2, h3, L.at h2 h4, paired_later h5 L⟩
def RAX (k : Nat) : Option Nat → Mem → List SV → List PyData → Prop := fun l M ss xs => Paired (RX l M) ss xs ∧ xs.length = k
section
variable {bx : Option Nat} {O : List Nat}
theorem sx_e {f : Fe} {p : Pe} (h : SR bx O RdS f p) : SR bx O RX f p := fun b l E Γ M n Q S B q => by
  obtain ⟨a, M', x, n', h1, h2, h3, h4, h5⟩ := h b l E Γ M n Q S B q
  exact ⟨a, M', x, n', h1, h2, h3, .inl h4, h5⟩
theorem sx_lst {k : Nat} {t : Fa} {pt : Pa} (ht : SR bx O (RA k) t pt) : SR bx O RX (fLstM t) (pLst pt) := fun b' l E Γ M n Q S B q => by
  obtain ⟨s, M1, x, n1, e1, L1, B1, ⟨r1, _⟩, q⟩ := ht b' l E Γ M n _ S B q
  obtain ⟨h, q⟩ := ite_bad q
  refine ⟨.loc M1.length, M1 ++ [.lst s], .list x, n1, by unfold fLstM; rw [e1, Option.bind_some]; simp only; rw [Paired.length r1, if_pos h], L1.trans (Later.app _ _ _), B1.app _, .inr ⟨M1.length, s, x, rfl, fun e => ?_, rfl, by simp, paired_later r1 (Later.app _ _ _)⟩, q⟩
  have := B1.lt e
  omega
theorem paired_laterX {l : Option Nat} {M M' : Mem} {ss : List SV} {xs : List PyData} (h : Paired (RX l M) ss xs) (L : Later l M M') : Paired (RX l M') ss xs := by
  induction h with
  | nil => exact .nil
  | cons a _ ih => exact .cons (a.later L) ih
theorem sax_nil : SR bx O (RAX 0) fNil pNil := fun b' l E Γ M n Q S B q => ⟨_, M, _, n, rfl, Later.refl _ _, B, ⟨.nil, rfl⟩, q⟩
theorem sax_cons {k : Nat} {a : Fe} {pa : Pe} {r : Fa} {pr : Pa} (ha : SR bx O RX a pa) (hr : SR bx O (RAX k) r pr) : SR bx O (RAX (k + 1)) (fCons a r) (pCons pa pr) := fun b' l E Γ M n Q S B q => by
  obtain ⟨s, M1, x, n1, e1, L1, B1, r1, q⟩ := ha b' l E Γ M n _ S B q
  obtain ⟨t, M2, y, n2, e2, L2, B2, ⟨r2, r3⟩, q⟩ := hr b' l E Γ M1 n1 _ (S.later L1) B1 q
  exact ⟨_, M2, _, n2, by unfold fCons; rw [e1, Option.bind_some]; simp only; rw [e2]; rfl, L1.trans L2, B2, ⟨.cons (r1.later L2) r2, by rw [List.length_cons, r3]⟩, q⟩
theorem snapAll_pr {l : Option Nat} {M : Mem} {k : Nat} {ss : List SV} {xs : List PyData} (h : Paired (RdS l M) ss xs) : snapAll (snap (k + 1) M) ss = some xs := by
  induction h with
  | nil => rfl
  | cons a _ ih => rw [snapAll, snap_rd a, Option.bind_some, ih]; rfl
theorem snap_rx {l : Option Nat} {M : Mem} {s : SV} {x : PyData} {k : Nat} (h : RX l M s x) : snap (k + 2) M s = some x := by
  rcases h with h | ⟨w, ss, xs, rfl, h2, rfl, h4, h5⟩
  · exact snap_rd h
  · simp only [snap, h4, snapAll_pr h5]
    rfl
theorem snapAll_rx {l : Option Nat} {M : Mem} {ss : List SV} {xs : List PyData} (h : Paired (RX l M) ss xs) : snapAll (snap 4 M) ss = some xs := by
  induction h with
  | nil => rfl
  | cons a _ ih => rw [snapAll, snap_rx a, Option.bind_some, ih]; rfl
theorem sd_borX {k : Nat} {f : Fn} {p : Pf} {t : Fa} {pt : Pa} (hf : SF f p) (ht : SR bx O (RAX k) t pt) : SR bx O RD (fBor k f t) (pBor p pt) := fun b' l E Γ M n Q S B q => by
  obtain ⟨s, M1, x, n1, e1, L1, B1, ⟨r1, hk⟩, q⟩ := ht b' l E Γ M n _ S B q
  obtain ⟨y, e2, hs, q⟩ := q
  obtain ⟨z, M2, n2, e3, _, _, q2⟩ := hf none (M1.map fun _ => .gone) n1 x (fun z _ => z = y) (fun _ h => nomatch h) (by rw [e2]; exact rfl)
  subst q2
  refine ⟨_, M1, z, n1, ?_, L1, B1, rfl, q⟩
  unfold fBor arity
  rw [e1, Option.bind_some]
  simp only
  rw [snapAll_rx r1, Option.bind_some, List.length_map, if_pos hk, e3, Option.bind_some]
  cases z <;> first | rfl | cases hs
end
/-! several names at once -/
inductive RK (b : Nat) (M : Mem) : List Bool → List SV → List PyData → Prop
  | nil : RK b M [] [] []
  | d {ks : List Bool} {ss : List SV} {xs : List PyData} (x : PyData) : RK b M ks ss xs → RK b M (false :: ks) (.d x :: ss) (x :: xs)
  | n {ks : List Bool} {ss : List SV} {xs : List PyData} (w : Nat) (ds : List PyData) : b ≤ w → M[w]? = some (.lst (ds.map .d)) → SV.loc w ∉ ss → RK b M ks ss xs → RK b M (true :: ks) (.loc w :: ss) (.list ds :: xs)
theorem RK.later {b : Nat} {l : Option Nat} {M M' : Mem} {ks : List Bool} {ss : List SV} {xs : List PyData} (h : RK b M ks ss xs) (hl : ∀ w, b ≤ w → l ≠ some w) (L : Later l M M') : RK b M' ks ss xs := by
  induction h with
  | nil => exact .nil
  | d x _ ih => exact .d x ih
  | n w ds h1 h2 h3 _ ih => exact .n w ds h1 (L.at (hl w h1) h2) h3 ih
def SK (bx : Option Nat) (O : List Nat) (ks : List Bool) (f : Fa) (p : Pa) : Prop :=
  ∀ (b : Nat) (l : Option Nat) (E : Env) (Γ : Gm) (M : Mem) (n : Nat) (Q : List PyData → Nat → Prop), St b l bx O E Γ M → BoxQ l M n → p E n Q → ∃ ss M' xs n', f Γ M = some (ss, M') ∧ Later l M M' ∧ BoxQ l M' n' ∧ RK b M' ks ss xs ∧ (∀ w, SV.loc w ∈ ss → M.length ≤ w) ∧ Q xs n'
theorem RK.lt {b : Nat} {M : Mem} {ks : List Bool} {ss : List SV} {xs : List PyData} (h : RK b M ks ss xs) : ∀ w, SV.loc w ∈ ss → w < M.length := by
  induction h with
  | nil => exact fun _ h => nomatch h
  | d x _ ih =>
    intro w hw
    rcases List.mem_cons.mp hw with e | e
    · cases e
    · exact ih w e
  | n w ds h1 h2 h3 _ ih =>
    intro v hv
    rcases List.mem_cons.mp hv with e | e
    · cases e
      exact (List.getElem?_eq_some_iff.mp h2).1
    · exact ih v e
def pgNames : List Nat → Pgs
  | [] => pgNil
  | i :: r => pgCons (pgName i) (pgNames r)
def tgNames : List Nat → Fgs
  | [] => tgNil
  | i :: r => tgCons (tgName i) (tgNames r)
section
variable {bx : Option Nat} {O : List Nat}
theorem sk_nil : SK bx O [] fNil pNil := fun b l E Γ M n Q S B q => ⟨[], M, [], n, rfl, Later.refl _ _, B, .nil, (fun _ h => nomatch h), q⟩
theorem sk_d {ks : List Bool} {a : Fe} {pa : Pe} {r : Fa} {pr : Pa} (ha : SR bx O RD a pa) (hr : SK bx O ks r pr) : SK bx O (false :: ks) (fCons a r) (pCons pa pr) := fun b l E Γ M n Q S B q => by
  obtain ⟨s, M1, x, n1, e1, L1, B1, rfl, q⟩ := ha b l E Γ M n _ S B q
  obtain ⟨ss, M2, xs, n2, e2, L2, B2, r2, r3, q⟩ := hr b l E Γ M1 n1 _ (S.later L1) B1 q
  refine ⟨_, M2, _, n2, by unfold fCons; rw [e1, Option.bind_some]; simp only; rw [e2]; rfl, L1.trans L2, B2, .d x r2, fun w hw => ?_, q⟩
  rcases List.mem_cons.mp hw with e | e
  · cases e
  · exact Nat.le_trans L1.len (r3 w e)
theorem sk_n {ks : List Bool} {a : Fe} {pa : Pe} {r : Fa} {pr : Pa} (ha : SN bx O a pa) (hr : SK bx O ks r pr) : SK bx O (true :: ks) (fCons a r) (pCons pa pr) := fun b l E Γ M n Q S B q => by
  obtain ⟨w, M1, ds, n1, e1, hw, L1, B1, hm, q⟩ := ha b l E Γ M n _ S B q
  obtain ⟨ss, M2, xs, n2, e2, L2, B2, r2, r3, q⟩ := hr b l E Γ M1 n1 _ (S.later L1) B1 q
  have hb := Nat.le_trans S.hb hw
  refine ⟨_, M2, _, n2, by unfold fCons; rw [e1, Option.bind_some]; simp only; rw [e2]; rfl, L1.trans L2, B2, .n w ds hb (L2.at (S.ne hb) hm) (fun e => ?_) r2, fun v hv => ?_, q⟩
  · have := r3 w e
    have := (List.getElem?_eq_some_iff.mp hm).1
    omega
  · rcases List.mem_cons.mp hv with e | e
    · cases e
      exact hw
    · exact Nat.le_trans L1.len (r3 v e)
def slots (bx : Option Nat) (O : List Nat) : List Bool → List Nat → Bool
  | [], [] => true
  | false :: ks, i :: r => free bx O i && slots bx O ks r
  | true :: ks, i :: r => own bx O i && slots bx O ks r
  | _, _ => false
theorem names_ok {b : Nat} {l : Option Nat} {M : Mem} {n : Nat} {Q : Env → Nat → Prop} {ks : List Bool} {ss : List SV} {xs : List PyData} (R : RK b M ks ss xs) : ∀ (is : List Nat) (E : Env) (Γ : Gm), slots bx O ks is = true → St b l bx O E Γ M → (∀ w, SV.loc w ∈ ss → ∀ j : Nat, Γ[j]? ≠ some (some (.loc w))) → pgNames is xs E n Q →
    ∃ Γ' E', tgNames is ss Γ M = some (Γ', M) ∧ St b l bx O E' Γ' M ∧ Q E' n := by
  induction R with
  | nil =>
    intro is E Γ hs S hn q
    cases is with
    | nil => exact ⟨Γ, E, rfl, S, q⟩
    | cons _ _ => cases hs
  | d x R ih =>
    intro is E Γ hs S hn q
    cases is with
    | nil => cases hs
    | cons i r =>
      simp only [slots, Bool.and_eq_true] at hs
      obtain ⟨Γ', E', e, S', q'⟩ := ih r _ (Γ.set i (some (.d x))) hs.2 (S.setD (free_ok hs.1).1 (free_ok hs.1).2) (fun w hw j e => by
        rcases set_loc e with z | z
        · cases z
        · exact hn w (List.mem_cons_of_mem _ hw) j z) q
      exact ⟨Γ', E', e, S', q'⟩
  | n w ds h1 h2 h3 R ih =>
    intro is E Γ hs S hn q
    cases is with
    | nil => cases hs
    | cons i r =>
      simp only [slots, Bool.and_eq_true] at hs
      obtain ⟨Γ', E', e, S', q'⟩ := ih r _ (Γ.set i (some (.loc w))) hs.2 (S.setN (own_ok hs.1).1 (own_ok hs.1).2 h1 h2 (hn w List.mem_cons_self)) (fun v hv j e => by
        rcases set_loc e with z | z
        · cases z
          exact h3 hv
        · exact hn v (List.mem_cons_of_mem _ hv) j z) q
      exact ⟨Γ', E', e, S', q'⟩
def pUnp (is : List Nat) (t : Pa) : Ps := fun E => bd (fun xs => bd (fun E' => ret (.nx E')) ⟨⟩ (pgNames is xs E)) ⟨⟩ (t E)
theorem RK.length {b : Nat} {M : Mem} {ks : List Bool} {ss : List SV} {xs : List PyData} (h : RK b M ks ss xs) : ss.length = ks.length := by
  induction h with
  | nil => rfl
  | d x _ ih => rw [List.length_cons, List.length_cons, ih]
  | n w ds h1 h2 h3 _ ih => rw [List.length_cons, List.length_cons, ih]
theorem ss_unp {ks : List Bool} {is : List Nat} {t : Fa} {pt : Pa} {g : Fgs} (hs : slots bx O ks is = true) (ht : SK bx O ks t pt) (hg : g = tgNames is) : SS bx O (fUnp ks.length t g) (pUnp is pt) := fun b l E Γ M n Q S B q => by
  subst hg
  obtain ⟨ss, M1, xs, n1, e1, L1, B1, r1, r2, q⟩ := ht b l E Γ M n _ S B q
  obtain ⟨Γ', E', e2, S', q⟩ := names_ok (n := n1) r1 is E Γ hs (S.later L1) (fun w hw j => S.noloc (r2 w hw) j) (show pgNames is xs E n1 _ from q)
  exact ⟨.nx Γ', M1, .nx E', n1, by unfold fUnp; rw [e1, Option.bind_some]; simp only; rw [if_pos r1.length, e2]; rfl, L1.lt S.hb, B1, S', q⟩
/-- x = xs.pop(i) as an argument or a statement of its own: the list of one's own loses the item -/
def popP (i : Nat) (E : Env) (x : PyData) : PW (PyData × Env) := match E[i]?, x with
  | some (some (.list ds)), .int k => if 0 ≤ k ∧ k < ds.length ∧ ds.length < sizeLine then bd (fun y => ret (y, E.set i (some (.list (ds.eraseIdx k.toNat))))) ⟨⟩ (ofO ds[k.toNat]?) else bad
  | _, _ => bad
/-- ys.append(xs.pop(k)) -/
def pPopApp (j i : Nat) (k : Pe) : Ps := fun E => bd (fun x => bd (fun p => appP j p.2 p.1) ⟨⟩ (popP i E x)) ⟨⟩ (k E)
theorem erase_map {α β : Type} (f : α → β) : ∀ (xs : List α) (k : Nat), (xs.map f).eraseIdx k = (xs.eraseIdx k).map f
  | [], _ => rfl
  | _ :: _, 0 => rfl
  | x :: r, k + 1 => by
    show f x :: (r.map f).eraseIdx k = f x :: (r.eraseIdx k).map f
    rw [erase_map f r k]
theorem ss_popApp {i j : Nat} {k : Fe} {pk : Pe} (hij : i ≠ j) (hi : own bx O i = true) (hj : own bx O j = true) (hk : SR bx O RD k pk) : SS bx O (fExpr (fBM "list" gApp (fVar j) (fCons (fBM "list" gPopAt (fVar i) (fCons k fNil)) fNil))) (pPopApp j i pk) := fun b l E Γ M n Q S B q => by
  obtain ⟨s, M1, x, n1, e1, L1, B1, rfl, q⟩ := hk b l E Γ M n _ S B q
  have S1 := S.later L1
  have q : popP i E x n1 (fun p n => appP j p.2 p.1 n Q) := q
  unfold popP at q
  cases e : E[i]? with
  | none => rw [e] at q; exact q.elim
  | some o =>
    rw [e] at q
    cases o with
    | none => exact q.elim
    | some v =>
      cases v with
      | list ds =>
        cases x with
        | int z =>
          obtain ⟨⟨z0, z1, z2⟩, q⟩ := ite_bad q
          obtain ⟨y, ey, q⟩ := ofO_inv (show ofO ds[z.toNat]? n1 _ from q)
          have q : appP j (E.set i (some (.list (ds.eraseIdx z.toNat)))) y n1 Q := q
          obtain ⟨w, ds', h1, h2, h3, h4, h5⟩ := S1.own i _ e (own_ok hi).1
          cases h3
          have S2 := S1.put (ds' := ds.eraseIdx z.toNat) (own_ok hi).1 e h1
          unfold appP at q
          cases e' : (E.set i (some (.list (ds.eraseIdx z.toNat))))[j]? with
          | none => rw [e'] at q; exact q.elim
          | some o =>
            rw [e'] at q
            cases o with
            | none => exact q.elim
            | some v =>
              cases v with
              | list as =>
                obtain ⟨hz, q⟩ := ite_bad q
                obtain ⟨w2, as', k1, k2, k3, k4, k5⟩ := S2.own j _ e' (own_ok hj).1
                cases k3
                have S3 := S2.put (ds' := as ++ [y]) (own_ok hj).1 e' k1
                have ne : w ≠ w2 := fun z => h5 j (own_ok hj).1 (Ne.symm hij) (by rw [z]; exact k1)
                obtain ⟨w2', as'', m1, m2, m3, m4, _⟩ := S.own j _ (by rw [← e', List.getElem?_set_ne hij]) (own_ok hj).1
                cases m3
                rw [k1] at m1
                cases m1
                have e0 : ∀ M, fVar i Γ M = some (.loc w, M) := fun M => by unfold fVar; rw [h1]
                have e00 : ∀ M, fVar j Γ M = some (.loc w2, M) := fun M => by unfold fVar; rw [k1]
                have t1 : tyOk "list" M (.loc w2) = true := by unfold tyOk; simp only [m4]; rfl
                obtain ⟨w', ds'', n1', n2, n3, n4, _⟩ := S.own i _ e (own_ok hi).1
                cases n3
                rw [h1] at n1'
                cases n1'
                have t2 : tyOk "list" M (.loc w) = true := by unfold tyOk; simp only [n4]; rfl
                refine ⟨.nx Γ, (M1.set w (.lst ((ds.eraseIdx z.toNat).map .d))).set w2 (.lst ((as ++ [y]).map .d)), .nx _, n1, ?_, ⟨by rw [List.length_set, List.length_set]; exact L1.len, fun m hm k => ?_⟩, B1.of fun k e => ?_, S3, q⟩
                · unfold fExpr fBM
                  rw [e00, Option.bind_some]
                  simp only
                  rw [if_pos t1]
                  unfold fCons fNil
                  have g1 : (ds.map SV.d)[z.toNat]? = some (.d y) := by rw [List.getElem?_map, ey]; rfl
                  have g2 : z < ((ds.map SV.d).length : Nat) ∧ (ds.map SV.d).length < sizeLine := by rw [List.length_map]; exact ⟨z1, z2⟩
                  simp only [e0, t2, if_true, e1, Option.map_some, Option.bind_some, gPopAt, h4, g1]
                  rw [if_pos ⟨z0, g2⟩]
                  simp only [Option.map_some, Option.bind_some, gApp, erase_map, k4, List.length_map, if_pos hz, List.map_append, List.map_cons, List.map_nil]
                · rw [List.getElem?_set_ne (by omega), List.getElem?_set_ne (by omega)]
                  exact L1.old m (Nat.lt_of_lt_of_le hm S.hb) k
                · rw [List.getElem?_set_ne (fun z => S.ne k2 (by rw [z]; exact e)), List.getElem?_set_ne (fun z => S.ne h2 (by rw [z]; exact e))]
              | _ => exact q.elim
        | _ => exact q.elim
      | _ => exact q.elim
end
/-! name += e; min, max of data -/
def augP (f : Int → Int → Int) : PyData → PyData → Option PyData
  | .int i, .int j => some (.int (f i j))
  | _, _ => none
def pAug (f : Int → Int → Int) (i : Nat) (a : Pe) : Ps := fun E => bd (fun x => bd (fun y => bd (fun z => ret (.nx (E.set i (some z)))) ⟨⟩ (ofO (augP f x y))) ⟨⟩ (a E)) ⟨⟩ (pVar i E)
section
variable {bx : Option Nat} {O : List Nat}
theorem ss_aug {f : Int → Int → Int} {i : Nat} {a : Fe} {pa : Pe} (hi : free bx O i = true) (ha : SR bx O RD a pa) : SS bx O (fAug f i a) (pAug f i pa) := fun b l E Γ M n Q S B q => by
  obtain ⟨x, ex, q⟩ := pvar_inv (show pVar i E n _ from q)
  obtain ⟨s, M1, y, n1, e1, L1, B1, rfl, q⟩ := ha b l E Γ M n _ S B q
  obtain ⟨z, ez, q⟩ := ofO_inv (show ofO (augP f x y) n1 _ from q)
  unfold augP at ez
  split at ez
  · cases ez
    have ev := S.var i _ ex (free_ok hi).1
    exact ⟨.nx _, M1, .nx _, n1, by unfold fAug; rw [ev]; simp only; rw [e1]; rfl, L1.lt S.hb, B1, (S.later L1).setD (free_ok hi).1 (free_ok hi).2, q⟩
  · cases ez
end
def pBestMin : List PyData → Option PyData
  | [x] => (seqD x).bind bestMin
  | _ => none
def pBestMax : List PyData → Option PyData
  | [x] => (seqD x).bind bestMax
  | _ => none
theorem sb_bestMin : SB gBestMin pBestMin := fun l M ss xs z r e => by
  unfold pBestMin at e
  split at e
  · rw [Option.bind_eq_some_iff] at e
    obtain ⟨ds, h1, h2⟩ := e
    obtain ⟨s, rfl, u⟩ := pr1' r
    unfold gBestMin
    simp only
    rw [u.seq h1, Option.bind_some, allD_map, Option.bind_some, h2]
    rfl
  · cases e
theorem sb_bestMax : SB gBestMax pBestMax := fun l M ss xs z r e => by
  unfold pBestMax at e
  split at e
  · rw [Option.bind_eq_some_iff] at e
    obtain ⟨ds, h1, h2⟩ := e
    obtain ⟨s, rfl, u⟩ := pr1' r
    unfold gBestMax
    simp only
    rw [u.seq h1, Option.bind_some, allD_map, Option.bind_some, h2]
    rfl
  · cases e
/-! t[::-1] -/
def revP : PyData → Option Int → Option PyData
  | .tuple xs, some (-1) => some (.tuple xs.reverse)
  | _, _ => none
def pRev (a : Pe) (k : Po) : Pe := fun E => bd (fun x => bd (fun i => ofO (revP x i)) ⟨⟩ (k E)) ⟨⟩ (a E)
theorem sd_rev {bx : Option Nat} {O : List Nat} {a : Fe} {pa : Pe} {k : Fo} {pk : Po} (ha : SR bx O RdS a pa) (hk : SR bx O RQ k pk) : SR bx O RD (fRev a k) (pRev pa pk) := fun b' l E Γ M n Q S B q => by
  obtain ⟨s, M1, x, n1, e1, L1, B1, r1, q⟩ := ha b' l E Γ M n _ S B q
  obtain ⟨i, M2, _, n2, e2, L2, B2, rfl, q⟩ := hk b' l E Γ M1 n1 _ (S.later L1) B1 q
  obtain ⟨z, e4, q⟩ := ofO_inv q
  unfold revP at e4
  split at e4
  · cases e4
    rw [r1.d (fun _ z => nomatch z)] at e1
    exact ⟨_, M2, _, n2, by unfold fRev; rw [e1, Option.bind_some]; simp only; rw [e2]; rfl, L1.trans L2, B2, rfl, q⟩
  · cases e4
/-! sorted, sorted(set(..)), of ints or other data -/
def lstP : PyData → Option (List PyData)
  | .list xs => some xs
  | _ => none
theorem lstP_ok {x : PyData} {xs : List PyData} (h : lstP x = some xs) : x = .list xs := by
  cases x <;> first | (cases h; rfl) | cases h
def pSSZ (a : Pe) : Pe := fun E => bd (fun x => bd (fun xs => bd (fun es => ret (.list es)) ⟨⟩ (ofO (uqZ xs))) ⟨⟩ (ofO (lstP x))) ⟨⟩ (a E)
theorem sd_ssZ {bx : Option Nat} {O : List Nat} {a : Fe} {pa : Pe} (ha : SR bx O RdS a pa) : SR bx O RD (fSSZ a) (pSSZ pa) := fun b' l E Γ M n Q S B q => by
  obtain ⟨s, M1, x, n1, e1, L1, B1, r1, q⟩ := ha b' l E Γ M n _ S B q
  obtain ⟨xs, h, q⟩ := ofO_inv (show ofO (lstP x) n1 _ from q)
  obtain ⟨es, h2, q⟩ := ofO_inv (show ofO (uqZ xs) n1 _ from q)
  rw [lstP_ok h] at r1
  exact ⟨_, M1, _, n1, by unfold fSSZ; rw [e1, Option.bind_some]; simp only; rw [r1.lst, Option.bind_some, allD_map, Option.bind_some, h2]; rfl, L1, B1, rfl, q⟩
def pSrtZ : List PyData → Option PyData
  | [x] => (lstP x).bind fun xs => (srtD xs).map .list
  | _ => none
theorem sb_srtZ : SB gSrtZ pSrtZ := fun l M ss xs z r e => by
  unfold pSrtZ at e
  split at e
  · rw [Option.bind_eq_some_iff] at e
    obtain ⟨ds, h1, h2⟩ := e
    obtain ⟨es, h3, rfl⟩ := map_some' h2
    obtain ⟨s, rfl, u⟩ := pr1' r
    rw [lstP_ok h1] at u
    unfold gSrtZ
    simp only
    rw [u.lst, Option.bind_some, allD_map, Option.bind_some, h3]
    rfl
  · cases e
end Y
/-! Lemmas about readings over values. -/
namespace Y
open PySem L2 Z
theorem lcP_map {α : Type} {vs : List Nat} {g : Pg} {tt : Pt} {te : Pe} (φ : α → PyData) (b : α → Bool) (v : α → PyData) {E : Env} : ∀ (zs : List α) (acc : List PyData),
    (∀ z ∈ zs, ∃ E1, g (φ z) (wipeE E vs) = ret E1 ∧ tt E1 = ret (b z) ∧ (b z = true → te E1 = ret (v z))) → acc.length + zs.length ≤ sizeLine → lcP vs g tt te (zs.map φ) acc E = ret (acc ++ (zs.filter b).map v)
  | [], acc, _, _ => by simp [lcP]
  | z :: r, acc, h, hz => by
    obtain ⟨E1, h1, h2, h3⟩ := h z List.mem_cons_self
    have hz' : acc.length + (r.length + 1) ≤ sizeLine := hz
    rw [List.map_cons]
    unfold lcP
    rw [h1, bd_ret, h2, bd_ret]
    cases e : b z with
    | false => rw [if_neg (by simp), lcP_map φ b v r acc (fun y hy => h y (List.mem_cons_of_mem _ hy)) (by omega), List.filter_cons_of_neg (by simp [e])]
    | true =>
      rw [if_pos rfl, h3 e, bd_ret, if_pos (show acc.length < sizeLine by omega), lcP_map φ b v r _ (fun y hy => h y (List.mem_cons_of_mem _ hy)) (by rw [List.length_append]; simp; omega), List.filter_cons_of_pos e]
      simp
/-- two clauses: for each of the first the second ones -/
theorem lc2P_map {α β : Type} {vs vs1 : List Nat} {g g1 : Pg} {tt tt1 : Pt} {src1 : Env → PW (List PyData)} {te : Pe} (φ : α → PyData) (b : α → Bool) (ψ : β → PyData) (ys : α → List β) (c : α → β → Bool) (v : α → β → PyData) {E : Env} : ∀ (zs : List α) (acc : List PyData),
    (∀ z ∈ zs, ∃ E1, g (φ z) (wipeE E vs) = ret E1 ∧ tt E1 = ret (b z) ∧ (b z = true → src1 E1 = ret ((ys z).map ψ) ∧ ∀ y ∈ ys z, ∃ E2, g1 (ψ y) (wipeE E1 vs1) = ret E2 ∧ tt1 E2 = ret (c z y) ∧ (c z y = true → te E2 = ret (v z y)))) →
    acc.length + (zs.flatMap ys).length ≤ sizeLine → lc2P vs g tt src1 vs1 g1 tt1 te (zs.map φ) acc E = ret (acc ++ (zs.filter b).flatMap fun z => ((ys z).filter (c z)).map (v z))
  | [], acc, _, _ => by simp [lc2P]
  | z :: r, acc, h, hz => by
    obtain ⟨E1, h1, h2, h3⟩ := h z List.mem_cons_self
    rw [List.flatMap_cons, List.length_append] at hz
    rw [List.map_cons]
    unfold lc2P
    rw [h1, bd_ret, h2, bd_ret]
    cases e : b z with
    | false => rw [if_neg (by simp), lc2P_map φ b ψ ys c v r acc (fun y hy => h y (List.mem_cons_of_mem _ hy)) (by omega), List.filter_cons_of_neg (by simp [e])]
    | true =>
      obtain ⟨h4, h5⟩ := h3 e
      have hl : (((ys z).filter (c z)).map (v z)).length ≤ (ys z).length := by rw [List.length_map]; exact List.length_filter_le _ _
      rw [if_pos rfl, h4, bd_ret, lcP_map ψ (c z) (v z) (ys z) acc h5 (by omega), bd_ret, lc2P_map φ b ψ ys c v r _ (fun y hy => h y (List.mem_cons_of_mem _ hy)) (by rw [List.length_append]; omega), List.filter_cons_of_pos e, List.flatMap_cons]
      simp
theorem forP_det {α : Type} {g : Pg} {body : Ps} (φ : α → PyData) (I : List α → Env → Prop) (step : ∀ z r E, I (z :: r) E → ∃ E1 E', g (φ z) E = ret E1 ∧ body E1 = ret (.nx E') ∧ I r E') : ∀ (zs : List α) (E : Env), I zs E → ∃ E', forP g body (zs.map φ) E = ret (.nx E') ∧ I [] E'
  | [], E, h => ⟨E, rfl, h⟩
  | z :: r, E, h => by
    obtain ⟨E1, E', h1, h2, h3⟩ := step z r E h
    obtain ⟨E2, h4, h5⟩ := forP_det φ I step r E' h3
    refine ⟨E2, ?_, h5⟩
    rw [List.map_cons]
    unfold forP
    rw [h1, bd_ret, h2, bd_ret]
    exact h4
theorem forP_inv {α : Type} {g : Pg} {body : Ps} (φ : α → PyData) (I : List α → Env → Nat → Prop) (step : ∀ z r E n (K : PO → Nat → Prop), I (z :: r) E n → (∀ E' n', I r E' n' → K (.nx E') n') → bd body ⟨⟩ (g (φ z) E) n K) : ∀ (zs : List α) (E : Env) (n : Nat) (Q : PO → Nat → Prop), I zs E n → (∀ E n, I [] E n → Q (.nx E) n) → forP g body (zs.map φ) E n Q
  | [], E, n, Q, h, fin => fin E n h
  | z :: r, E, n, Q, h, fin => by
    rw [List.map_cons]
    unfold forP
    exact step z r E n _ h fun E' n' h' => forP_inv φ I step r E' n' Q h' fin
theorem bd_at {α β : Type} {f : α → PW β} {u : Shut f} {m : PW α} {n : Nat} {Q : β → Nat → Prop} : bd f u m n Q = m n fun x k => f x k Q := rfl
theorem bd_bd {α β γ : Type} {f : α → PW β} {u : Shut f} {g : β → PW γ} {v : Shut g} {m : PW α} : bd g v (bd f u m) = bd (fun x => bd g v (f x)) ⟨⟩ m := funext fun _ => funext fun _ => rfl
theorem eqD_nil {xs : List Int} : eqD (.list (xs.map .int)) (.list []) = some (decide (xs = [])) := eqD_ll (b := [])
/-! operators at their values -/
theorem pAdd_ii {i j : Int} : pAdd (.int i) (.int j) = some (.int (i + j)) := rfl
theorem pAdd_ss {a b : Str} : pAdd (.str a) (.str b) = if a.length + b.length ≤ sizeLine then some (.str (a ++ b)) else none := rfl
theorem pAdd_tt {a b : List PyData} : pAdd (.tuple a) (.tuple b) = if a.length + b.length ≤ sizeLine then some (.tuple (a ++ b)) else none := rfl
theorem pAdd_ll {a b : List PyData} : pAdd (.list a) (.list b) = if a.length + b.length ≤ sizeLine then some (.list (a ++ b)) else none := rfl
theorem pMul_ii {i j : Int} : pMul (.int i) (.int j) = if CMul i j ∨ CMulW i j then some (.int (i * j)) else none := rfl
theorem pMul_li {xs : List PyData} {k : Int} : pMul (.list xs) (.int k) = if -(2 ^ 63) ≤ k ∧ k < 2 ^ 63 ∧ xs.length * k.toNat ≤ sizeLine then some (.list (List.replicate k.toNat xs).flatten) else none := rfl
theorem pEq_a {x y : PyData} : pEq x y = (eqD x y).map .bool := rfl
theorem pNe_a {x y : PyData} : pNe x y = (eqD x y).map fun k => .bool (!k) := rfl
theorem pIsN_n {x : PyData} : pIsN x .none = some (.bool (isNP x)) := rfl
theorem pNotN_n {x : PyData} : pNotN x .none = some (.bool (!isNP x)) := rfl
theorem isNP_i {i : Int} : isNP (.int i) = false := rfl
theorem isNP_s {i : Str} : isNP (.str i) = false := rfl
theorem isNP_b {i : Bool} : isNP (.bool i) = false := rfl
theorem isNP_l {i : List PyData} : isNP (.list i) = false := rfl
theorem isNP_t {i : List PyData} : isNP (.tuple i) = false := rfl
theorem isNP_n : isNP .none = true := rfl
theorem pIx_s {z : Str} {i : Int} : pIx (.str z) (.int i) = if z.length ≤ sizeLine then (L2.atI z.cps.toList i).map (fun c => .str ⟨#[c]⟩) else none := rfl
theorem pIx_t {xs : List PyData} {i : Int} : pIx (.tuple xs) (.int i) = L2.atI xs i := rfl
theorem pIx_l {xs : List PyData} {i : Int} : pIx (.list xs) (.int i) = L2.atI xs i := rfl
theorem boolP_b {b : Bool} : boolP (.bool b) = some b := rfl
theorem truP_b {b : Bool} : truP (.bool b) = some b := rfl
theorem truP_n : truP .none = some false := rfl
theorem truP_i {i : Int} : truP (.int i) = some (i != 0) := rfl
theorem truP_l {xs : List PyData} : truP (.list xs) = some (!xs.isEmpty) := rfl
theorem truP_t {xs : List PyData} : truP (.tuple xs) = some (!xs.isEmpty) := rfl
theorem pNeg_i {i : Int} : pNeg (.int i) = some (.int (-i)) := rfl
theorem pLen_s {z : Str} : pLen [.str z] = if z.length ≤ sizeLine then some (.int z.length) else none := rfl
theorem pLen_l {xs : List PyData} : pLen [.list xs] = some (.int xs.length) := rfl
theorem pLen_t {xs : List PyData} : pLen [.tuple xs] = some (.int xs.length) := rfl
theorem pAbs_i {i : Int} : pAbs [.int i] = some (.int (if i < 0 then -i else i)) := rfl
theorem pInt_i {i : Int} : pInt [.int i] = some (.int i) := rfl
theorem pInt_b {b : Bool} : pInt [.bool b] = some (.int (if b then 1 else 0)) := rfl
theorem pMin2_ii {i j : Int} : pMin2 [.int i, .int j] = some (.int (if j < i then j else i)) := rfl
theorem pMax2_ii {i j : Int} : pMax2 [.int i, .int j] = some (.int (if j > i then j else i)) := rfl
theorem pListOf_1 {x : PyData} : pListOf [x] = (seqD x).map .list := rfl
theorem pTupOf_1 {x : PyData} : pTupOf [x] = (seqD x).map .tuple := rfl
theorem pAll_l {xs : List PyData} : pAll [.list xs] = (boolsP xs).map fun bs => .bool (bs.all id) := rfl
theorem pAny_l {xs : List PyData} : pAny [.list xs] = (boolsP xs).map fun bs => .bool (bs.any id) := rfl
theorem pSrt_l {xs : List PyData} : pSrt [.list xs] = (intsOf xs).map fun ns => .list ((srt ns).map .int) := rfl
theorem tyP_n : tyP .none = some .non := rfl
theorem tyP_b {b : Bool} : tyP (.bool b) = some .bool := rfl
theorem tyP_i {b : Int} : tyP (.int b) = some .int := rfl
theorem tyP_s {b : Str} : tyP (.str b) = some .str := rfl
theorem tyP_l {b : List PyData} : tyP (.list b) = some .list := rfl
theorem tyP_t {b : List PyData} : tyP (.tuple b) = some .tuple := rfl
theorem intP_i {i : Int} : intP (.int i) = some i := rfl
theorem slP_t {xs : List PyData} {lo hi : Option Int} : slP (.tuple xs) lo hi = some (.tuple (cutG xs lo hi)) := rfl
theorem slP_l {xs : List PyData} {lo hi : Option Int} : slP (.list xs) lo hi = some (.list (cutG xs lo hi)) := rfl
theorem endP_n {E : Y.Env} : endP (.nx E) = ret .none := rfl
theorem endP_r {x : PyData} : endP (.rt x) = ret x := rfl
theorem zp_t {xs ys : List PyData} : zp [.tuple xs, .tuple ys] = ret (zipP xs ys) := rfl
theorem zp_l {xs ys : List PyData} : zp [.list xs, .list ys] = ret (zipP xs ys) := rfl
theorem en1_1 {x : PyData} : en1 [x] = bd (fun xs => ret (enP xs)) ⟨⟩ (ofO (seqD x)) := rfl
theorem revP_t {xs : List PyData} : revP (.tuple xs) (some (-1)) = some (.tuple xs.reverse) := rfl
theorem augP_ii {f : Int → Int → Int} {i j : Int} : augP f (.int i) (.int j) = some (.int (f i j)) := rfl
theorem pBestMin_1 {x : PyData} : pBestMin [x] = (seqD x).bind bestMin := rfl
theorem pBestMax_1 {x : PyData} : pBestMax [x] = (seqD x).bind bestMax := rfl
/-! operators at ints -/
theorem pLt_ii {i j : Int} : pLt (.int i) (.int j) = some (.bool (decide (i < j))) := rfl
theorem pLe_ii {i j : Int} : pLe (.int i) (.int j) = some (.bool (decide (i ≤ j))) := rfl
theorem pGt_ii {i j : Int} : pGt (.int i) (.int j) = some (.bool (decide (j < i))) := rfl
theorem pGe_ii {i j : Int} : pGe (.int i) (.int j) = some (.bool (decide (j ≤ i))) := rfl
theorem pSub_ii {i j : Int} : Y.pSub (.int i) (.int j) = some (.int (i - j)) := rfl
theorem pDiv_ii {i j : Int} : pDiv (.int i) (.int j) = if CDivW i j then some (.int (i / j)) else none := rfl
theorem pMod_ii {i j : Int} : pMod (.int i) (.int j) = if 0 < j then some (.int (i % j)) else none := rfl
theorem pPow_ii {i j : Int} : pPow (.int i) (.int j) = if CPow i j then some (.int (i ^ j.toNat)) else none := rfl
/-! data -/
theorem seqD_l {xs : List PyData} : seqD (.list xs) = some xs := rfl
theorem seqD_t {xs : List PyData} : seqD (.tuple xs) = some xs := rfl
theorem any_ints (a : Int) : ∀ xs : List Int, ((xs.map PyData.int).any fun z => PyData.eqv z (.int a)) = decide (a ∈ xs)
  | [] => rfl
  | x :: r => by
    rw [List.map_cons, List.any_cons, any_ints a r]
    simp only [PyData.eqv]
    rw [Bool.eq_iff_iff]
    simp only [Bool.or_eq_true, beq_iff_eq, decide_eq_true_eq, List.mem_cons]
    constructor
    · rintro (h | h)
      · exact .inl h.symm
      · exact .inr h
    · rintro (h | h)
      · exact .inl h.symm
      · exact .inr h
theorem pIn_l {neg : Bool} {a : Int} {xs : List Int} : pIn neg (.int a) (.list (xs.map .int)) = some (.bool (if neg then !decide (a ∈ xs) else decide (a ∈ xs))) := by
  unfold pIn seqD
  simp only [Option.bind_some]
  rw [if_pos ⟨sh_int a, (sh_ints xs).2⟩, any_ints]
theorem pIn_lt {a : Int} {xs : List Int} : pIn false (.int a) (.list (xs.map .int)) = some (.bool (decide (a ∈ xs))) := pIn_l
theorem pIn_lf {a : Int} {xs : List Int} : pIn true (.int a) (.list (xs.map .int)) = some (.bool (!decide (a ∈ xs))) := pIn_l
theorem intsOf_ints : ∀ ns : List Int, intsOf (ns.map .int) = some ns
  | [] => rfl
  | n :: r => by
    show (intsOf (r.map .int)).map (n :: ·) = _
    rw [intsOf_ints r]
    rfl
theorem boolsP_map {α : Type} (f : α → Bool) : ∀ xs : List α, boolsP (xs.map fun x => .bool (f x)) = some (xs.map f)
  | [] => rfl
  | x :: r => by
    show (boolsP (r.map fun x => .bool (f x))).map (f x :: ·) = _
    rw [boolsP_map f r]
    rfl
/-- data that can be compared, at most n deep -/
def ld (n : Nat) (x : PyData) : Prop := x.canLay0 = true ∧ x.depth ≤ n
theorem ld_int {i : Int} {n : Nat} : ld n (.int i) := ⟨by simp [PyData.canLay0], by simp [PyData.depth]⟩
theorem ld_none {n : Nat} : ld n .none := ⟨by simp [PyData.canLay0], by simp [PyData.depth]⟩
theorem ld_bool {b : Bool} {n : Nat} : ld n (.bool b) := ⟨by simp [PyData.canLay0], by simp [PyData.depth]⟩
theorem ld_all {n : Nat} : ∀ {L : List PyData}, (∀ x ∈ L, ld n x) → PyData.canLayAll0 L = true ∧ PyData.depthAll L ≤ n
  | [], _ => ⟨by simp [PyData.canLayAll0], by simp [PyData.depthAll]⟩
  | x :: r, h => by
    obtain ⟨h1, h2⟩ := h x List.mem_cons_self
    obtain ⟨h3, h4⟩ := ld_all fun y hy => h y (List.mem_cons_of_mem _ hy)
    refine ⟨by simp [PyData.canLayAll0, h1, h3], ?_⟩
    simp only [PyData.depthAll]
    omega
theorem ld_list {n : Nat} {L : List PyData} (h : ∀ x ∈ L, ld n x) : ld (n + 1) (.list L) := by
  obtain ⟨h1, h2⟩ := ld_all h
  refine ⟨by simp [PyData.canLay0, h1], ?_⟩
  simp only [PyData.depth]
  omega
theorem ld_tup {n : Nat} {L : List PyData} (h : ∀ x ∈ L, ld n x) : ld (n + 1) (.tuple L) := by
  obtain ⟨h1, h2⟩ := ld_all h
  refine ⟨by simp [PyData.canLay0, h1], ?_⟩
  simp only [PyData.depth]
  omega
theorem ld_sh {n : Nat} {x : PyData} (h : ld n x) (hn : n ≤ 64) : SeqAt.shaped x = true := by
  unfold SeqAt.shaped
  rw [h.1, Bool.true_and, decide_eq_true_eq]
  exact Nat.le_trans h.2 hn
theorem ld_mono {n m : Nat} {x : PyData} (h : ld n x) (k : n ≤ m) : ld m x := ⟨h.1, Nat.le_trans h.2 k⟩
theorem eqD_emp {L : List PyData} (h : SeqAt.shaped (.list L) = true) : eqD (.list L) (.list []) = some L.isEmpty := by
  show (if SeqAt.shaped _ = true ∧ SeqAt.shaped _ = true then some (PyData.eqv _ _) else none) = _
  rw [if_pos ⟨h, by simp [SeqAt.shaped, PyData.canLay0, PyData.canLayAll0, PyData.depth, PyData.depthAll]⟩]
  cases L <;> simp [PyData.eqv, PyData.eqvAll]
theorem plain_up : ∀ (n : Nat) (x : PyData), ZL.plainD n x = true → ZL.plainD (n + 1) x = true
  | 0, _, h => by cases h
  | n + 1, .list xs, h => by
    have h' : (decide (xs.length ≤ sizeLine) && xs.all (ZL.plainD n)) = true := h
    simp only [Bool.and_eq_true, decide_eq_true_eq, List.all_eq_true] at h'
    show (decide (xs.length ≤ sizeLine) && xs.all (ZL.plainD (n + 1))) = true
    simp only [Bool.and_eq_true, decide_eq_true_eq, List.all_eq_true]
    exact ⟨h'.1, fun y hy => plain_up n y (h'.2 y hy)⟩
  | n + 1, .tuple xs, h => by
    have h' : (decide (xs.length ≤ sizeLine) && xs.all (ZL.plainD n)) = true := h
    simp only [Bool.and_eq_true, decide_eq_true_eq, List.all_eq_true] at h'
    show (decide (xs.length ≤ sizeLine) && xs.all (ZL.plainD (n + 1))) = true
    simp only [Bool.and_eq_true, decide_eq_true_eq, List.all_eq_true]
    exact ⟨h'.1, fun y hy => plain_up n y (h'.2 y hy)⟩
  | n + 1, .dict _, h => by cases h
  | n + 1, .none, _ => rfl
  | n + 1, .bool _, _ => rfl
  | n + 1, .int _, _ => rfl
  | n + 1, .str _, _ => rfl
theorem isNP_none : isNP .none = true := rfl
theorem lstP_l {xs : List PyData} : lstP (.list xs) = some xs := rfl
theorem pSrtZ_1 {x : PyData} : pSrtZ [x] = (lstP x).bind fun xs => (srtD xs).map .list := rfl
theorem srtD_i {ns : List Int} : srtD (ns.map .int) = some ((srt ns).map .int) := by
  unfold srtD
  rw [intsOf_ints]
theorem uqZ_i {ns : List Int} (h : ns.length < 63) : uqZ (ns.map .int) = some ((uq ns).map .int) := by
  unfold uqZ
  rw [intsOf_ints]
  exact if_pos h
/-! lists for tuples, the same -/
def soft : Nat → PyData → PyData
  | 0, x => x
  | n + 1, .list xs => .list (xs.map (soft n))
  | n + 1, .tuple xs => .list (xs.map (soft n))
  | _ + 1, x => x
end Y
namespace Y
open PySem L2 Z
/-- xs + ys, a new list that may change -/
def pAddL : PyData → PyData → Option PyData
  | .list xs, .list ys => if xs.length + ys.length ≤ sizeLine then some (.list (xs ++ ys)) else none
  | _, _ => none
theorem pAddL_ll {a b : List PyData} : pAddL (.list a) (.list b) = if a.length + b.length ≤ sizeLine then some (.list (a ++ b)) else none := rfl
theorem sn_addM {bx : Option Nat} {O : List Nat} {a b : Fe} {pa pb : Pe} (ha : SR bx O RdS a pa) (hb : SR bx O RdS b pb) : SN bx O (fOp gAddM a b) (pOp pAddL pa pb) := fun b' l E Γ M n Q S B q => by
  obtain ⟨s, M1, x, n1, e1, L1, B1, r1, q⟩ := ha b' l E Γ M n _ S B q
  obtain ⟨t, M2, y, n2, e2, L2, B2, r2, q⟩ := hb b' l E Γ M1 n1 _ (S.later L1) B1 q
  obtain ⟨z, e3, q⟩ := ofO_inv q
  unfold pAddL at e3
  split at e3
  · rename_i xs ys q
    by_cases hz : xs.length + ys.length ≤ sizeLine
    · rw [if_pos hz] at e3
      cases e3
      have h1 := (r1.later L2).lst
      have h2 := r2.lst
      refine ⟨M2.length, M2 ++ [.lst ((xs ++ ys).map .d)], xs ++ ys, n2, ?_, Nat.le_trans L1.len L2.len, (L1.trans L2).trans (Later.app _ _ _), B2.app _, by simp, q⟩
      unfold fOp
      rw [e1, Option.bind_some]
      simp only
      rw [e2, Option.bind_some]
      unfold gAddM
      rw [h1, Option.bind_some, h2, Option.bind_some, if_pos (by rw [List.length_map, List.length_map]; exact hz), List.map_append]
    · rw [if_neg hz] at e3
      cases e3
  · cases e3
end Y
namespace Y
open PySem L2 Z
/-! a < b < c < d; len(set(xs)); two pops at once -/
def pChain3 (g g' g'' : PyData → PyData → Option PyData) (a b c d : Pe) : Pe := fun E => bd (fun x => bd (fun y => bd (fun u => bd (fun k => if k = true then bd (fun z => bd (fun u' => bd (fun k' => if k' = true then bd (fun w => ofO (g'' z w)) ⟨⟩ (d E) else ret (.bool false)) ⟨⟩ (ofO (boolP u'))) ⟨⟩ (ofO (g' y z))) ⟨⟩ (c E) else ret (.bool false)) ⟨⟩ (ofO (boolP u))) ⟨⟩ (ofO (g x y))) ⟨⟩ (b E)) ⟨⟩ (a E)
section
variable {bx : Option Nat} {O : List Nat}
theorem sd_chain3 {g g' g'' : SV → SV → Mem → Option (SV × Mem)} {pg pg' pg'' : PyData → PyData → Option PyData} {a b c d : Fe} {pa pb pc pd : Pe} (hg : SG g pg) (hg' : SG g' pg') (hg'' : SG g'' pg'') (ha : SR bx O RdS a pa) (hb : SR bx O RdS b pb) (hc : SR bx O RdS c pc) (hd : SR bx O RdS d pd) : SR bx O RD (fChain3 g g' g'' a b c d) (pChain3 pg pg' pg'' pa pb pc pd) := fun b' l E Γ M n Q S B q => by
  obtain ⟨s, M1, x, n1, e1, L1, B1, r1, q⟩ := ha b' l E Γ M n _ S B q
  obtain ⟨t, M2, y, n2, e2, L2, B2, r2, q⟩ := hb b' l E Γ M1 n1 _ (S.later L1) B1 q
  obtain ⟨r, e3, q⟩ := ofO_inv (show ofO (pg x y) n2 _ from q)
  obtain ⟨k, e4, q⟩ := ofO_inv (show ofO (boolP r) n2 _ from q)
  have e5 := hg l M2 s t x y r (r1.later L2) r2 e3
  have e6 : boolOf (.d r) = some k := by rw [bool_rd (l := l) (M := M2) (x := r) (.inl rfl), e4]
  cases k with
  | false => exact ⟨_, M2, _, n2, by unfold fChain3; rw [e1, Option.bind_some]; simp only; rw [e2, Option.bind_some]; simp only; rw [e5, Option.bind_some]; simp only; rw [e6]; rfl, L1.trans L2, B2, rfl, q⟩
  | true =>
    obtain ⟨u, M3, z, n3, e7, L3, B3, r3, q⟩ := hc b' l E Γ M2 n2 _ ((S.later L1).later L2) B2 q
    obtain ⟨r', e8, q⟩ := ofO_inv (show ofO (pg' y z) n3 _ from q)
    obtain ⟨k', e9, q⟩ := ofO_inv (show ofO (boolP r') n3 _ from q)
    have e10 := hg' l M3 t u y z r' (r2.later L3) r3 e8
    have e11 : boolOf (.d r') = some k' := by rw [bool_rd (l := l) (M := M3) (x := r') (.inl rfl), e9]
    have LL := (L1.trans L2).trans L3
    cases k' with
    | false =>
      refine ⟨_, M3, _, n3, ?_, LL, B3, rfl, q⟩
      unfold fChain3
      simp only [e1, e2, e5, e6, e7, e10, e11, Option.bind_some, if_true, Bool.false_eq_true, if_false]
    | true =>
      obtain ⟨v, M4, w, n4, e12, L4, B4, r4, q⟩ := hd b' l E Γ M3 n3 _ (S.later LL) B3 q
      obtain ⟨o, e13, q⟩ := ofO_inv q
      have e14 := hg'' l M4 u v z w o (r3.later L4) r4 e13
      refine ⟨_, M4, _, n4, ?_, LL.trans L4, B4, rfl, q⟩
      unfold fChain3
      simp only [e1, e2, e5, e6, e7, e10, e11, e12, e14, Option.bind_some, if_true]
def lenSet : PyData → Option PyData
  | .list ds => (intsOf ds).bind fun ns => if ns.length < 63 then some (.int ((uq ns).length : Nat)) else none
  | _ => none
def pLenSet (a : Pe) : Pe := fun E => bd (fun x => ofO (lenSet x)) ⟨⟩ (a E)
theorem lenSet_i {ns : List Int} (h : ns.length < 63) : lenSet (.list (ns.map .int)) = some (.int ((uq ns).length : Nat)) := by
  show (intsOf (ns.map PyData.int)).bind _ = _
  rw [intsOf_map, Option.bind_some, if_pos h]
theorem sd_lenSet {a : Fe} {pa : Pe} (ha : SR bx O RdS a pa) : SR bx O RD (fLenSet a) (pLenSet pa) := fun b' l E Γ M n Q S B q => by
  obtain ⟨s, M1, x, n1, e1, L1, B1, r1, q⟩ := ha b' l E Γ M n _ S B q
  obtain ⟨z, e2, q⟩ := ofO_inv q
  unfold lenSet at e2
  split at e2
  · rename_i ds
    simp only [Option.bind_eq_some_iff] at e2
    obtain ⟨ns, h1, h2⟩ := e2
    obtain ⟨h3, h2⟩ := Z.ite_some h2
    cases h2
    refine ⟨_, M1, _, n1, ?_, L1, B1, rfl, q⟩
    unfold fLenSet
    rw [e1, Option.bind_some]
    simp only
    rw [r1.lst, Option.bind_some, allD_map, Option.bind_some, h1, Option.bind_some, if_pos h3]
  · cases e2
theorem pop_step {i : Nat} {k : Fe} {pk : Pe} {b : Nat} {l : Option Nat} {E : Env} {Γ : Gm} {M : Mem} {n : Nat} {K : PyData → Env → Nat → Prop} (hi : own bx O i = true) (hk : SR bx O RD k pk) (S : St b l bx O E Γ M) (B : BoxQ l M n)
    (q : pk E n fun x n => popP i E x n fun p n => K p.1 p.2 n) : ∃ (y : PyData) (M' : Mem) (E' : Env) (n' : Nat), fBM "list" gPopAt (fVar i) (fCons k fNil) Γ M = some (.d y, M') ∧ Lt b l M M' ∧ BoxQ l M' n' ∧ St b l bx O E' Γ M' ∧ K y E' n' := by
  obtain ⟨s, M1, x, n1, e1, L1, B1, rfl, q⟩ := hk b l E Γ M n _ S B q
  have S1 := S.later L1
  unfold popP at q
  cases e : E[i]? with
  | none => rw [e] at q; exact q.elim
  | some o =>
    rw [e] at q
    cases o with
    | none => exact q.elim
    | some v =>
      cases v with
      | list ds =>
        cases x with
        | int z =>
          obtain ⟨⟨z0, z1, z2⟩, q⟩ := ite_bad q
          obtain ⟨y, ey, q⟩ := ofO_inv (show ofO ds[z.toNat]? n1 _ from q)
          obtain ⟨w, ds', h1, h2, h3, h4, h5⟩ := S1.own i _ e (own_ok hi).1
          cases h3
          obtain ⟨w', ds'', m1, _, m3, m4, _⟩ := S.own i _ e (own_ok hi).1
          cases m3
          rw [h1] at m1
          cases m1
          have e0 : ∀ M, fVar i Γ M = some (.loc w, M) := fun M => by unfold fVar; rw [h1]
          have t2 : tyOk "list" M (.loc w) = true := by unfold tyOk; simp only [m4]; rfl
          have g1 : (ds.map SV.d)[z.toNat]? = some (.d y) := by rw [List.getElem?_map, ey]; rfl
          refine ⟨y, M1.set w (.lst ((ds.eraseIdx z.toNat).map .d)), _, n1, ?_, ⟨by rw [List.length_set]; exact L1.len, fun m hm k => ?_⟩, B1.of fun k e => ?_, S1.put (ds' := ds.eraseIdx z.toNat) (own_ok hi).1 e h1, q⟩
          · unfold fBM
            rw [e0, Option.bind_some]
            simp only
            rw [if_pos t2]
            unfold fCons fNil
            have g2 : 0 ≤ z ∧ z < ((ds.map SV.d).length : Nat) ∧ (ds.map SV.d).length < sizeLine := by rw [List.length_map]; exact ⟨z0, z1, z2⟩
            simp only [e1, Option.map_some, Option.bind_some, gPopAt, h4]
            rw [if_pos g2, g1]
            simp only [Option.map_some, erase_map]
          · rw [List.getElem?_set_ne (by omega)]
            exact L1.old m (Nat.lt_of_lt_of_le hm S.hb) k
          · rw [List.getElem?_set_ne (fun z => S.ne h2 (by rw [z]; exact e))]
        | _ => exact q.elim
      | _ => exact q.elim
/-- x, y = xs.pop(j), xs.pop(k) -/
def pPop2 (u v i : Nat) (j k : Pe) : Ps := fun E => bd (fun x => bd (fun p => bd (fun y => bd (fun p' => ret (.nx ((p'.2.set u (some p.1)).set v (some p'.1)))) ⟨⟩ (popP i p.2 y)) ⟨⟩ (k p.2)) ⟨⟩ (popP i E x)) ⟨⟩ (j E)
theorem ss_pop2 {u v i : Nat} {j k : Fe} {pj pk : Pe} (hu : free bx O u = true) (hv : free bx O v = true) (hi : own bx O i = true) (hj : SR bx O RD j pj) (hk : SR bx O RD k pk) :
    SS bx O (fPar u v (fCons (fBM "list" gPopAt (fVar i) (fCons j fNil)) (fCons (fBM "list" gPopAt (fVar i) (fCons k fNil)) fNil))) (pPop2 u v i pj pk) := fun b l E Γ M n Q S B q => by
  obtain ⟨x, M1, E1, n1, e1, L1, B1, S1, q⟩ := pop_step (K := fun (y : PyData) (E' : Env) n' => (bd (fun y' => bd (fun (p' : PyData × Env) => ret (PO.nx ((p'.2.set u (some y)).set v (some p'.1)))) ⟨⟩ (popP i E' y')) ⟨⟩ (pk E')) n' Q) hi hj S B (show pj E n _ from q)
  obtain ⟨y, M2, E2, n2, e2, L2, B2, S2, q⟩ := pop_step (K := fun y E' n' => Q (.nx ((E'.set u (some x)).set v (some y))) n') hi hk S1 B1 q
  exact ⟨.nx _, M2, .nx _, n2, by unfold fPar; rw [show fCons (fBM "list" gPopAt (fVar i) (fCons j fNil)) (fCons (fBM "list" gPopAt (fVar i) (fCons k fNil)) fNil) Γ M = some ([.d x, .d y], M2) from by rw [fCons, e1, Option.bind_some]; simp only; rw [fCons, e2]; rfl]; rfl, L1.trans L2, B2, (S2.setD (free_ok hu).1 (free_ok hu).2).setD (free_ok hv).1 (free_ok hv).2, q⟩
end
def pSrtT : List PyData → Option PyData
  | [.tuple ds] => (srtT ds).map .list
  | ss => pSrtZ ss
theorem sb_srtT : SB gSrtT pSrtT := fun l M ss xs z r e => by
  unfold pSrtT at e
  split at e
  · rename_i ds
    simp only [Option.map_eq_some_iff] at e
    obtain ⟨es, h2, rfl⟩ := e
    obtain ⟨s, rfl, u⟩ := pr1' r
    rw [u.d (fun _ z => nomatch z)]
    show (srtT ds).map _ = _
    rw [h2]
    rfl
  · rename_i h
    have e2 := sb_srtZ l M ss xs z r e
    unfold gSrtT
    split
    · rename_i ds
      obtain ⟨s, e3, u⟩ : ∃ x, xs = [x] ∧ RdS l M (.d (.tuple ds)) x := by
        cases r with
        | cons p q => cases q; exact ⟨_, rfl, p⟩
      rcases u with u | ⟨w, ds', h1, _⟩
      · cases u
        exact absurd e3 (h ds)
      · cases h1
    · exact e2
end Y
namespace P
open PySem L2 Z
def topS (i : Nat) : Stmt := PySem.Challenge.pw_hiddenforks_k76_whole_rounds.main.body.getD i (.Pass ⟨0, 0, 0, 0⟩)
abbrev s_law_box : Stmt := topS 21
abbrev s_joined : Stmt := topS 4
abbrev s_known_by : Stmt := topS 6
abbrev s_pairs_of : Stmt := topS 3
abbrev s_has_both : Stmt := topS 8
abbrev s_unknown_pairs : Stmt := topS 7
abbrev s_against : Stmt := topS 10
abbrev s_reaches : Stmt := topS 9
abbrev s_doublings : Stmt := topS 13
abbrev s_fewest_rounds : Stmt := topS 12
abbrev s_offsets : Stmt := topS 15
abbrev s_in_order : Stmt := topS 11
abbrev s_even_round : Stmt := topS 16
abbrev s_rounds_plan : Stmt := topS 14
abbrev s_is_number : Stmt := topS 1
abbrev s_is_pair : Stmt := topS 19
abbrev s_is_round : Stmt := topS 18
abbrev s_shows_rounds : Stmt := topS 17
abbrev s_law_take : Stmt := topS 22
abbrev s_law_drawn_rounds : Stmt := topS 23
abbrev s_law_right : Stmt := topS 24
abbrev s_law : Stmt := topS 25
/-! what the defs do, as functions of data and memory -/
noncomputable def m_law_box : Fn := runF 4 (fSeq (fAsg (fIf (fBool (fOp gLt (fVar 1) (fCB gLen (fCons (fVar 0) fNil)))) (fOp gIx (fVar 0) (fVar 1)) (fC (.int 0))) (tgName 2))
    (fSeq (fAsg (fOp gMod (fCB gInt (fCons (fOp gMul (fOp gAdd (fOp gAdd (fOp gMod (fCB gInt (fCons (fVar 2) fNil)) (fC (.int 2305843009213693921))) (fOp gMul (fC (.int 41177)) (fVar 1))) (fC (.int 53))) (fC (.int 38923))) fNil)) (fC (.int 2147483563))) (tgName 3))
    (fRet (fLstM (fCons (fOp gMul (fCB gAbs (fCons (fVar 2) fNil)) (fCB gInt (fCons (fOp gGe (fCB gAbs (fCons (fVar 2) fNil)) (fOp gPow (fC (.int 10)) (fC (.int 18)))) fNil))) (fCons (fVar 3) (fCons (fC (.int 0)) fNil)))))))
noncomputable def m_joined : Fn := runF 2 (fRet (fSSZ (fOp gAdd (fVar 0) (fVar 1))))
noncomputable def b1_known_by : Fs := fSeq (fAsg (fCall 2 m_joined (fCons (fOp gIx (fVar 3) (fVar 4)) (fCons (fOp gIx (fVar 3) (fVar 5)) fNil))) (tgName 6))
    (fSeq (fAsg (fVar 6) (tgSub (fVar 3) (fVar 5) stL))
    (fIfS (fBool (fOp gEq (fVar 1) (fC (.str "meet")))) (fAsg (fCB gListOf (fCons (fVar 6) fNil)) (tgSub (fVar 3) (fVar 4) stL)) fNext))
noncomputable def m_known_by : Fn := runF 8 (fSeq (fAsg (fLcM (fRng1 (fCons (fVar 0) fNil)) [7] (tgName 7) fYes (fLst (fCons (fVar 7) fNil))) (tgName 3))
    (fSeq (fFor (fItS (fVar 2)) (tgSeq 2 (tgCons (tgName 4) (tgCons (tgName 5) tgNil))) b1_known_by)
    (fRet (fFrz (fVar 3)))))
noncomputable def m_pairs_of : Fn := runF 3 (fRet (fLc2 (fItS (fVar 0)) [1, 2] (tgName 1) fYes (fItS (fVar 0)) [2] (tgName 2) (fBool (fOp gLt (fVar 1) (fVar 2))) (fTup (fCons (fVar 1) (fCons (fVar 2) fNil)))))
noncomputable def m_has_both : Fn := runF 2 (fRet (fAndV (fOp (gIn false) (fOp gIx (fVar 1) (fC (.int 0))) (fVar 0)) (fOp (gIn false) (fOp gIx (fVar 1) (fC (.int 1))) (fVar 0))))
noncomputable def m_unknown_pairs : Fn := runF 6 (fSeq (fAsg (fCall 3 m_known_by (fCons (fVar 0) (fCons (fVar 1) (fCons (fVar 2) fNil)))) (tgName 3))
    (fRet (fLc (fItS (fCall 1 m_pairs_of (fCons (fLR (fVar 0)) fNil))) [4] (tgName 4) (fNotT (fTru (fCB gAny (fCons (fLc (fItS (fVar 3)) [5] (tgName 5) fYes (fCall 2 m_has_both (fCons (fVar 5) (fCons (fVar 4) fNil)))) fNil)))) (fVar 4))))
noncomputable def m_against : Fn := runF 8 (fSeq (fIfS (fBool (fOp gEq (fVar 3) (fC (.str "somebody")))) (fAsg (fCall 3 m_unknown_pairs (fCons (fVar 0) (fCons (fVar 1) (fCons (fVar 2) fNil)))) (tgName 4)) (fSeq (fAsg (fCall 3 m_known_by (fCons (fVar 0) (fCons (fVar 1) (fCons (fVar 2) fNil)))) (tgName 5))
    (fAsg (fLc2 (fItS (fCall 1 m_pairs_of (fCons (fLR (fVar 0)) fNil))) [6, 7] (tgName 6) fYes (fRng1 (fCons (fVar 0) fNil)) [7] (tgName 7) (fNotT (fTru (fCall 2 m_has_both (fCons (fOp gIx (fVar 5) (fVar 7)) (fCons (fVar 6) fNil))))) (fTup (fCons (fVar 6) (fCons (fVar 7) fNil)))) (tgName 4))))
    (fRet (fIf (fTru (fVar 4)) (fOp gIx (fVar 4) (fC (.int 0))) (fC .none))))
noncomputable def m_reaches : Fn := runF 4 (fRet (fOp gIsN (fCall 4 m_against (fCons (fVar 0) (fCons (fVar 1) (fCons (fVar 2) (fCons (fVar 3) fNil))))) (fC .none)))
noncomputable def b1_doublings : Fs := fSeq (fAsg (fOp gMul (fVar 2) (fC (.int 2))) (tgName 2))
    (fAug (fun i j => i + j) 1 (fC (.int 1)))
noncomputable def m_doublings : Fn := runF 3 (fSeq (fAsg (fC (.int 0)) (tgName 1))
    (fSeq (fAsg (fC (.int 1)) (tgName 2))
    (fSeq (fWhile 1000 (fBool (fOp gLt (fVar 2) (fVar 0))) b1_doublings)
    (fRet (fVar 1)))))
noncomputable def m_fewest_rounds : Fn := runF 1 (fSeq (fIfS (fBool (fOp gEq (fVar 0) (fC (.int 1)))) (fRet (fC (.int 0))) fNext)
    (fRet (fOp gAdd (fCall 1 m_doublings (fCons (fVar 0) fNil)) (fOp gMod (fVar 0) (fC (.int 2))))))
noncomputable def b1_offsets : Fs := fExpr (fBM "list" gApp (fVar 1) (fCons (fIf (fTru (fVar 1)) (fOp gAdd (fOp gMul (fOp gIx (fVar 1) (fUn gNeg (fC (.int 1)))) (fC (.int 2))) (fC (.int 1))) (fC (.int 0))) fNil))
noncomputable def m_offsets : Fn := runF 3 (fSeq (fAsg (fLstM fNil) (tgName 1))
    (fSeq (fFor (fRng1 (fCons (fVar 0) fNil)) (tgName 2) b1_offsets)
    (fRet (fFrz (fVar 1)))))
noncomputable def m_in_order : Fn := runF 1 (fRet (fTup (fCons (fCB gBestMin (fCons (fVar 0) fNil)) (fCons (fCB gBestMax (fCons (fVar 0) fNil)) fNil))))
noncomputable def m_even_round : Fn := runF 4 (fSeq (fAsg (fOp gDiv (fVar 0) (fC (.int 2))) (tgName 2))
    (fRet (fCB gTupOf (fCons (fCB gSrtZ (fCons (fLc (fRng1 (fCons (fVar 2) fNil)) [3] (tgName 3) fYes (fCall 1 m_in_order (fCons (fTup (fCons (fOp gMul (fC (.int 2)) (fVar 3)) (fCons (fOp gAdd (fOp gMul (fOp gMod (fOp gAdd (fVar 3) (fVar 1)) (fVar 2)) (fC (.int 2))) (fC (.int 1))) fNil))) fNil))) fNil)) fNil))))
noncomputable def b1_rounds_plan : Fs := fAsg (fOp gMul (fVar 1) (fC (.int 2))) (tgName 1)
noncomputable def m_rounds_plan : Nat → Fn
  | 0 => fun _ _ => none
  | n + 1 => runF 5 (fSeq (fIfS (fBool (fOp gEq (fVar 0) (fC (.int 1)))) (fRet (fTup fNil)) fNext)
    (fSeq (fIfS (fBool (fOp gEq (fOp gMod (fVar 0) (fC (.int 2))) (fC (.int 0)))) (fRet (fCB gTupOf (fCons (fLc (fItS (fCall 1 m_offsets (fCons (fCall 1 m_doublings (fCons (fVar 0) fNil)) fNil))) [3] (tgName 3) fYes (fCall 2 m_even_round (fCons (fVar 0) (fCons (fVar 3) fNil)))) fNil))) fNext)
    (fSeq (fAsg (fC (.int 1)) (tgName 1))
    (fSeq (fWhile 1000 (fBool (fOp gLt (fOp gMul (fVar 1) (fC (.int 2))) (fVar 0))) b1_rounds_plan)
    (fSeq (fAsg (fCB gTupOf (fCons (fLc (fRng2 (fCons (fVar 1) (fCons (fVar 0) fNil))) [4] (tgName 4) fYes (fTup (fCons (fOp gSub (fVar 4) (fVar 1)) (fCons (fVar 4) fNil)))) fNil)) (tgName 2))
    (fRet (fOp gAdd (fOp gAdd (fTup (fCons (fVar 2) fNil)) (fCall 1 (m_rounds_plan n) (fCons (fVar 1) fNil))) (fTup (fCons (fVar 2) fNil)))))))))
noncomputable def m_is_number : Fn := runF 1 (fRet (fAndV (fIsi .int (fVar 0)) (fNotV (fIsi .bool (fVar 0)))))
noncomputable def m_is_pair : Fn := runF 3 (fSeq (fIfS (fOrT (fNotT (fTru (fIsi .tuple (fVar 1)))) (fOrT (fBool (fOp gNe (fCB gLen (fCons (fVar 1) fNil)) (fC (.int 2)))) (fNotT (fTru (fCB gAll (fCons (fLc (fItS (fVar 1)) [2] (tgName 2) fYes (fCall 1 m_is_number (fCons (fVar 2) fNil))) fNil)))))) (fRet (fC (.bool false))) fNext)
    (fRet (fChain3 gLe gLt gLt (fC (.int 0)) (fOp gIx (fVar 1) (fC (.int 0))) (fOp gIx (fVar 1) (fC (.int 1))) (fVar 0))))
noncomputable def m_is_round : Fn := runF 5 (fSeq (fIfS (fOrT (fNotT (fTru (fIsi .tuple (fVar 1)))) (fOrT (fBool (fOp gEq (fVar 1) (fTup fNil))) (fNotT (fTru (fCB gAll (fCons (fLc (fItS (fVar 1)) [3] (tgName 3) fYes (fCall 2 m_is_pair (fCons (fVar 0) (fCons (fVar 3) fNil)))) fNil)))))) (fRet (fC (.bool false))) fNext)
    (fSeq (fAsg (fLc2 (fItS (fVar 1)) [3, 4] (tgName 3) fYes (fItS (fVar 3)) [4] (tgName 4) fYes (fVar 4)) (tgName 2))
    (fRet (fAndV (fOp gEq (fLenSet (fVar 2)) (fCB gLen (fCons (fVar 2) fNil))) (fOp gEq (fCB gListOf (fCons (fVar 1) fNil)) (fCB gSrtT (fCons (fVar 1) fNil)))))))
noncomputable def m_shows_rounds : Fn := runF 4 (fSeq (fIfS (fOrT (fNotT (fTru (fIsi .tuple (fVar 1)))) (fBool (fOp gNe (fCB gLen (fCons (fVar 1) fNil)) (fCall 1 m_fewest_rounds (fCons (fVar 0) fNil))))) (fRet (fC (.bool false))) fNext)
    (fSeq (fIfS (fNotT (fTru (fCB gAll (fCons (fLc (fItS (fVar 1)) [2] (tgName 2) fYes (fCall 2 m_is_round (fCons (fVar 0) (fCons (fVar 2) fNil)))) fNil)))) (fRet (fC (.bool false))) fNext)
    (fRet (fCall 4 m_reaches (fCons (fVar 0) (fCons (fC (.str "meet")) (fCons (fLc2 (fItS (fVar 1)) [2, 3] (tgName 2) fYes (fItS (fVar 2)) [3] (tgName 3) fYes (fVar 3)) (fCons (fC (.str "everybody")) fNil))))))))
noncomputable def m_law_take : Fn := runF 5 (fSeq (fIfS (fBool (fOp gGt (fOp gIx (fVar 0) (fC (.int 0))) (fC (.int 0)))) (fSeq (fAsg (fOp gMod (fCB gInt (fCons (fOp gIx (fVar 0) (fC (.int 0))) fNil)) (fVar 1)) (tgName 2))
    (fSeq (fAsg (fOp gDiv (fOp gIx (fVar 0) (fC (.int 0))) (fVar 1)) (tgSub (fVar 0) (fC (.int 0)) stL))
    (fRet (fVar 2)))) fNext)
    (fSeq (fAsg (fOp gAdd (fOp gIx (fVar 0) (fC (.int 2))) (fC (.int 1))) (tgSub (fVar 0) (fC (.int 2)) stL))
    (fSeq (fAsg (fOp gMod (fCB gInt (fCons (fOp gPow (fOp gAdd (fOp gIx (fVar 0) (fC (.int 1))) (fOp gMul (fC (.int 51749)) (fOp gIx (fVar 0) (fC (.int 2))))) (fC (.int 3))) fNil)) (fC (.int 2147483549))) (tgName 3))
    (fSeq (fAsg (fOp gAdd (fOp gMod (fCB gInt (fCons (fVar 3) fNil)) (fC (.int 30011))) (fC (.int 17))) (tgName 4))
    (fRet (fOp gMod (fCB gInt (fCons (fOp gDiv (fOp gMod (fCB gInt (fCons (fOp gAdd (fOp gMul (fVar 3) (fVar 4)) (fOp gMul (fOp gIx (fVar 0) (fC (.int 2))) (fC (.int 7039)))) fNil)) (fC (.int 2147483629))) (fC (.int 32))) fNil)) (fVar 1)))))))
noncomputable def b1_law_drawn_rounds : Fs := fSeq (fPar 7 8 (fCons (fBM "list" gPopAt (fVar 5) (fCons (fCall 2 m_law_take (fCons (fVar 0) (fCons (fCB gLen (fCons (fVar 5) fNil)) fNil))) fNil)) (fCons (fBM "list" gPopAt (fVar 5) (fCons (fCall 2 m_law_take (fCons (fVar 0) (fCons (fCB gLen (fCons (fVar 5) fNil)) fNil))) fNil)) fNil)))
    (fExpr (fBM "list" gApp (fVar 6) (fCons (fTup (fCons (fCB gMin2 (fCons (fVar 7) (fCons (fVar 8) fNil))) (fCons (fCB gMax2 (fCons (fVar 7) (fCons (fVar 8) fNil))) fNil))) fNil)))
noncomputable def b2_law_drawn_rounds : Fs := fSeq (fPar 5 6 (fCons (fLRM (fVar 1)) (fCons (fLstM fNil) fNil)))
    (fSeq (fWhile 1000 (fBool (fOp gGt (fCB gLen (fCons (fVar 5) fNil)) (fC (.int 1)))) b1_law_drawn_rounds)
    (fExpr (fBM "list" gApp (fVar 3) (fCons (fCB gTupOf (fCons (fCB gSrtZ (fCons (fVar 6) fNil)) fNil)) fNil))))
noncomputable def m_law_drawn_rounds : Fn := runF 9 (fSeq (fAsg (fLstM fNil) (tgName 3))
    (fSeq (fFor (fRng1 (fCons (fVar 2) fNil)) (tgName 4) b2_law_drawn_rounds)
    (fRet (fCB gTupOf (fCons (fVar 3) fNil)))))
noncomputable def b1_law_right : Fs := fPar 4 3 (fCons (fOp gMul (fVar 4) (fC (.int 2))) (fCons (fOp gAdd (fVar 3) (fC (.int 1))) fNil))
noncomputable def b2_law_right : Fs := fAsg (fOp gAdd (fVar 10) (fCB gListOf (fCons (fVar 11) fNil))) (tgName 10)
noncomputable def b3_law_right : Fs := fSeq (fAsg (fOp gAdd (fVar 6) (fCB gListOf (fCons (fVar 8) fNil))) (tgName 6))
    (fSeq (fAsg (fCB gBestMax (fCons (fLc (fItS (fCall 3 m_known_by (fCons (fVar 1) (fCons (fC (.str "meet")) (fCons (fCB gTupOf (fCons (fVar 6) fNil)) fNil))))) [15] (tgName 15) fYes (fCB gLen (fCons (fVar 15) fNil))) fNil)) (tgName 9))
    (fSeq (fAsg (fLst fNil) (tgName 10))
    (fSeq (fFor (fItS (fVar 8)) (tgName 11) b2_law_right)
    (fSeq (fIfS (fOrT (fBool (fOp gGt (fVar 9) (fOp gMul (fC (.int 2)) (fVar 7)))) (fBool (fOp gNe (fLenSet (fVar 10)) (fOp gMul (fC (.int 2)) (fCB gLen (fCons (fVar 8) fNil)))))) (fRet (fC (.bool false))) fNext)
    (fAsg (fVar 9) (tgName 7))))))
noncomputable def b4_law_right : Fs := fAsg (fOp gAdd (fVar 14) (fCB gListOf (fCons (fVar 8) fNil))) (tgName 14)
noncomputable def b5_law_right : Fs := fSeq (fAsg (fCall 3 m_law_drawn_rounds (fCons (fVar 0) (fCons (fVar 1) (fCons (fCB gMax2 (fCons (fC (.int 0)) (fCons (fOp gSub (fVar 5) (fC (.int 1))) fNil))) fNil)))) (tgName 13))
    (fSeq (fAsg (fLst fNil) (tgName 14))
    (fSeq (fFor (fItS (fVar 13)) (tgName 8) b4_law_right)
    (fSeq (fIfS (fAndT (fBool (fOp gGt (fVar 1) (fC (.int 1)))) (fTru (fCall 2 m_shows_rounds (fCons (fVar 1) (fCons (fVar 13) fNil))))) (fRet (fC (.bool false))) fNext)
    (fIfS (fAndT (fBool (fOp gGt (fVar 1) (fC (.int 1)))) (fTru (fCall 4 m_reaches (fCons (fVar 1) (fCons (fC (.str "meet")) (fCons (fCB gTupOf (fCons (fVar 14) fNil)) (fCons (fC (.str "everybody")) fNil))))))) (fRet (fC (.bool false))) fNext))))
noncomputable def m_law_right : Fn := runF 16 (fSeq (fAsg (fOp gAdd (fC (.int 1)) (fCall 2 m_law_take (fCons (fVar 0) (fCons (fC (.int 10)) fNil)))) (tgName 1))
    (fSeq (fUnp 3 (fCons (fCall 1 (m_rounds_plan 6) (fCons (fVar 1) fNil)) (fCons (fC (.int 0)) (fCons (fC (.int 1)) fNil))) (tgCons (tgName 2) (tgCons (tgName 3) (tgCons (tgName 4) tgNil))))
    (fSeq (fWhile 1000 (fBool (fOp gLt (fVar 4) (fVar 1))) b1_law_right)
    (fSeq (fAsg (fOp gAdd (fVar 3) (fCB gInt (fCons (fAndV (fOp gGt (fVar 1) (fC (.int 1))) (fOp gEq (fOp gMod (fVar 1) (fC (.int 2))) (fC (.int 1)))) fNil))) (tgName 5))
    (fSeq (fIfS (fOrT (fBool (fOp gNe (fCall 1 m_fewest_rounds (fCons (fVar 1) fNil)) (fVar 5))) (fBool (fOp gNe (fCallK 1 0 [0] m_fewest_rounds fNil (fCons (fVar 1) fNil)) (fVar 5)))) (fRet (fC (.bool false))) fNext)
    (fSeq (fIfS (fOrT (fBool (fOp gNe (fCB gLen (fCons (fVar 2) fNil)) (fVar 5))) (fNotT (fTru (fCall 2 m_shows_rounds (fCons (fVar 1) (fCons (fVar 2) fNil)))))) (fRet (fC (.bool false))) fNext)
    (fSeq (fPar 6 7 (fCons (fLst fNil) (fCons (fC (.int 1)) fNil)))
    (fSeq (fFor (fItS (fVar 2)) (tgName 8) b3_law_right)
    (fSeq (fIfS (fNotT (fTru (fCall 4 m_reaches (fCons (fVar 1) (fCons (fC (.str "meet")) (fCons (fCB gTupOf (fCons (fVar 6) fNil)) (fCons (fC (.str "everybody")) fNil))))))) (fRet (fC (.bool false))) fNext)
    (fSeq (fFor (fRng1 (fCons (fC (.int 3)) fNil)) (tgName 12) b5_law_right)
    (fRet (fC (.bool true)))))))))))))
noncomputable def b1_law : Fs := fSeq (fAsg (fCall 2 m_law_box (fCons (fVar 0) (fCons (fVar 1) fNil))) (tgName 2))
    (fIfS (fNotT (fTru (fCB gAll (fCons (fLc (fRng1 (fCons (fC (.int 6)) fNil)) [3] (tgName 3) fYes (fCall 1 m_law_right (fCons (fVar 2) fNil))) fNil)))) (fRet (fC (.bool false))) fNext)
noncomputable def m_law : Fn := runF 4 (fSeq (fFor (fRng1 (fCons (fOp gAdd (fC (.int 1)) (fCB gMin2 (fCons (fC (.int 1)) (fCons (fCB gLen (fCons (fVar 0) fNil)) fNil)))) fNil)) (tgName 1) b1_law)
    (fRet (fC (.bool true))))
structure Txt (mg : Str → Option Value) : Prop where
  b_abs : mg "abs" = none
  b_all : mg "all" = none
  b_any : mg "any" = none
  b_bool : mg "bool" = none
  b_int : mg "int" = none
  b_isinstance : mg "isinstance" = none
  b_len : mg "len" = none
  b_list : mg "list" = none
  b_max : mg "max" = none
  b_min : mg "min" = none
  b_range : mg "range" = none
  b_set : mg "set" = none
  b_sorted : mg "sorted" = none
  b_tuple : mg "tuple" = none
section
variable {P : Program} {w : World} {K : PySem.W.Frag} {mg : Str → Option Value} {base : Heap}
theorem sc_law_box : FnScope ["_law_script", "_law_k", "_law_cell", "_law_seed"] ["_law_script", "_law_k"] (defScope s_law_box) := ⟨rfl, rfl, rfl, by decide +kernel, rfl, by decide +kernel, by decide +kernel⟩
theorem sc_joined : FnScope ["had", "others"] ["had", "others"] (defScope s_joined) := ⟨rfl, rfl, rfl, by decide +kernel, rfl, by decide +kernel, by decide +kernel⟩
theorem sc_known_by : FnScope ["people", "way", "plan", "known", "p", "q", "both", "person"] ["people", "way", "plan"] (defScope s_known_by) := ⟨rfl, rfl, rfl, by decide +kernel, rfl, by decide +kernel, by decide +kernel⟩
theorem sc_pairs_of : FnScope ["members", "one", "other"] ["members"] (defScope s_pairs_of) := ⟨rfl, rfl, rfl, by decide +kernel, rfl, by decide +kernel, by decide +kernel⟩
theorem sc_has_both : FnScope ["seen", "pair"] ["seen", "pair"] (defScope s_has_both) := ⟨rfl, rfl, rfl, by decide +kernel, rfl, by decide +kernel, by decide +kernel⟩
theorem sc_unknown_pairs : FnScope ["people", "way", "plan", "known", "pair", "seen"] ["people", "way", "plan"] (defScope s_unknown_pairs) := ⟨rfl, rfl, rfl, by decide +kernel, rfl, by decide +kernel, by decide +kernel⟩
theorem sc_against : FnScope ["people", "way", "plan", "goal", "left", "known", "pair", "person"] ["people", "way", "plan", "goal"] (defScope s_against) := ⟨rfl, rfl, rfl, by decide +kernel, rfl, by decide +kernel, by decide +kernel⟩
theorem sc_reaches : FnScope ["people", "way", "plan", "goal"] ["people", "way", "plan", "goal"] (defScope s_reaches) := ⟨rfl, rfl, rfl, by decide +kernel, rfl, by decide +kernel, by decide +kernel⟩
theorem sc_doublings : FnScope ["people", "many", "reach"] ["people"] (defScope s_doublings) := ⟨rfl, rfl, rfl, by decide +kernel, rfl, by decide +kernel, by decide +kernel⟩
theorem sc_fewest_rounds : FnScope ["people"] ["people"] (defScope s_fewest_rounds) := ⟨rfl, rfl, rfl, by decide +kernel, rfl, by decide +kernel, by decide +kernel⟩
theorem sc_offsets : FnScope ["many", "found", "_"] ["many"] (defScope s_offsets) := ⟨rfl, rfl, rfl, by decide +kernel, rfl, by decide +kernel, by decide +kernel⟩
theorem sc_in_order : FnScope ["pair"] ["pair"] (defScope s_in_order) := ⟨rfl, rfl, rfl, by decide +kernel, rfl, by decide +kernel, by decide +kernel⟩
theorem sc_even_round : FnScope ["people", "offset", "half", "k"] ["people", "offset"] (defScope s_even_round) := ⟨rfl, rfl, rfl, by decide +kernel, rfl, by decide +kernel, by decide +kernel⟩
theorem sc_rounds_plan : FnScope ["people", "core", "aside", "offset", "person"] ["people"] (defScope s_rounds_plan) := ⟨rfl, rfl, rfl, by decide +kernel, rfl, by decide +kernel, by decide +kernel⟩
theorem sc_is_number : FnScope ["thing"] ["thing"] (defScope s_is_number) := ⟨rfl, rfl, rfl, by decide +kernel, rfl, by decide +kernel, by decide +kernel⟩
theorem sc_is_pair : FnScope ["people", "thing", "person"] ["people", "thing"] (defScope s_is_pair) := ⟨rfl, rfl, rfl, by decide +kernel, rfl, by decide +kernel, by decide +kernel⟩
theorem sc_is_round : FnScope ["people", "thing", "there", "pair", "person"] ["people", "thing"] (defScope s_is_round) := ⟨rfl, rfl, rfl, by decide +kernel, rfl, by decide +kernel, by decide +kernel⟩
theorem sc_shows_rounds : FnScope ["people", "thing", "meetings", "pair"] ["people", "thing"] (defScope s_shows_rounds) := ⟨rfl, rfl, rfl, by decide +kernel, rfl, by decide +kernel, by decide +kernel⟩
theorem sc_law_take : FnScope ["_law_box_here", "_law_span", "_law_found", "_law_once", "_law_odd"] ["_law_box_here", "_law_span"] (defScope s_law_take) := ⟨rfl, rfl, rfl, by decide +kernel, rfl, by decide +kernel, by decide +kernel⟩
theorem sc_law_drawn_rounds : FnScope ["_law_box_here", "_law_crowd", "_law_many", "_law_found", "_law_turn", "_law_rest_so", "_law_part", "_law_p", "_law_q"] ["_law_box_here", "_law_crowd", "_law_many"] (defScope s_law_drawn_rounds) := ⟨rfl, rfl, rfl, by decide +kernel, rfl, by decide +kernel, by decide +kernel⟩
theorem sc_law_right : FnScope ["_law_box_here", "_law_crowd", "_law_some", "_law_count", "_law_size", "_law_due", "_law_scheme", "_law_most", "_law_part", "_law_here", "_law_busy", "_law_pair", "_law_turn", "_law_less", "_law_flat_so", "_law_mine"] ["_law_box_here"] (defScope s_law_right) := ⟨rfl, rfl, rfl, by decide +kernel, rfl, by decide +kernel, by decide +kernel⟩
theorem sc_law : FnScope ["_law_script", "_law_k", "_law_box_here", "_law_lap"] ["_law_script"] (defScope s_law) := ⟨rfl, rfl, rfl, by decide +kernel, rfl, by decide +kernel, by decide +kernel⟩
theorem kb_fewest_rounds_0_people {f : Addr} {fd : FuncData} (F : Fun K "fewest_rounds" "fewest_rounds" s_fewest_rounds f fd) : KBinds K fd ["people"] ["people"] (gpm 0 [0]) (gpm 0 [0]) :=
  Fun.kb F (by decide) fun kV doc pm an cdv ct us ws h1 h2 => by
    match us, h1, h2 with
    | [], _, h2 =>
      match ws, h2 with
      | [], h2 => exact absurd h2 (by simp)
      | _ :: _, _ => rfl
theorem ok_law_box (D_law_box : Df K mg "_law_box" "_law_box" s_law_box ["_law_script", "_law_k"]) (T : Txt mg) : FnOk P w K mg base CX0 1 D_law_box.a D_law_box.fd ["_law_script", "_law_k"] (spF K 2 m_law_box) := by
  refine fnd (k := 0) D_law_box.F sc_law_box rfl fun cdv A outer s H E hr => ?_
  have nd := sc_law_box.nd
  exact zscons (zsset (i := 2) nd rfl (Or.inl rfl) (zif (ztcmp op_lt g_lt (zvar 1) (zcb call_lenZ g_len (by rfl) T.b_len bb_len (zcons (zvar 0) znil)) (nomark _)) (zix ix_seq g_ix (zvar 0) (zvar 1) (fun _ _ => rfl)) zint))
    (zscons (zsset (i := 3) nd rfl (Or.inl rfl) (zop op_mod g_mod (zcty call_int1 g_int (by rfl) T.b_int bb_int (zcons (zop op_mulZ g_mul (zop op_addZ g_add (zop op_addZ g_add (zop op_mod g_mod (zcty call_int1 g_int (by rfl) T.b_int bb_int (zcons (zvar 2) znil)) zint) (zop op_mulZ g_mul zint (zvar 1))) zint) zint) znil)) zint))
    (zsone (zsret (zlstM (zcons (zop op_mulZ g_mul (zcb call_abs g_abs (by rfl) T.b_abs bb_abs (zcons (zvar 2) znil)) (zcty call_int1 g_int (by rfl) T.b_int bb_int (zcons (zcmp op_ge g_ge (zcb call_abs g_abs (by rfl) T.b_abs bb_abs (zcons (zvar 2) znil)) (zop op_pow g_pow zint zint) (nomark _)) znil))) (zcons (zvar 3) (zcons zint znil)))))))
theorem ok_joined (D_joined : Df K mg "joined" "joined" s_joined ["had", "others"]) (T : Txt mg) : FnOk P w K mg base CX0 1 D_joined.a D_joined.fd ["had", "others"] (spF K 2 m_joined) := by
  refine fnd (k := 0) D_joined.F sc_joined rfl fun cdv A outer s H E hr => ?_
  have nd := sc_joined.nd
  exact zsone (zsret (zssZ rfl (room65 hr) (by rfl) T.b_sorted (by rfl) T.b_set (zop op_addZ g_add (zvar 0) (zvar 1))))
theorem ok_known_by (D_known_by : Df K mg "known_by" "known_by" s_known_by ["people", "way", "plan"]) (D_joined : Df K mg "joined" "joined" s_joined ["had", "others"]) (T : Txt mg) : FnOk P w K mg base CX0 2 D_known_by.a D_known_by.fd ["people", "way", "plan"] (spF K 3 m_known_by) := by
  refine fnd (k := 1) D_known_by.F sc_known_by rfl fun cdv A outer s H E hr => ?_
  have nd := sc_known_by.nd
  exact zscons (zssetLcM (i := 3) (own := [("person", 7)]) rfl nd rfl rfl (sw_true rfl rfl rfl (by decide +kernel)) (zirng1 rfl T.b_range (zcons (zvar 0) znil)) (blkOk_by (N := ["people", "way", "plan", "known", "p", "q", "both", "person"]) (sc := (defScope s_known_by)) (own := [("person", 7)]) (by decide +kernel)) (fun _ _ _ _ _ => zgwname (i := 7) nd rfl (Or.inl rfl) (by decide)) (fun _ _ _ _ _ => ztsnil) (fun _ _ _ _ _ => zlst (zcons (zvar 7) znil)))
    (zscons (zsfor PassesOwn.never rfl (zi_seq (zvar 2)) (zgseq rfl (zgcons (zgname (i := 4) nd rfl (Or.inl rfl)) (zgcons (zgname (i := 5) nd rfl (Or.inl rfl)) zgnil))) (zscons (zsset (i := 6) nd rfl (Or.inl rfl) (zcall (g := m_joined) (ok_joined D_joined T) (hr.mono (by omega)) (by rfl) D_joined.g D_joined.F.kp D_joined.b (zcons (zix ix_seq g_ix (zvar 3) (zvar 4) (fun _ _ => rfl)) (zcons (zix ix_seq g_ix (zvar 3) (zvar 5) (fun _ _ => rfl)) znil))))
    (zscons (zsasg (zvar 6) (zgsub (zvar 3) (zvar 5) set_list st_l))
    (zsone (zsif (ztcmp (op_eqZ hr.units) g_eq (zvar 1) zstr (nomark _)) (zsone (zsasg (zcty call_list_of g_listOf (by rfl) T.b_list bb_list (zcons (zvar 6) znil)) (zgsub (zvar 3) (zvar 4) set_list st_l))) zsnil)))))
    (zsone (zsret (zfrz (zvar 3)))))
theorem ok_pairs_of (D_pairs_of : Df K mg "pairs_of" "pairs_of" s_pairs_of ["members"]) (T : Txt mg) : FnOk P w K mg base CX0 1 D_pairs_of.a D_pairs_of.fd ["members"] (spF K 1 m_pairs_of) := by
  refine fnd (k := 0) D_pairs_of.F sc_pairs_of rfl fun cdv A outer s H E hr => ?_
  have nd := sc_pairs_of.nd
  exact zsone (zsret (zlc2 (own := [("one", 1), ("other", 2)]) (vs1 := [2]) rfl nd (zi_seq (zvar 0)) (blkOk_by (N := ["members", "one", "other"]) (sc := (defScope s_pairs_of)) (own := [("one", 1), ("other", 2)]) (by decide +kernel)) (by decide) (fun _ _ _ _ _ => zgwname (i := 1) nd rfl (Or.inl rfl) (by decide)) (fun _ _ _ _ _ => ztsnil) (fun _ _ _ _ _ => zi_seq (zvar 0)) (fun _ _ _ _ _ => zgwname (i := 2) nd rfl (Or.inl rfl) (by decide)) (fun _ _ _ _ _ => ztsone (ztcmp op_lt g_lt (zvar 1) (zvar 2) (nomark _))) (fun _ _ _ _ _ => ztup (zcons (zvar 1) (zcons (zvar 2) znil)))))
theorem ok_has_both (D_has_both : Df K mg "has_both" "has_both" s_has_both ["seen", "pair"]) (T : Txt mg) : FnOk P w K mg base CX0 1 D_has_both.a D_has_both.fd ["seen", "pair"] (spF K 2 m_has_both) := by
  refine fnd (k := 0) D_has_both.F sc_has_both rfl fun cdv A outer s H E hr => ?_
  have nd := sc_has_both.nd
  exact zsone (zsret (zand (zcmp (op_inZ (room65 hr)) g_in (zix ix_seq g_ix (zvar 1) zint (fun _ _ => rfl)) (zvar 0) (by rfl)) (zone (zcmp (op_inZ (room65 hr)) g_in (zix ix_seq g_ix (zvar 1) zint (fun _ _ => rfl)) (zvar 0) (by rfl)))))
theorem ok_unknown_pairs (D_unknown_pairs : Df K mg "unknown_pairs" "unknown_pairs" s_unknown_pairs ["people", "way", "plan"]) (D_joined : Df K mg "joined" "joined" s_joined ["had", "others"]) (D_known_by : Df K mg "known_by" "known_by" s_known_by ["people", "way", "plan"]) (D_pairs_of : Df K mg "pairs_of" "pairs_of" s_pairs_of ["members"]) (D_has_both : Df K mg "has_both" "has_both" s_has_both ["seen", "pair"]) (T : Txt mg) : FnOk P w K mg base CX0 3 D_unknown_pairs.a D_unknown_pairs.fd ["people", "way", "plan"] (spF K 3 m_unknown_pairs) := by
  refine fnd (k := 2) D_unknown_pairs.F sc_unknown_pairs rfl fun cdv A outer s H E hr => ?_
  have nd := sc_unknown_pairs.nd
  exact zscons (zsset (i := 3) nd rfl (Or.inr rfl) (zcall (g := m_known_by) (ok_known_by D_known_by D_joined T) (hr.mono (by omega)) (by rfl) D_known_by.g D_known_by.F.kp D_known_by.b (zcons (zvar 0) (zcons (zvar 1) (zcons (zvar 2) znil)))))
    (zsone (zsret (zlc (own := [("pair", 4)]) rfl nd (zi_seq (zcall (g := m_pairs_of) (ok_pairs_of D_pairs_of T) (hr.mono (by omega)) (by rfl) D_pairs_of.g D_pairs_of.F.kp D_pairs_of.b (zcons (zlr rfl (by rfl) T.b_list (by rfl) T.b_range (zvar 0)) znil))) (blkOk_by (N := ["people", "way", "plan", "known", "pair", "seen"]) (sc := (defScope s_unknown_pairs)) (own := [("pair", 4)]) (by decide +kernel)) (fun _ _ _ _ _ => zgwname (i := 4) nd rfl (Or.inr rfl) (by decide)) (fun _ _ _ _ _ => ztsone (ztnot (zttr (zcb (cr_any rfl) g_any (by rfl) T.b_any bb_any (zcons (zlc (own := [("seen", 5)]) rfl nd (zi_seq (zvar 3)) (blkOk_by (N := ["people", "way", "plan", "known", "pair", "seen"]) (sc := _) (own := [("seen", 5)]) (by rfl)) (fun _ _ _ _ _ => zgwname (i := 5) nd rfl (Or.inl rfl) (by decide)) (fun _ _ _ _ _ => ztsnil) (fun _ _ _ _ _ => zcall (g := m_has_both) (ok_has_both D_has_both T) (hr.mono (by omega)) (by rfl) D_has_both.g D_has_both.F.kp D_has_both.b (zcons (zvar 5) (zcons (zvar 4) znil)))) znil))))) (fun _ _ _ _ _ => zvar 4))))
theorem ok_against (D_against : Df K mg "against" "against" s_against ["people", "way", "plan", "goal"]) (D_joined : Df K mg "joined" "joined" s_joined ["had", "others"]) (D_known_by : Df K mg "known_by" "known_by" s_known_by ["people", "way", "plan"]) (D_pairs_of : Df K mg "pairs_of" "pairs_of" s_pairs_of ["members"]) (D_has_both : Df K mg "has_both" "has_both" s_has_both ["seen", "pair"]) (D_unknown_pairs : Df K mg "unknown_pairs" "unknown_pairs" s_unknown_pairs ["people", "way", "plan"]) (T : Txt mg) : FnOk P w K mg base CX0 4 D_against.a D_against.fd ["people", "way", "plan", "goal"] (spF K 4 m_against) := by
  refine fnd (k := 3) D_against.F sc_against rfl fun cdv A outer s H E hr => ?_
  have nd := sc_against.nd
  exact zscons (zsif (ztcmp (op_eqZ hr.units) g_eq (zvar 3) zstr (nomark _)) (zsone (zsset (i := 4) nd rfl (Or.inl rfl) (zcall (g := m_unknown_pairs) (ok_unknown_pairs D_unknown_pairs D_joined D_known_by D_pairs_of D_has_both T) (hr.mono (by omega)) (by rfl) D_unknown_pairs.g D_unknown_pairs.F.kp D_unknown_pairs.b (zcons (zvar 0) (zcons (zvar 1) (zcons (zvar 2) znil)))))) (zscons (zsset (i := 5) nd rfl (Or.inr rfl) (zcall (g := m_known_by) (ok_known_by D_known_by D_joined T) (hr.mono (by omega)) (by rfl) D_known_by.g D_known_by.F.kp D_known_by.b (zcons (zvar 0) (zcons (zvar 1) (zcons (zvar 2) znil)))))
    (zsone (zssetLc2 (i := 4) (own := [("pair", 6), ("person", 7)]) (vs1 := [7]) rfl nd rfl rfl (sw_true rfl rfl rfl (by decide +kernel)) (zi_seq (zcall (g := m_pairs_of) (ok_pairs_of D_pairs_of T) (hr.mono (by omega)) (by rfl) D_pairs_of.g D_pairs_of.F.kp D_pairs_of.b (zcons (zlr rfl (by rfl) T.b_list (by rfl) T.b_range (zvar 0)) znil))) (blkOk_by (N := ["people", "way", "plan", "goal", "left", "known", "pair", "person"]) (sc := (defScope s_against)) (own := [("pair", 6), ("person", 7)]) (by decide +kernel)) (by decide) (fun _ _ _ _ _ => zgwname (i := 6) nd rfl (Or.inl rfl) (by decide)) (fun _ _ _ _ _ => ztsnil) (fun _ _ _ _ _ => zirng1 rfl T.b_range (zcons (zvar 0) znil)) (fun _ _ _ _ _ => zgwname (i := 7) nd rfl (Or.inl rfl) (by decide)) (fun _ _ _ _ _ => ztsone (ztnot (zttr (zcall (g := m_has_both) (ok_has_both D_has_both T) (hr.mono (by omega)) (by rfl) D_has_both.g D_has_both.F.kp D_has_both.b (zcons (zix ix_seq g_ix (zvar 5) (zvar 7) (fun _ _ => rfl)) (zcons (zvar 6) znil)))))) (fun _ _ _ _ _ => ztup (zcons (zvar 6) (zcons (zvar 7) znil)))))))
    (zsone (zsret (zif (zttr (zvar 4)) (zix ix_seq g_ix (zvar 4) zint (fun _ _ => rfl)) znon)))
theorem ok_reaches (D_reaches : Df K mg "reaches" "reaches" s_reaches ["people", "way", "plan", "goal"]) (D_joined : Df K mg "joined" "joined" s_joined ["had", "others"]) (D_known_by : Df K mg "known_by" "known_by" s_known_by ["people", "way", "plan"]) (D_pairs_of : Df K mg "pairs_of" "pairs_of" s_pairs_of ["members"]) (D_has_both : Df K mg "has_both" "has_both" s_has_both ["seen", "pair"]) (D_unknown_pairs : Df K mg "unknown_pairs" "unknown_pairs" s_unknown_pairs ["people", "way", "plan"]) (D_against : Df K mg "against" "against" s_against ["people", "way", "plan", "goal"]) (T : Txt mg) : FnOk P w K mg base CX0 5 D_reaches.a D_reaches.fd ["people", "way", "plan", "goal"] (spF K 4 m_reaches) := by
  refine fnd (k := 4) D_reaches.F sc_reaches rfl fun cdv A outer s H E hr => ?_
  have nd := sc_reaches.nd
  exact zsone (zsret (zcmp op_isN g_isN (zcall (g := m_against) (ok_against D_against D_joined D_known_by D_pairs_of D_has_both D_unknown_pairs T) (hr.mono (by omega)) (by rfl) D_against.g D_against.F.kp D_against.b (zcons (zvar 0) (zcons (zvar 1) (zcons (zvar 2) (zcons (zvar 3) znil))))) znon (nomark _)))
theorem ok_doublings (D_doublings : Df K mg "doublings" "doublings" s_doublings ["people"]) (T : Txt mg) : FnOk P w K mg base CX0 1 D_doublings.a D_doublings.fd ["people"] (spF K 1 m_doublings) := by
  refine fnd (k := 0) D_doublings.F sc_doublings rfl fun cdv A outer s H E hr => ?_
  have nd := sc_doublings.nd
  exact zscons (zsset (i := 1) nd rfl (Or.inl rfl) zint)
    (zscons (zsset (i := 2) nd rfl (Or.inl rfl) zint)
    (zscons (zswhile 1000 PassesOwn.never (ztcmp op_lt g_lt (zvar 2) (zvar 0) (nomark _)) (zscons (zsset (i := 2) nd rfl (Or.inl rfl) (zop op_mulZ g_mul (zvar 2) zint))
    (zsone (zsaug (i := 1) nd rfl (Or.inl rfl) ip_add zint))))
    (zsone (zsret (zvar 1)))))
theorem ok_fewest_rounds (D_fewest_rounds : Df K mg "fewest_rounds" "fewest_rounds" s_fewest_rounds ["people"]) (D_doublings : Df K mg "doublings" "doublings" s_doublings ["people"]) (T : Txt mg) : FnOk P w K mg base CX0 2 D_fewest_rounds.a D_fewest_rounds.fd ["people"] (spF K 1 m_fewest_rounds) := by
  refine fnd (k := 1) D_fewest_rounds.F sc_fewest_rounds rfl fun cdv A outer s H E hr => ?_
  have nd := sc_fewest_rounds.nd
  exact zscons (zsif (ztcmp (op_eqZ hr.units) g_eq (zvar 0) zint (nomark _)) (zsone (zsret zint)) zsnil)
    (zsone (zsret (zop op_addZ g_add (zcall (g := m_doublings) (ok_doublings D_doublings T) (hr.mono (by omega)) (by rfl) D_doublings.g D_doublings.F.kp D_doublings.b (zcons (zvar 0) znil)) (zop op_mod g_mod (zvar 0) zint))))
theorem ok_offsets (D_offsets : Df K mg "offsets" "offsets" s_offsets ["many"]) (T : Txt mg) : FnOk P w K mg base CX0 1 D_offsets.a D_offsets.fd ["many"] (spF K 1 m_offsets) := by
  refine fnd (k := 0) D_offsets.F sc_offsets rfl fun cdv A outer s H E hr => ?_
  have nd := sc_offsets.nd
  exact zscons (zsset (i := 1) nd rfl (Or.inl rfl) (zlstM znil))
    (zscons (zsfor PassesOwn.never rfl (zirng1 rfl T.b_range (zcons (zvar 0) znil)) (zgname (i := 2) nd rfl (Or.inl rfl)) (zsone (zsexpr (zbm PySem.F.plainAttrs_list PySem.F.slot_list_append PySem.F.type_list_append mt_append g_app (zvar 1) (zcons (zif (zttr (zvar 1)) (zop op_addZ g_add (zop op_mulZ g_mul (zix ix_seq g_ix (zvar 1) (zun un_neg g_neg zint) (fun _ _ => rfl)) zint) zint) zint) znil)))))
    (zsone (zsret (zfrz (zvar 1)))))
theorem ok_in_order (D_in_order : Df K mg "in_order" "in_order" s_in_order ["pair"]) (T : Txt mg) : FnOk P w K mg base CX0 1 D_in_order.a D_in_order.fd ["pair"] (spF K 1 m_in_order) := by
  refine fnd (k := 0) D_in_order.F sc_in_order rfl fun cdv A outer s H E hr => ?_
  have nd := sc_in_order.nd
  exact zsone (zsret (ztup (zcons (zcb (cr_minD rfl (room65 hr)) g_bestMin (by rfl) T.b_min bb_min (zcons (zvar 0) znil)) (zcons (zcb (cr_maxD rfl (room65 hr)) g_bestMax (by rfl) T.b_max bb_max (zcons (zvar 0) znil)) znil))))
theorem ok_even_round (D_even_round : Df K mg "even_round" "even_round" s_even_round ["people", "offset"]) (D_in_order : Df K mg "in_order" "in_order" s_in_order ["pair"]) (T : Txt mg) : FnOk P w K mg base CX0 2 D_even_round.a D_even_round.fd ["people", "offset"] (spF K 2 m_even_round) := by
  refine fnd (k := 1) D_even_round.F sc_even_round rfl fun cdv A outer s H E hr => ?_
  have nd := sc_even_round.nd
  exact zscons (zsset (i := 2) nd rfl (Or.inr rfl) (zop op_fdivW g_div (zvar 0) zint))
    (zsone (zsret (zcty call_tuple_of g_tupOf (by rfl) T.b_tuple bb_tuple (zcons (zcb (CallR.or cr_sortedI (cr_sortedD (room65 hr))) g_srtZ (by rfl) T.b_sorted bb_sorted (zcons (zlc (own := [("k", 3)]) rfl nd (zirng1 rfl T.b_range (zcons (zvar 2) znil)) (blkOk_by (N := ["people", "offset", "half", "k"]) (sc := (defScope s_even_round)) (own := [("k", 3)]) (by decide +kernel)) (fun _ _ _ _ _ => zgwname (i := 3) nd rfl (Or.inl rfl) (by decide)) (fun _ _ _ _ _ => ztsnil) (fun _ _ _ _ _ => zcall (g := m_in_order) (ok_in_order D_in_order T) (hr.mono (by omega)) (by rfl) D_in_order.g D_in_order.F.kp D_in_order.b (zcons (ztup (zcons (zop op_mulZ g_mul zint (zvar 3)) (zcons (zop op_addZ g_add (zop op_mulZ g_mul (zop op_mod g_mod (zop op_addZ g_add (zvar 3) (zvar 1)) (zvar 2)) zint) zint) znil))) znil))) znil)) znil))))
theorem ok_rounds_plan (n : Nat) (D_rounds_plan : Df K mg "rounds_plan" "rounds_plan" s_rounds_plan ["people"]) (D_doublings : Df K mg "doublings" "doublings" s_doublings ["people"]) (D_offsets : Df K mg "offsets" "offsets" s_offsets ["many"]) (D_in_order : Df K mg "in_order" "in_order" s_in_order ["pair"]) (D_even_round : Df K mg "even_round" "even_round" s_even_round ["people", "offset"]) (T : Txt mg) : FnOk P w K mg base CX0 (n + 3) D_rounds_plan.a D_rounds_plan.fd ["people"] (spF K 1 (m_rounds_plan n)) := by
  induction n with
  | zero => exact fnd_zero (n := 1) D_rounds_plan.F sc_rounds_plan rfl (by decide)
  | succ n IH =>
    have e : n + 1 + 3 = (n + 3) + 1 := by omega
    rw [e]
    refine fnd D_rounds_plan.F sc_rounds_plan rfl fun cdv A outer s H E hr => ?_
    have nd := sc_rounds_plan.nd
    exact zscons (zsif (ztcmp (op_eqZ hr.units) g_eq (zvar 0) zint (nomark _)) (zsone (zsret (ztup znil))) zsnil)
      (zscons (zsif (ztcmp (op_eqZ hr.units) g_eq (zop op_mod g_mod (zvar 0) zint) zint (nomark _)) (zsone (zsret (zcty call_tuple_of g_tupOf (by rfl) T.b_tuple bb_tuple (zcons (zlc (own := [("offset", 3)]) rfl nd (zi_seq (zcall (g := m_offsets) (ok_offsets D_offsets T) (hr.mono (by omega)) (by rfl) D_offsets.g D_offsets.F.kp D_offsets.b (zcons (zcall (g := m_doublings) (ok_doublings D_doublings T) (hr.mono (by omega)) (by rfl) D_doublings.g D_doublings.F.kp D_doublings.b (zcons (zvar 0) znil)) znil))) (blkOk_by (N := ["people", "core", "aside", "offset", "person"]) (sc := (defScope s_rounds_plan)) (own := [("offset", 3)]) (by decide +kernel)) (fun _ _ _ _ _ => zgwname (i := 3) nd rfl (Or.inl rfl) (by decide)) (fun _ _ _ _ _ => ztsnil) (fun _ _ _ _ _ => zcall (g := m_even_round) (ok_even_round D_even_round D_in_order T) (hr.mono (by omega)) (by rfl) D_even_round.g D_even_round.F.kp D_even_round.b (zcons (zvar 0) (zcons (zvar 3) znil)))) znil)))) zsnil)
      (zscons (zsset (i := 1) nd rfl (Or.inr rfl) zint)
      (zscons (zswhile 1000 PassesOwn.never (ztcmp op_lt g_lt (zop op_mulZ g_mul (zvar 1) zint) (zvar 0) (nomark _)) (zsone (zsset (i := 1) nd rfl (Or.inr rfl) (zop op_mulZ g_mul (zvar 1) zint))))
      (zscons (zsset (i := 2) nd rfl (Or.inl rfl) (zcty call_tuple_of g_tupOf (by rfl) T.b_tuple bb_tuple (zcons (zlc (own := [("person", 4)]) rfl nd (zirng2 rfl T.b_range (zcons (zvar 1) (zcons (zvar 0) znil))) (blkOk_by (N := ["people", "core", "aside", "offset", "person"]) (sc := (defScope s_rounds_plan)) (own := [("person", 4)]) (by decide +kernel)) (fun _ _ _ _ _ => zgwname (i := 4) nd rfl (Or.inl rfl) (by decide)) (fun _ _ _ _ _ => ztsnil) (fun _ _ _ _ _ => ztup (zcons (zop op_sub g_sub (zvar 4) (zvar 1)) (zcons (zvar 4) znil)))) znil)))
      (zsone (zsret (zop op_addZ g_add (zop op_addZ g_add (ztup (zcons (zvar 2) znil)) (zcall (g := m_rounds_plan n) IH (hr.mono (by omega)) (by rfl) D_rounds_plan.g D_rounds_plan.F.kp D_rounds_plan.b (zcons (zvar 1) znil))) (ztup (zcons (zvar 2) znil)))))))))
theorem ok_is_number (D_is_number : Df K mg "is_number" "is_number" s_is_number ["thing"]) (T : Txt mg) : FnOk P w K mg base CX0 1 D_is_number.a D_is_number.fd ["thing"] (spF K 1 m_is_number) := by
  refine fnd (k := 0) D_is_number.F sc_is_number rfl fun cdv A outer s H E hr => ?_
  have nd := sc_is_number.nd
  exact zsone (zsret (zand (zisi (t := .int) (x := "isinstance") (by decide) (by rfl) T.b_isinstance (by rfl) T.b_int bb_int (zvar 0)) (zone (znot (zisi (t := .bool) (x := "isinstance") (by decide) (by rfl) T.b_isinstance (by rfl) T.b_bool bb_bool (zvar 0))))))
theorem ok_is_pair (D_is_pair : Df K mg "is_pair" "is_pair" s_is_pair ["people", "thing"]) (D_is_number : Df K mg "is_number" "is_number" s_is_number ["thing"]) (T : Txt mg) : FnOk P w K mg base CX0 2 D_is_pair.a D_is_pair.fd ["people", "thing"] (spF K 2 m_is_pair) := by
  refine fnd (k := 1) D_is_pair.F sc_is_pair rfl fun cdv A outer s H E hr => ?_
  have nd := sc_is_pair.nd
  exact zscons (zsif (PWd.pt (zwor (ztnot (zttr (zisi (t := .tuple) (x := "isinstance") (by decide) (by rfl) T.b_isinstance (by rfl) T.b_tuple bb_tuple (zvar 1)))) (zwor (ztcmp (op_neZ hr.units) g_ne (zcb call_lenZ g_len (by rfl) T.b_len bb_len (zcons (zvar 1) znil)) zint (nomark _)) (zwor1 (ztnot (zttr (zcb (cr_all rfl) g_all (by rfl) T.b_all bb_all (zcons (zlc (own := [("person", 2)]) rfl nd (zi_seq (zvar 1)) (blkOk_by (N := ["people", "thing", "person"]) (sc := (defScope s_is_pair)) (own := [("person", 2)]) (by decide +kernel)) (fun _ _ _ _ _ => zgwname (i := 2) nd rfl (Or.inl rfl) (by decide)) (fun _ _ _ _ _ => ztsnil) (fun _ _ _ _ _ => zcall (g := m_is_number) (ok_is_number D_is_number T) (hr.mono (by omega)) (by rfl) D_is_number.g D_is_number.F.kp D_is_number.b (zcons (zvar 2) znil))) znil)))))))) (zsone (zsret zbl)) zsnil)
    (zsone (zsret (zchain3 op_le op_lt op_lt g_le g_lt g_lt zint (zix ix_seq g_ix (zvar 1) zint (fun _ _ => rfl)) (zix ix_seq g_ix (zvar 1) zint (fun _ _ => rfl)) (zvar 0))))
theorem ok_is_round (D_is_round : Df K mg "is_round" "is_round" s_is_round ["people", "thing"]) (D_is_number : Df K mg "is_number" "is_number" s_is_number ["thing"]) (D_is_pair : Df K mg "is_pair" "is_pair" s_is_pair ["people", "thing"]) (T : Txt mg) : FnOk P w K mg base CX0 3 D_is_round.a D_is_round.fd ["people", "thing"] (spF K 2 m_is_round) := by
  refine fnd (k := 2) D_is_round.F sc_is_round rfl fun cdv A outer s H E hr => ?_
  have nd := sc_is_round.nd
  exact zscons (zsif (PWd.pt (zwor (ztnot (zttr (zisi (t := .tuple) (x := "isinstance") (by decide) (by rfl) T.b_isinstance (by rfl) T.b_tuple bb_tuple (zvar 1)))) (zwor (ztcmp (op_eqZ hr.units) g_eq (zvar 1) (ztup znil) (nomark _)) (zwor1 (ztnot (zttr (zcb (cr_all rfl) g_all (by rfl) T.b_all bb_all (zcons (zlc (own := [("pair", 3)]) rfl nd (zi_seq (zvar 1)) (blkOk_by (N := ["people", "thing", "there", "pair", "person"]) (sc := (defScope s_is_round)) (own := [("pair", 3)]) (by decide +kernel)) (fun _ _ _ _ _ => zgwname (i := 3) nd rfl (Or.inl rfl) (by decide)) (fun _ _ _ _ _ => ztsnil) (fun _ _ _ _ _ => zcall (g := m_is_pair) (ok_is_pair D_is_pair D_is_number T) (hr.mono (by omega)) (by rfl) D_is_pair.g D_is_pair.F.kp D_is_pair.b (zcons (zvar 0) (zcons (zvar 3) znil)))) znil)))))))) (zsone (zsret zbl)) zsnil)
    (zscons (zssetLc2 (i := 2) (own := [("pair", 3), ("person", 4)]) (vs1 := [4]) rfl nd rfl rfl (sw_true rfl rfl rfl (by decide +kernel)) (zi_seq (zvar 1)) (blkOk_by (N := ["people", "thing", "there", "pair", "person"]) (sc := (defScope s_is_round)) (own := [("pair", 3), ("person", 4)]) (by decide +kernel)) (by decide) (fun _ _ _ _ _ => zgwname (i := 3) nd rfl (Or.inl rfl) (by decide)) (fun _ _ _ _ _ => ztsnil) (fun _ _ _ _ _ => zi_seq (zvar 3)) (fun _ _ _ _ _ => zgwname (i := 4) nd rfl (Or.inl rfl) (by decide)) (fun _ _ _ _ _ => ztsnil) (fun _ _ _ _ _ => zvar 4))
    (zsone (zsret (zand (zcmp (op_eqZ hr.units) g_eq (zlenSet rfl (by rfl) T.b_len (by rfl) T.b_set (zvar 2)) (zcb call_lenZ g_len (by rfl) T.b_len bb_len (zcons (zvar 2) znil)) (nomark _)) (zone (zcmp (op_eqZ hr.units) g_eq (zcty call_list_of g_listOf (by rfl) T.b_list bb_list (zcons (zvar 1) znil)) (zcb (CallR.or (CallR.or cr_sortedI (cr_sortedD (room65 hr))) (cr_sortedDT (room65 hr))) g_srtT (by rfl) T.b_sorted bb_sorted (zcons (zvar 1) znil)) (nomark _)))))))
theorem ok_shows_rounds (D_shows_rounds : Df K mg "shows_rounds" "shows_rounds" s_shows_rounds ["people", "thing"]) (D_joined : Df K mg "joined" "joined" s_joined ["had", "others"]) (D_known_by : Df K mg "known_by" "known_by" s_known_by ["people", "way", "plan"]) (D_pairs_of : Df K mg "pairs_of" "pairs_of" s_pairs_of ["members"]) (D_has_both : Df K mg "has_both" "has_both" s_has_both ["seen", "pair"]) (D_unknown_pairs : Df K mg "unknown_pairs" "unknown_pairs" s_unknown_pairs ["people", "way", "plan"]) (D_against : Df K mg "against" "against" s_against ["people", "way", "plan", "goal"]) (D_reaches : Df K mg "reaches" "reaches" s_reaches ["people", "way", "plan", "goal"]) (D_doublings : Df K mg "doublings" "doublings" s_doublings ["people"]) (D_fewest_rounds : Df K mg "fewest_rounds" "fewest_rounds" s_fewest_rounds ["people"]) (D_is_number : Df K mg "is_number" "is_number" s_is_number ["thing"]) (D_is_pair : Df K mg "is_pair" "is_pair" s_is_pair ["people", "thing"]) (D_is_round : Df K mg "is_round" "is_round" s_is_round ["people", "thing"]) (T : Txt mg) : FnOk P w K mg base CX0 6 D_shows_rounds.a D_shows_rounds.fd ["people", "thing"] (spF K 2 m_shows_rounds) := by
  refine fnd (k := 5) D_shows_rounds.F sc_shows_rounds rfl fun cdv A outer s H E hr => ?_
  have nd := sc_shows_rounds.nd
  exact zscons (zsif (PWd.pt (zwor (ztnot (zttr (zisi (t := .tuple) (x := "isinstance") (by decide) (by rfl) T.b_isinstance (by rfl) T.b_tuple bb_tuple (zvar 1)))) (zwor1 (ztcmp (op_neZ hr.units) g_ne (zcb call_lenZ g_len (by rfl) T.b_len bb_len (zcons (zvar 1) znil)) (zcall (g := m_fewest_rounds) (ok_fewest_rounds D_fewest_rounds D_doublings T) (hr.mono (by omega)) (by rfl) D_fewest_rounds.g D_fewest_rounds.F.kp D_fewest_rounds.b (zcons (zvar 0) znil)) (nomark _))))) (zsone (zsret zbl)) zsnil)
    (zscons (zsif (ztnot (zttr (zcb (cr_all rfl) g_all (by rfl) T.b_all bb_all (zcons (zlc (own := [("meetings", 2)]) rfl nd (zi_seq (zvar 1)) (blkOk_by (N := ["people", "thing", "meetings", "pair"]) (sc := (defScope s_shows_rounds)) (own := [("meetings", 2)]) (by decide +kernel)) (fun _ _ _ _ _ => zgwname (i := 2) nd rfl (Or.inl rfl) (by decide)) (fun _ _ _ _ _ => ztsnil) (fun _ _ _ _ _ => zcall (g := m_is_round) (ok_is_round D_is_round D_is_number D_is_pair T) (hr.mono (by omega)) (by rfl) D_is_round.g D_is_round.F.kp D_is_round.b (zcons (zvar 0) (zcons (zvar 2) znil)))) znil)))) (zsone (zsret zbl)) zsnil)
    (zsone (zsret (zcall (g := m_reaches) (ok_reaches D_reaches D_joined D_known_by D_pairs_of D_has_both D_unknown_pairs D_against T) (hr.mono (by omega)) (by rfl) D_reaches.g D_reaches.F.kp D_reaches.b (zcons (zvar 0) (zcons zstr (zcons (zlc2 (own := [("meetings", 2), ("pair", 3)]) (vs1 := [3]) rfl nd (zi_seq (zvar 1)) (blkOk_by (N := ["people", "thing", "meetings", "pair"]) (sc := (defScope s_shows_rounds)) (own := [("meetings", 2), ("pair", 3)]) (by decide +kernel)) (by decide) (fun _ _ _ _ _ => zgwname (i := 2) nd rfl (Or.inl rfl) (by decide)) (fun _ _ _ _ _ => ztsnil) (fun _ _ _ _ _ => zi_seq (zvar 2)) (fun _ _ _ _ _ => zgwname (i := 3) nd rfl (Or.inl rfl) (by decide)) (fun _ _ _ _ _ => ztsnil) (fun _ _ _ _ _ => zvar 3)) (zcons zstr znil))))))))
theorem ok_law_take (D_law_take : Df K mg "_law_take" "_law_take" s_law_take ["_law_box_here", "_law_span"]) (T : Txt mg) : FnOk P w K mg base CX0 1 D_law_take.a D_law_take.fd ["_law_box_here", "_law_span"] (spF K 2 m_law_take) := by
  refine fnd (k := 0) D_law_take.F sc_law_take rfl fun cdv A outer s H E hr => ?_
  have nd := sc_law_take.nd
  exact zscons (zsif (ztcmp op_gt g_gt (zix ix_seq g_ix (zvar 0) zint (fun _ _ => rfl)) zint (nomark _)) (zscons (zsset (i := 2) nd rfl (Or.inl rfl) (zop op_mod g_mod (zcty call_int1 g_int (by rfl) T.b_int bb_int (zcons (zix ix_seq g_ix (zvar 0) zint (fun _ _ => rfl)) znil)) (zvar 1)))
    (zscons (zsasg (zop op_fdivW g_div (zix ix_seq g_ix (zvar 0) zint (fun _ _ => rfl)) (zvar 1)) (zgsub (zvar 0) zint set_list st_l))
    (zsone (zsret (zvar 2))))) zsnil)
    (zscons (zsasg (zop op_addZ g_add (zix ix_seq g_ix (zvar 0) zint (fun _ _ => rfl)) zint) (zgsub (zvar 0) zint set_list st_l))
    (zscons (zsset (i := 3) nd rfl (Or.inl rfl) (zop op_mod g_mod (zcty call_int1 g_int (by rfl) T.b_int bb_int (zcons (zop op_pow g_pow (zop op_addZ g_add (zix ix_seq g_ix (zvar 0) zint (fun _ _ => rfl)) (zop op_mulZ g_mul zint (zix ix_seq g_ix (zvar 0) zint (fun _ _ => rfl)))) zint) znil)) zint))
    (zscons (zsset (i := 4) nd rfl (Or.inl rfl) (zop op_addZ g_add (zop op_mod g_mod (zcty call_int1 g_int (by rfl) T.b_int bb_int (zcons (zvar 3) znil)) zint) zint))
    (zsone (zsret (zop op_mod g_mod (zcty call_int1 g_int (by rfl) T.b_int bb_int (zcons (zop op_fdivW g_div (zop op_mod g_mod (zcty call_int1 g_int (by rfl) T.b_int bb_int (zcons (zop op_addZ g_add (zop op_mulZ g_mul (zvar 3) (zvar 4)) (zop op_mulZ g_mul (zix ix_seq g_ix (zvar 0) zint (fun _ _ => rfl)) zint)) znil)) zint) zint) znil)) (zvar 1)))))))
theorem ok_law_drawn_rounds (D_law_drawn_rounds : Df K mg "_law_drawn_rounds" "_law_drawn_rounds" s_law_drawn_rounds ["_law_box_here", "_law_crowd", "_law_many"]) (D_law_take : Df K mg "_law_take" "_law_take" s_law_take ["_law_box_here", "_law_span"]) (T : Txt mg) : FnOk P w K mg base CX0 2 D_law_drawn_rounds.a D_law_drawn_rounds.fd ["_law_box_here", "_law_crowd", "_law_many"] (spF K 3 m_law_drawn_rounds) := by
  refine fnd (k := 1) D_law_drawn_rounds.F sc_law_drawn_rounds rfl fun cdv A outer s H E hr => ?_
  have nd := sc_law_drawn_rounds.nd
  exact zscons (zsset (i := 3) nd rfl (Or.inl rfl) (zlstM znil))
    (zscons (zsfor PassesOwn.never rfl (zirng1 rfl T.b_range (zcons (zvar 2) znil)) (zgname (i := 4) nd rfl (Or.inl rfl)) (zscons (zspar (i := 5) (j := 6) rfl nd rfl rfl (by decide) rfl rfl (zcons (zlrM rfl (by rfl) T.b_list (by rfl) T.b_range (zvar 1)) (zcons (zlstM znil) znil)) (by rfl))
    (zscons (zswhile 1000 PassesOwn.never (ztcmp op_gt g_gt (zcb call_lenZ g_len (by rfl) T.b_len bb_len (zcons (zvar 5) znil)) zint (nomark _)) (zscons (zspar (i := 7) (j := 8) rfl nd rfl rfl (by decide) rfl rfl (zcons (zbm PySem.F.plainAttrs_list PySem.F.slot_list_pop PySem.F.type_list_pop mt_popAt g_popAt (zvar 5) (zcons (zcall (g := m_law_take) (ok_law_take D_law_take T) (hr.mono (by omega)) (by rfl) D_law_take.g D_law_take.F.kp D_law_take.b (zcons (zvar 0) (zcons (zcb call_lenZ g_len (by rfl) T.b_len bb_len (zcons (zvar 5) znil)) znil))) znil)) (zcons (zbm PySem.F.plainAttrs_list PySem.F.slot_list_pop PySem.F.type_list_pop mt_popAt g_popAt (zvar 5) (zcons (zcall (g := m_law_take) (ok_law_take D_law_take T) (hr.mono (by omega)) (by rfl) D_law_take.g D_law_take.F.kp D_law_take.b (zcons (zvar 0) (zcons (zcb call_lenZ g_len (by rfl) T.b_len bb_len (zcons (zvar 5) znil)) znil))) znil)) znil)) (by rfl))
    (zsone (zsexpr (zbm PySem.F.plainAttrs_list PySem.F.slot_list_append PySem.F.type_list_append mt_append g_app (zvar 6) (zcons (ztup (zcons (zcb (call_min2 rfl) g_min2 (by rfl) T.b_min bb_min (zcons (zvar 7) (zcons (zvar 8) znil))) (zcons (zcb (call_max2 rfl) g_max2 (by rfl) T.b_max bb_max (zcons (zvar 7) (zcons (zvar 8) znil))) znil))) znil))))))
    (zsone (zsexpr (zbm PySem.F.plainAttrs_list PySem.F.slot_list_append PySem.F.type_list_append mt_append g_app (zvar 3) (zcons (zcty call_tuple_of g_tupOf (by rfl) T.b_tuple bb_tuple (zcons (zcb (CallR.or cr_sortedI (cr_sortedD (room65 hr))) g_srtZ (by rfl) T.b_sorted bb_sorted (zcons (zvar 6) znil)) znil)) znil)))))))
    (zsone (zsret (zcty call_tuple_of g_tupOf (by rfl) T.b_tuple bb_tuple (zcons (zvar 3) znil)))))
theorem ok_law_right (D_law_right : Df K mg "_law_right" "_law_right" s_law_right ["_law_box_here"]) (D_joined : Df K mg "joined" "joined" s_joined ["had", "others"]) (D_known_by : Df K mg "known_by" "known_by" s_known_by ["people", "way", "plan"]) (D_pairs_of : Df K mg "pairs_of" "pairs_of" s_pairs_of ["members"]) (D_has_both : Df K mg "has_both" "has_both" s_has_both ["seen", "pair"]) (D_unknown_pairs : Df K mg "unknown_pairs" "unknown_pairs" s_unknown_pairs ["people", "way", "plan"]) (D_against : Df K mg "against" "against" s_against ["people", "way", "plan", "goal"]) (D_reaches : Df K mg "reaches" "reaches" s_reaches ["people", "way", "plan", "goal"]) (D_doublings : Df K mg "doublings" "doublings" s_doublings ["people"]) (D_fewest_rounds : Df K mg "fewest_rounds" "fewest_rounds" s_fewest_rounds ["people"]) (D_offsets : Df K mg "offsets" "offsets" s_offsets ["many"]) (D_in_order : Df K mg "in_order" "in_order" s_in_order ["pair"]) (D_even_round : Df K mg "even_round" "even_round" s_even_round ["people", "offset"]) (D_rounds_plan : Df K mg "rounds_plan" "rounds_plan" s_rounds_plan ["people"]) (D_is_number : Df K mg "is_number" "is_number" s_is_number ["thing"]) (D_is_pair : Df K mg "is_pair" "is_pair" s_is_pair ["people", "thing"]) (D_is_round : Df K mg "is_round" "is_round" s_is_round ["people", "thing"]) (D_shows_rounds : Df K mg "shows_rounds" "shows_rounds" s_shows_rounds ["people", "thing"]) (D_law_take : Df K mg "_law_take" "_law_take" s_law_take ["_law_box_here", "_law_span"]) (D_law_drawn_rounds : Df K mg "_law_drawn_rounds" "_law_drawn_rounds" s_law_drawn_rounds ["_law_box_here", "_law_crowd", "_law_many"]) (T : Txt mg) : FnOk P w K mg base CX0 10 D_law_right.a D_law_right.fd ["_law_box_here"] (spF K 1 m_law_right) := by
  refine fnd (k := 9) D_law_right.F sc_law_right rfl fun cdv A outer s H E hr => ?_
  have nd := sc_law_right.nd
  exact zscons (zsset (i := 1) nd rfl (Or.inl rfl) (zop op_addZ g_add zint (zcall (g := m_law_take) (ok_law_take D_law_take T) (hr.mono (by omega)) (by rfl) D_law_take.g D_law_take.F.kp D_law_take.b (zcons (zvar 0) (zcons zint znil)))))
    (zscons (zspar3 (i := 2) (j := 3) (l := 4) rfl nd rfl rfl rfl (by decide) (by decide) (by decide) rfl rfl rfl (zcons (zcall (g := m_rounds_plan 6) (ok_rounds_plan 6 D_rounds_plan D_doublings D_offsets D_in_order D_even_round T) (hr.mono (by omega)) (by rfl) D_rounds_plan.g D_rounds_plan.F.kp D_rounds_plan.b (zcons (zvar 1) znil)) (zcons zint (zcons zint znil))) (by rfl))
    (zscons (zswhile 1000 PassesOwn.never (ztcmp op_lt g_lt (zvar 4) (zvar 1) (nomark _)) (zsone (zspar (i := 4) (j := 3) rfl nd rfl rfl (by decide) rfl rfl (zcons (zop op_mulZ g_mul (zvar 4) zint) (zcons (zop op_addZ g_add (zvar 3) zint) znil)) (by rfl))))
    (zscons (zsset (i := 5) nd rfl (Or.inl rfl) (zop op_addZ g_add (zvar 3) (zcty call_int1 g_int (by rfl) T.b_int bb_int (zcons (zand (zcmp op_gt g_gt (zvar 1) zint (nomark _)) (zone (zcmp (op_eqZ hr.units) g_eq (zop op_mod g_mod (zvar 1) zint) zint (nomark _)))) znil))))
    (zscons (zsif (PWd.pt (zwor (ztcmp (op_neZ hr.units) g_ne (zcall (g := m_fewest_rounds) (ok_fewest_rounds D_fewest_rounds D_doublings T) (hr.mono (by omega)) (by rfl) D_fewest_rounds.g D_fewest_rounds.F.kp D_fewest_rounds.b (zcons (zvar 1) znil)) (zvar 5) (nomark _)) (zwor1 (ztcmp (op_neZ hr.units) g_ne (zcallK0 (g := m_fewest_rounds) (m := 0) (perm := [0]) (ok_fewest_rounds D_fewest_rounds D_doublings T) (hr.mono (by omega)) (by rfl) D_fewest_rounds.g D_fewest_rounds.F.kp (kb_fewest_rounds_0_people D_fewest_rounds.F) (zkcons (zvar 1) zknil)) (zvar 5) (nomark _))))) (zsone (zsret zbl)) zsnil)
    (zscons (zsif (PWd.pt (zwor (ztcmp (op_neZ hr.units) g_ne (zcb call_lenZ g_len (by rfl) T.b_len bb_len (zcons (zvar 2) znil)) (zvar 5) (nomark _)) (zwor1 (ztnot (zttr (zcall (g := m_shows_rounds) (ok_shows_rounds D_shows_rounds D_joined D_known_by D_pairs_of D_has_both D_unknown_pairs D_against D_reaches D_doublings D_fewest_rounds D_is_number D_is_pair D_is_round T) (hr.mono (by omega)) (by rfl) D_shows_rounds.g D_shows_rounds.F.kp D_shows_rounds.b (zcons (zvar 1) (zcons (zvar 2) znil)))))))) (zsone (zsret zbl)) zsnil)
    (zscons (zspar (i := 6) (j := 7) rfl nd rfl rfl (by decide) rfl rfl (zcons (zlst znil) (zcons zint znil)) (by rfl))
    (zscons (zsfor PassesOwn.never rfl (zi_seq (zvar 2)) (zgname (i := 8) nd rfl (Or.inl rfl)) (zscons (zsset (i := 6) nd rfl (Or.inl rfl) (zop op_addZ g_add (zvar 6) (zcty call_list_of g_listOf (by rfl) T.b_list bb_list (zcons (zvar 8) znil))))
    (zscons (zsset (i := 9) nd rfl (Or.inl rfl) (zcb (cr_maxD rfl (room65 hr)) g_bestMax (by rfl) T.b_max bb_max (zcons (zlc (own := [("_law_mine", 15)]) rfl nd (zi_seq (zcall (g := m_known_by) (ok_known_by D_known_by D_joined T) (hr.mono (by omega)) (by rfl) D_known_by.g D_known_by.F.kp D_known_by.b (zcons (zvar 1) (zcons zstr (zcons (zcty call_tuple_of g_tupOf (by rfl) T.b_tuple bb_tuple (zcons (zvar 6) znil)) znil))))) (blkOk_by (N := ["_law_box_here", "_law_crowd", "_law_some", "_law_count", "_law_size", "_law_due", "_law_scheme", "_law_most", "_law_part", "_law_here", "_law_busy", "_law_pair", "_law_turn", "_law_less", "_law_flat_so", "_law_mine"]) (sc := (defScope s_law_right)) (own := [("_law_mine", 15)]) (by decide +kernel)) (fun _ _ _ _ _ => zgwname (i := 15) nd rfl (Or.inl rfl) (by decide)) (fun _ _ _ _ _ => ztsnil) (fun _ _ _ _ _ => zcb call_lenZ g_len (by rfl) T.b_len bb_len (zcons (zvar 15) znil))) znil)))
    (zscons (zsset (i := 10) nd rfl (Or.inl rfl) (zlst znil))
    (zscons (zsfor PassesOwn.never rfl (zi_seq (zvar 8)) (zgname (i := 11) nd rfl (Or.inl rfl)) (zsone (zsset (i := 10) nd rfl (Or.inl rfl) (zop op_addZ g_add (zvar 10) (zcty call_list_of g_listOf (by rfl) T.b_list bb_list (zcons (zvar 11) znil))))))
    (zscons (zsif (PWd.pt (zwor (ztcmp op_gt g_gt (zvar 9) (zop op_mulZ g_mul zint (zvar 7)) (nomark _)) (zwor1 (ztcmp (op_neZ hr.units) g_ne (zlenSet rfl (by rfl) T.b_len (by rfl) T.b_set (zvar 10)) (zop op_mulZ g_mul zint (zcb call_lenZ g_len (by rfl) T.b_len bb_len (zcons (zvar 8) znil))) (nomark _))))) (zsone (zsret zbl)) zsnil)
    (zsone (zsset (i := 7) nd rfl (Or.inl rfl) (zvar 9)))))))))
    (zscons (zsif (ztnot (zttr (zcall (g := m_reaches) (ok_reaches D_reaches D_joined D_known_by D_pairs_of D_has_both D_unknown_pairs D_against T) (hr.mono (by omega)) (by rfl) D_reaches.g D_reaches.F.kp D_reaches.b (zcons (zvar 1) (zcons zstr (zcons (zcty call_tuple_of g_tupOf (by rfl) T.b_tuple bb_tuple (zcons (zvar 6) znil)) (zcons zstr znil))))))) (zsone (zsret zbl)) zsnil)
    (zscons (zsfor PassesOwn.never rfl (zirng1 rfl T.b_range (zcons zint znil)) (zgname (i := 12) nd rfl (Or.inl rfl)) (zscons (zsset (i := 13) nd rfl (Or.inl rfl) (zcall (g := m_law_drawn_rounds) (ok_law_drawn_rounds D_law_drawn_rounds D_law_take T) (hr.mono (by omega)) (by rfl) D_law_drawn_rounds.g D_law_drawn_rounds.F.kp D_law_drawn_rounds.b (zcons (zvar 0) (zcons (zvar 1) (zcons (zcb (call_max2 rfl) g_max2 (by rfl) T.b_max bb_max (zcons zint (zcons (zop op_sub g_sub (zvar 5) zint) znil))) znil)))))
    (zscons (zsset (i := 14) nd rfl (Or.inl rfl) (zlst znil))
    (zscons (zsfor PassesOwn.never rfl (zi_seq (zvar 13)) (zgname (i := 8) nd rfl (Or.inl rfl)) (zsone (zsset (i := 14) nd rfl (Or.inl rfl) (zop op_addZ g_add (zvar 14) (zcty call_list_of g_listOf (by rfl) T.b_list bb_list (zcons (zvar 8) znil))))))
    (zscons (zsif (PWd.pt (zwand (ztcmp op_gt g_gt (zvar 1) zint (nomark _)) (zwand1 (zttr (zcall (g := m_shows_rounds) (ok_shows_rounds D_shows_rounds D_joined D_known_by D_pairs_of D_has_both D_unknown_pairs D_against D_reaches D_doublings D_fewest_rounds D_is_number D_is_pair D_is_round T) (hr.mono (by omega)) (by rfl) D_shows_rounds.g D_shows_rounds.F.kp D_shows_rounds.b (zcons (zvar 1) (zcons (zvar 13) znil))))))) (zsone (zsret zbl)) zsnil)
    (zsone (zsif (PWd.pt (zwand (ztcmp op_gt g_gt (zvar 1) zint (nomark _)) (zwand1 (zttr (zcall (g := m_reaches) (ok_reaches D_reaches D_joined D_known_by D_pairs_of D_has_both D_unknown_pairs D_against T) (hr.mono (by omega)) (by rfl) D_reaches.g D_reaches.F.kp D_reaches.b (zcons (zvar 1) (zcons zstr (zcons (zcty call_tuple_of g_tupOf (by rfl) T.b_tuple bb_tuple (zcons (zvar 14) znil)) (zcons zstr znil))))))))) (zsone (zsret zbl)) zsnil)))))))
    (zsone (zsret zbl)))))))))))
theorem ok_law (D_law : Df K mg "law" "law" s_law ["_law_script"]) (D_law_box : Df K mg "_law_box" "_law_box" s_law_box ["_law_script", "_law_k"]) (D_joined : Df K mg "joined" "joined" s_joined ["had", "others"]) (D_known_by : Df K mg "known_by" "known_by" s_known_by ["people", "way", "plan"]) (D_pairs_of : Df K mg "pairs_of" "pairs_of" s_pairs_of ["members"]) (D_has_both : Df K mg "has_both" "has_both" s_has_both ["seen", "pair"]) (D_unknown_pairs : Df K mg "unknown_pairs" "unknown_pairs" s_unknown_pairs ["people", "way", "plan"]) (D_against : Df K mg "against" "against" s_against ["people", "way", "plan", "goal"]) (D_reaches : Df K mg "reaches" "reaches" s_reaches ["people", "way", "plan", "goal"]) (D_doublings : Df K mg "doublings" "doublings" s_doublings ["people"]) (D_fewest_rounds : Df K mg "fewest_rounds" "fewest_rounds" s_fewest_rounds ["people"]) (D_offsets : Df K mg "offsets" "offsets" s_offsets ["many"]) (D_in_order : Df K mg "in_order" "in_order" s_in_order ["pair"]) (D_even_round : Df K mg "even_round" "even_round" s_even_round ["people", "offset"]) (D_rounds_plan : Df K mg "rounds_plan" "rounds_plan" s_rounds_plan ["people"]) (D_is_number : Df K mg "is_number" "is_number" s_is_number ["thing"]) (D_is_pair : Df K mg "is_pair" "is_pair" s_is_pair ["people", "thing"]) (D_is_round : Df K mg "is_round" "is_round" s_is_round ["people", "thing"]) (D_shows_rounds : Df K mg "shows_rounds" "shows_rounds" s_shows_rounds ["people", "thing"]) (D_law_take : Df K mg "_law_take" "_law_take" s_law_take ["_law_box_here", "_law_span"]) (D_law_drawn_rounds : Df K mg "_law_drawn_rounds" "_law_drawn_rounds" s_law_drawn_rounds ["_law_box_here", "_law_crowd", "_law_many"]) (D_law_right : Df K mg "_law_right" "_law_right" s_law_right ["_law_box_here"]) (T : Txt mg) : FnOk P w K mg base CX0 11 D_law.a D_law.fd ["_law_script"] (spF K 1 m_law) := by
  refine fnd (k := 10) D_law.F sc_law rfl fun cdv A outer s H E hr => ?_
  have nd := sc_law.nd
  exact zscons (zsfor PassesOwn.never rfl (zirng1 rfl T.b_range (zcons (zop op_addZ g_add zint (zcb (call_min2 rfl) g_min2 (by rfl) T.b_min bb_min (zcons zint (zcons (zcb call_lenZ g_len (by rfl) T.b_len bb_len (zcons (zvar 0) znil)) znil)))) znil)) (zgname (i := 1) nd rfl (Or.inl rfl)) (zscons (zsset (i := 2) nd rfl (Or.inr rfl) (zcall (g := m_law_box) (ok_law_box D_law_box T) (hr.mono (by omega)) (by rfl) D_law_box.g D_law_box.F.kp D_law_box.b (zcons (zvar 0) (zcons (zvar 1) znil))))
    (zsone (zsif (ztnot (zttr (zcb (cr_all rfl) g_all (by rfl) T.b_all bb_all (zcons (zlc (own := [("_law_lap", 3)]) rfl nd (zirng1 rfl T.b_range (zcons zint znil)) (blkOk_by (N := ["_law_script", "_law_k", "_law_box_here", "_law_lap"]) (sc := (defScope s_law)) (own := [("_law_lap", 3)]) (by decide +kernel)) (fun _ _ _ _ _ => zgwname (i := 3) nd rfl (Or.inl rfl) (by decide)) (fun _ _ _ _ _ => ztsnil) (fun _ _ _ _ _ => zcall (g := m_law_right) (ok_law_right D_law_right D_joined D_known_by D_pairs_of D_has_both D_unknown_pairs D_against D_reaches D_doublings D_fewest_rounds D_offsets D_in_order D_even_round D_rounds_plan D_is_number D_is_pair D_is_round D_shows_rounds D_law_take D_law_drawn_rounds T) (hr.mono (by omega)) (by rfl) D_law_right.g D_law_right.F.kp D_law_right.b (zcons (zvar 2) znil))) znil)))) (zsone (zsret zbl)) zsnil))))
    (zsone (zsret zbl))
end
end P
namespace P
open PySem L2 Z Y
def p_joined : Pf := runP 2 2 (pRet (pSSZ (pOp pAdd (pVar 0) (pVar 1))))
theorem sf_joined : SF m_joined p_joined := sf_run (O := []) 2 (by decide) (ss_ret (sd_ssZ (sd_e (sd_op sg_add (sd_e (sd_var (i := 0) (by decide))) (sd_e (sd_var (i := 1) (by decide)))))))
def q1_known_by : Ps := pSeq (pAsg (pCall p_joined (pCons (pOp pIx (pVar 3) (pVar 4)) (pCons (pOp pIx (pVar 3) (pVar 5)) pNil))) (pgName 6))
    (pSeq (pSet 3 (pVar 6) (pVar 5))
    (pIfS (pBool (pOp pEq (pVar 1) (pC (.str "meet")))) (pSet 3 (pCB pListOf (pCons (pVar 6) pNil)) (pVar 4)) pNext))
theorem sq1_known_by : SS none [3] b1_known_by q1_known_by := ss_seq (ss_asg (sd_call sf_joined (sad_cons (sd_op sg_ix (se_var (i := 3)) (sd_e (sd_var (i := 4) (by decide)))) (sad_cons (sd_op sg_ix (se_var (i := 3)) (sd_e (sd_var (i := 5) (by decide)))) sad_nil))) (sg_name (by decide)))
    (ss_seq (ss_sub (i := 3) (by decide) (sd_var (i := 6) (by decide)) (sd_e (sd_var (i := 5) (by decide))))
    (ss_if (st_bool (sd_e (sd_op sg_eq (sd_e (sd_var (i := 1) (by decide))) (sd_e sd_c)))) (ss_sub (i := 3) (by decide) (sd_cb sb_listOf (sa_cons (sd_e (sd_var (i := 6) (by decide))) sa_nil)) (sd_e (sd_var (i := 4) (by decide)))) ss_next))
def p_known_by : Pf := runP 3 8 (pSeq (pAsg (pLc (pRng1 (pCons (pVar 0) pNil)) [7] (pgName 7) pYes (pLst (pCons (pVar 7) pNil))) (pgName 3))
    (pSeq (pFor (pItS (pVar 2)) (pgSeq 2 (pgCons (pgName 4) (pgCons (pgName 5) pgNil))) q1_known_by)
    (pRet (pVar 3))))
theorem sf_known_by : SF m_known_by p_known_by := sf_run (O := [3]) 3 (by decide) (ss_seq (ss_asgN (by decide) (sn_lc (by decide) (si_of (si_rng1 (sad_cons (sd_var (i := 0) (by decide)) sad_nil))) (sg_name (by decide)) st_yes (sd_lst (sad_cons (sd_var (i := 7) (by decide)) sad_nil))))
    (ss_seq (ss_for (si0_seq (sd_var (i := 2) (by decide))) (sg_seq (sgs_cons (sg_name (by decide)) (sgs_cons (sg_name (by decide)) sgs_nil))) sq1_known_by)
    (ss_retF (i := 3) (by decide))))
def p_pairs_of : Pf := runP 1 3 (pRet (pLc2 (pItS (pVar 0)) [1, 2] (pgName 1) pYes (pItS (pVar 0)) [2] (pgName 2) (pBool (pOp pLt (pVar 1) (pVar 2))) (pTup (pCons (pVar 1) (pCons (pVar 2) pNil)))))
theorem sf_pairs_of : SF m_pairs_of p_pairs_of := sf_run (O := []) 1 (by decide) (ss_ret (sd_lc2 (by decide) (by decide) (si_of (si0_seq (sd_var (i := 0) (by decide)))) (sg_name (by decide)) st_yes (si_of (si0_seq (sd_var (i := 0) (by decide)))) (sg_name (by decide)) (st_bool (sd_e (sd_op sg_lt (sd_e (sd_var (i := 1) (by decide))) (sd_e (sd_var (i := 2) (by decide)))))) (sd_tup (sad_cons (sd_var (i := 1) (by decide)) (sad_cons (sd_var (i := 2) (by decide)) sad_nil)))))
def p_has_both : Pf := runP 2 2 (pRet (pAndV (pOp (pIn false) (pOp pIx (pVar 1) (pC (.int 0))) (pVar 0)) (pOp (pIn false) (pOp pIx (pVar 1) (pC (.int 1))) (pVar 0))))
theorem sf_has_both : SF m_has_both p_has_both := sf_run (O := []) 2 (by decide) (ss_ret (sd_and (sd_e (sd_op sg_in (sd_e (sd_op sg_ix (sd_e (sd_var (i := 1) (by decide))) (sd_e sd_c))) (sd_e (sd_var (i := 0) (by decide))))) (sd_op sg_in (sd_e (sd_op sg_ix (sd_e (sd_var (i := 1) (by decide))) (sd_e sd_c))) (sd_e (sd_var (i := 0) (by decide))))))
def p_unknown_pairs : Pf := runP 3 6 (pSeq (pAsg (pCall p_known_by (pCons (pVar 0) (pCons (pVar 1) (pCons (pVar 2) pNil)))) (pgName 3))
    (pRet (pLc (pItS (pCall p_pairs_of (pCons (pLR (pVar 0)) pNil))) [4] (pgName 4) (pNotT (pTru (pCB pAny (pCons (pLc (pItS (pVar 3)) [5] (pgName 5) pYes (pCall p_has_both (pCons (pVar 5) (pCons (pVar 4) pNil)))) pNil)))) (pVar 4))))
theorem sf_unknown_pairs : SF m_unknown_pairs p_unknown_pairs := sf_run (O := []) 3 (by decide) (ss_seq (ss_asg (sd_call sf_known_by (sad_cons (sd_var (i := 0) (by decide)) (sad_cons (sd_var (i := 1) (by decide)) (sad_cons (sd_var (i := 2) (by decide)) sad_nil)))) (sg_name (by decide)))
    (ss_ret (sd_lc (by decide) (si_of (si0_seq (sd_call sf_pairs_of (sad_cons (sd_lr (sd_e (sd_var (i := 0) (by decide)))) sad_nil)))) (sg_name (by decide)) (st_not (st_tru (sd_e (sd_cb sb_any (sa_cons (sd_e (sd_lc (by decide) (si_of (si0_seq (sd_var (i := 3) (by decide)))) (sg_name (by decide)) st_yes (sd_call sf_has_both (sad_cons (sd_var (i := 5) (by decide)) (sad_cons (sd_var (i := 4) (by decide)) sad_nil))))) sa_nil))))) (sd_var (i := 4) (by decide)))))
def p_against : Pf := runP 4 8 (pSeq (pIfS (pBool (pOp pEq (pVar 3) (pC (.str "somebody")))) (pAsg (pCall p_unknown_pairs (pCons (pVar 0) (pCons (pVar 1) (pCons (pVar 2) pNil)))) (pgName 4)) (pSeq (pAsg (pCall p_known_by (pCons (pVar 0) (pCons (pVar 1) (pCons (pVar 2) pNil)))) (pgName 5))
    (pAsg (pLc2 (pItS (pCall p_pairs_of (pCons (pLR (pVar 0)) pNil))) [6, 7] (pgName 6) pYes (pRng1 (pCons (pVar 0) pNil)) [7] (pgName 7) (pNotT (pTru (pCall p_has_both (pCons (pOp pIx (pVar 5) (pVar 7)) (pCons (pVar 6) pNil))))) (pTup (pCons (pVar 6) (pCons (pVar 7) pNil)))) (pgName 4))))
    (pRet (pIf (pTru (pVar 4)) (pOp pIx (pVar 4) (pC (.int 0))) (pC .none))))
theorem sf_against : SF m_against p_against := sf_run (O := []) 4 (by decide) (ss_seq (ss_if (st_bool (sd_e (sd_op sg_eq (sd_e (sd_var (i := 3) (by decide))) (sd_e sd_c)))) (ss_asg (sd_call sf_unknown_pairs (sad_cons (sd_var (i := 0) (by decide)) (sad_cons (sd_var (i := 1) (by decide)) (sad_cons (sd_var (i := 2) (by decide)) sad_nil)))) (sg_name (by decide))) (ss_seq (ss_asg (sd_call sf_known_by (sad_cons (sd_var (i := 0) (by decide)) (sad_cons (sd_var (i := 1) (by decide)) (sad_cons (sd_var (i := 2) (by decide)) sad_nil)))) (sg_name (by decide)))
    (ss_asg (sd_lc2 (by decide) (by decide) (si_of (si0_seq (sd_call sf_pairs_of (sad_cons (sd_lr (sd_e (sd_var (i := 0) (by decide)))) sad_nil)))) (sg_name (by decide)) st_yes (si_of (si_rng1 (sad_cons (sd_var (i := 0) (by decide)) sad_nil))) (sg_name (by decide)) (st_not (st_tru (sd_e (sd_call sf_has_both (sad_cons (sd_op sg_ix (sd_e (sd_var (i := 5) (by decide))) (sd_e (sd_var (i := 7) (by decide)))) (sad_cons (sd_var (i := 6) (by decide)) sad_nil)))))) (sd_tup (sad_cons (sd_var (i := 6) (by decide)) (sad_cons (sd_var (i := 7) (by decide)) sad_nil)))) (sg_name (by decide)))))
    (ss_ret (sr_if (st_tru (sd_e (sd_var (i := 4) (by decide)))) (sd_op sg_ix (sd_e (sd_var (i := 4) (by decide))) (sd_e sd_c)) sd_c)))
def p_reaches : Pf := runP 4 4 (pRet (pOp pIsN (pCall p_against (pCons (pVar 0) (pCons (pVar 1) (pCons (pVar 2) (pCons (pVar 3) pNil))))) (pC .none)))
theorem sf_reaches : SF m_reaches p_reaches := sf_run (O := []) 4 (by decide) (ss_ret (sd_op sg_isN (sd_e (sd_call sf_against (sad_cons (sd_var (i := 0) (by decide)) (sad_cons (sd_var (i := 1) (by decide)) (sad_cons (sd_var (i := 2) (by decide)) (sad_cons (sd_var (i := 3) (by decide)) sad_nil)))))) (sd_e sd_c)))
def q1_doublings : Ps := pSeq (pAsg (pOp pMul (pVar 2) (pC (.int 2))) (pgName 2))
    (pAug (fun i j => i + j) 1 (pC (.int 1)))
theorem sq1_doublings : SS none [] b1_doublings q1_doublings := ss_seq (ss_asg (sd_op sg_mul (sd_e (sd_var (i := 2) (by decide))) (sd_e sd_c)) (sg_name (by decide)))
    (ss_aug (i := 1) (by decide) sd_c)
def p_doublings : Pf := runP 1 3 (pSeq (pAsg (pC (.int 0)) (pgName 1))
    (pSeq (pAsg (pC (.int 1)) (pgName 2))
    (pSeq (pWhile 1000 (pBool (pOp pLt (pVar 2) (pVar 0))) q1_doublings)
    (pRet (pVar 1)))))
theorem sf_doublings : SF m_doublings p_doublings := sf_run (O := []) 1 (by decide) (ss_seq (ss_asg sd_c (sg_name (by decide)))
    (ss_seq (ss_asg sd_c (sg_name (by decide)))
    (ss_seq (ss_while (st_bool (sd_e (sd_op sg_lt (sd_e (sd_var (i := 2) (by decide))) (sd_e (sd_var (i := 0) (by decide)))))) sq1_doublings)
    (ss_ret (sd_var (i := 1) (by decide))))))
def p_fewest_rounds : Pf := runP 1 1 (pSeq (pIfS (pBool (pOp pEq (pVar 0) (pC (.int 1)))) (pRet (pC (.int 0))) pNext)
    (pRet (pOp pAdd (pCall p_doublings (pCons (pVar 0) pNil)) (pOp pMod (pVar 0) (pC (.int 2))))))
theorem sf_fewest_rounds : SF m_fewest_rounds p_fewest_rounds := sf_run (O := []) 1 (by decide) (ss_seq (ss_if (st_bool (sd_e (sd_op sg_eq (sd_e (sd_var (i := 0) (by decide))) (sd_e sd_c)))) (ss_ret sd_c) ss_next)
    (ss_ret (sd_op sg_add (sd_e (sd_call sf_doublings (sad_cons (sd_var (i := 0) (by decide)) sad_nil))) (sd_e (sd_op sg_mod (sd_e (sd_var (i := 0) (by decide))) (sd_e sd_c))))))
def q1_offsets : Ps := pApp 1 (pIf (pTru (pVar 1)) (pOp pAdd (pOp pMul (pOp pIx (pVar 1) (pUn pNeg (pC (.int 1)))) (pC (.int 2))) (pC (.int 1))) (pC (.int 0)))
theorem sq1_offsets : SS none [1] b1_offsets q1_offsets := ss_app (i := 1) (by decide) (sr_if (st_tru (se_var (i := 1))) (sd_op sg_add (sd_e (sd_op sg_mul (sd_e (sd_op sg_ix (se_var (i := 1)) (sd_e (sd_neg (sd_e sd_c))))) (sd_e sd_c))) (sd_e sd_c)) sd_c)
def p_offsets : Pf := runP 1 3 (pSeq (pAsg (pLst pNil) (pgName 1))
    (pSeq (pFor (pRng1 (pCons (pVar 0) pNil)) (pgName 2) q1_offsets)
    (pRet (pVar 1))))
theorem sf_offsets : SF m_offsets p_offsets := sf_run (O := [1]) 1 (by decide) (ss_seq (ss_asgN (by decide) (sn_lst sad_nil))
    (ss_seq (ss_for (si_rng1 (sad_cons (sd_var (i := 0) (by decide)) sad_nil)) (sg_name (by decide)) sq1_offsets)
    (ss_retF (i := 1) (by decide))))
def p_in_order : Pf := runP 1 1 (pRet (pTup (pCons (pCB pBestMin (pCons (pVar 0) pNil)) (pCons (pCB pBestMax (pCons (pVar 0) pNil)) pNil))))
theorem sf_in_order : SF m_in_order p_in_order := sf_run (O := []) 1 (by decide) (ss_ret (sd_tup (sad_cons (sd_cb sb_bestMin (sa_cons (sd_e (sd_var (i := 0) (by decide))) sa_nil)) (sad_cons (sd_cb sb_bestMax (sa_cons (sd_e (sd_var (i := 0) (by decide))) sa_nil)) sad_nil))))
def p_even_round : Pf := runP 2 4 (pSeq (pAsg (pOp pDiv (pVar 0) (pC (.int 2))) (pgName 2))
    (pRet (pCB pTupOf (pCons (pCB pSrtZ (pCons (pLc (pRng1 (pCons (pVar 2) pNil)) [3] (pgName 3) pYes (pCall p_in_order (pCons (pTup (pCons (pOp pMul (pC (.int 2)) (pVar 3)) (pCons (pOp pAdd (pOp pMul (pOp pMod (pOp pAdd (pVar 3) (pVar 1)) (pVar 2)) (pC (.int 2))) (pC (.int 1))) pNil))) pNil))) pNil)) pNil))))
theorem sf_even_round : SF m_even_round p_even_round := sf_run (O := []) 2 (by decide) (ss_seq (ss_asg (sd_op sg_div (sd_e (sd_var (i := 0) (by decide))) (sd_e sd_c)) (sg_name (by decide)))
    (ss_ret (sd_cb sb_tupOf (sa_cons (sd_e (sd_cb sb_srtZ (sa_cons (sd_e (sd_lc (by decide) (si_of (si_rng1 (sad_cons (sd_var (i := 2) (by decide)) sad_nil))) (sg_name (by decide)) st_yes (sd_call sf_in_order (sad_cons (sd_tup (sad_cons (sd_op sg_mul (sd_e sd_c) (sd_e (sd_var (i := 3) (by decide)))) (sad_cons (sd_op sg_add (sd_e (sd_op sg_mul (sd_e (sd_op sg_mod (sd_e (sd_op sg_add (sd_e (sd_var (i := 3) (by decide))) (sd_e (sd_var (i := 1) (by decide))))) (sd_e (sd_var (i := 2) (by decide))))) (sd_e sd_c))) (sd_e sd_c)) sad_nil))) sad_nil)))) sa_nil))) sa_nil))))
def q1_rounds_plan : Ps := pAsg (pOp pMul (pVar 1) (pC (.int 2))) (pgName 1)
theorem sq1_rounds_plan : SS none [] b1_rounds_plan q1_rounds_plan := ss_asg (sd_op sg_mul (sd_e (sd_var (i := 1) (by decide))) (sd_e sd_c)) (sg_name (by decide))
def p_rounds_plan : Nat → Pf
  | 0 => fun _ => bad
  | n + 1 => runP 1 5 (pSeq (pIfS (pBool (pOp pEq (pVar 0) (pC (.int 1)))) (pRet (pTup pNil)) pNext)
    (pSeq (pIfS (pBool (pOp pEq (pOp pMod (pVar 0) (pC (.int 2))) (pC (.int 0)))) (pRet (pCB pTupOf (pCons (pLc (pItS (pCall p_offsets (pCons (pCall p_doublings (pCons (pVar 0) pNil)) pNil))) [3] (pgName 3) pYes (pCall p_even_round (pCons (pVar 0) (pCons (pVar 3) pNil)))) pNil))) pNext)
    (pSeq (pAsg (pC (.int 1)) (pgName 1))
    (pSeq (pWhile 1000 (pBool (pOp pLt (pOp pMul (pVar 1) (pC (.int 2))) (pVar 0))) q1_rounds_plan)
    (pSeq (pAsg (pCB pTupOf (pCons (pLc (pRng2 (pCons (pVar 1) (pCons (pVar 0) pNil))) [4] (pgName 4) pYes (pTup (pCons (pOp Y.pSub (pVar 4) (pVar 1)) (pCons (pVar 4) pNil)))) pNil)) (pgName 2))
    (pRet (pOp pAdd (pOp pAdd (pTup (pCons (pVar 2) pNil)) (pCall (p_rounds_plan n) (pCons (pVar 1) pNil))) (pTup (pCons (pVar 2) pNil)))))))))
theorem sf_rounds_plan (n : Nat) : SF (m_rounds_plan n) (p_rounds_plan n) := by
  induction n with
  | zero => exact sf_zero
  | succ n IH => exact sf_run (O := []) 1 (by decide) (ss_seq (ss_if (st_bool (sd_e (sd_op sg_eq (sd_e (sd_var (i := 0) (by decide))) (sd_e sd_c)))) (ss_ret (sd_tup sad_nil)) ss_next)
    (ss_seq (ss_if (st_bool (sd_e (sd_op sg_eq (sd_e (sd_op sg_mod (sd_e (sd_var (i := 0) (by decide))) (sd_e sd_c))) (sd_e sd_c)))) (ss_ret (sd_cb sb_tupOf (sa_cons (sd_e (sd_lc (by decide) (si_of (si0_seq (sd_call sf_offsets (sad_cons (sd_call sf_doublings (sad_cons (sd_var (i := 0) (by decide)) sad_nil)) sad_nil)))) (sg_name (by decide)) st_yes (sd_call sf_even_round (sad_cons (sd_var (i := 0) (by decide)) (sad_cons (sd_var (i := 3) (by decide)) sad_nil))))) sa_nil))) ss_next)
    (ss_seq (ss_asg sd_c (sg_name (by decide)))
    (ss_seq (ss_while (st_bool (sd_e (sd_op sg_lt (sd_e (sd_op sg_mul (sd_e (sd_var (i := 1) (by decide))) (sd_e sd_c))) (sd_e (sd_var (i := 0) (by decide)))))) sq1_rounds_plan)
    (ss_seq (ss_asg (sd_cb sb_tupOf (sa_cons (sd_e (sd_lc (by decide) (si_of (si_rng2 (sad_cons (sd_var (i := 1) (by decide)) (sad_cons (sd_var (i := 0) (by decide)) sad_nil)))) (sg_name (by decide)) st_yes (sd_tup (sad_cons (sd_op sg_sub (sd_e (sd_var (i := 4) (by decide))) (sd_e (sd_var (i := 1) (by decide)))) (sad_cons (sd_var (i := 4) (by decide)) sad_nil))))) sa_nil)) (sg_name (by decide)))
    (ss_ret (sd_op sg_add (sd_e (sd_op sg_add (sd_e (sd_tup (sad_cons (sd_var (i := 2) (by decide)) sad_nil))) (sd_e (sd_call IH (sad_cons (sd_var (i := 1) (by decide)) sad_nil))))) (sd_e (sd_tup (sad_cons (sd_var (i := 2) (by decide)) sad_nil))))))))))
def p_is_number : Pf := runP 1 1 (pRet (pAndV (pIsi .int (pVar 0)) (pNotV (pIsi .bool (pVar 0)))))
theorem sf_is_number : SF m_is_number p_is_number := sf_run (O := []) 1 (by decide) (ss_ret (sd_and (sd_e (sd_isi (sd_e (sd_var (i := 0) (by decide))))) (sd_notV (sd_e (sd_isi (sd_e (sd_var (i := 0) (by decide))))))))
def p_is_pair : Pf := runP 2 3 (pSeq (pIfS (pOrT (pNotT (pTru (pIsi .tuple (pVar 1)))) (pOrT (pBool (pOp pNe (pCB pLen (pCons (pVar 1) pNil)) (pC (.int 2)))) (pNotT (pTru (pCB pAll (pCons (pLc (pItS (pVar 1)) [2] (pgName 2) pYes (pCall p_is_number (pCons (pVar 2) pNil))) pNil)))))) (pRet (pC (.bool false))) pNext)
    (pRet (pChain3 pLe pLt pLt (pC (.int 0)) (pOp pIx (pVar 1) (pC (.int 0))) (pOp pIx (pVar 1) (pC (.int 1))) (pVar 0))))
theorem sf_is_pair : SF m_is_pair p_is_pair := sf_run (O := []) 2 (by decide) (ss_seq (ss_if (st_or (st_not (st_tru (sd_e (sd_isi (sd_e (sd_var (i := 1) (by decide))))))) (st_or (st_bool (sd_e (sd_op sg_ne (sd_e (sd_cb sb_len (sa_cons (sd_e (sd_var (i := 1) (by decide))) sa_nil))) (sd_e sd_c)))) (st_not (st_tru (sd_e (sd_cb sb_all (sa_cons (sd_e (sd_lc (by decide) (si_of (si0_seq (sd_var (i := 1) (by decide)))) (sg_name (by decide)) st_yes (sd_call sf_is_number (sad_cons (sd_var (i := 2) (by decide)) sad_nil)))) sa_nil))))))) (ss_ret sd_c) ss_next)
    (ss_ret (sd_chain3 sg_le sg_lt sg_lt (sd_e sd_c) (sd_e (sd_op sg_ix (sd_e (sd_var (i := 1) (by decide))) (sd_e sd_c))) (sd_e (sd_op sg_ix (sd_e (sd_var (i := 1) (by decide))) (sd_e sd_c))) (sd_e (sd_var (i := 0) (by decide))))))
def p_is_round : Pf := runP 2 5 (pSeq (pIfS (pOrT (pNotT (pTru (pIsi .tuple (pVar 1)))) (pOrT (pBool (pOp pEq (pVar 1) (pTup pNil))) (pNotT (pTru (pCB pAll (pCons (pLc (pItS (pVar 1)) [3] (pgName 3) pYes (pCall p_is_pair (pCons (pVar 0) (pCons (pVar 3) pNil)))) pNil)))))) (pRet (pC (.bool false))) pNext)
    (pSeq (pAsg (pLc2 (pItS (pVar 1)) [3, 4] (pgName 3) pYes (pItS (pVar 3)) [4] (pgName 4) pYes (pVar 4)) (pgName 2))
    (pRet (pAndV (pOp pEq (pLenSet (pVar 2)) (pCB pLen (pCons (pVar 2) pNil))) (pOp pEq (pCB pListOf (pCons (pVar 1) pNil)) (pCB pSrtT (pCons (pVar 1) pNil)))))))
theorem sf_is_round : SF m_is_round p_is_round := sf_run (O := []) 2 (by decide) (ss_seq (ss_if (st_or (st_not (st_tru (sd_e (sd_isi (sd_e (sd_var (i := 1) (by decide))))))) (st_or (st_bool (sd_e (sd_op sg_eq (sd_e (sd_var (i := 1) (by decide))) (sd_e (sd_tup sad_nil))))) (st_not (st_tru (sd_e (sd_cb sb_all (sa_cons (sd_e (sd_lc (by decide) (si_of (si0_seq (sd_var (i := 1) (by decide)))) (sg_name (by decide)) st_yes (sd_call sf_is_pair (sad_cons (sd_var (i := 0) (by decide)) (sad_cons (sd_var (i := 3) (by decide)) sad_nil))))) sa_nil))))))) (ss_ret sd_c) ss_next)
    (ss_seq (ss_asg (sd_lc2 (by decide) (by decide) (si_of (si0_seq (sd_var (i := 1) (by decide)))) (sg_name (by decide)) st_yes (si_of (si0_seq (sd_var (i := 3) (by decide)))) (sg_name (by decide)) st_yes (sd_var (i := 4) (by decide))) (sg_name (by decide)))
    (ss_ret (sd_and (sd_e (sd_op sg_eq (sd_e (sd_lenSet (sd_e (sd_var (i := 2) (by decide))))) (sd_e (sd_cb sb_len (sa_cons (sd_e (sd_var (i := 2) (by decide))) sa_nil))))) (sd_op sg_eq (sd_e (sd_cb sb_listOf (sa_cons (sd_e (sd_var (i := 1) (by decide))) sa_nil))) (sd_e (sd_cb sb_srtT (sa_cons (sd_e (sd_var (i := 1) (by decide))) sa_nil))))))))
def p_shows_rounds : Pf := runP 2 4 (pSeq (pIfS (pOrT (pNotT (pTru (pIsi .tuple (pVar 1)))) (pBool (pOp pNe (pCB pLen (pCons (pVar 1) pNil)) (pCall p_fewest_rounds (pCons (pVar 0) pNil))))) (pRet (pC (.bool false))) pNext)
    (pSeq (pIfS (pNotT (pTru (pCB pAll (pCons (pLc (pItS (pVar 1)) [2] (pgName 2) pYes (pCall p_is_round (pCons (pVar 0) (pCons (pVar 2) pNil)))) pNil)))) (pRet (pC (.bool false))) pNext)
    (pRet (pCall p_reaches (pCons (pVar 0) (pCons (pC (.str "meet")) (pCons (pLc2 (pItS (pVar 1)) [2, 3] (pgName 2) pYes (pItS (pVar 2)) [3] (pgName 3) pYes (pVar 3)) (pCons (pC (.str "everybody")) pNil))))))))
theorem sf_shows_rounds : SF m_shows_rounds p_shows_rounds := sf_run (O := []) 2 (by decide) (ss_seq (ss_if (st_or (st_not (st_tru (sd_e (sd_isi (sd_e (sd_var (i := 1) (by decide))))))) (st_bool (sd_e (sd_op sg_ne (sd_e (sd_cb sb_len (sa_cons (sd_e (sd_var (i := 1) (by decide))) sa_nil))) (sd_e (sd_call sf_fewest_rounds (sad_cons (sd_var (i := 0) (by decide)) sad_nil))))))) (ss_ret sd_c) ss_next)
    (ss_seq (ss_if (st_not (st_tru (sd_e (sd_cb sb_all (sa_cons (sd_e (sd_lc (by decide) (si_of (si0_seq (sd_var (i := 1) (by decide)))) (sg_name (by decide)) st_yes (sd_call sf_is_round (sad_cons (sd_var (i := 0) (by decide)) (sad_cons (sd_var (i := 2) (by decide)) sad_nil))))) sa_nil))))) (ss_ret sd_c) ss_next)
    (ss_ret (sd_call sf_reaches (sad_cons (sd_var (i := 0) (by decide)) (sad_cons sd_c (sad_cons (sd_lc2 (by decide) (by decide) (si_of (si0_seq (sd_var (i := 1) (by decide)))) (sg_name (by decide)) st_yes (si_of (si0_seq (sd_var (i := 2) (by decide)))) (sg_name (by decide)) st_yes (sd_var (i := 3) (by decide))) (sad_cons sd_c sad_nil))))))))
def kst : ZL.Cst := ⟨2305843009213693921, 41177, 53, 38923, 2147483563, 51749, 2147483549, 30011, 17, 7039, 2147483629, 32⟩
theorem kst_ok : kst.Ok := by decide
theorem take_eq : m_law_take = ZL.take2 kst := rfl
theorem box_eq : m_law_box = ZL.box2 kst := rfl
def p_law_take : Pf := pTake
theorem sfb_law_take : SFB m_law_take p_law_take := by rw [take_eq]; exact sfb_take2 kst_ok
def q1_law_drawn_rounds : Ps := pSeq (pPop2 7 8 5 (pCall p_law_take (pCons (pCB pLen (pCons (pVar 5) pNil)) pNil)) (pCall p_law_take (pCons (pCB pLen (pCons (pVar 5) pNil)) pNil)))
    (pApp 6 (pTup (pCons (pCB pMin2 (pCons (pVar 7) (pCons (pVar 8) pNil))) (pCons (pCB pMax2 (pCons (pVar 7) (pCons (pVar 8) pNil))) pNil))))
theorem sq1_law_drawn_rounds : SS (some 0) [3, 5, 6] b1_law_drawn_rounds q1_law_drawn_rounds := ss_seq (ss_pop2 (u := 7) (v := 8) (i := 5) (by decide) (by decide) (by decide) (sd_callB rfl sfb_law_take (sad_cons (sd_cb sb_len (sa_cons (se_var (i := 5)) sa_nil)) sad_nil)) (sd_callB rfl sfb_law_take (sad_cons (sd_cb sb_len (sa_cons (se_var (i := 5)) sa_nil)) sad_nil)))
    (ss_app (i := 6) (by decide) (sd_tup (sad_cons (sd_cb sb_min2 (sa_cons (sd_e (sd_var (i := 7) (by decide))) (sa_cons (sd_e (sd_var (i := 8) (by decide))) sa_nil))) (sad_cons (sd_cb sb_max2 (sa_cons (sd_e (sd_var (i := 7) (by decide))) (sa_cons (sd_e (sd_var (i := 8) (by decide))) sa_nil))) sad_nil))))
def q2_law_drawn_rounds : Ps := pSeq (pPar 5 6 (pCons (pLR (pVar 1)) (pCons (pLst pNil) pNil)))
    (pSeq (pWhile 1000 (pBool (pOp pGt (pCB pLen (pCons (pVar 5) pNil)) (pC (.int 1)))) q1_law_drawn_rounds)
    (pApp 3 (pCB pTupOf (pCons (pCB pSrtZ (pCons (pVar 6) pNil)) pNil))))
theorem sq2_law_drawn_rounds : SS (some 0) [3, 5, 6] b2_law_drawn_rounds q2_law_drawn_rounds := ss_seq (ss_parNN (by decide) (by decide) (sn_lr (sd_e (sd_var (i := 1) (by decide)))) (sn_lst sad_nil))
    (ss_seq (ss_while (st_bool (sd_e (sd_op sg_gt (sd_e (sd_cb sb_len (sa_cons (se_var (i := 5)) sa_nil))) (sd_e sd_c)))) sq1_law_drawn_rounds)
    (ss_app (i := 3) (by decide) (sd_cb sb_tupOf (sa_cons (sd_e (sd_cb sb_srtZ (sa_cons (se_var (i := 6)) sa_nil))) sa_nil))))
def p_law_drawn_rounds : Pf := runPB 2 9 (pSeq (pAsg (pLst pNil) (pgName 3))
    (pSeq (pFor (pRng1 (pCons (pVar 2) pNil)) (pgName 4) q2_law_drawn_rounds)
    (pRet (pCB pTupOf (pCons (pVar 3) pNil)))))
theorem sfb_law_drawn_rounds : SFB m_law_drawn_rounds p_law_drawn_rounds := sfb_run (O := [3, 5, 6]) 2 (by decide) (ss_seq (ss_asgN (by decide) (sn_lst sad_nil))
    (ss_seq (ss_for (si_rng1 (sad_cons (sd_var (i := 2) (by decide)) sad_nil)) (sg_name (by decide)) sq2_law_drawn_rounds)
    (ss_ret (sd_cb sb_tupOf (sa_cons (se_var (i := 3)) sa_nil)))))
def q1_law_right : Ps := pPar 4 3 (pCons (pOp pMul (pVar 4) (pC (.int 2))) (pCons (pOp pAdd (pVar 3) (pC (.int 1))) pNil))
theorem sq1_law_right : SS (some 0) [] b1_law_right q1_law_right := ss_parDD (by decide) (by decide) (sd_op sg_mul (sd_e (sd_var (i := 4) (by decide))) (sd_e sd_c)) (sd_op sg_add (sd_e (sd_var (i := 3) (by decide))) (sd_e sd_c))
def q2_law_right : Ps := pAsg (pOp pAdd (pVar 10) (pCB pListOf (pCons (pVar 11) pNil))) (pgName 10)
theorem sq2_law_right : SS (some 0) [] b2_law_right q2_law_right := ss_asg (sd_op sg_add (sd_e (sd_var (i := 10) (by decide))) (sd_e (sd_cb sb_listOf (sa_cons (sd_e (sd_var (i := 11) (by decide))) sa_nil)))) (sg_name (by decide))
def q3_law_right : Ps := pSeq (pAsg (pOp pAdd (pVar 6) (pCB pListOf (pCons (pVar 8) pNil))) (pgName 6))
    (pSeq (pAsg (pCB pBestMax (pCons (pLc (pItS (pCall p_known_by (pCons (pVar 1) (pCons (pC (.str "meet")) (pCons (pCB pTupOf (pCons (pVar 6) pNil)) pNil))))) [15] (pgName 15) pYes (pCB pLen (pCons (pVar 15) pNil))) pNil)) (pgName 9))
    (pSeq (pAsg (pLst pNil) (pgName 10))
    (pSeq (pFor (pItS (pVar 8)) (pgName 11) q2_law_right)
    (pSeq (pIfS (pOrT (pBool (pOp pGt (pVar 9) (pOp pMul (pC (.int 2)) (pVar 7)))) (pBool (pOp pNe (pLenSet (pVar 10)) (pOp pMul (pC (.int 2)) (pCB pLen (pCons (pVar 8) pNil)))))) (pRet (pC (.bool false))) pNext)
    (pAsg (pVar 9) (pgName 7))))))
theorem sq3_law_right : SS (some 0) [] b3_law_right q3_law_right := ss_seq (ss_asg (sd_op sg_add (sd_e (sd_var (i := 6) (by decide))) (sd_e (sd_cb sb_listOf (sa_cons (sd_e (sd_var (i := 8) (by decide))) sa_nil)))) (sg_name (by decide)))
    (ss_seq (ss_asg (sd_cb sb_bestMax (sa_cons (sd_e (sd_lc (by decide) (si_of (si0_seq (sd_call sf_known_by (sad_cons (sd_var (i := 1) (by decide)) (sad_cons sd_c (sad_cons (sd_cb sb_tupOf (sa_cons (sd_e (sd_var (i := 6) (by decide))) sa_nil)) sad_nil)))))) (sg_name (by decide)) st_yes (sd_cb sb_len (sa_cons (sd_e (sd_var (i := 15) (by decide))) sa_nil)))) sa_nil)) (sg_name (by decide)))
    (ss_seq (ss_asg (sd_lst sad_nil) (sg_name (by decide)))
    (ss_seq (ss_for (si0_seq (sd_var (i := 8) (by decide))) (sg_name (by decide)) sq2_law_right)
    (ss_seq (ss_if (st_or (st_bool (sd_e (sd_op sg_gt (sd_e (sd_var (i := 9) (by decide))) (sd_e (sd_op sg_mul (sd_e sd_c) (sd_e (sd_var (i := 7) (by decide)))))))) (st_bool (sd_e (sd_op sg_ne (sd_e (sd_lenSet (sd_e (sd_var (i := 10) (by decide))))) (sd_e (sd_op sg_mul (sd_e sd_c) (sd_e (sd_cb sb_len (sa_cons (sd_e (sd_var (i := 8) (by decide))) sa_nil))))))))) (ss_ret sd_c) ss_next)
    (ss_asg (sd_var (i := 9) (by decide)) (sg_name (by decide)))))))
def q4_law_right : Ps := pAsg (pOp pAdd (pVar 14) (pCB pListOf (pCons (pVar 8) pNil))) (pgName 14)
theorem sq4_law_right : SS (some 0) [] b4_law_right q4_law_right := ss_asg (sd_op sg_add (sd_e (sd_var (i := 14) (by decide))) (sd_e (sd_cb sb_listOf (sa_cons (sd_e (sd_var (i := 8) (by decide))) sa_nil)))) (sg_name (by decide))
def q5_law_right : Ps := pSeq (pAsg (pCall p_law_drawn_rounds (pCons (pVar 1) (pCons (pCB pMax2 (pCons (pC (.int 0)) (pCons (pOp Y.pSub (pVar 5) (pC (.int 1))) pNil))) pNil))) (pgName 13))
    (pSeq (pAsg (pLst pNil) (pgName 14))
    (pSeq (pFor (pItS (pVar 13)) (pgName 8) q4_law_right)
    (pSeq (pIfS (pAndT (pBool (pOp pGt (pVar 1) (pC (.int 1)))) (pTru (pCall p_shows_rounds (pCons (pVar 1) (pCons (pVar 13) pNil))))) (pRet (pC (.bool false))) pNext)
    (pIfS (pAndT (pBool (pOp pGt (pVar 1) (pC (.int 1)))) (pTru (pCall p_reaches (pCons (pVar 1) (pCons (pC (.str "meet")) (pCons (pCB pTupOf (pCons (pVar 14) pNil)) (pCons (pC (.str "everybody")) pNil))))))) (pRet (pC (.bool false))) pNext))))
theorem sq5_law_right : SS (some 0) [] b5_law_right q5_law_right := ss_seq (ss_asg (sd_callB rfl sfb_law_drawn_rounds (sad_cons (sd_var (i := 1) (by decide)) (sad_cons (sd_cb sb_max2 (sa_cons (sd_e sd_c) (sa_cons (sd_e (sd_op sg_sub (sd_e (sd_var (i := 5) (by decide))) (sd_e sd_c))) sa_nil))) sad_nil))) (sg_name (by decide)))
    (ss_seq (ss_asg (sd_lst sad_nil) (sg_name (by decide)))
    (ss_seq (ss_for (si0_seq (sd_var (i := 13) (by decide))) (sg_name (by decide)) sq4_law_right)
    (ss_seq (ss_if (st_and (st_bool (sd_e (sd_op sg_gt (sd_e (sd_var (i := 1) (by decide))) (sd_e sd_c)))) (st_tru (sd_e (sd_call sf_shows_rounds (sad_cons (sd_var (i := 1) (by decide)) (sad_cons (sd_var (i := 13) (by decide)) sad_nil)))))) (ss_ret sd_c) ss_next)
    (ss_if (st_and (st_bool (sd_e (sd_op sg_gt (sd_e (sd_var (i := 1) (by decide))) (sd_e sd_c)))) (st_tru (sd_e (sd_call sf_reaches (sad_cons (sd_var (i := 1) (by decide)) (sad_cons sd_c (sad_cons (sd_cb sb_tupOf (sa_cons (sd_e (sd_var (i := 14) (by decide))) sa_nil)) (sad_cons sd_c sad_nil)))))))) (ss_ret sd_c) ss_next))))
def p_law_right : Pf := runPB 0 16 (pSeq (pAsg (pOp pAdd (pC (.int 1)) (pCall p_law_take (pCons (pC (.int 10)) pNil))) (pgName 1))
    (pSeq (pUnp [2, 3, 4] (pCons (pCall (p_rounds_plan 6) (pCons (pVar 1) pNil)) (pCons (pC (.int 0)) (pCons (pC (.int 1)) pNil))))
    (pSeq (pWhile 1000 (pBool (pOp pLt (pVar 4) (pVar 1))) q1_law_right)
    (pSeq (pAsg (pOp pAdd (pVar 3) (pCB pInt (pCons (pAndV (pOp pGt (pVar 1) (pC (.int 1))) (pOp pEq (pOp pMod (pVar 1) (pC (.int 2))) (pC (.int 1)))) pNil))) (pgName 5))
    (pSeq (pIfS (pOrT (pBool (pOp pNe (pCall p_fewest_rounds (pCons (pVar 1) pNil)) (pVar 5))) (pBool (pOp pNe (pCallK 0 [0] p_fewest_rounds pNil (pCons (pVar 1) pNil)) (pVar 5)))) (pRet (pC (.bool false))) pNext)
    (pSeq (pIfS (pOrT (pBool (pOp pNe (pCB pLen (pCons (pVar 2) pNil)) (pVar 5))) (pNotT (pTru (pCall p_shows_rounds (pCons (pVar 1) (pCons (pVar 2) pNil)))))) (pRet (pC (.bool false))) pNext)
    (pSeq (pPar 6 7 (pCons (pLst pNil) (pCons (pC (.int 1)) pNil)))
    (pSeq (pFor (pItS (pVar 2)) (pgName 8) q3_law_right)
    (pSeq (pIfS (pNotT (pTru (pCall p_reaches (pCons (pVar 1) (pCons (pC (.str "meet")) (pCons (pCB pTupOf (pCons (pVar 6) pNil)) (pCons (pC (.str "everybody")) pNil))))))) (pRet (pC (.bool false))) pNext)
    (pSeq (pFor (pRng1 (pCons (pC (.int 3)) pNil)) (pgName 12) q5_law_right)
    (pRet (pC (.bool true)))))))))))))
theorem sfb_law_right : SFB m_law_right p_law_right := sfb_run (O := []) 0 (by decide) (ss_seq (ss_asg (sd_op sg_add (sd_e sd_c) (sd_e (sd_callB rfl sfb_law_take (sad_cons sd_c sad_nil)))) (sg_name (by decide)))
    (ss_seq (ss_unp (ks := [false, false, false]) (is := [2, 3, 4]) (by decide) (sk_d (sd_call (sf_rounds_plan 6) (sad_cons (sd_var (i := 1) (by decide)) sad_nil)) (sk_d sd_c (sk_d sd_c sk_nil))) rfl)
    (ss_seq (ss_while (st_bool (sd_e (sd_op sg_lt (sd_e (sd_var (i := 4) (by decide))) (sd_e (sd_var (i := 1) (by decide)))))) sq1_law_right)
    (ss_seq (ss_asg (sd_op sg_add (sd_e (sd_var (i := 3) (by decide))) (sd_e (sd_cb sb_int (sa_cons (sd_e (sd_and (sd_e (sd_op sg_gt (sd_e (sd_var (i := 1) (by decide))) (sd_e sd_c))) (sd_op sg_eq (sd_e (sd_op sg_mod (sd_e (sd_var (i := 1) (by decide))) (sd_e sd_c))) (sd_e sd_c)))) sa_nil)))) (sg_name (by decide)))
    (ss_seq (ss_if (st_or (st_bool (sd_e (sd_op sg_ne (sd_e (sd_call sf_fewest_rounds (sad_cons (sd_var (i := 1) (by decide)) sad_nil))) (sd_e (sd_var (i := 5) (by decide)))))) (st_bool (sd_e (sd_op sg_ne (sd_e (sd_callK (n := 1) sf_fewest_rounds sad_nil (sad_cons (sd_var (i := 1) (by decide)) sad_nil) (by decide))) (sd_e (sd_var (i := 5) (by decide))))))) (ss_ret sd_c) ss_next)
    (ss_seq (ss_if (st_or (st_bool (sd_e (sd_op sg_ne (sd_e (sd_cb sb_len (sa_cons (sd_e (sd_var (i := 2) (by decide))) sa_nil))) (sd_e (sd_var (i := 5) (by decide)))))) (st_not (st_tru (sd_e (sd_call sf_shows_rounds (sad_cons (sd_var (i := 1) (by decide)) (sad_cons (sd_var (i := 2) (by decide)) sad_nil))))))) (ss_ret sd_c) ss_next)
    (ss_seq (ss_parDD (by decide) (by decide) (sd_lst sad_nil) sd_c)
    (ss_seq (ss_for (si0_seq (sd_var (i := 2) (by decide))) (sg_name (by decide)) sq3_law_right)
    (ss_seq (ss_if (st_not (st_tru (sd_e (sd_call sf_reaches (sad_cons (sd_var (i := 1) (by decide)) (sad_cons sd_c (sad_cons (sd_cb sb_tupOf (sa_cons (sd_e (sd_var (i := 6) (by decide))) sa_nil)) (sad_cons sd_c sad_nil)))))))) (ss_ret sd_c) ss_next)
    (ss_seq (ss_for (si_rng1 (sad_cons sd_c sad_nil)) (sg_name (by decide)) sq5_law_right)
    (ss_ret sd_c)))))))))))
end P
namespace P
open PySem L2 Z Y
/-! people and plans -/
theorem upto_mem {c i : Int} : i ∈ upto c ↔ 0 ≤ i ∧ i < c := by
  unfold upto
  rw [List.mem_map]
  constructor
  · rintro ⟨k, hk, rfl⟩
    rw [List.mem_range] at hk
    omega
  · intro h
    exact ⟨i.toNat, List.mem_range.mpr (by omega), by omega⟩
theorem upto_len {c : Int} : (upto c).length = c.toNat := by
  unfold upto
  rw [List.length_map, List.length_range]
theorem upto_at {c : Int} {i : Nat} (h : i < c.toNat) : (upto c)[i]? = some (i : Int) := by
  unfold upto
  rw [List.getElem?_map, List.getElem?_range h]
  rfl
theorem upto_lt (c : Int) : (upto c).Pairwise (· < ·) := by
  unfold upto
  rw [List.pairwise_map]
  exact List.pairwise_lt_range.imp fun h => by omega
theorem rngP_upto (c : Int) : rngP 0 c.toNat = (upto c).map .int := by
  unfold rngP upto
  rw [List.map_map]
  refine List.map_congr_left fun i _ => ?_
  show PyData.int (0 + _) = PyData.int _
  rw [Int.zero_add]
theorem rg1_ok {c : Int} (h0 : 0 ≤ c) (h1 : c ≤ 1000000) : rg1 [.int c] = Y.ret ((upto c).map .int) := by
  show (if -(2 ^ 62) ≤ c ∧ c < 2 ^ 62 then Y.ret (rngP 0 c.toNat) else bad) = _
  rw [if_pos ⟨by omega, by omega⟩, rngP_upto]
def row (c : Int) (f : Int → Bool) : PyData := .list (((upto c).filter f).map .int)
def tab (c : Int) (F : Int → Int → Bool) : List PyData := (upto c).map fun r => row c fun o => F o r
theorem tab_len {c : Int} {F : Int → Int → Bool} : (tab c F).length = c.toNat := by
  unfold tab
  rw [List.length_map, upto_len]
theorem tab_at {c p : Int} {F : Int → Int → Bool} (h0 : 0 ≤ p) (h1 : p < c) : L2.atI (tab c F) p = some (row c fun o => F o p) := by
  have h : p.toNat < c.toNat := by omega
  rw [atI_int h0 (by rw [tab_len]; omega), ← List.getElem?_eq_getElem]
  unfold tab
  rw [List.getElem?_map, upto_at h]
  show some (row c fun o => F o ((p.toNat : Nat) : Int)) = _
  rw [show ((p.toNat : Nat) : Int) = p by omega]
theorem tab_ix {c p : Int} {F : Int → Int → Bool} (h0 : 0 ≤ p) (h1 : p < c) : ixN (tab c F).length p = some p.toNat := ixN_int h0 (by rw [tab_len]; omega)
theorem tab_set {c p : Int} {F : Int → Int → Bool} {g : Int → Bool} (h0 : 0 ≤ p) : (tab c F).set p.toNat (row c g) = tab c fun o r => if r = p then g o else F o r := by
  refine List.ext_getElem? fun i => ?_
  by_cases h : i < c.toNat
  · rw [List.getElem?_set]
    by_cases e : p.toNat = i
    · rw [if_pos e, if_pos (by rw [tab_len]; omega)]
      unfold tab
      rw [List.getElem?_map, upto_at h]
      have e2 : ((i : Nat) : Int) = p := by omega
      simp only [Option.map_some, e2, if_true]
    · rw [if_neg e]
      unfold tab
      rw [List.getElem?_map, List.getElem?_map, upto_at h]
      have e2 : ¬ ((i : Nat) : Int) = p := by omega
      simp only [Option.map_some, e2, if_false]
  · rw [List.getElem?_eq_none (by rw [List.length_set, tab_len]; omega), List.getElem?_eq_none (by rw [tab_len]; omega)]
theorem uq_row {c : Int} {f g : Int → Bool} : uq ((upto c).filter f ++ (upto c).filter g) = (upto c).filter fun o => f o || g o := by
  refine (uq_only ((upto_lt c).sublist List.filter_sublist) fun k => ?_).symm
  rw [List.mem_append, List.mem_filter, List.mem_filter, List.mem_filter]
  simp only [Bool.or_eq_true]
  constructor
  · rintro ⟨h, k | k⟩
    · exact .inl ⟨h, k⟩
    · exact .inr ⟨h, k⟩
  · rintro (⟨h, k⟩ | ⟨h, k⟩)
    · exact ⟨h, .inl k⟩
    · exact ⟨h, .inr k⟩
theorem filter_len {c : Int} {f : Int → Bool} : ((upto c).filter f).length ≤ c.toNat := by
  refine Nat.le_trans (List.length_filter_le _ _) ?_
  rw [upto_len]
  exact Nat.le_refl _
def pr (k : Bool) (q : Int × Int) : PyData := bif k then .tuple [.int q.1, .int q.2] else .list [.int q.1, .int q.2]
def pl (k : Bool × Bool) (ps : List (Int × Int)) : PyData := bif k.1 then .tuple (ps.map (pr k.2)) else .list (ps.map (pr k.2))
theorem seq_pr {k : Bool} {q : Int × Int} : seqD (pr k q) = some [.int q.1, .int q.2] := by cases k <;> rfl
theorem seq_pl {k : Bool × Bool} {ps : List (Int × Int)} : seqD (pl k ps) = some (ps.map (pr k.2)) := by obtain ⟨a, b⟩ := k; cases a <;> rfl
def Pok (c : Int) (ps : List (Int × Int)) : Prop := ∀ q ∈ ps, (0 ≤ q.1 ∧ q.1 < c) ∧ (0 ≤ q.2 ∧ q.2 < c) ∧ q.1 ≠ q.2
def stepF (m : Bool) (F : Int → Int → Bool) (q : Int × Int) : Int → Int → Bool := fun o r => if r = q.2 then F o q.1 || F o q.2 else if m = true ∧ r = q.1 then F o q.1 || F o q.2 else F o r
def own0 : Int → Int → Bool := fun o r => decide (o = r)
def has (m : Bool) (ps : List (Int × Int)) : Int → Int → Bool := ps.foldl (stepF m) own0
theorem joined_ok {c : Int} {f g : Int → Bool} (hc : c ≤ 30) : p_joined [row c f, row c g] = Y.ret (row c fun o => f o || g o) := by
  have h1 := filter_len (c := c) (f := f)
  have h2 := filter_len (c := c) (f := g)
  have hz : ((upto c).filter f).length + ((upto c).filter g).length ≤ sizeLine := Nat.le_trans (show _ ≤ 60 by omega) (by decide)
  have hz2 : ((upto c).filter f).length + ((upto c).filter g).length < 63 := by omega
  have hz3 : ((upto c).filter f ++ (upto c).filter g).length < 63 := by rw [List.length_append]; exact hz2
  unfold p_joined row
  simp only [pVar, pC, pOp, pUn, pNeg_i, pAdd_ii, pAdd_ss, pAdd_tt, pAdd_ll, pSub_ii, pLt_ii, pLe_ii, pGt_ii, pGe_ii, pDiv_ii, pMod_ii, pPow_ii, pMul_ii, pMul_li, pEq_a, pNe_a, isNP_i, isNP_s, isNP_b, isNP_l, isNP_t, isNP_n, pIsN_n, pNotN_n, pIx_s, pIx_t, pIx_l, boolP_b, truP_b, truP_n, truP_i, truP_l, truP_t, pTru, pBool, pNotT, pAndT, pOrT, pYes, pAndV, pOrV, pNotV, pIf, pNil, pCons, pTup, pLst, pCB, pLen_s, pLen_l, pLen_t, pAbs_i, pInt_i, pInt_b, pMin2_ii, pMax2_ii, pListOf_1, pTupOf_1, pAll_l, pAny_l, pSrt_l, pSS, pLR, tyP_n, tyP_b, tyP_i, tyP_s, tyP_l, tyP_t, pIsi, pIsi2, isTy, pChain, pRev, revP_t, pAug, augP_ii, pBestMin_1, pBestMax_1, pUnp, pgNames, pSSZ, lstP_l, pSrtZ_1, srtD_i, pNoP, intP_i, pPart, slP_t, slP_l, pSl, pCall, pCallK, pBor, bor_bool, pItS, rg1, rg2, pRng1, pRng2, zp_t, zp_l, pZip, en1_1, pEnum, seqD_l, seqD_t, pgName, pgNil, pgCons, pgTup, pgSeq, wipeE, pLc, pLc2, pNext, pSeq, pBreak, pCont, pRet, pRetN, pExpr, pIfS, pAsg, pPar, appP, pApp, setP, pSet, pFor, pWhile, endP_n, endP_r, runP, runPB, bd_ret, bd_bad, ofO_some, ofO_none, gpm, List.filterMap_cons, List.filterMap_nil, eqD_ii, eqD_ss, eqD_bb, eqD_nn, eqD_in, eqD_ni, eqD_bn, eqD_nb, eqD_sn, eqD_ns, eqD_is, eqD_si, eqD_bs, eqD_sb, Option.map_some, Option.map_none, Option.bind_some, Option.bind_none, List.getElem?_cons_zero, List.getElem?_cons_succ, List.set_cons_zero, List.set_cons_succ, List.map_cons, List.map_nil, List.replicate, List.cons_append, List.nil_append, List.append_nil, List.length_cons, List.length_nil, List.length_map, atI_0, atI_1, atI_2, atI_3, atI_4, atI_5, decide_eq_true_eq, Bool.not_true, Bool.not_false, Bool.true_and, Bool.false_and, Bool.and_true, Bool.and_false, Bool.or_true, Bool.true_or, Bool.or_false, Bool.false_or, Bool.false_eq_true, Bool.not_eq_true', decide_eq_false_iff_not, ↓reduceIte, decide_true, decide_false, reduceCtorEq, Nat.reduceAdd, Nat.reduceSub, Nat.reduceEqDiff, ← List.map_append, uqZ_i hz3, uq_row, List.length_append, hz]
theorem known_ok {c : Int} (h0 : 0 ≤ c) (hc : c ≤ 30) {w : Str} {k : Bool × Bool} {ps : List (Int × Int)} (hp : Pok c ps) : p_known_by [.int c, .str w, pl k ps] = Y.ret (.list (tab c (has (decide (w = "meet")) ps))) := by
  have e0 : lcP [7] (pgName 7) pYes (pLst (pCons (pVar 7) pNil)) ((upto c).map .int) [] [some (.int c), some (.str w), some (pl k ps), none, none, none, none, none] = Y.ret (tab c own0) := by
    have z1 : 1 ≤ sizeLine := by decide
    have := lcP_map (vs := [7]) (g := pgName 7) (tt := pYes) (te := pLst (pCons (pVar 7) pNil)) (E := [some (.int c), some (.str w), some (pl k ps), none, none, none, none, none]) PyData.int (fun _ => true) (fun r => .list [.int r]) (upto c) [] (fun z hz => by
      refine ⟨[some (.int c), some (.str w), some (pl k ps), none, none, none, none, some (.int z)], rfl, rfl, fun _ => ?_⟩
      simp only [pVar, pC, pOp, pUn, pNeg_i, pAdd_ii, pAdd_ss, pAdd_tt, pAdd_ll, pSub_ii, pLt_ii, pLe_ii, pGt_ii, pGe_ii, pDiv_ii, pMod_ii, pPow_ii, pMul_ii, pMul_li, pEq_a, pNe_a, isNP_i, isNP_s, isNP_b, isNP_l, isNP_t, isNP_n, pIsN_n, pNotN_n, pIx_s, pIx_t, pIx_l, boolP_b, truP_b, truP_n, truP_i, truP_l, truP_t, pTru, pBool, pNotT, pAndT, pOrT, pYes, pAndV, pOrV, pNotV, pIf, pNil, pCons, pTup, pLst, pCB, pLen_s, pLen_l, pLen_t, pAbs_i, pInt_i, pInt_b, pMin2_ii, pMax2_ii, pListOf_1, pTupOf_1, pAll_l, pAny_l, pSrt_l, pSS, pLR, tyP_n, tyP_b, tyP_i, tyP_s, tyP_l, tyP_t, pIsi, pIsi2, isTy, pChain, pRev, revP_t, pAug, augP_ii, pBestMin_1, pBestMax_1, pUnp, pgNames, pSSZ, lstP_l, pSrtZ_1, srtD_i, pNoP, intP_i, pPart, slP_t, slP_l, pSl, pCall, pCallK, pBor, bor_bool, pItS, rg1, rg2, pRng1, pRng2, zp_t, zp_l, pZip, en1_1, pEnum, seqD_l, seqD_t, pgName, pgNil, pgCons, pgTup, pgSeq, wipeE, pLc, pLc2, pNext, pSeq, pBreak, pCont, pRet, pRetN, pExpr, pIfS, pAsg, pPar, appP, pApp, setP, pSet, pFor, pWhile, endP_n, endP_r, runP, runPB, bd_ret, bd_bad, ofO_some, ofO_none, gpm, List.filterMap_cons, List.filterMap_nil, eqD_ii, eqD_ss, eqD_bb, eqD_nn, eqD_in, eqD_ni, eqD_bn, eqD_nb, eqD_sn, eqD_ns, eqD_is, eqD_si, eqD_bs, eqD_sb, Option.map_some, Option.map_none, Option.bind_some, Option.bind_none, List.getElem?_cons_zero, List.getElem?_cons_succ, List.set_cons_zero, List.set_cons_succ, List.map_cons, List.map_nil, List.replicate, List.cons_append, List.nil_append, List.append_nil, List.length_cons, List.length_nil, List.length_map, atI_0, atI_1, atI_2, atI_3, atI_4, atI_5, decide_eq_true_eq, Bool.not_true, Bool.not_false, Bool.true_and, Bool.false_and, Bool.and_true, Bool.and_false, Bool.or_true, Bool.true_or, Bool.or_false, Bool.false_or, Bool.false_eq_true, Bool.not_eq_true', decide_eq_false_iff_not, ↓reduceIte, decide_true, decide_false, reduceCtorEq, Nat.reduceAdd, Nat.reduceSub, Nat.reduceEqDiff, z1]) (by rw [upto_len]; exact Nat.le_trans (show 0 + c.toNat ≤ 30 by omega) (by decide))
    rw [List.filter_eq_self.mpr (fun _ _ => rfl), List.nil_append] at this
    rw [this]
    unfold tab
    congr 1
    refine List.map_congr_left fun r hr => ?_
    unfold row own0
    have hr2 := upto_mem.mp hr
    rw [show (upto c).filter (fun o => decide (o = r)) = [r] from ?_]
    · rfl
    · refine List.Perm.eq_of_pairwise (le := (· < ·)) (fun a b _ _ h1 h2 => by omega) ((upto_lt c).sublist List.filter_sublist) (List.pairwise_singleton _ _) ?_
      refine (List.perm_ext_iff_of_nodup (((upto_lt c).sublist List.filter_sublist).imp fun h => by omega) (List.pairwise_singleton _ _)).mpr fun a => ?_
      rw [List.mem_filter, decide_eq_true_eq, List.mem_singleton, upto_mem]
      constructor
      · exact fun h => h.2
      · rintro rfl
        exact ⟨hr2, rfl⟩
  obtain ⟨E', e1, F, g4, g5, g6, g7, rfl, hF, _⟩ := forP_det (g := pgSeq 2 (pgCons (pgName 4) (pgCons (pgName 5) pgNil))) (body := q1_known_by) (pr k.2)
    (fun r E => ∃ F g4 g5 g6 g7, E = [some (.int c), some (.str w), some (pl k ps), some (.list (tab c F)), g4, g5, g6, g7] ∧ r.foldl (stepF (decide (w = "meet"))) F = has (decide (w = "meet")) ps ∧ Pok c r)
    (fun q r E ⟨F, g4, g5, g6, g7, e, hF, hq⟩ => by
      subst e
      obtain ⟨⟨a0, a1⟩, ⟨b0, b1⟩, ne⟩ := hq q List.mem_cons_self
      refine ⟨[some (.int c), some (.str w), some (pl k ps), some (.list (tab c F)), some (.int q.1), some (.int q.2), g6, g7], _, ?_, ?_, stepF (decide (w = "meet")) F q, some (.int q.1), some (.int q.2), some (row c fun o => F o q.1 || F o q.2), g7, rfl, hF, fun y hy => hq y (List.mem_cons_of_mem _ hy)⟩
      · simp only [pVar, pC, pOp, pUn, pNeg_i, pAdd_ii, pAdd_ss, pAdd_tt, pAdd_ll, pSub_ii, pLt_ii, pLe_ii, pGt_ii, pGe_ii, pDiv_ii, pMod_ii, pPow_ii, pMul_ii, pMul_li, pEq_a, pNe_a, isNP_i, isNP_s, isNP_b, isNP_l, isNP_t, isNP_n, pIsN_n, pNotN_n, pIx_s, pIx_t, pIx_l, boolP_b, truP_b, truP_n, truP_i, truP_l, truP_t, pTru, pBool, pNotT, pAndT, pOrT, pYes, pAndV, pOrV, pNotV, pIf, pNil, pCons, pTup, pLst, pCB, pLen_s, pLen_l, pLen_t, pAbs_i, pInt_i, pInt_b, pMin2_ii, pMax2_ii, pListOf_1, pTupOf_1, pAll_l, pAny_l, pSrt_l, pSS, pLR, tyP_n, tyP_b, tyP_i, tyP_s, tyP_l, tyP_t, pIsi, pIsi2, isTy, pChain, pRev, revP_t, pAug, augP_ii, pBestMin_1, pBestMax_1, pUnp, pgNames, pSSZ, lstP_l, pSrtZ_1, srtD_i, pNoP, intP_i, pPart, slP_t, slP_l, pSl, pCall, pCallK, pBor, bor_bool, pItS, rg1, rg2, pRng1, pRng2, zp_t, zp_l, pZip, en1_1, pEnum, seqD_l, seqD_t, pgName, pgNil, pgCons, pgTup, pgSeq, wipeE, pLc, pLc2, pNext, pSeq, pBreak, pCont, pRet, pRetN, pExpr, pIfS, pAsg, pPar, appP, pApp, setP, pSet, pFor, pWhile, endP_n, endP_r, runP, runPB, bd_ret, bd_bad, ofO_some, ofO_none, gpm, List.filterMap_cons, List.filterMap_nil, eqD_ii, eqD_ss, eqD_bb, eqD_nn, eqD_in, eqD_ni, eqD_bn, eqD_nb, eqD_sn, eqD_ns, eqD_is, eqD_si, eqD_bs, eqD_sb, Option.map_some, Option.map_none, Option.bind_some, Option.bind_none, List.getElem?_cons_zero, List.getElem?_cons_succ, List.set_cons_zero, List.set_cons_succ, List.map_cons, List.map_nil, List.replicate, List.cons_append, List.nil_append, List.append_nil, List.length_cons, List.length_nil, List.length_map, atI_0, atI_1, atI_2, atI_3, atI_4, atI_5, decide_eq_true_eq, Bool.not_true, Bool.not_false, Bool.true_and, Bool.false_and, Bool.and_true, Bool.and_false, Bool.or_true, Bool.true_or, Bool.or_false, Bool.false_or, Bool.false_eq_true, Bool.not_eq_true', decide_eq_false_iff_not, ↓reduceIte, decide_true, decide_false, reduceCtorEq, Nat.reduceAdd, Nat.reduceSub, Nat.reduceEqDiff, seq_pr]
      · have ej := joined_ok (f := fun o => F o q.1) (g := fun o => F o q.2) hc
        have sq : seqD (row c fun o => F o q.1 || F o q.2) = some (((upto c).filter fun o => F o q.1 || F o q.2).map .int) := rfl
        have sr : PyData.list (((upto c).filter fun o => F o q.1 || F o q.2).map .int) = row c fun o => F o q.1 || F o q.2 := rfl
        unfold q1_known_by
        by_cases hw : w = "meet"
        · have : stepF true F q = fun o r => if r = q.1 then F o q.1 || F o q.2 else if r = q.2 then F o q.1 || F o q.2 else F o r := by
            funext o r
            unfold stepF
            by_cases h1 : r = q.2
            · by_cases h2 : r = q.1 <;> simp [h1, h2]
            · by_cases h2 : r = q.1 <;> simp [h1, h2]
          simp only [pVar, pC, pOp, pUn, pNeg_i, pAdd_ii, pAdd_ss, pAdd_tt, pAdd_ll, pSub_ii, pLt_ii, pLe_ii, pGt_ii, pGe_ii, pDiv_ii, pMod_ii, pPow_ii, pMul_ii, pMul_li, pEq_a, pNe_a, isNP_i, isNP_s, isNP_b, isNP_l, isNP_t, isNP_n, pIsN_n, pNotN_n, pIx_s, pIx_t, pIx_l, boolP_b, truP_b, truP_n, truP_i, truP_l, truP_t, pTru, pBool, pNotT, pAndT, pOrT, pYes, pAndV, pOrV, pNotV, pIf, pNil, pCons, pTup, pLst, pCB, pLen_s, pLen_l, pLen_t, pAbs_i, pInt_i, pInt_b, pMin2_ii, pMax2_ii, pListOf_1, pTupOf_1, pAll_l, pAny_l, pSrt_l, pSS, pLR, tyP_n, tyP_b, tyP_i, tyP_s, tyP_l, tyP_t, pIsi, pIsi2, isTy, pChain, pRev, revP_t, pAug, augP_ii, pBestMin_1, pBestMax_1, pUnp, pgNames, pSSZ, lstP_l, pSrtZ_1, srtD_i, pNoP, intP_i, pPart, slP_t, slP_l, pSl, pCall, pCallK, pBor, bor_bool, pItS, rg1, rg2, pRng1, pRng2, zp_t, zp_l, pZip, en1_1, pEnum, seqD_l, seqD_t, pgName, pgNil, pgCons, pgTup, pgSeq, wipeE, pLc, pLc2, pNext, pSeq, pBreak, pCont, pRet, pRetN, pExpr, pIfS, pAsg, pPar, appP, pApp, setP, pSet, pFor, pWhile, endP_n, endP_r, runP, runPB, bd_ret, bd_bad, ofO_some, ofO_none, gpm, List.filterMap_cons, List.filterMap_nil, eqD_ii, eqD_ss, eqD_bb, eqD_nn, eqD_in, eqD_ni, eqD_bn, eqD_nb, eqD_sn, eqD_ns, eqD_is, eqD_si, eqD_bs, eqD_sb, Option.map_some, Option.map_none, Option.bind_some, Option.bind_none, List.getElem?_cons_zero, List.getElem?_cons_succ, List.set_cons_zero, List.set_cons_succ, List.map_cons, List.map_nil, List.replicate, List.cons_append, List.nil_append, List.append_nil, List.length_cons, List.length_nil, List.length_map, atI_0, atI_1, atI_2, atI_3, atI_4, atI_5, decide_eq_true_eq, Bool.not_true, Bool.not_false, Bool.true_and, Bool.false_and, Bool.and_true, Bool.and_false, Bool.or_true, Bool.true_or, Bool.or_false, Bool.false_or, Bool.false_eq_true, Bool.not_eq_true', decide_eq_false_iff_not, ↓reduceIte, decide_true, decide_false, reduceCtorEq, Nat.reduceAdd, Nat.reduceSub, Nat.reduceEqDiff, tab_at a0 a1, tab_at b0 b1, ej, tab_ix a0 a1, tab_ix b0 b1, tab_set a0, tab_set b0, hw, sq, sr, this]
        · have : stepF false F q = fun o r => if r = q.2 then F o q.1 || F o q.2 else F o r := by
            funext o r
            unfold stepF
            simp
          simp only [pVar, pC, pOp, pUn, pNeg_i, pAdd_ii, pAdd_ss, pAdd_tt, pAdd_ll, pSub_ii, pLt_ii, pLe_ii, pGt_ii, pGe_ii, pDiv_ii, pMod_ii, pPow_ii, pMul_ii, pMul_li, pEq_a, pNe_a, isNP_i, isNP_s, isNP_b, isNP_l, isNP_t, isNP_n, pIsN_n, pNotN_n, pIx_s, pIx_t, pIx_l, boolP_b, truP_b, truP_n, truP_i, truP_l, truP_t, pTru, pBool, pNotT, pAndT, pOrT, pYes, pAndV, pOrV, pNotV, pIf, pNil, pCons, pTup, pLst, pCB, pLen_s, pLen_l, pLen_t, pAbs_i, pInt_i, pInt_b, pMin2_ii, pMax2_ii, pListOf_1, pTupOf_1, pAll_l, pAny_l, pSrt_l, pSS, pLR, tyP_n, tyP_b, tyP_i, tyP_s, tyP_l, tyP_t, pIsi, pIsi2, isTy, pChain, pRev, revP_t, pAug, augP_ii, pBestMin_1, pBestMax_1, pUnp, pgNames, pSSZ, lstP_l, pSrtZ_1, srtD_i, pNoP, intP_i, pPart, slP_t, slP_l, pSl, pCall, pCallK, pBor, bor_bool, pItS, rg1, rg2, pRng1, pRng2, zp_t, zp_l, pZip, en1_1, pEnum, seqD_l, seqD_t, pgName, pgNil, pgCons, pgTup, pgSeq, wipeE, pLc, pLc2, pNext, pSeq, pBreak, pCont, pRet, pRetN, pExpr, pIfS, pAsg, pPar, appP, pApp, setP, pSet, pFor, pWhile, endP_n, endP_r, runP, runPB, bd_ret, bd_bad, ofO_some, ofO_none, gpm, List.filterMap_cons, List.filterMap_nil, eqD_ii, eqD_ss, eqD_bb, eqD_nn, eqD_in, eqD_ni, eqD_bn, eqD_nb, eqD_sn, eqD_ns, eqD_is, eqD_si, eqD_bs, eqD_sb, Option.map_some, Option.map_none, Option.bind_some, Option.bind_none, List.getElem?_cons_zero, List.getElem?_cons_succ, List.set_cons_zero, List.set_cons_succ, List.map_cons, List.map_nil, List.replicate, List.cons_append, List.nil_append, List.append_nil, List.length_cons, List.length_nil, List.length_map, atI_0, atI_1, atI_2, atI_3, atI_4, atI_5, decide_eq_true_eq, Bool.not_true, Bool.not_false, Bool.true_and, Bool.false_and, Bool.and_true, Bool.and_false, Bool.or_true, Bool.true_or, Bool.or_false, Bool.false_or, Bool.false_eq_true, Bool.not_eq_true', decide_eq_false_iff_not, ↓reduceIte, decide_true, decide_false, reduceCtorEq, Nat.reduceAdd, Nat.reduceSub, Nat.reduceEqDiff, tab_at a0 a1, tab_at b0 b1, ej, tab_ix b0 b1, tab_set b0, hw, this])
    ps [some (.int c), some (.str w), some (pl k ps), some (.list (tab c own0)), none, none, none, none] ⟨own0, none, none, none, none, rfl, rfl, hp⟩
  unfold p_known_by
  simp only [pVar, pC, pOp, pUn, pNeg_i, pAdd_ii, pAdd_ss, pAdd_tt, pAdd_ll, pSub_ii, pLt_ii, pLe_ii, pGt_ii, pGe_ii, pDiv_ii, pMod_ii, pPow_ii, pMul_ii, pMul_li, pEq_a, pNe_a, isNP_i, isNP_s, isNP_b, isNP_l, isNP_t, isNP_n, pIsN_n, pNotN_n, pIx_s, pIx_t, pIx_l, boolP_b, truP_b, truP_n, truP_i, truP_l, truP_t, pTru, pBool, pNotT, pAndT, pOrT, pYes, pAndV, pOrV, pNotV, pIf, pNil, pCons, pTup, pLst, pCB, pLen_s, pLen_l, pLen_t, pAbs_i, pInt_i, pInt_b, pMin2_ii, pMax2_ii, pListOf_1, pTupOf_1, pAll_l, pAny_l, pSrt_l, pSS, pLR, tyP_n, tyP_b, tyP_i, tyP_s, tyP_l, tyP_t, pIsi, pIsi2, isTy, pChain, pRev, revP_t, pAug, augP_ii, pBestMin_1, pBestMax_1, pUnp, pgNames, pSSZ, lstP_l, pSrtZ_1, srtD_i, pNoP, intP_i, pPart, slP_t, slP_l, pSl, pCall, pCallK, pBor, bor_bool, pItS, rg2, pRng1, pRng2, zp_t, zp_l, pZip, en1_1, pEnum, seqD_l, seqD_t, pgName, pgNil, pgCons, pgTup, pgSeq, wipeE, pLc, pLc2, pNext, pSeq, pBreak, pCont, pRet, pRetN, pExpr, pIfS, pAsg, pPar, appP, pApp, setP, pSet, pFor, pWhile, endP_n, endP_r, runP, runPB, bd_ret, bd_bad, ofO_some, ofO_none, gpm, List.filterMap_cons, List.filterMap_nil, eqD_ii, eqD_ss, eqD_bb, eqD_nn, eqD_in, eqD_ni, eqD_bn, eqD_nb, eqD_sn, eqD_ns, eqD_is, eqD_si, eqD_bs, eqD_sb, Option.map_some, Option.map_none, Option.bind_some, Option.bind_none, List.getElem?_cons_zero, List.getElem?_cons_succ, List.set_cons_zero, List.set_cons_succ, List.map_cons, List.map_nil, List.replicate, List.cons_append, List.nil_append, List.append_nil, List.length_cons, List.length_nil, List.length_map, atI_0, atI_1, atI_2, atI_3, atI_4, atI_5, decide_eq_true_eq, Bool.not_true, Bool.not_false, Bool.true_and, Bool.false_and, Bool.and_true, Bool.and_false, Bool.or_true, Bool.true_or, Bool.or_false, Bool.false_or, Bool.false_eq_true, Bool.not_eq_true', decide_eq_false_iff_not, ↓reduceIte, decide_true, decide_false, reduceCtorEq, Nat.reduceAdd, Nat.reduceSub, Nat.reduceEqDiff, rg1_ok h0 (show c ≤ 1000000 by omega), e0, seq_pl, e1]
  rw [show F = has (decide (w = "meet")) ps from hF]
/-! pairs -/
def prs (c : Int) : List (Int × Int) := (upto c).flatMap fun i => ((upto c).filter fun j => decide (i < j)).map fun j => (i, j)
theorem prs_mem {c : Int} {q : Int × Int} (h : q ∈ prs c) : (0 ≤ q.1 ∧ q.1 < c) ∧ 0 ≤ q.2 ∧ q.2 < c := by
  unfold prs at h
  obtain ⟨i, hi, h⟩ := List.mem_flatMap.mp h
  obtain ⟨j, hj, rfl⟩ := List.mem_map.mp h
  exact ⟨upto_mem.mp hi, upto_mem.mp (List.mem_filter.mp hj).1⟩
theorem fm_len {α β : Type} {k : Nat} {f : α → List β} (h : ∀ x, (f x).length ≤ k) : ∀ xs : List α, (xs.flatMap f).length ≤ xs.length * k
  | [] => by simp
  | x :: r => by
    rw [List.flatMap_cons, List.length_append, List.length_cons, Nat.add_mul, Nat.one_mul]
    have := h x
    have := fm_len h r
    omega
theorem sq_len {c : Int} (hc : c ≤ 30) : c.toNat * c.toNat ≤ 900 := Nat.le_trans (Nat.mul_le_mul (show c.toNat ≤ 30 by omega) (show c.toNat ≤ 30 by omega)) (by decide)
theorem prs_len {c : Int} (hc : c ≤ 30) : (prs c).length ≤ 900 := by
  refine Nat.le_trans (fm_len (k := c.toNat) (fun i => ?_) _) ?_
  · rw [List.length_map]
    exact filter_len
  · rw [upto_len]
    exact sq_len hc
theorem pairs_ok {c : Int} (hc : c ≤ 30) : p_pairs_of [.list ((upto c).map .int)] = Y.ret (.list ((prs c).map (pr true))) := by
  have z2 : 2 ≤ sizeLine := by decide
  have e := lc2P_map (vs := [1, 2]) (vs1 := [2]) (g := pgName 1) (g1 := pgName 2) (tt := pYes) (tt1 := pBool (pOp pLt (pVar 1) (pVar 2))) (src1 := pItS (pVar 0)) (te := pTup (pCons (pVar 1) (pCons (pVar 2) pNil))) (E := [some (.list ((upto c).map .int)), none, none])
    PyData.int (fun _ => true) PyData.int (fun _ => upto c) (fun i j => decide (i < j)) (fun i j => pr true (i, j)) (upto c) [] (fun i hi => by
      refine ⟨[some (.list ((upto c).map .int)), some (.int i), none], rfl, rfl, fun _ => ⟨rfl, fun j hj => ⟨[some (.list ((upto c).map .int)), some (.int i), some (.int j)], rfl, ?_, fun _ => ?_⟩⟩⟩
      · simp only [pVar, pC, pOp, pUn, pNeg_i, pAdd_ii, pAdd_ss, pAdd_tt, pAdd_ll, pSub_ii, pLt_ii, pLe_ii, pGt_ii, pGe_ii, pDiv_ii, pMod_ii, pPow_ii, pMul_ii, pMul_li, pEq_a, pNe_a, isNP_i, isNP_s, isNP_b, isNP_l, isNP_t, isNP_n, pIsN_n, pNotN_n, pIx_s, pIx_t, pIx_l, boolP_b, truP_b, truP_n, truP_i, truP_l, truP_t, pTru, pBool, pNotT, pAndT, pOrT, pYes, pAndV, pOrV, pNotV, pIf, pNil, pCons, pTup, pLst, pCB, pLen_s, pLen_l, pLen_t, pAbs_i, pInt_i, pInt_b, pMin2_ii, pMax2_ii, pListOf_1, pTupOf_1, pAll_l, pAny_l, pSrt_l, pSS, pLR, tyP_n, tyP_b, tyP_i, tyP_s, tyP_l, tyP_t, pIsi, pIsi2, isTy, pChain, pRev, revP_t, pAug, augP_ii, pBestMin_1, pBestMax_1, pUnp, pgNames, pSSZ, lstP_l, pSrtZ_1, srtD_i, pNoP, intP_i, pPart, slP_t, slP_l, pSl, pCall, pCallK, pBor, bor_bool, pItS, rg1, rg2, pRng1, pRng2, zp_t, zp_l, pZip, en1_1, pEnum, seqD_l, seqD_t, pgName, pgNil, pgCons, pgTup, pgSeq, wipeE, pLc, pLc2, pNext, pSeq, pBreak, pCont, pRet, pRetN, pExpr, pIfS, pAsg, pPar, appP, pApp, setP, pSet, pFor, pWhile, endP_n, endP_r, runP, runPB, bd_ret, bd_bad, ofO_some, ofO_none, gpm, List.filterMap_cons, List.filterMap_nil, eqD_ii, eqD_ss, eqD_bb, eqD_nn, eqD_in, eqD_ni, eqD_bn, eqD_nb, eqD_sn, eqD_ns, eqD_is, eqD_si, eqD_bs, eqD_sb, Option.map_some, Option.map_none, Option.bind_some, Option.bind_none, List.getElem?_cons_zero, List.getElem?_cons_succ, List.set_cons_zero, List.set_cons_succ, List.map_cons, List.map_nil, List.replicate, List.cons_append, List.nil_append, List.append_nil, List.length_cons, List.length_nil, List.length_map, atI_0, atI_1, atI_2, atI_3, atI_4, atI_5, decide_eq_true_eq, Bool.not_true, Bool.not_false, Bool.true_and, Bool.false_and, Bool.and_true, Bool.and_false, Bool.or_true, Bool.true_or, Bool.or_false, Bool.false_or, Bool.false_eq_true, Bool.not_eq_true', decide_eq_false_iff_not, ↓reduceIte, decide_true, decide_false, reduceCtorEq, Nat.reduceAdd, Nat.reduceSub, Nat.reduceEqDiff]
      · simp only [pVar, pC, pOp, pUn, pNeg_i, pAdd_ii, pAdd_ss, pAdd_tt, pAdd_ll, pSub_ii, pLt_ii, pLe_ii, pGt_ii, pGe_ii, pDiv_ii, pMod_ii, pPow_ii, pMul_ii, pMul_li, pEq_a, pNe_a, isNP_i, isNP_s, isNP_b, isNP_l, isNP_t, isNP_n, pIsN_n, pNotN_n, pIx_s, pIx_t, pIx_l, boolP_b, truP_b, truP_n, truP_i, truP_l, truP_t, pTru, pBool, pNotT, pAndT, pOrT, pYes, pAndV, pOrV, pNotV, pIf, pNil, pCons, pTup, pLst, pCB, pLen_s, pLen_l, pLen_t, pAbs_i, pInt_i, pInt_b, pMin2_ii, pMax2_ii, pListOf_1, pTupOf_1, pAll_l, pAny_l, pSrt_l, pSS, pLR, tyP_n, tyP_b, tyP_i, tyP_s, tyP_l, tyP_t, pIsi, pIsi2, isTy, pChain, pRev, revP_t, pAug, augP_ii, pBestMin_1, pBestMax_1, pUnp, pgNames, pSSZ, lstP_l, pSrtZ_1, srtD_i, pNoP, intP_i, pPart, slP_t, slP_l, pSl, pCall, pCallK, pBor, bor_bool, pItS, rg1, rg2, pRng1, pRng2, zp_t, zp_l, pZip, en1_1, pEnum, seqD_l, seqD_t, pgName, pgNil, pgCons, pgTup, pgSeq, wipeE, pLc, pLc2, pNext, pSeq, pBreak, pCont, pRet, pRetN, pExpr, pIfS, pAsg, pPar, appP, pApp, setP, pSet, pFor, pWhile, endP_n, endP_r, runP, runPB, bd_ret, bd_bad, ofO_some, ofO_none, gpm, List.filterMap_cons, List.filterMap_nil, eqD_ii, eqD_ss, eqD_bb, eqD_nn, eqD_in, eqD_ni, eqD_bn, eqD_nb, eqD_sn, eqD_ns, eqD_is, eqD_si, eqD_bs, eqD_sb, Option.map_some, Option.map_none, Option.bind_some, Option.bind_none, List.getElem?_cons_zero, List.getElem?_cons_succ, List.set_cons_zero, List.set_cons_succ, List.map_cons, List.map_nil, List.replicate, List.cons_append, List.nil_append, List.append_nil, List.length_cons, List.length_nil, List.length_map, atI_0, atI_1, atI_2, atI_3, atI_4, atI_5, decide_eq_true_eq, Bool.not_true, Bool.not_false, Bool.true_and, Bool.false_and, Bool.and_true, Bool.and_false, Bool.or_true, Bool.true_or, Bool.or_false, Bool.false_or, Bool.false_eq_true, Bool.not_eq_true', decide_eq_false_iff_not, ↓reduceIte, decide_true, decide_false, reduceCtorEq, Nat.reduceAdd, Nat.reduceSub, Nat.reduceEqDiff, z2, pr, cond_true]) (by
      refine Nat.le_trans (Nat.add_le_add_left (fm_len (k := c.toNat) (fun i => ?_) _) _) ?_
      · rw [upto_len]
        exact Nat.le_refl _
      · rw [upto_len]
        exact Nat.le_trans (show 0 + c.toNat * c.toNat ≤ 900 by have := sq_len hc; omega) (by decide))
  rw [List.filter_eq_self.mpr (fun _ _ => rfl), List.nil_append] at e
  have e2 : (prs c).map (pr true) = (upto c).flatMap fun i => ((upto c).filter fun j => decide (i < j)).map fun j => pr true (i, j) := by
    unfold prs
    rw [List.map_flatMap]
    simp only [List.map_map]
    rfl
  unfold p_pairs_of
  simp only [pVar, pC, pOp, pUn, pNeg_i, pAdd_ii, pAdd_ss, pAdd_tt, pAdd_ll, pSub_ii, pLt_ii, pLe_ii, pGt_ii, pGe_ii, pDiv_ii, pMod_ii, pPow_ii, pMul_ii, pMul_li, pEq_a, pNe_a, isNP_i, isNP_s, isNP_b, isNP_l, isNP_t, isNP_n, pIsN_n, pNotN_n, pIx_s, pIx_t, pIx_l, boolP_b, truP_b, truP_n, truP_i, truP_l, truP_t, pTru, pBool, pNotT, pAndT, pOrT, pYes, pAndV, pOrV, pNotV, pIf, pNil, pCons, pTup, pLst, pCB, pLen_s, pLen_l, pLen_t, pAbs_i, pInt_i, pInt_b, pMin2_ii, pMax2_ii, pListOf_1, pTupOf_1, pAll_l, pAny_l, pSrt_l, pSS, pLR, tyP_n, tyP_b, tyP_i, tyP_s, tyP_l, tyP_t, pIsi, pIsi2, isTy, pChain, pRev, revP_t, pAug, augP_ii, pBestMin_1, pBestMax_1, pUnp, pgNames, pSSZ, lstP_l, pSrtZ_1, srtD_i, pNoP, intP_i, pPart, slP_t, slP_l, pSl, pCall, pCallK, pBor, bor_bool, pItS, rg1, rg2, pRng1, pRng2, zp_t, zp_l, pZip, en1_1, pEnum, seqD_l, seqD_t, pgName, pgNil, pgCons, pgTup, pgSeq, wipeE, pLc, pLc2, pNext, pSeq, pBreak, pCont, pRet, pRetN, pExpr, pIfS, pAsg, pPar, appP, pApp, setP, pSet, pFor, pWhile, endP_n, endP_r, runP, runPB, bd_ret, bd_bad, ofO_some, ofO_none, gpm, List.filterMap_cons, List.filterMap_nil, eqD_ii, eqD_ss, eqD_bb, eqD_nn, eqD_in, eqD_ni, eqD_bn, eqD_nb, eqD_sn, eqD_ns, eqD_is, eqD_si, eqD_bs, eqD_sb, Option.map_some, Option.map_none, Option.bind_some, Option.bind_none, List.getElem?_cons_zero, List.getElem?_cons_succ, List.set_cons_zero, List.set_cons_succ, List.map_cons, List.map_nil, List.replicate, List.cons_append, List.nil_append, List.append_nil, List.length_cons, List.length_nil, List.length_map, atI_0, atI_1, atI_2, atI_3, atI_4, atI_5, decide_eq_true_eq, Bool.not_true, Bool.not_false, Bool.true_and, Bool.false_and, Bool.and_true, Bool.and_false, Bool.or_true, Bool.true_or, Bool.or_false, Bool.false_or, Bool.false_eq_true, Bool.not_eq_true', decide_eq_false_iff_not, ↓reduceIte, decide_true, decide_false, reduceCtorEq, Nat.reduceAdd, Nat.reduceSub, Nat.reduceEqDiff, e]
  rw [e2]
theorem ix_pr0 {k : Bool} {q : Int × Int} : pIx (pr k q) (.int 0) = some (.int q.1) := by cases k <;> exact atI_0
theorem ix_pr1 {k : Bool} {q : Int × Int} : pIx (pr k q) (.int 1) = some (.int q.2) := by cases k <;> exact atI_1
theorem mem_row {c a : Int} {f : Int → Bool} (h0 : 0 ≤ a) (h1 : a < c) : decide (a ∈ (upto c).filter f) = f a := by
  rw [Bool.eq_iff_iff, decide_eq_true_eq, List.mem_filter, upto_mem]
  exact ⟨fun h => h.2, fun h => ⟨⟨h0, h1⟩, h⟩⟩
theorem in_row {c a : Int} {f : Int → Bool} (h0 : 0 ≤ a) (h1 : a < c) : pIn false (.int a) (row c f) = some (.bool (f a)) := by
  unfold row
  rw [pIn_lt, mem_row h0 h1]
theorem ni_row {c a : Int} {f : Int → Bool} (h0 : 0 ≤ a) (h1 : a < c) : pIn true (.int a) (row c f) = some (.bool (!f a)) := by
  unfold row
  rw [pIn_lf, mem_row h0 h1]
theorem both_ok {c : Int} {f : Int → Bool} {k : Bool} {q : Int × Int} (h : (0 ≤ q.1 ∧ q.1 < c) ∧ 0 ≤ q.2 ∧ q.2 < c) : p_has_both [row c f, pr k q] = Y.ret (.bool (f q.1 && f q.2)) := by
  unfold p_has_both
  simp only [pVar, pC, pOp, pUn, pNeg_i, pAdd_ii, pAdd_ss, pAdd_tt, pAdd_ll, pSub_ii, pLt_ii, pLe_ii, pGt_ii, pGe_ii, pDiv_ii, pMod_ii, pPow_ii, pMul_ii, pMul_li, pEq_a, pNe_a, isNP_i, isNP_s, isNP_b, isNP_l, isNP_t, isNP_n, pIsN_n, pNotN_n, boolP_b, truP_b, truP_n, truP_i, truP_l, truP_t, pTru, pBool, pNotT, pAndT, pOrT, pYes, pAndV, pOrV, pNotV, pIf, pNil, pCons, pTup, pLst, pCB, pLen_s, pLen_l, pLen_t, pAbs_i, pInt_i, pInt_b, pMin2_ii, pMax2_ii, pListOf_1, pTupOf_1, pAll_l, pAny_l, pSrt_l, pSS, pLR, tyP_n, tyP_b, tyP_i, tyP_s, tyP_l, tyP_t, pIsi, pIsi2, isTy, pChain, pRev, revP_t, pAug, augP_ii, pBestMin_1, pBestMax_1, pUnp, pgNames, pSSZ, lstP_l, pSrtZ_1, srtD_i, pNoP, intP_i, pPart, slP_t, slP_l, pSl, pCall, pCallK, pBor, bor_bool, pItS, rg1, rg2, pRng1, pRng2, zp_t, zp_l, pZip, en1_1, pEnum, seqD_l, seqD_t, pgName, pgNil, pgCons, pgTup, pgSeq, wipeE, pLc, pLc2, pNext, pSeq, pBreak, pCont, pRet, pRetN, pExpr, pIfS, pAsg, pPar, appP, pApp, setP, pSet, pFor, pWhile, endP_n, endP_r, runP, runPB, bd_ret, bd_bad, ofO_some, ofO_none, gpm, List.filterMap_cons, List.filterMap_nil, eqD_ii, eqD_ss, eqD_bb, eqD_nn, eqD_in, eqD_ni, eqD_bn, eqD_nb, eqD_sn, eqD_ns, eqD_is, eqD_si, eqD_bs, eqD_sb, Option.map_some, Option.map_none, Option.bind_some, Option.bind_none, List.getElem?_cons_zero, List.getElem?_cons_succ, List.set_cons_zero, List.set_cons_succ, List.map_cons, List.map_nil, List.replicate, List.cons_append, List.nil_append, List.append_nil, List.length_cons, List.length_nil, List.length_map, atI_0, atI_1, atI_2, atI_3, atI_4, atI_5, decide_eq_true_eq, Bool.not_true, Bool.not_false, Bool.true_and, Bool.false_and, Bool.and_true, Bool.and_false, Bool.or_true, Bool.true_or, Bool.or_false, Bool.false_or, Bool.false_eq_true, Bool.not_eq_true', decide_eq_false_iff_not, ↓reduceIte, decide_true, decide_false, reduceCtorEq, Nat.reduceAdd, Nat.reduceSub, Nat.reduceEqDiff, ix_pr0, ix_pr1, in_row h.1.1 h.1.2, in_row h.2.1 h.2.2]
  cases f q.1 <;> rfl
def unkn (c : Int) (H : Int → Int → Bool) : List (Int × Int) := (prs c).filter fun q => !((upto c).any fun r => H q.1 r && H q.2 r)
theorem lr_ok {c : Int} (h0 : 0 ≤ c) (hc : c ≤ 30) : (if 0 ≤ c ∧ c ≤ 1000000 then Y.ret (PyData.list ((upto c).map .int)) else bad) = Y.ret (.list ((upto c).map .int)) := if_pos ⟨h0, by omega⟩
theorem unknown_ok {c : Int} (h0 : 0 ≤ c) (hc : c ≤ 30) {w : Str} {k : Bool × Bool} {ps : List (Int × Int)} (hp : Pok c ps) : p_unknown_pairs [.int c, .str w, pl k ps] = Y.ret (.list ((unkn c (has (decide (w = "meet")) ps)).map (pr true))) := by
  have ek := known_ok h0 hc (w := w) (k := k) hp
  generalize has (decide (w = "meet")) ps = H at *
  generalize pl k ps = x at *
  have inner : ∀ q ∈ prs c, lcP [5] (pgName 5) pYes (pCall p_has_both (pCons (pVar 5) (pCons (pVar 4) pNil))) (tab c H) [] [some (.int c), some (.str w), some x, some (.list (tab c H)), some (pr true q), none] = Y.ret ((upto c).map fun r => .bool (H q.1 r && H q.2 r)) := fun q hq => by
    have e := lcP_map (vs := [5]) (g := pgName 5) (tt := pYes) (te := pCall p_has_both (pCons (pVar 5) (pCons (pVar 4) pNil))) (E := [some (.int c), some (.str w), some x, some (.list (tab c H)), some (pr true q), none]) (fun r => row c fun o => H o r) (fun _ => true) (fun r => .bool (H q.1 r && H q.2 r)) (upto c) [] (fun z hz => by
      refine ⟨[some (.int c), some (.str w), some x, some (.list (tab c H)), some (pr true q), some (row c fun o => H o z)], rfl, rfl, fun _ => ?_⟩
      simp only [pVar, pC, pOp, pUn, pNeg_i, pAdd_ii, pAdd_ss, pAdd_tt, pAdd_ll, pSub_ii, pLt_ii, pLe_ii, pGt_ii, pGe_ii, pDiv_ii, pMod_ii, pPow_ii, pMul_ii, pMul_li, pEq_a, pNe_a, isNP_i, isNP_s, isNP_b, isNP_l, isNP_t, isNP_n, pIsN_n, pNotN_n, pIx_s, pIx_t, pIx_l, boolP_b, truP_b, truP_n, truP_i, truP_l, truP_t, pTru, pBool, pNotT, pAndT, pOrT, pYes, pAndV, pOrV, pNotV, pIf, pNil, pCons, pTup, pLst, pCB, pLen_s, pLen_l, pLen_t, pAbs_i, pInt_i, pInt_b, pMin2_ii, pMax2_ii, pListOf_1, pTupOf_1, pAll_l, pAny_l, pSrt_l, pSS, pLR, tyP_n, tyP_b, tyP_i, tyP_s, tyP_l, tyP_t, pIsi, pIsi2, isTy, pChain, pRev, revP_t, pAug, augP_ii, pBestMin_1, pBestMax_1, pUnp, pgNames, pSSZ, lstP_l, pSrtZ_1, srtD_i, pNoP, intP_i, pPart, slP_t, slP_l, pSl, pCall, pCallK, pBor, bor_bool, pItS, rg1, rg2, pRng1, pRng2, zp_t, zp_l, pZip, en1_1, pEnum, seqD_l, seqD_t, pgName, pgNil, pgCons, pgTup, pgSeq, wipeE, pLc, pLc2, pNext, pSeq, pBreak, pCont, pRet, pRetN, pExpr, pIfS, pAsg, pPar, appP, pApp, setP, pSet, pFor, pWhile, endP_n, endP_r, runP, runPB, bd_ret, bd_bad, ofO_some, ofO_none, gpm, List.filterMap_cons, List.filterMap_nil, eqD_ii, eqD_ss, eqD_bb, eqD_nn, eqD_in, eqD_ni, eqD_bn, eqD_nb, eqD_sn, eqD_ns, eqD_is, eqD_si, eqD_bs, eqD_sb, Option.map_some, Option.map_none, Option.bind_some, Option.bind_none, List.getElem?_cons_zero, List.getElem?_cons_succ, List.set_cons_zero, List.set_cons_succ, List.map_cons, List.map_nil, List.replicate, List.cons_append, List.nil_append, List.append_nil, List.length_cons, List.length_nil, List.length_map, atI_0, atI_1, atI_2, atI_3, atI_4, atI_5, decide_eq_true_eq, Bool.not_true, Bool.not_false, Bool.true_and, Bool.false_and, Bool.and_true, Bool.and_false, Bool.or_true, Bool.true_or, Bool.or_false, Bool.false_or, Bool.false_eq_true, Bool.not_eq_true', decide_eq_false_iff_not, ↓reduceIte, decide_true, decide_false, reduceCtorEq, Nat.reduceAdd, Nat.reduceSub, Nat.reduceEqDiff, both_ok (prs_mem hq)]) (by rw [upto_len]; exact Nat.le_trans (show 0 + c.toNat ≤ 30 by omega) (by decide))
    rw [List.filter_eq_self.mpr (fun _ _ => rfl), List.nil_append] at e
    exact e
  have bo : ∀ q : Int × Int, boolsP ((upto c).map fun r => .bool (H q.1 r && H q.2 r)) = some ((upto c).map fun r => H q.1 r && H q.2 r) := fun q => boolsP_map _ _
  have an : ∀ q : Int × Int, ((upto c).map fun r => H q.1 r && H q.2 r).any id = (upto c).any fun r => H q.1 r && H q.2 r := fun q => by rw [List.any_map]; rfl
  have e := lcP_map (vs := [4]) (g := pgName 4) (tt := pNotT (pTru (pCB pAny (pCons (pLc (pItS (pVar 3)) [5] (pgName 5) pYes (pCall p_has_both (pCons (pVar 5) (pCons (pVar 4) pNil)))) pNil)))) (te := pVar 4) (E := [some (.int c), some (.str w), some x, some (.list (tab c H)), none, none]) (pr true) (fun q => !((upto c).any fun r => H q.1 r && H q.2 r)) (pr true) (prs c) [] (fun q hq => by
    refine ⟨[some (.int c), some (.str w), some x, some (.list (tab c H)), some (pr true q), none], rfl, ?_, fun _ => rfl⟩
    simp only [pVar, pC, pOp, pUn, pNeg_i, pAdd_ii, pAdd_ss, pAdd_tt, pAdd_ll, pSub_ii, pLt_ii, pLe_ii, pGt_ii, pGe_ii, pDiv_ii, pMod_ii, pPow_ii, pMul_ii, pMul_li, pEq_a, pNe_a, isNP_i, isNP_s, isNP_b, isNP_l, isNP_t, isNP_n, pIsN_n, pNotN_n, pIx_s, pIx_t, pIx_l, boolP_b, truP_b, truP_n, truP_i, truP_l, truP_t, pTru, pBool, pNotT, pAndT, pOrT, pYes, pAndV, pOrV, pNotV, pIf, pNil, pCons, pTup, pLst, pCB, pLen_s, pLen_l, pLen_t, pAbs_i, pInt_i, pInt_b, pMin2_ii, pMax2_ii, pListOf_1, pTupOf_1, pAll_l, pAny_l, pSrt_l, pSS, pLR, tyP_n, tyP_b, tyP_i, tyP_s, tyP_l, tyP_t, pIsi, pIsi2, isTy, pChain, pRev, revP_t, pAug, augP_ii, pBestMin_1, pBestMax_1, pUnp, pgNames, pSSZ, lstP_l, pSrtZ_1, srtD_i, pNoP, intP_i, pPart, slP_t, slP_l, pSl, pCall, pCallK, pBor, bor_bool, pItS, rg1, rg2, pRng1, pRng2, zp_t, zp_l, pZip, en1_1, pEnum, seqD_l, seqD_t, pgName, pgNil, pgCons, pgTup, pgSeq, wipeE, pLc, pLc2, pNext, pSeq, pBreak, pCont, pRet, pRetN, pExpr, pIfS, pAsg, pPar, appP, pApp, setP, pSet, pFor, pWhile, endP_n, endP_r, runP, runPB, bd_ret, bd_bad, ofO_some, ofO_none, gpm, List.filterMap_cons, List.filterMap_nil, eqD_ii, eqD_ss, eqD_bb, eqD_nn, eqD_in, eqD_ni, eqD_bn, eqD_nb, eqD_sn, eqD_ns, eqD_is, eqD_si, eqD_bs, eqD_sb, Option.map_some, Option.map_none, Option.bind_some, Option.bind_none, List.getElem?_cons_zero, List.getElem?_cons_succ, List.set_cons_zero, List.set_cons_succ, List.map_cons, List.map_nil, List.replicate, List.cons_append, List.nil_append, List.append_nil, List.length_cons, List.length_nil, List.length_map, atI_0, atI_1, atI_2, atI_3, atI_4, atI_5, decide_eq_true_eq, Bool.not_true, Bool.not_false, Bool.true_and, Bool.false_and, Bool.and_true, Bool.and_false, Bool.or_true, Bool.true_or, Bool.or_false, Bool.false_or, Bool.false_eq_true, Bool.not_eq_true', decide_eq_false_iff_not, ↓reduceIte, decide_true, decide_false, reduceCtorEq, Nat.reduceAdd, Nat.reduceSub, Nat.reduceEqDiff, inner q hq, bo, an]) (Nat.le_trans (show 0 + (prs c).length ≤ 900 by have := prs_len hc; omega) (by decide))
  rw [List.nil_append] at e
  unfold p_unknown_pairs
  simp only [pVar, pC, pOp, pUn, pNeg_i, pAdd_ii, pAdd_ss, pAdd_tt, pAdd_ll, pSub_ii, pLt_ii, pLe_ii, pGt_ii, pGe_ii, pDiv_ii, pMod_ii, pPow_ii, pMul_ii, pMul_li, pEq_a, pNe_a, isNP_i, isNP_s, isNP_b, isNP_l, isNP_t, isNP_n, pIsN_n, pNotN_n, pIx_s, pIx_t, pIx_l, boolP_b, truP_b, truP_n, truP_i, truP_l, truP_t, pTru, pBool, pNotT, pAndT, pOrT, pYes, pAndV, pOrV, pNotV, pIf, pNil, pCons, pTup, pLst, pCB, pLen_s, pLen_l, pLen_t, pAbs_i, pInt_i, pInt_b, pMin2_ii, pMax2_ii, pListOf_1, pTupOf_1, pAll_l, pAny_l, pSrt_l, pSS, pLR, tyP_n, tyP_b, tyP_i, tyP_s, tyP_l, tyP_t, pIsi, pIsi2, isTy, pChain, pRev, revP_t, pAug, augP_ii, pBestMin_1, pBestMax_1, pUnp, pgNames, pSSZ, lstP_l, pSrtZ_1, srtD_i, pNoP, intP_i, pPart, slP_t, slP_l, pSl, pCall, pCallK, pBor, bor_bool, pItS, rg1, rg2, pRng1, pRng2, zp_t, zp_l, pZip, en1_1, pEnum, seqD_l, seqD_t, pgName, pgNil, pgCons, pgTup, pgSeq, wipeE, pLc, pLc2, pNext, pSeq, pBreak, pCont, pRet, pRetN, pExpr, pIfS, pAsg, pPar, appP, pApp, setP, pSet, pFor, pWhile, endP_n, endP_r, runP, runPB, bd_ret, bd_bad, ofO_some, ofO_none, gpm, List.filterMap_cons, List.filterMap_nil, eqD_ii, eqD_ss, eqD_bb, eqD_nn, eqD_in, eqD_ni, eqD_bn, eqD_nb, eqD_sn, eqD_ns, eqD_is, eqD_si, eqD_bs, eqD_sb, Option.map_some, Option.map_none, Option.bind_some, Option.bind_none, List.getElem?_cons_zero, List.getElem?_cons_succ, List.set_cons_zero, List.set_cons_succ, List.map_cons, List.map_nil, List.replicate, List.cons_append, List.nil_append, List.append_nil, List.length_cons, List.length_nil, List.length_map, atI_0, atI_1, atI_2, atI_3, atI_4, atI_5, decide_eq_true_eq, Bool.not_true, Bool.not_false, Bool.true_and, Bool.false_and, Bool.and_true, Bool.and_false, Bool.or_true, Bool.true_or, Bool.or_false, Bool.false_or, Bool.false_eq_true, Bool.not_eq_true', decide_eq_false_iff_not, ↓reduceIte, decide_true, decide_false, reduceCtorEq, Nat.reduceAdd, Nat.reduceSub, Nat.reduceEqDiff, ek, lr_ok h0 hc, pairs_ok hc, e]
  rfl
def hd : List PyData → PyData
  | [] => .none
  | x :: _ => x
def lackF (c : Int) (H : Int → Int → Bool) (q : Int × Int) : List Int := (upto c).filter fun r => !(H q.1 r && H q.2 r)
def encL (q : Int × Int) (r : Int) : PyData := .tuple [pr true q, .int r]
def lack (c : Int) (H : Int → Int → Bool) : List PyData := (prs c).flatMap fun q => (lackF c H q).map (encL q)
def agn (c : Int) (g : Str) (H : Int → Int → Bool) : PyData := if g = "somebody" then hd ((unkn c H).map (pr true)) else hd (lack c H)
theorem against_ok {c : Int} (h0 : 0 ≤ c) (hc : c ≤ 30) {w g : Str} {k : Bool × Bool} {ps : List (Int × Int)} (hp : Pok c ps) : p_against [.int c, .str w, pl k ps, .str g] = Y.ret (agn c g (has (decide (w = "meet")) ps)) := by
  have ek := known_ok h0 hc (w := w) (k := k) hp
  have eu := unknown_ok h0 hc (w := w) (k := k) hp
  generalize has (decide (w = "meet")) ps = H at *
  generalize pl k ps = x at *
  unfold agn
  by_cases hg : g = "somebody"
  · rw [if_pos hg]
    unfold p_against
    generalize (unkn c H).map (pr true) = L at *
    cases L with
    | nil => simp only [pVar, pC, pOp, pUn, pNeg_i, pAdd_ii, pAdd_ss, pAdd_tt, pAdd_ll, pSub_ii, pLt_ii, pLe_ii, pGt_ii, pGe_ii, pDiv_ii, pMod_ii, pPow_ii, pMul_ii, pMul_li, pEq_a, pNe_a, isNP_i, isNP_s, isNP_b, isNP_l, isNP_t, isNP_n, pIsN_n, pNotN_n, pIx_s, pIx_t, pIx_l, boolP_b, truP_b, truP_n, truP_i, truP_l, truP_t, pTru, pBool, pNotT, pAndT, pOrT, pYes, pAndV, pOrV, pNotV, pIf, pNil, pCons, pTup, pLst, pCB, pLen_s, pLen_l, pLen_t, pAbs_i, pInt_i, pInt_b, pMin2_ii, pMax2_ii, pListOf_1, pTupOf_1, pAll_l, pAny_l, pSrt_l, pSS, pLR, tyP_n, tyP_b, tyP_i, tyP_s, tyP_l, tyP_t, pIsi, pIsi2, isTy, pChain, pRev, revP_t, pAug, augP_ii, pBestMin_1, pBestMax_1, pUnp, pgNames, pSSZ, lstP_l, pSrtZ_1, srtD_i, pNoP, intP_i, pPart, slP_t, slP_l, pSl, pCall, pCallK, pBor, bor_bool, pItS, rg1, rg2, pRng1, pRng2, zp_t, zp_l, pZip, en1_1, pEnum, seqD_l, seqD_t, pgName, pgNil, pgCons, pgTup, pgSeq, wipeE, pLc, pLc2, pNext, pSeq, pBreak, pCont, pRet, pRetN, pExpr, pIfS, pAsg, pPar, appP, pApp, setP, pSet, pFor, pWhile, endP_n, endP_r, runP, runPB, bd_ret, bd_bad, ofO_some, ofO_none, gpm, List.filterMap_cons, List.filterMap_nil, eqD_ii, eqD_ss, eqD_bb, eqD_nn, eqD_in, eqD_ni, eqD_bn, eqD_nb, eqD_sn, eqD_ns, eqD_is, eqD_si, eqD_bs, eqD_sb, Option.map_some, Option.map_none, Option.bind_some, Option.bind_none, List.getElem?_cons_zero, List.getElem?_cons_succ, List.set_cons_zero, List.set_cons_succ, List.map_cons, List.map_nil, List.replicate, List.cons_append, List.nil_append, List.append_nil, List.length_cons, List.length_nil, List.length_map, atI_0, atI_1, atI_2, atI_3, atI_4, atI_5, decide_eq_true_eq, Bool.not_true, Bool.not_false, Bool.true_and, Bool.false_and, Bool.and_true, Bool.and_false, Bool.or_true, Bool.true_or, Bool.or_false, Bool.false_or, Bool.false_eq_true, Bool.not_eq_true', decide_eq_false_iff_not, ↓reduceIte, decide_true, decide_false, reduceCtorEq, Nat.reduceAdd, Nat.reduceSub, Nat.reduceEqDiff, hg, eu, List.isEmpty_nil, hd]
    | cons y r => simp only [pVar, pC, pOp, pUn, pNeg_i, pAdd_ii, pAdd_ss, pAdd_tt, pAdd_ll, pSub_ii, pLt_ii, pLe_ii, pGt_ii, pGe_ii, pDiv_ii, pMod_ii, pPow_ii, pMul_ii, pMul_li, pEq_a, pNe_a, isNP_i, isNP_s, isNP_b, isNP_l, isNP_t, isNP_n, pIsN_n, pNotN_n, pIx_s, pIx_t, pIx_l, boolP_b, truP_b, truP_n, truP_i, truP_l, truP_t, pTru, pBool, pNotT, pAndT, pOrT, pYes, pAndV, pOrV, pNotV, pIf, pNil, pCons, pTup, pLst, pCB, pLen_s, pLen_l, pLen_t, pAbs_i, pInt_i, pInt_b, pMin2_ii, pMax2_ii, pListOf_1, pTupOf_1, pAll_l, pAny_l, pSrt_l, pSS, pLR, tyP_n, tyP_b, tyP_i, tyP_s, tyP_l, tyP_t, pIsi, pIsi2, isTy, pChain, pRev, revP_t, pAug, augP_ii, pBestMin_1, pBestMax_1, pUnp, pgNames, pSSZ, lstP_l, pSrtZ_1, srtD_i, pNoP, intP_i, pPart, slP_t, slP_l, pSl, pCall, pCallK, pBor, bor_bool, pItS, rg1, rg2, pRng1, pRng2, zp_t, zp_l, pZip, en1_1, pEnum, seqD_l, seqD_t, pgName, pgNil, pgCons, pgTup, pgSeq, wipeE, pLc, pLc2, pNext, pSeq, pBreak, pCont, pRet, pRetN, pExpr, pIfS, pAsg, pPar, appP, pApp, setP, pSet, pFor, pWhile, endP_n, endP_r, runP, runPB, bd_ret, bd_bad, ofO_some, ofO_none, gpm, List.filterMap_cons, List.filterMap_nil, eqD_ii, eqD_ss, eqD_bb, eqD_nn, eqD_in, eqD_ni, eqD_bn, eqD_nb, eqD_sn, eqD_ns, eqD_is, eqD_si, eqD_bs, eqD_sb, Option.map_some, Option.map_none, Option.bind_some, Option.bind_none, List.getElem?_cons_zero, List.getElem?_cons_succ, List.set_cons_zero, List.set_cons_succ, List.map_cons, List.map_nil, List.replicate, List.cons_append, List.nil_append, List.append_nil, List.length_cons, List.length_nil, List.length_map, atI_0, atI_1, atI_2, atI_3, atI_4, atI_5, decide_eq_true_eq, Bool.not_true, Bool.not_false, Bool.true_and, Bool.false_and, Bool.and_true, Bool.and_false, Bool.or_true, Bool.true_or, Bool.or_false, Bool.false_or, Bool.false_eq_true, Bool.not_eq_true', decide_eq_false_iff_not, ↓reduceIte, decide_true, decide_false, reduceCtorEq, Nat.reduceAdd, Nat.reduceSub, Nat.reduceEqDiff, hg, eu, List.isEmpty_cons, hd]
  · rw [if_neg hg]
    have z2 : 2 ≤ sizeLine := by decide
    have e := lc2P_map (vs := [6, 7]) (vs1 := [7]) (g := pgName 6) (g1 := pgName 7) (tt := pYes) (tt1 := pNotT (pTru (pCall p_has_both (pCons (pOp pIx (pVar 5) (pVar 7)) (pCons (pVar 6) pNil))))) (src1 := pRng1 (pCons (pVar 0) pNil)) (te := pTup (pCons (pVar 6) (pCons (pVar 7) pNil))) (E := [some (.int c), some (.str w), some x, some (.str g), none, some (.list (tab c H)), none, none])
      (pr true) (fun _ => true) PyData.int (fun _ => upto c) (fun q r => !(H q.1 r && H q.2 r)) encL (prs c) [] (fun q hq => by
        refine ⟨[some (.int c), some (.str w), some x, some (.str g), none, some (.list (tab c H)), some (pr true q), none], rfl, rfl, fun _ => ⟨?_, fun r hr => ⟨[some (.int c), some (.str w), some x, some (.str g), none, some (.list (tab c H)), some (pr true q), some (.int r)], rfl, ?_, fun _ => ?_⟩⟩⟩
        · simp only [pVar, pC, pOp, pUn, pNeg_i, pAdd_ii, pAdd_ss, pAdd_tt, pAdd_ll, pSub_ii, pLt_ii, pLe_ii, pGt_ii, pGe_ii, pDiv_ii, pMod_ii, pPow_ii, pMul_ii, pMul_li, pEq_a, pNe_a, isNP_i, isNP_s, isNP_b, isNP_l, isNP_t, isNP_n, pIsN_n, pNotN_n, pIx_s, pIx_t, pIx_l, boolP_b, truP_b, truP_n, truP_i, truP_l, truP_t, pTru, pBool, pNotT, pAndT, pOrT, pYes, pAndV, pOrV, pNotV, pIf, pNil, pCons, pTup, pLst, pCB, pLen_s, pLen_l, pLen_t, pAbs_i, pInt_i, pInt_b, pMin2_ii, pMax2_ii, pListOf_1, pTupOf_1, pAll_l, pAny_l, pSrt_l, pSS, pLR, tyP_n, tyP_b, tyP_i, tyP_s, tyP_l, tyP_t, pIsi, pIsi2, isTy, pChain, pRev, revP_t, pAug, augP_ii, pBestMin_1, pBestMax_1, pUnp, pgNames, pSSZ, lstP_l, pSrtZ_1, srtD_i, pNoP, intP_i, pPart, slP_t, slP_l, pSl, pCall, pCallK, pBor, bor_bool, pItS, rg2, pRng1, pRng2, zp_t, zp_l, pZip, en1_1, pEnum, seqD_l, seqD_t, pgName, pgNil, pgCons, pgTup, pgSeq, wipeE, pLc, pLc2, pNext, pSeq, pBreak, pCont, pRet, pRetN, pExpr, pIfS, pAsg, pPar, appP, pApp, setP, pSet, pFor, pWhile, endP_n, endP_r, runP, runPB, bd_ret, bd_bad, ofO_some, ofO_none, gpm, List.filterMap_cons, List.filterMap_nil, eqD_ii, eqD_ss, eqD_bb, eqD_nn, eqD_in, eqD_ni, eqD_bn, eqD_nb, eqD_sn, eqD_ns, eqD_is, eqD_si, eqD_bs, eqD_sb, Option.map_some, Option.map_none, Option.bind_some, Option.bind_none, List.getElem?_cons_zero, List.getElem?_cons_succ, List.set_cons_zero, List.set_cons_succ, List.map_cons, List.map_nil, List.replicate, List.cons_append, List.nil_append, List.append_nil, List.length_cons, List.length_nil, List.length_map, atI_0, atI_1, atI_2, atI_3, atI_4, atI_5, decide_eq_true_eq, Bool.not_true, Bool.not_false, Bool.true_and, Bool.false_and, Bool.and_true, Bool.and_false, Bool.or_true, Bool.true_or, Bool.or_false, Bool.false_or, Bool.false_eq_true, Bool.not_eq_true', decide_eq_false_iff_not, ↓reduceIte, decide_true, decide_false, reduceCtorEq, Nat.reduceAdd, Nat.reduceSub, Nat.reduceEqDiff, rg1_ok h0 (show c ≤ 1000000 by omega)]
        · have hr := upto_mem.mp hr
          simp only [pVar, pC, pOp, pUn, pNeg_i, pAdd_ii, pAdd_ss, pAdd_tt, pAdd_ll, pSub_ii, pLt_ii, pLe_ii, pGt_ii, pGe_ii, pDiv_ii, pMod_ii, pPow_ii, pMul_ii, pMul_li, pEq_a, pNe_a, isNP_i, isNP_s, isNP_b, isNP_l, isNP_t, isNP_n, pIsN_n, pNotN_n, pIx_s, pIx_t, pIx_l, boolP_b, truP_b, truP_n, truP_i, truP_l, truP_t, pTru, pBool, pNotT, pAndT, pOrT, pYes, pAndV, pOrV, pNotV, pIf, pNil, pCons, pTup, pLst, pCB, pLen_s, pLen_l, pLen_t, pAbs_i, pInt_i, pInt_b, pMin2_ii, pMax2_ii, pListOf_1, pTupOf_1, pAll_l, pAny_l, pSrt_l, pSS, pLR, tyP_n, tyP_b, tyP_i, tyP_s, tyP_l, tyP_t, pIsi, pIsi2, isTy, pChain, pRev, revP_t, pAug, augP_ii, pBestMin_1, pBestMax_1, pUnp, pgNames, pSSZ, lstP_l, pSrtZ_1, srtD_i, pNoP, intP_i, pPart, slP_t, slP_l, pSl, pCall, pCallK, pBor, bor_bool, pItS, rg1, rg2, pRng1, pRng2, zp_t, zp_l, pZip, en1_1, pEnum, seqD_l, seqD_t, pgName, pgNil, pgCons, pgTup, pgSeq, wipeE, pLc, pLc2, pNext, pSeq, pBreak, pCont, pRet, pRetN, pExpr, pIfS, pAsg, pPar, appP, pApp, setP, pSet, pFor, pWhile, endP_n, endP_r, runP, runPB, bd_ret, bd_bad, ofO_some, ofO_none, gpm, List.filterMap_cons, List.filterMap_nil, eqD_ii, eqD_ss, eqD_bb, eqD_nn, eqD_in, eqD_ni, eqD_bn, eqD_nb, eqD_sn, eqD_ns, eqD_is, eqD_si, eqD_bs, eqD_sb, Option.map_some, Option.map_none, Option.bind_some, Option.bind_none, List.getElem?_cons_zero, List.getElem?_cons_succ, List.set_cons_zero, List.set_cons_succ, List.map_cons, List.map_nil, List.replicate, List.cons_append, List.nil_append, List.append_nil, List.length_cons, List.length_nil, List.length_map, atI_0, atI_1, atI_2, atI_3, atI_4, atI_5, decide_eq_true_eq, Bool.not_true, Bool.not_false, Bool.true_and, Bool.false_and, Bool.and_true, Bool.and_false, Bool.or_true, Bool.true_or, Bool.or_false, Bool.false_or, Bool.false_eq_true, Bool.not_eq_true', decide_eq_false_iff_not, ↓reduceIte, decide_true, decide_false, reduceCtorEq, Nat.reduceAdd, Nat.reduceSub, Nat.reduceEqDiff, tab_at hr.1 hr.2, both_ok (prs_mem hq)]
        · simp only [pVar, pC, pOp, pUn, pNeg_i, pAdd_ii, pAdd_ss, pAdd_tt, pAdd_ll, pSub_ii, pLt_ii, pLe_ii, pGt_ii, pGe_ii, pDiv_ii, pMod_ii, pPow_ii, pMul_ii, pMul_li, pEq_a, pNe_a, isNP_i, isNP_s, isNP_b, isNP_l, isNP_t, isNP_n, pIsN_n, pNotN_n, pIx_s, pIx_t, pIx_l, boolP_b, truP_b, truP_n, truP_i, truP_l, truP_t, pTru, pBool, pNotT, pAndT, pOrT, pYes, pAndV, pOrV, pNotV, pIf, pNil, pCons, pTup, pLst, pCB, pLen_s, pLen_l, pLen_t, pAbs_i, pInt_i, pInt_b, pMin2_ii, pMax2_ii, pListOf_1, pTupOf_1, pAll_l, pAny_l, pSrt_l, pSS, pLR, tyP_n, tyP_b, tyP_i, tyP_s, tyP_l, tyP_t, pIsi, pIsi2, isTy, pChain, pRev, revP_t, pAug, augP_ii, pBestMin_1, pBestMax_1, pUnp, pgNames, pSSZ, lstP_l, pSrtZ_1, srtD_i, pNoP, intP_i, pPart, slP_t, slP_l, pSl, pCall, pCallK, pBor, bor_bool, pItS, rg1, rg2, pRng1, pRng2, zp_t, zp_l, pZip, en1_1, pEnum, seqD_l, seqD_t, pgName, pgNil, pgCons, pgTup, pgSeq, wipeE, pLc, pLc2, pNext, pSeq, pBreak, pCont, pRet, pRetN, pExpr, pIfS, pAsg, pPar, appP, pApp, setP, pSet, pFor, pWhile, endP_n, endP_r, runP, runPB, bd_ret, bd_bad, ofO_some, ofO_none, gpm, List.filterMap_cons, List.filterMap_nil, eqD_ii, eqD_ss, eqD_bb, eqD_nn, eqD_in, eqD_ni, eqD_bn, eqD_nb, eqD_sn, eqD_ns, eqD_is, eqD_si, eqD_bs, eqD_sb, Option.map_some, Option.map_none, Option.bind_some, Option.bind_none, List.getElem?_cons_zero, List.getElem?_cons_succ, List.set_cons_zero, List.set_cons_succ, List.map_cons, List.map_nil, List.replicate, List.cons_append, List.nil_append, List.append_nil, List.length_cons, List.length_nil, List.length_map, atI_0, atI_1, atI_2, atI_3, atI_4, atI_5, decide_eq_true_eq, Bool.not_true, Bool.not_false, Bool.true_and, Bool.false_and, Bool.and_true, Bool.and_false, Bool.or_true, Bool.true_or, Bool.or_false, Bool.false_or, Bool.false_eq_true, Bool.not_eq_true', decide_eq_false_iff_not, ↓reduceIte, decide_true, decide_false, reduceCtorEq, Nat.reduceAdd, Nat.reduceSub, Nat.reduceEqDiff, z2, encL]) (by
        refine Nat.le_trans (Nat.add_le_add_left (fm_len (k := 30) (fun i => ?_) _) _) (Nat.le_trans (show 0 + (prs c).length * 30 ≤ 27000 by have := prs_len hc; omega) (by decide))
        rw [upto_len]
        omega)
    rw [List.filter_eq_self.mpr (fun _ _ => rfl), List.nil_append] at e
    have e2 : ((prs c).flatMap fun z => ((upto c).filter fun r => !(H z.1 r && H z.2 r)).map (encL z)) = lack c H := rfl
    rw [e2] at e
    unfold p_against
    generalize lack c H = L at *
    cases L with
    | nil => simp only [pVar, pC, pOp, pUn, pNeg_i, pAdd_ii, pAdd_ss, pAdd_tt, pAdd_ll, pSub_ii, pLt_ii, pLe_ii, pGt_ii, pGe_ii, pDiv_ii, pMod_ii, pPow_ii, pMul_ii, pMul_li, pEq_a, pNe_a, isNP_i, isNP_s, isNP_b, isNP_l, isNP_t, isNP_n, pIsN_n, pNotN_n, pIx_s, pIx_t, pIx_l, boolP_b, truP_b, truP_n, truP_i, truP_l, truP_t, pTru, pBool, pNotT, pAndT, pOrT, pYes, pAndV, pOrV, pNotV, pIf, pNil, pCons, pTup, pLst, pCB, pLen_s, pLen_l, pLen_t, pAbs_i, pInt_i, pInt_b, pMin2_ii, pMax2_ii, pListOf_1, pTupOf_1, pAll_l, pAny_l, pSrt_l, pSS, pLR, tyP_n, tyP_b, tyP_i, tyP_s, tyP_l, tyP_t, pIsi, pIsi2, isTy, pChain, pRev, revP_t, pAug, augP_ii, pBestMin_1, pBestMax_1, pUnp, pgNames, pSSZ, lstP_l, pSrtZ_1, srtD_i, pNoP, intP_i, pPart, slP_t, slP_l, pSl, pCall, pCallK, pBor, bor_bool, pItS, rg2, pRng1, pRng2, zp_t, zp_l, pZip, en1_1, pEnum, seqD_l, seqD_t, pgName, pgNil, pgCons, pgTup, pgSeq, wipeE, pLc, pLc2, pNext, pSeq, pBreak, pCont, pRet, pRetN, pExpr, pIfS, pAsg, pPar, appP, pApp, setP, pSet, pFor, pWhile, endP_n, endP_r, runP, runPB, bd_ret, bd_bad, ofO_some, ofO_none, gpm, List.filterMap_cons, List.filterMap_nil, eqD_ii, eqD_ss, eqD_bb, eqD_nn, eqD_in, eqD_ni, eqD_bn, eqD_nb, eqD_sn, eqD_ns, eqD_is, eqD_si, eqD_bs, eqD_sb, Option.map_some, Option.map_none, Option.bind_some, Option.bind_none, List.getElem?_cons_zero, List.getElem?_cons_succ, List.set_cons_zero, List.set_cons_succ, List.map_cons, List.map_nil, List.replicate, List.cons_append, List.nil_append, List.append_nil, List.length_cons, List.length_nil, List.length_map, atI_0, atI_1, atI_2, atI_3, atI_4, atI_5, decide_eq_true_eq, Bool.not_true, Bool.not_false, Bool.true_and, Bool.false_and, Bool.and_true, Bool.and_false, Bool.or_true, Bool.true_or, Bool.or_false, Bool.false_or, Bool.false_eq_true, Bool.not_eq_true', decide_eq_false_iff_not, ↓reduceIte, decide_true, decide_false, reduceCtorEq, Nat.reduceAdd, Nat.reduceSub, Nat.reduceEqDiff, hg, ek, lr_ok h0 hc, pairs_ok hc, e, List.isEmpty_nil, hd]
    | cons y r => simp only [pVar, pC, pOp, pUn, pNeg_i, pAdd_ii, pAdd_ss, pAdd_tt, pAdd_ll, pSub_ii, pLt_ii, pLe_ii, pGt_ii, pGe_ii, pDiv_ii, pMod_ii, pPow_ii, pMul_ii, pMul_li, pEq_a, pNe_a, isNP_i, isNP_s, isNP_b, isNP_l, isNP_t, isNP_n, pIsN_n, pNotN_n, pIx_s, pIx_t, pIx_l, boolP_b, truP_b, truP_n, truP_i, truP_l, truP_t, pTru, pBool, pNotT, pAndT, pOrT, pYes, pAndV, pOrV, pNotV, pIf, pNil, pCons, pTup, pLst, pCB, pLen_s, pLen_l, pLen_t, pAbs_i, pInt_i, pInt_b, pMin2_ii, pMax2_ii, pListOf_1, pTupOf_1, pAll_l, pAny_l, pSrt_l, pSS, pLR, tyP_n, tyP_b, tyP_i, tyP_s, tyP_l, tyP_t, pIsi, pIsi2, isTy, pChain, pRev, revP_t, pAug, augP_ii, pBestMin_1, pBestMax_1, pUnp, pgNames, pSSZ, lstP_l, pSrtZ_1, srtD_i, pNoP, intP_i, pPart, slP_t, slP_l, pSl, pCall, pCallK, pBor, bor_bool, pItS, rg2, pRng1, pRng2, zp_t, zp_l, pZip, en1_1, pEnum, seqD_l, seqD_t, pgName, pgNil, pgCons, pgTup, pgSeq, wipeE, pLc, pLc2, pNext, pSeq, pBreak, pCont, pRet, pRetN, pExpr, pIfS, pAsg, pPar, appP, pApp, setP, pSet, pFor, pWhile, endP_n, endP_r, runP, runPB, bd_ret, bd_bad, ofO_some, ofO_none, gpm, List.filterMap_cons, List.filterMap_nil, eqD_ii, eqD_ss, eqD_bb, eqD_nn, eqD_in, eqD_ni, eqD_bn, eqD_nb, eqD_sn, eqD_ns, eqD_is, eqD_si, eqD_bs, eqD_sb, Option.map_some, Option.map_none, Option.bind_some, Option.bind_none, List.getElem?_cons_zero, List.getElem?_cons_succ, List.set_cons_zero, List.set_cons_succ, List.map_cons, List.map_nil, List.replicate, List.cons_append, List.nil_append, List.append_nil, List.length_cons, List.length_nil, List.length_map, atI_0, atI_1, atI_2, atI_3, atI_4, atI_5, decide_eq_true_eq, Bool.not_true, Bool.not_false, Bool.true_and, Bool.false_and, Bool.and_true, Bool.and_false, Bool.or_true, Bool.true_or, Bool.or_false, Bool.false_or, Bool.false_eq_true, Bool.not_eq_true', decide_eq_false_iff_not, ↓reduceIte, decide_true, decide_false, reduceCtorEq, Nat.reduceAdd, Nat.reduceSub, Nat.reduceEqDiff, hg, ek, lr_ok h0 hc, pairs_ok hc, e, List.isEmpty_cons, hd]
theorem reaches_ok {c : Int} (h0 : 0 ≤ c) (hc : c ≤ 30) {w g : Str} {k : Bool × Bool} {ps : List (Int × Int)} (hp : Pok c ps) : p_reaches [.int c, .str w, pl k ps, .str g] = Y.ret (.bool (isNP (agn c g (has (decide (w = "meet")) ps)))) := by
  unfold p_reaches
  simp only [pVar, pC, pOp, pUn, pNeg_i, pAdd_ii, pAdd_ss, pAdd_tt, pAdd_ll, pSub_ii, pLt_ii, pLe_ii, pGt_ii, pGe_ii, pDiv_ii, pMod_ii, pPow_ii, pMul_ii, pMul_li, pEq_a, pNe_a, isNP_i, isNP_s, isNP_b, isNP_l, isNP_t, isNP_n, pIsN_n, pNotN_n, pIx_s, pIx_t, pIx_l, boolP_b, truP_b, truP_n, truP_i, truP_l, truP_t, pTru, pBool, pNotT, pAndT, pOrT, pYes, pAndV, pOrV, pNotV, pIf, pNil, pCons, pTup, pLst, pCB, pLen_s, pLen_l, pLen_t, pAbs_i, pInt_i, pInt_b, pMin2_ii, pMax2_ii, pListOf_1, pTupOf_1, pAll_l, pAny_l, pSrt_l, pSS, pLR, tyP_n, tyP_b, tyP_i, tyP_s, tyP_l, tyP_t, pIsi, pIsi2, isTy, pChain, pRev, revP_t, pAug, augP_ii, pBestMin_1, pBestMax_1, pUnp, pgNames, pSSZ, lstP_l, pSrtZ_1, srtD_i, pNoP, intP_i, pPart, slP_t, slP_l, pSl, pCall, pCallK, pBor, bor_bool, pItS, rg1, rg2, pRng1, pRng2, zp_t, zp_l, pZip, en1_1, pEnum, seqD_l, seqD_t, pgName, pgNil, pgCons, pgTup, pgSeq, wipeE, pLc, pLc2, pNext, pSeq, pBreak, pCont, pRet, pRetN, pExpr, pIfS, pAsg, pPar, appP, pApp, setP, pSet, pFor, pWhile, endP_n, endP_r, runP, runPB, bd_ret, bd_bad, ofO_some, ofO_none, gpm, List.filterMap_cons, List.filterMap_nil, eqD_ii, eqD_ss, eqD_bb, eqD_nn, eqD_in, eqD_ni, eqD_bn, eqD_nb, eqD_sn, eqD_ns, eqD_is, eqD_si, eqD_bs, eqD_sb, Option.map_some, Option.map_none, Option.bind_some, Option.bind_none, List.getElem?_cons_zero, List.getElem?_cons_succ, List.set_cons_zero, List.set_cons_succ, List.map_cons, List.map_nil, List.replicate, List.cons_append, List.nil_append, List.append_nil, List.length_cons, List.length_nil, List.length_map, atI_0, atI_1, atI_2, atI_3, atI_4, atI_5, decide_eq_true_eq, Bool.not_true, Bool.not_false, Bool.true_and, Bool.false_and, Bool.and_true, Bool.and_false, Bool.or_true, Bool.true_or, Bool.or_false, Bool.false_or, Bool.false_eq_true, Bool.not_eq_true', decide_eq_false_iff_not, ↓reduceIte, decide_true, decide_false, reduceCtorEq, Nat.reduceAdd, Nat.reduceSub, Nat.reduceEqDiff, against_ok h0 hc hp]
/-! pairs in order; loops -/
def ord (x y : Int) : Int × Int := (if y < x then y else x, if y > x then y else x)
theorem ord_eq (x y : Int) : ord x y = if y < x then (y, x) else (x, y) := by
  unfold ord
  by_cases h : y < x
  · have : ¬ y > x := by omega
    simp [h, this]
  · by_cases h2 : y > x
    · simp [h, h2]
    · have : x = y := by omega
      simp [this]
theorem eqv_pr (z q : Int × Int) : PyData.eqv (pr true z) (pr true q) = decide (z = q) := by
  obtain ⟨z1, z2⟩ := z
  obtain ⟨q1, q2⟩ := q
  simp only [pr, cond_true, PyData.eqv, PyData.eqvAll]
  rw [Bool.eq_iff_iff]
  simp
theorem any_pr (q : Int × Int) : ∀ L : List (Int × Int), ((L.map (pr true)).any fun z => PyData.eqv z (pr true q)) = decide (q ∈ L)
  | [] => rfl
  | x :: r => by
    rw [List.map_cons, List.any_cons, any_pr q r, eqv_pr]
    rw [Bool.eq_iff_iff]
    simp only [Bool.or_eq_true, decide_eq_true_eq, List.mem_cons]
    exact ⟨fun h => h.imp Eq.symm id, fun h => h.imp Eq.symm id⟩
theorem ld_pr' {k : Bool} {q : Int × Int} : ld 1 (pr k q) := by
  have h : ∀ x ∈ [PyData.int q.1, PyData.int q.2], ld 0 x := fun x hx => by
    simp only [List.mem_cons, List.not_mem_nil, or_false] at hx
    rcases hx with rfl | rfl <;> exact ld_int
  cases k
  · exact ld_list h
  · exact ld_tup h
theorem sh_pl {a : Bool} {L : List (Int × Int)} : SeqAt.shaped (pl (a, true) L) = true := by
  have h : ∀ x ∈ L.map (pr true), ld 1 x := fun x hx => by
    obtain ⟨q, _, rfl⟩ := List.mem_map.mp hx
    exact ld_pr'
  cases a
  · exact ld_sh (n := 2) (ld_list h) (by decide)
  · exact ld_sh (n := 2) (ld_tup h) (by decide)
theorem in_pl {a neg : Bool} {q : Int × Int} {L : List (Int × Int)} : pIn neg (pr true q) (pl (a, true) L) = some (.bool (if neg then !decide (q ∈ L) else decide (q ∈ L))) := by
  unfold pIn
  rw [seq_pl, Option.bind_some]
  have e : SeqAt.shaped (.list (L.map (pr true))) = true := sh_pl (a := false)
  have e2 : SeqAt.shaped (.tuple (L.map (pr true))) = true := sh_pl (a := true)
  cases a <;> (rw [if_pos ⟨ld_sh ld_pr' (by decide), by first | exact e | exact e2⟩, any_pr])
theorem in_plt {a : Bool} {q : Int × Int} {L : List (Int × Int)} : pIn false (pr true q) (pl (a, true) L) = some (.bool (decide (q ∈ L))) := in_pl
theorem in_plf {a : Bool} {q : Int × Int} {L : List (Int × Int)} : pIn true (pr true q) (pl (a, true) L) = some (.bool (!decide (q ∈ L))) := in_pl
theorem best_min {x y : Int} : bestMin [.int x, .int y] = some (.int (ord x y).1) := by
  show (if PyData.canLayAll0 [.int x, .int y] = true ∧ PyData.depthAll [.int x, .int y] ≤ 60 ∧ likeB [.int x, .int y] = true then some (PySem.W.minD (.int x) [.int y]) else none) = _
  rw [if_pos ⟨by simp [PyData.canLayAll0, PyData.canLay0], by simp [PyData.depthAll, PyData.depth], by rfl⟩]
  have e := PySem.W.minD_ints x [y]
  simp only [List.map_cons, List.map_nil, List.foldl_cons, List.foldl_nil] at e
  rw [e]
  unfold ord
  congr 2
  show min x y = if y < x then y else x
  split <;> omega
theorem best_max {x y : Int} : bestMax [.int x, .int y] = some (.int (ord x y).2) := by
  show (if PyData.canLayAll0 [.int x, .int y] = true ∧ PyData.depthAll [.int x, .int y] ≤ 60 ∧ likeB [.int x, .int y] = true then some (PySem.W.maxD (.int x) [.int y]) else none) = _
  rw [if_pos ⟨by simp [PyData.canLayAll0, PyData.canLay0], by simp [PyData.depthAll, PyData.depth], by rfl⟩]
  have e := PySem.W.maxD_ints x [y]
  simp only [List.map_cons, List.map_nil, List.foldl_cons, List.foldl_nil] at e
  rw [e]
  unfold ord
  congr 2
  show max x y = if y > x then y else x
  split <;> omega
theorem order_ok {x y : Int} : p_in_order [.tuple [.int x, .int y]] = Y.ret (pr true (ord x y)) := by
  have z2 : 2 ≤ sizeLine := by decide
  unfold p_in_order
  simp only [pVar, pC, pOp, pUn, pNeg_i, pAdd_ii, pAdd_ss, pAdd_tt, pAdd_ll, pSub_ii, pLt_ii, pLe_ii, pGt_ii, pGe_ii, pDiv_ii, pMod_ii, pPow_ii, pMul_ii, pMul_li, pEq_a, pNe_a, isNP_i, isNP_s, isNP_b, isNP_l, isNP_t, isNP_n, pIsN_n, pNotN_n, pIx_s, pIx_t, pIx_l, boolP_b, truP_b, truP_n, truP_i, truP_l, truP_t, pTru, pBool, pNotT, pAndT, pOrT, pYes, pAndV, pOrV, pNotV, pIf, pNil, pCons, pTup, pLst, pCB, pLen_s, pLen_l, pLen_t, pAbs_i, pInt_i, pInt_b, pMin2_ii, pMax2_ii, pListOf_1, pTupOf_1, pAll_l, pAny_l, pSrt_l, pSS, pLR, tyP_n, tyP_b, tyP_i, tyP_s, tyP_l, tyP_t, pIsi, pIsi2, isTy, pChain, pRev, revP_t, pAug, augP_ii, pBestMin_1, pBestMax_1, pUnp, pgNames, pSSZ, lstP_l, pSrtZ_1, srtD_i, pNoP, intP_i, pPart, slP_t, slP_l, pSl, pCall, pCallK, pBor, bor_bool, pItS, rg1, rg2, pRng1, pRng2, zp_t, zp_l, pZip, en1_1, pEnum, seqD_l, seqD_t, pgName, pgNil, pgCons, pgTup, pgSeq, wipeE, pLc, pLc2, pNext, pSeq, pBreak, pCont, pRet, pRetN, pExpr, pIfS, pAsg, pPar, appP, pApp, setP, pSet, pFor, pWhile, endP_n, endP_r, runP, runPB, bd_ret, bd_bad, ofO_some, ofO_none, gpm, List.filterMap_cons, List.filterMap_nil, eqD_ii, eqD_ss, eqD_bb, eqD_nn, eqD_in, eqD_ni, eqD_bn, eqD_nb, eqD_sn, eqD_ns, eqD_is, eqD_si, eqD_bs, eqD_sb, Option.map_some, Option.map_none, Option.bind_some, Option.bind_none, List.getElem?_cons_zero, List.getElem?_cons_succ, List.set_cons_zero, List.set_cons_succ, List.map_cons, List.map_nil, List.replicate, List.cons_append, List.nil_append, List.append_nil, List.length_cons, List.length_nil, List.length_map, atI_0, atI_1, atI_2, atI_3, atI_4, atI_5, decide_eq_true_eq, Bool.not_true, Bool.not_false, Bool.true_and, Bool.false_and, Bool.and_true, Bool.and_false, Bool.or_true, Bool.true_or, Bool.or_false, Bool.false_or, Bool.false_eq_true, Bool.not_eq_true', decide_eq_false_iff_not, ↓reduceIte, decide_true, decide_false, reduceCtorEq, Nat.reduceAdd, Nat.reduceSub, Nat.reduceEqDiff, best_min, best_max, z2, pr, cond_true]
/-! while -/
theorem sub_len : ∀ (l D : List Int), l.Nodup → (∀ x ∈ l, x ∈ D) → l.length ≤ D.length
  | [], _, _, _ => Nat.zero_le _
  | x :: r, D, h, k => by
    have hx := k x List.mem_cons_self
    have hn := List.nodup_cons.mp h
    have ih := sub_len r (D.erase x) hn.2 fun y hy => (List.mem_erase_of_ne (fun e => hn.1 (by rw [← e]; exact hy))).mpr (k y (List.mem_cons_of_mem _ hy))
    rw [List.length_erase_of_mem hx] at ih
    have := List.length_pos_of_mem hx
    rw [List.length_cons]
    omega
theorem while_det {c : Pt} {body : Ps} (I : Y.Env → Nat → Prop) (D : Y.Env → Prop) (step : ∀ E m, I E m → (c E = Y.ret false ∧ D E) ∨ (c E = Y.ret true ∧ ∃ E' m', body E = Y.ret (.nx E') ∧ m' < m ∧ I E' m')) : ∀ (k m : Nat) (E : Y.Env), m < k → I E m → ∃ E', whileP c body k E = Y.ret (.nx E') ∧ D E'
  | 0, _, _, h, _ => absurd h (Nat.not_lt_zero _)
  | k + 1, m, E, h, hI => by
    unfold whileP
    rcases step E m hI with ⟨h1, h2⟩ | ⟨h1, E', m', h2, h3, h4⟩
    · exact ⟨E, by rw [h1, bd_ret, if_neg (by simp)], h2⟩
    · obtain ⟨E2, h5, h6⟩ := while_det I D step k m' E' (by omega) h4
      exact ⟨E2, by rw [h1, bd_ret, if_pos rfl, h2, bd_ret]; exact h5, h6⟩
theorem pr_int2 (q : Int × Int) : PyData.tuple [.int q.1, .int q.2] = pr true q := rfl
theorem while_inv {c : Pt} {body : Ps} (I : Y.Env → Nat → Nat → Prop) (D : Y.Env → Nat → Prop) (step : ∀ E n m, I E n m → (c E = Y.ret false ∧ D E n) ∨ (c E = Y.ret true ∧ ∀ K : PO → Nat → Prop, (∀ E' n' m', m' < m → I E' n' m' → K (.nx E') n') → body E n K)) :
    ∀ (k m : Nat) (E : Y.Env) (n : Nat) (Q : PO → Nat → Prop), m < k → I E n m → (∀ E n, D E n → Q (.nx E) n) → whileP c body k E n Q
  | 0, _, _, _, _, h, _, _ => absurd h (Nat.not_lt_zero _)
  | k + 1, m, E, n, Q, h, hI, hQ => by
    unfold whileP
    rcases step E n m hI with ⟨h1, h2⟩ | ⟨h1, h2⟩
    · rw [h1, bd_ret, if_neg (by simp)]
      exact hQ E n h2
    · rw [h1, bd_ret, if_pos rfl, bd_at]
      exact h2 _ fun E' n' m' hm hI' => while_inv I D step k m' E' n' Q (by omega) hI' hQ
theorem srt_two {a b : Int} : srt [a, b] = [(ord a b).1, (ord a b).2] := by
  refine (srt_only ?_ ?_).symm
  · rw [ord_eq]
    split
    · exact List.Perm.swap _ _ _
    · exact .refl _
  · rw [ord_eq]
    split <;> simp <;> omega
/-! the law's graph -/
theorem enc_in {fs : List (Int × Int)} (h : ∀ q ∈ fs, q.1 < q.2) {q : Int × Int} (hq : q ∈ fs) : ord q.1 q.2 ∈ fs := by
  rw [ord_eq, if_neg (by have := h q hq; omega)]
  exact hq
theorem seq_wp {α : Type} {a b : Ps} {E : Y.Env} {n : Nat} {f : PO → PW α} {u : Shut f} {Q : α → Nat → Prop} (h : a E n (fun o k => bd f u (match o with
    | .nx E' => b E'
    | o => Y.ret o) k Q)) : bd f u (pSeq a b E) n Q := h
theorem seq_ret {α : Type} {a b : Ps} {E E' : Y.Env} {f : PO → PW α} {u : Shut f} (h : a E = Y.ret (.nx E')) : bd f u (pSeq a b E) = bd f u (b E') := by
  unfold pSeq
  rw [h, bd_ret]
theorem for_wp {src : Y.Env → PW (List PyData)} {g : Pg} {body : Ps} {E : Y.Env} {xs : List PyData} {n : Nat} {Q : PO → Nat → Prop} (hs : src E = Y.ret xs) (h : forP g body xs E n Q) : pFor src g body E n Q := by
  unfold pFor
  rw [hs, bd_ret]
  exact h
theorem erase_perm : ∀ (l : List Int) (i : Nat) (h : i < l.length), (l[i] :: l.eraseIdx i).Perm l
  | x :: r, 0, _ => .refl _
  | x :: r, i + 1, h => by
    have hr : i < r.length := by
      rw [List.length_cons] at h
      omega
    show (r[i] :: x :: r.eraseIdx i).Perm (x :: r)
    exact (List.Perm.swap _ _ _).trans (List.Perm.cons _ (erase_perm r i hr))
theorem eqD_e : eqD (.list []) (.list []) = some true := eqD_nil (xs := [])
theorem lcP_draw {α : Type} {vs : List Nat} {g : Pg} {tt : Pt} {te : Pe} {E : Y.Env} (φ : α → PyData) (I : List PyData → Nat → Prop) :
    ∀ (zs : List α) (acc : List PyData) (n : Nat) (Q : List PyData → Nat → Prop), (∀ z ∈ zs, ∀ acc n K, I acc n → acc.length < sizeLine → (∀ v n', I (acc ++ [v]) n' → K v n') → ∃ E1, g (φ z) (wipeE E vs) = Y.ret E1 ∧ tt E1 = Y.ret true ∧ te E1 n K) →
      I acc n → acc.length + zs.length ≤ sizeLine → (∀ acc' n', I acc' n' → acc'.length = acc.length + zs.length → Q acc' n') → lcP vs g tt te (zs.map φ) acc E n Q
  | [], acc, n, Q, _, hI, _, hQ => hQ acc n hI (by simp)
  | z :: r, acc, n, Q, step, hI, hz, hQ => by
    rw [List.length_cons] at hz
    rw [List.map_cons]
    unfold lcP
    obtain ⟨E1, h1, h2, h3⟩ := step z List.mem_cons_self acc n (fun v n' => lcP vs g tt te (r.map φ) (acc ++ [v]) E n' Q) hI (by omega) fun v n' hI' => lcP_draw φ I r (acc ++ [v]) n' Q (fun y hy => step y (List.mem_cons_of_mem _ hy)) hI' (by rw [List.length_append, List.length_singleton]; omega) fun acc' n2 h4 h5 => hQ acc' n2 h4 (by rw [h5, List.length_append, List.length_singleton, List.length_cons]; omega)
    rw [h1, bd_ret, h2, bd_ret, if_pos rfl, bd_at]
    have hz2 : acc.length < sizeLine := by omega
    simp only [hz2, if_true]
    exact h3
theorem nx_wp {α : Type} {b : Ps} {E' : Y.Env} {n : Nat} {f : PO → PW α} {u : Shut f} {Q : α → Nat → Prop} (h : bd f u (b E') n Q) : (Y.ret (.nx E') : PW PO) n (fun o k => bd f u (match o with
    | .nx E' => b E'
    | o => Y.ret o) k Q) := h
theorem ret_at {α : Type} {x : α} {n : Nat} {Q : α → Nat → Prop} : (Y.ret x : PW α) n Q = Q x n := rfl
theorem forP_ret {α : Type} {g : Pg} {body : Ps} (φ : α → PyData) (I : List α → Y.Env → Prop) (R : PyData → Prop) (step : ∀ z r E, I (z :: r) E → ∃ E1, g (φ z) E = Y.ret E1 ∧ ((∃ E', body E1 = Y.ret (.nx E') ∧ I r E') ∨ ∃ v, body E1 = Y.ret (.rt v) ∧ R v)) :
    ∀ (zs : List α) (E : Y.Env), I zs E → (∃ E', forP g body (zs.map φ) E = Y.ret (.nx E') ∧ I [] E') ∨ ∃ v, forP g body (zs.map φ) E = Y.ret (.rt v) ∧ R v
  | [], E, h => .inl ⟨E, rfl, h⟩
  | z :: r, E, h => by
    obtain ⟨E1, h1, h2⟩ := step z r E h
    rw [List.map_cons]
    unfold forP
    rcases h2 with ⟨E', h3, h4⟩ | ⟨v, h3, h4⟩
    · rcases forP_ret φ I R step r E' h4 with ⟨E2, h5, h6⟩ | ⟨v, h5, h6⟩
      · exact .inl ⟨E2, by rw [h1, bd_ret, h3, bd_ret]; exact h5, h6⟩
      · exact .inr ⟨v, by rw [h1, bd_ret, h3, bd_ret]; exact h5, h6⟩
    · exact .inr ⟨v, by rw [h1, bd_ret, h3, bd_ret], h4⟩
/-- all come to the roots -/
theorem isNP_pl {k : Bool × Bool} {ps : List (Int × Int)} : isNP (pl k ps) = false := by obtain ⟨a, b⟩ := k; cases a <;> rfl
/-! sorted, of pairs: ascending -/
def pairLe (a b : Int × Int) : Bool := decide (a.1 < b.1) || (decide (a.1 = b.1) && decide (a.2 ≤ b.2))
theorem dle_pr (a b : Int × Int) : PySem.W.dataLe false id (pr true a) (pr true b) = pairLe a b := by
  obtain ⟨a1, a2⟩ := a
  obtain ⟨b1, b2⟩ := b
  show (!PyProof.Rows.lexLt PyProof.Rows.itemOrd [.inl 1, .inl b1, .inl 1, .inl b2, .inl 0] [.inl 1, .inl a1, .inl 1, .inl a2, .inl 0]) = _
  simp only [PyProof.Rows.lexLt, PyProof.Rows.itemLt, pairLe]
  rw [Bool.eq_iff_iff]
  simp
  omega
theorem like_pr (a b : Int × Int) : PySem.W.alike (pr true a) (pr true b) = true := by
  simp [pr, PySem.W.alike, PySem.W.alikeAll]
def srtP (L : List (Int × Int)) : List (Int × Int) := L.mergeSort pairLe
theorem srtP_perm (L : List (Int × Int)) : (srtP L).Perm L := List.mergeSort_perm _ _
theorem pairLe_trans (a b c : Int × Int) (h1 : pairLe a b = true) (h2 : pairLe b c = true) : pairLe a c = true := by
  simp only [pairLe, Bool.or_eq_true, Bool.and_eq_true, decide_eq_true_eq] at *
  omega
theorem pairLe_total (a b : Int × Int) : (pairLe a b || pairLe b a) = true := by
  simp only [pairLe, Bool.or_eq_true, Bool.and_eq_true, decide_eq_true_eq]
  omega
theorem srtP_le (L : List (Int × Int)) : (srtP L).Pairwise fun a b => pairLe a b = true := List.pairwise_mergeSort pairLe_trans pairLe_total L
theorem srtP_only {L ms : List (Int × Int)} (hp : ms.Perm L) (hs : ms.Pairwise fun a b => pairLe a b = true) : ms = srtP L := by
  refine List.Perm.eq_of_pairwise (le := fun a b => pairLe a b = true) (fun a b _ _ h1 h2 => ?_) hs (srtP_le L) (hp.trans (srtP_perm L).symm)
  obtain ⟨a1, a2⟩ := a
  obtain ⟨b1, b2⟩ := b
  simp only [pairLe, Bool.or_eq_true, Bool.and_eq_true, decide_eq_true_eq] at h1 h2
  rw [Prod.mk.injEq]
  omega
theorem srtP_idem (L : List (Int × Int)) : srtP (srtP L) = srtP L := (srtP_only (.refl _) (srtP_le L)).symm
theorem srt_pairs (L : List (Int × Int)) : srtD (L.map (pr true)) = some ((srtP L).map (pr true)) := by
  cases L with
  | nil =>
    have e : srtD [] = some ((srt []).map .int) := srtD_i (ns := [])
    rw [List.map_nil, e]
    have e2 : srt [] = [] := by simp [srt]
    have e3 : srtP [] = [] := by simp [srtP]
    rw [e2, e3]
    rfl
  | cons q r =>
    generalize hL : q :: r = L
    have e0 : intsOf (L.map (pr true)) = none := by rw [← hL]; rfl
    have h1 : PyData.canLayAll0 (L.map (pr true)) = true := (ld_all (n := 1) fun x hx => by
      obtain ⟨q, _, rfl⟩ := List.mem_map.mp hx
      exact ld_pr').1
    have h2 : alikeB (L.map (pr true)) = true := by
      unfold alikeB
      rw [List.all_eq_true]
      intro x hx
      rw [List.all_eq_true]
      intro y hy
      obtain ⟨a, _, rfl⟩ := List.mem_map.mp hx
      obtain ⟨b, _, rfl⟩ := List.mem_map.mp hy
      exact like_pr a b
    have h3 : sortB (L.map (pr true)) = true := by
      unfold sortB
      simp [pr]
    have h4 : ((L.map (pr true)).all fun d => decide (d.depth ≤ 60)) = true := by
      rw [List.all_eq_true]
      intro x hx
      obtain ⟨a, _, rfl⟩ := List.mem_map.mp hx
      have := (ld_pr' (k := true) (q := a)).2
      rw [decide_eq_true_eq]
      omega
    have e : sortD (L.map (pr true)) = (srtP L).map (pr true) := by
      unfold sortD srtP
      exact (List.map_mergeSort fun a _ b _ => (dle_pr a b).symm).symm
    unfold srtD
    rw [e0]
    simp only
    rw [if_pos ⟨h1, h2, h3, h4⟩, e]
end P
namespace P
open PySem L2 Z Y
/-! everybody; meetings in which nobody is twice -/
theorem prs_in {c i j : Int} (h0 : 0 ≤ i) (h1 : i < j) (h2 : j < c) : (i, j) ∈ prs c := by
  unfold prs
  rw [List.mem_flatMap]
  exact ⟨i, upto_mem.mpr ⟨h0, by omega⟩, List.mem_map.mpr ⟨j, List.mem_filter.mpr ⟨upto_mem.mpr ⟨by omega, h2⟩, by simpa using h1⟩, rfl⟩⟩
theorem every_yes {c : Int} {H : Int → Int → Bool} (h : ∀ o r, (0 ≤ o ∧ o < c) → (0 ≤ r ∧ r < c) → H o r = true) : isNP (agn c "everybody" H) = true := by
  have e : lack c H = [] := by
    unfold lack
    rw [List.flatMap_eq_nil_iff]
    intro q hq
    have hq := prs_mem hq
    rw [List.map_eq_nil_iff]
    unfold lackF
    rw [List.filter_eq_nil_iff]
    intro r hr
    have hr := upto_mem.mp hr
    simp [h q.1 r hq.1 hr, h q.2 r hq.2 hr]
  unfold agn
  rw [if_neg (by decide), e]
  rfl
theorem every_no {c : Int} {H : Int → Int → Bool} (h2 : 2 ≤ c) {o r : Int} (ho : 0 ≤ o ∧ o < c) (hr : 0 ≤ r ∧ r < c) (h : H o r = false) : isNP (agn c "everybody" H) = false := by
  obtain ⟨q, hq, hb⟩ : ∃ q ∈ prs c, (H q.1 r && H q.2 r) = false := by
    by_cases k : o = 0
    · exact ⟨(0, 1), prs_in (Int.le_refl _) (by omega) (by omega), by simp only; rw [← k, h]; rfl⟩
    · exact ⟨(0, o), prs_in (Int.le_refl _) (by omega) ho.2, by simp only; rw [h]; cases H 0 r <;> rfl⟩
  have hm : encL q r ∈ lack c H := by
    unfold lack
    exact List.mem_flatMap.mpr ⟨q, hq, List.mem_map.mpr ⟨r, List.mem_filter.mpr ⟨upto_mem.mpr hr, by rw [hb]; rfl⟩, rfl⟩⟩
  unfold agn
  rw [if_neg (by decide)]
  have all : ∀ x ∈ lack c H, isNP x = false := fun x hx => by
    unfold lack at hx
    obtain ⟨q', _, hx⟩ := List.mem_flatMap.mp hx
    obtain ⟨r', _, rfl⟩ := List.mem_map.mp hx
    rfl
  cases e : lack c H with
  | nil => rw [e] at hm; cases hm
  | cons x t => exact all x (by rw [e]; exact List.mem_cons_self)
def dis (q q' : Int × Int) : Prop := q.1 ≠ q'.1 ∧ q.1 ≠ q'.2 ∧ q.2 ≠ q'.1 ∧ q.2 ≠ q'.2
def Mt (R : List (Int × Int)) : Prop := R.Pairwise dis
abbrev run (R : List (Int × Int)) (F : Int → Int → Bool) : Int → Int → Bool := R.foldl (stepF true) F
theorem step_out {F : Int → Int → Bool} {q : Int × Int} {r : Int} (h1 : r ≠ q.1) (h2 : r ≠ q.2) (o : Int) : stepF true F q o r = F o r := by
  unfold stepF
  rw [if_neg h2, if_neg (fun h => h1 h.2)]
theorem step_in {F : Int → Int → Bool} {q : Int × Int} {r : Int} (h : r = q.1 ∨ r = q.2) (o : Int) : stepF true F q o r = (F o q.1 || F o q.2) := by
  unfold stepF
  by_cases h2 : r = q.2
  · rw [if_pos h2]
  · rw [if_neg h2, if_pos ⟨rfl, h.resolve_right h2⟩]
theorem run_out {r : Int} : ∀ {R : List (Int × Int)} {F : Int → Int → Bool}, (∀ q ∈ R, r ≠ q.1 ∧ r ≠ q.2) → ∀ o, run R F o r = F o r
  | [], _, _, _ => rfl
  | q :: R, F, h, o => by
    have hq := h q List.mem_cons_self
    show run R (stepF true F q) o r = F o r
    rw [run_out (fun y hy => h y (List.mem_cons_of_mem _ hy)) o, step_out hq.1 hq.2]
theorem run_at {r : Int} : ∀ {R : List (Int × Int)} {F : Int → Int → Bool}, Mt R → (∀ o, run R F o r = F o r) ∨ ∃ q ∈ R, ∀ o, run R F o r = (F o q.1 || F o q.2)
  | [], _, _ => .inl fun _ => rfl
  | q :: R, F, h => by
    have h := List.pairwise_cons.mp h
    by_cases k : r = q.1 ∨ r = q.2
    · refine .inr ⟨q, List.mem_cons_self, fun o => ?_⟩
      show run R (stepF true F q) o r = _
      rw [run_out (fun y hy => ?_) o, step_in k]
      have d := h.1 y hy
      unfold dis at d
      rcases k with k | k <;> rw [k]
      · exact ⟨d.1, d.2.1⟩
      · exact ⟨d.2.2.1, d.2.2.2⟩
    · have k1 : r ≠ q.1 := fun e => k (.inl e)
      have k2 : r ≠ q.2 := fun e => k (.inr e)
      rcases run_at (r := r) (F := stepF true F q) h.2 with z | ⟨q', hq', z⟩
      · exact .inl fun o => (z o).trans (step_out k1 k2 o)
      · refine .inr ⟨q', List.mem_cons_of_mem _ hq', fun o => (z o).trans ?_⟩
        have d := h.1 q' hq'
        unfold dis at d
        rw [step_out (Ne.symm d.1) (Ne.symm d.2.2.1), step_out (Ne.symm d.2.1) (Ne.symm d.2.2.2)]
/-- how many looks r has got -/
def cd (c : Int) (F : Int → Int → Bool) (r : Int) : Nat := ((upto c).filter fun o => F o r).length
theorem filter_or {α : Type} (f g : α → Bool) : ∀ l : List α, (l.filter fun o => f o || g o).length ≤ (l.filter f).length + (l.filter g).length
  | [] => Nat.zero_le _
  | x :: l => by
    have := filter_or f g l
    simp only [List.filter_cons]
    cases f x <;> cases g x <;> simp <;> omega
theorem cd_or {c : Int} {F : Int → Int → Bool} {a b r : Int} {G : Int → Int → Bool} (h : ∀ o, G o r = (F o a || F o b)) : cd c G r ≤ cd c F a + cd c F b := by
  unfold cd
  rw [show (fun o => G o r) = fun o => F o a || F o b from funext h]
  exact filter_or (fun o => F o a) (fun o => F o b) _
theorem double {c : Int} {R : List (Int × Int)} {F : Int → Int → Bool} {m : Nat} (hm : Mt R) (hp : Pok c R) (h : ∀ r, 0 ≤ r ∧ r < c → cd c F r ≤ m) (r : Int) (hr : 0 ≤ r ∧ r < c) : cd c (run R F) r ≤ 2 * m := by
  rcases run_at (r := r) (F := F) hm with z | ⟨q, hq, z⟩
  · have e : cd c (run R F) r = cd c F r := by
      unfold cd
      rw [show (fun o => run R F o r) = fun o => F o r from funext z]
    have := h r hr
    omega
  · have := cd_or (c := c) z
    have hq := hp q hq
    have h1 := h q.1 hq.1
    have h2 := h q.2 hq.2.1
    omega
theorem cd_own {c r : Int} : cd c own0 r ≤ 1 := by
  unfold cd own0
  have hn : ((upto c).filter fun o => decide (o = r)).Nodup := ((upto_lt c).sublist List.filter_sublist).imp fun h => by omega
  have := sub_len _ [r] hn fun x hx => by
    have := (List.mem_filter.mp hx).2
    rw [decide_eq_true_eq] at this
    rw [this]
    exact List.mem_cons_self
  simpa using this
theorem rounds_bound {c : Int} : ∀ (rs : List (List (Int × Int))) (F : Int → Int → Bool) (m : Nat), (∀ R ∈ rs, Mt R ∧ Pok c R) → (∀ r, 0 ≤ r ∧ r < c → cd c F r ≤ m) → ∀ r, 0 ≤ r ∧ r < c → cd c (run rs.flatten F) r ≤ 2 ^ rs.length * m
  | [], F, m, _, h, r, hr => by simpa [run] using h r hr
  | R :: rs, F, m, hR, h, r, hr => by
    have h1 := hR R List.mem_cons_self
    have := rounds_bound rs (run R F) (2 * m) (fun y hy => hR y (List.mem_cons_of_mem _ hy)) (double h1.1 h1.2 h) r hr
    rw [List.flatten_cons, List.length_cons, Nat.pow_succ]
    show cd c ((R ++ rs.flatten).foldl (stepF true) F) r ≤ _
    rw [List.foldl_append, Nat.mul_assoc]
    exact this
theorem lacks {c : Int} {F : Int → Int → Bool} {r : Int} (h : cd c F r < c.toNat) : ∃ o, (0 ≤ o ∧ o < c) ∧ F o r = false := by
  refine Classical.byContradiction fun hn => ?_
  have e : ((upto c).filter fun o => F o r) = upto c := List.filter_eq_self.mpr fun o ho => by
    cases k : F o r with
    | true => rfl
    | false => exact absurd ⟨o, upto_mem.mp ho, k⟩ hn
  unfold cd at h
  rw [e, upto_len] at h
  exact Nat.lt_irrefl _ h
/-- behind so few rounds not all have got all -/
theorem few_rounds {c : Int} (h2 : 2 ≤ c) {rs : List (List (Int × Int))} (hR : ∀ R ∈ rs, Mt R ∧ Pok c R) (h : 2 ^ rs.length < c.toNat) : isNP (agn c "everybody" (has true rs.flatten)) = false := by
  have b := rounds_bound rs own0 1 hR (fun r _ => cd_own) 0 ⟨Int.le_refl _, by omega⟩
  obtain ⟨o, ho, k⟩ := lacks (c := c) (F := run rs.flatten own0) (r := 0) (by omega)
  exact every_no h2 ho ⟨Int.le_refl _, by omega⟩ k
theorem odd_rounds {c : Int} (h2 : 2 ≤ c) {rs : List (List (Int × Int))} {R : List (Int × Int)} {r : Int} (hr : 0 ≤ r ∧ r < c) (hR : ∀ R ∈ rs, Mt R ∧ Pok c R) (hn : ∀ q ∈ R, r ≠ q.1 ∧ r ≠ q.2) (h : 2 ^ rs.length < c.toNat) : isNP (agn c "everybody" (has true (rs ++ [R]).flatten)) = false := by
  have b := rounds_bound rs own0 1 hR (fun r _ => cd_own) r hr
  obtain ⟨o, ho, k⟩ := lacks (c := c) (F := run rs.flatten own0) (r := r) (by omega)
  refine every_no h2 ho hr (r := r) (o := o) ?_
  rw [List.flatten_append]
  show (rs.flatten ++ [R].flatten).foldl (stepF true) own0 o r = false
  rw [List.foldl_append]
  show run [R].flatten (run rs.flatten own0) o r = false
  rw [show [R].flatten = R by simp, run_out hn]
  exact k
end P
namespace P
open PySem L2 Z Y
/-! how many rounds; rounds of an even number of people -/
theorem mul_ok {i j : Int} (h : -1000 ≤ i ∧ i ≤ 1000) : pMul (.int i) (.int j) = some (.int (i * j)) := by
  rw [pMul_ii, if_pos (.inl (.inl ⟨by omega, by omega⟩))]
theorem half_ok {i : Int} : pDiv (.int i) (.int 2) = some (.int (i / 2)) := by
  rw [pDiv_ii, if_pos ⟨by decide, by decide⟩]
/-- how often one is doubled until it is at least c -/
def db (c : Int) : Int := if c ≤ 1 then 0 else if c ≤ 2 then 1 else if c ≤ 4 then 2 else if c ≤ 8 then 3 else 4
theorem pow_db {c : Int} {k : Nat} (h0 : 1 ≤ c) (hc : c ≤ 16) (h1 : c ≤ (2 : Int) ^ k) (h2 : ∀ j, j < k → (2 : Int) ^ j < c) : (k : Int) = db c := by
  have hk : k ≤ 4 := by
    refine Classical.byContradiction fun h => ?_
    have := h2 4 (by omega)
    have e : (2 : Int) ^ 4 = 16 := by decide
    omega
  have e0 : (2 : Int) ^ 0 = 1 := by decide
  have e1 : (2 : Int) ^ 1 = 2 := by decide
  have e2 : (2 : Int) ^ 2 = 4 := by decide
  have e3 : (2 : Int) ^ 3 = 8 := by decide
  have e4 : (2 : Int) ^ 4 = 16 := by decide
  have a0 := h2 0
  have a1 := h2 1
  have a2 := h2 2
  have a3 := h2 3
  rw [e0] at a0
  rw [e1] at a1
  rw [e2] at a2
  rw [e3] at a3
  unfold db
  match k, hk with
  | 0, _ => rw [e0] at h1; split <;> omega
  | 1, _ => rw [e1] at h1; have := a0 (by omega); repeat' split <;> try omega
  | 2, _ => rw [e2] at h1; have := a1 (by omega); repeat' split <;> try omega
  | 3, _ => rw [e3] at h1; have := a2 (by omega); repeat' split <;> try omega
  | 4, _ => rw [e4] at h1; have := a3 (by omega); repeat' split <;> try omega
theorem pow_le {k : Nat} (h : k ≤ 4) : (2 : Int) ^ k ≤ 16 ∧ 1 ≤ (2 : Int) ^ k := by
  match k, h with
  | 0, _ => decide
  | 1, _ => decide
  | 2, _ => decide
  | 3, _ => decide
  | 4, _ => decide
theorem k_le {c : Int} {k : Nat} (hc : c ≤ 16) (h2 : ∀ j, j < k → (2 : Int) ^ j < c) : k ≤ 4 := by
  refine Classical.byContradiction fun h => ?_
  have := h2 4 (by omega)
  have e : (2 : Int) ^ 4 = 16 := by decide
  omega
theorem dbl_ok {c : Int} (h0 : 1 ≤ c) (hc : c ≤ 16) : p_doublings [.int c] = Y.ret (.int (db c)) := by
  obtain ⟨E', e1, k, h1, h2, rfl⟩ := while_det (c := pBool (pOp pLt (pVar 2) (pVar 0))) (body := q1_doublings)
    (fun E m => ∃ k : Nat, m + k = 20 ∧ (∀ j, j < k → (2 : Int) ^ j < c) ∧ E = [some (.int c), some (.int k), some (.int ((2 : Int) ^ k))])
    (fun E => ∃ k : Nat, c ≤ (2 : Int) ^ k ∧ (∀ j, j < k → (2 : Int) ^ j < c) ∧ E = [some (.int c), some (.int k), some (.int ((2 : Int) ^ k))])
    (fun E m ⟨k, hm, h2, e⟩ => by
      subst e
      have hk := k_le hc h2
      have hp := pow_le hk
      by_cases h : (2 : Int) ^ k < c
      · refine .inr ⟨by simp only [pVar, pC, pOp, pUn, pNeg_i, pAdd_ii, pAdd_ss, pAdd_tt, pAdd_ll, pSub_ii, pLt_ii, pLe_ii, pGt_ii, pGe_ii, pDiv_ii, pMod_ii, pPow_ii, pMul_ii, pMul_li, pEq_a, pNe_a, isNP_i, isNP_s, isNP_b, isNP_l, isNP_t, isNP_n, pIsN_n, pNotN_n, pIx_s, pIx_t, pIx_l, boolP_b, truP_b, truP_n, truP_i, truP_l, truP_t, pTru, pBool, pNotT, pAndT, pOrT, pYes, pAndV, pOrV, pNotV, pIf, pNil, pCons, pTup, pLst, pCB, pLen_s, pLen_l, pLen_t, pAbs_i, pInt_i, pInt_b, pMin2_ii, pMax2_ii, pListOf_1, pTupOf_1, pAll_l, pAny_l, pSrt_l, pSS, pLR, tyP_n, tyP_b, tyP_i, tyP_s, tyP_l, tyP_t, pIsi, pIsi2, isTy, pChain, pRev, revP_t, pAug, augP_ii, pBestMin_1, pBestMax_1, pUnp, pgNames, pSSZ, lstP_l, pSrtZ_1, srtD_i, pNoP, intP_i, pPart, slP_t, slP_l, pSl, pCall, pCallK, pBor, bor_bool, pItS, rg1, rg2, pRng1, pRng2, zp_t, zp_l, pZip, en1_1, pEnum, seqD_l, seqD_t, pgName, pgNil, pgCons, pgTup, pgSeq, wipeE, pLc, pLc2, pNext, pSeq, pBreak, pCont, pRet, pRetN, pExpr, pIfS, pAsg, pPar, appP, pApp, setP, pSet, pFor, pWhile, endP_n, endP_r, runP, runPB, bd_ret, bd_bad, ofO_some, ofO_none, gpm, List.filterMap_cons, List.filterMap_nil, eqD_ii, eqD_ss, eqD_bb, eqD_nn, eqD_in, eqD_ni, eqD_bn, eqD_nb, eqD_sn, eqD_ns, eqD_is, eqD_si, eqD_bs, eqD_sb, Option.map_some, Option.map_none, Option.bind_some, Option.bind_none, List.getElem?_cons_zero, List.getElem?_cons_succ, List.set_cons_zero, List.set_cons_succ, List.map_cons, List.map_nil, List.replicate, List.cons_append, List.nil_append, List.append_nil, List.length_cons, List.length_nil, List.length_map, atI_0, atI_1, atI_2, atI_3, atI_4, atI_5, decide_eq_true_eq, Bool.not_true, Bool.not_false, Bool.true_and, Bool.false_and, Bool.and_true, Bool.and_false, Bool.or_true, Bool.true_or, Bool.or_false, Bool.false_or, Bool.false_eq_true, Bool.not_eq_true', decide_eq_false_iff_not, ↓reduceIte, decide_true, decide_false, reduceCtorEq, Nat.reduceAdd, Nat.reduceSub, Nat.reduceEqDiff, h], [some (.int c), some (.int ((k + 1 : Nat) : Int)), some (.int ((2 : Int) ^ (k + 1)))], m - 1, ?_, by omega, k + 1, by omega, fun j hj => ?_, rfl⟩
        · unfold q1_doublings
          simp only [pVar, pC, pOp, pUn, pNeg_i, pAdd_ii, pAdd_ss, pAdd_tt, pAdd_ll, pSub_ii, pLt_ii, pLe_ii, pGt_ii, pGe_ii, pDiv_ii, pMod_ii, pPow_ii, pEq_a, pNe_a, isNP_i, isNP_s, isNP_b, isNP_l, isNP_t, isNP_n, pIsN_n, pNotN_n, pIx_s, pIx_t, pIx_l, boolP_b, truP_b, truP_n, truP_i, truP_l, truP_t, pTru, pBool, pNotT, pAndT, pOrT, pYes, pAndV, pOrV, pNotV, pIf, pNil, pCons, pTup, pLst, pCB, pLen_s, pLen_l, pLen_t, pAbs_i, pInt_i, pInt_b, pMin2_ii, pMax2_ii, pListOf_1, pTupOf_1, pAll_l, pAny_l, pSrt_l, pSS, pLR, tyP_n, tyP_b, tyP_i, tyP_s, tyP_l, tyP_t, pIsi, pIsi2, isTy, pChain, pRev, revP_t, pAug, augP_ii, pBestMin_1, pBestMax_1, pUnp, pgNames, pSSZ, lstP_l, pSrtZ_1, srtD_i, pNoP, intP_i, pPart, slP_t, slP_l, pSl, pCall, pCallK, pBor, bor_bool, pItS, rg1, rg2, pRng1, pRng2, zp_t, zp_l, pZip, en1_1, pEnum, seqD_l, seqD_t, pgName, pgNil, pgCons, pgTup, pgSeq, wipeE, pLc, pLc2, pNext, pSeq, pBreak, pCont, pRet, pRetN, pExpr, pIfS, pAsg, pPar, appP, pApp, setP, pSet, pFor, pWhile, endP_n, endP_r, runP, runPB, bd_ret, bd_bad, ofO_some, ofO_none, gpm, List.filterMap_cons, List.filterMap_nil, eqD_ii, eqD_ss, eqD_bb, eqD_nn, eqD_in, eqD_ni, eqD_bn, eqD_nb, eqD_sn, eqD_ns, eqD_is, eqD_si, eqD_bs, eqD_sb, Option.map_some, Option.map_none, Option.bind_some, Option.bind_none, List.getElem?_cons_zero, List.getElem?_cons_succ, List.set_cons_zero, List.set_cons_succ, List.map_cons, List.map_nil, List.replicate, List.cons_append, List.nil_append, List.append_nil, List.length_cons, List.length_nil, List.length_map, atI_0, atI_1, atI_2, atI_3, atI_4, atI_5, decide_eq_true_eq, Bool.not_true, Bool.not_false, Bool.true_and, Bool.false_and, Bool.and_true, Bool.and_false, Bool.or_true, Bool.true_or, Bool.or_false, Bool.false_or, Bool.false_eq_true, Bool.not_eq_true', decide_eq_false_iff_not, ↓reduceIte, decide_true, decide_false, reduceCtorEq, Nat.reduceAdd, Nat.reduceSub, Nat.reduceEqDiff, mul_ok (i := (2 : Int) ^ k) (j := 2) ⟨by omega, by omega⟩, Int.pow_succ, Int.natCast_add]
          rfl
        · by_cases e : j = k
          · rw [e]; exact h
          · exact h2 j (by omega)
      · exact .inl ⟨by simp only [pVar, pC, pOp, pUn, pNeg_i, pAdd_ii, pAdd_ss, pAdd_tt, pAdd_ll, pSub_ii, pLt_ii, pLe_ii, pGt_ii, pGe_ii, pDiv_ii, pMod_ii, pPow_ii, pMul_ii, pMul_li, pEq_a, pNe_a, isNP_i, isNP_s, isNP_b, isNP_l, isNP_t, isNP_n, pIsN_n, pNotN_n, pIx_s, pIx_t, pIx_l, boolP_b, truP_b, truP_n, truP_i, truP_l, truP_t, pTru, pBool, pNotT, pAndT, pOrT, pYes, pAndV, pOrV, pNotV, pIf, pNil, pCons, pTup, pLst, pCB, pLen_s, pLen_l, pLen_t, pAbs_i, pInt_i, pInt_b, pMin2_ii, pMax2_ii, pListOf_1, pTupOf_1, pAll_l, pAny_l, pSrt_l, pSS, pLR, tyP_n, tyP_b, tyP_i, tyP_s, tyP_l, tyP_t, pIsi, pIsi2, isTy, pChain, pRev, revP_t, pAug, augP_ii, pBestMin_1, pBestMax_1, pUnp, pgNames, pSSZ, lstP_l, pSrtZ_1, srtD_i, pNoP, intP_i, pPart, slP_t, slP_l, pSl, pCall, pCallK, pBor, bor_bool, pItS, rg1, rg2, pRng1, pRng2, zp_t, zp_l, pZip, en1_1, pEnum, seqD_l, seqD_t, pgName, pgNil, pgCons, pgTup, pgSeq, wipeE, pLc, pLc2, pNext, pSeq, pBreak, pCont, pRet, pRetN, pExpr, pIfS, pAsg, pPar, appP, pApp, setP, pSet, pFor, pWhile, endP_n, endP_r, runP, runPB, bd_ret, bd_bad, ofO_some, ofO_none, gpm, List.filterMap_cons, List.filterMap_nil, eqD_ii, eqD_ss, eqD_bb, eqD_nn, eqD_in, eqD_ni, eqD_bn, eqD_nb, eqD_sn, eqD_ns, eqD_is, eqD_si, eqD_bs, eqD_sb, Option.map_some, Option.map_none, Option.bind_some, Option.bind_none, List.getElem?_cons_zero, List.getElem?_cons_succ, List.set_cons_zero, List.set_cons_succ, List.map_cons, List.map_nil, List.replicate, List.cons_append, List.nil_append, List.append_nil, List.length_cons, List.length_nil, List.length_map, atI_0, atI_1, atI_2, atI_3, atI_4, atI_5, decide_eq_true_eq, Bool.not_true, Bool.not_false, Bool.true_and, Bool.false_and, Bool.and_true, Bool.and_false, Bool.or_true, Bool.true_or, Bool.or_false, Bool.false_or, Bool.false_eq_true, Bool.not_eq_true', decide_eq_false_iff_not, ↓reduceIte, decide_true, decide_false, reduceCtorEq, Nat.reduceAdd, Nat.reduceSub, Nat.reduceEqDiff, h], k, by omega, h2, rfl⟩)
    1000 20 [some (.int c), some (.int 0), some (.int 1)] (by omega) ⟨0, rfl, (fun j hj => absurd hj (Nat.not_lt_zero _)), rfl⟩
  unfold p_doublings
  simp only [pVar, pC, pOp, pUn, pNeg_i, pAdd_ii, pAdd_ss, pAdd_tt, pAdd_ll, pSub_ii, pLt_ii, pLe_ii, pGt_ii, pGe_ii, pDiv_ii, pMod_ii, pPow_ii, pMul_ii, pMul_li, pEq_a, pNe_a, isNP_i, isNP_s, isNP_b, isNP_l, isNP_t, isNP_n, pIsN_n, pNotN_n, pIx_s, pIx_t, pIx_l, boolP_b, truP_b, truP_n, truP_i, truP_l, truP_t, pTru, pBool, pNotT, pAndT, pOrT, pYes, pAndV, pOrV, pNotV, pIf, pNil, pCons, pTup, pLst, pCB, pLen_s, pLen_l, pLen_t, pAbs_i, pInt_i, pInt_b, pMin2_ii, pMax2_ii, pListOf_1, pTupOf_1, pAll_l, pAny_l, pSrt_l, pSS, pLR, tyP_n, tyP_b, tyP_i, tyP_s, tyP_l, tyP_t, pIsi, pIsi2, isTy, pChain, pRev, revP_t, pAug, augP_ii, pBestMin_1, pBestMax_1, pUnp, pgNames, pSSZ, lstP_l, pSrtZ_1, srtD_i, pNoP, intP_i, pPart, slP_t, slP_l, pSl, pCall, pCallK, pBor, bor_bool, pItS, rg1, rg2, pRng1, pRng2, zp_t, zp_l, pZip, en1_1, pEnum, seqD_l, seqD_t, pgName, pgNil, pgCons, pgTup, pgSeq, wipeE, pLc, pLc2, pNext, pSeq, pBreak, pCont, pRet, pRetN, pExpr, pIfS, pAsg, pPar, appP, pApp, setP, pSet, pFor, pWhile, endP_n, endP_r, runP, runPB, bd_ret, bd_bad, ofO_some, ofO_none, gpm, List.filterMap_cons, List.filterMap_nil, eqD_ii, eqD_ss, eqD_bb, eqD_nn, eqD_in, eqD_ni, eqD_bn, eqD_nb, eqD_sn, eqD_ns, eqD_is, eqD_si, eqD_bs, eqD_sb, Option.map_some, Option.map_none, Option.bind_some, Option.bind_none, List.getElem?_cons_zero, List.getElem?_cons_succ, List.set_cons_zero, List.set_cons_succ, List.map_cons, List.map_nil, List.replicate, List.cons_append, List.nil_append, List.append_nil, List.length_cons, List.length_nil, List.length_map, atI_0, atI_1, atI_2, atI_3, atI_4, atI_5, decide_eq_true_eq, Bool.not_true, Bool.not_false, Bool.true_and, Bool.false_and, Bool.and_true, Bool.and_false, Bool.or_true, Bool.true_or, Bool.or_false, Bool.false_or, Bool.false_eq_true, Bool.not_eq_true', decide_eq_false_iff_not, ↓reduceIte, decide_true, decide_false, reduceCtorEq, Nat.reduceAdd, Nat.reduceSub, Nat.reduceEqDiff, e1]
  rw [pow_db h0 hc h1 h2]
def fr (c : Int) : Int := if c = 1 then 0 else db c + c % 2
theorem fewr_ok {c : Int} (h0 : 1 ≤ c) (hc : c ≤ 16) : p_fewest_rounds [.int c] = Y.ret (.int (fr c)) := by
  unfold p_fewest_rounds fr
  have h2 : (0 : Int) < 2 := by decide
  by_cases h : c = 1
  · simp only [pVar, pC, pOp, pUn, pNeg_i, pAdd_ii, pAdd_ss, pAdd_tt, pAdd_ll, pSub_ii, pLt_ii, pLe_ii, pGt_ii, pGe_ii, pDiv_ii, pMod_ii, pPow_ii, pMul_ii, pMul_li, pEq_a, pNe_a, isNP_i, isNP_s, isNP_b, isNP_l, isNP_t, isNP_n, pIsN_n, pNotN_n, pIx_s, pIx_t, pIx_l, boolP_b, truP_b, truP_n, truP_i, truP_l, truP_t, pTru, pBool, pNotT, pAndT, pOrT, pYes, pAndV, pOrV, pNotV, pIf, pNil, pCons, pTup, pLst, pCB, pLen_s, pLen_l, pLen_t, pAbs_i, pInt_i, pInt_b, pMin2_ii, pMax2_ii, pListOf_1, pTupOf_1, pAll_l, pAny_l, pSrt_l, pSS, pLR, tyP_n, tyP_b, tyP_i, tyP_s, tyP_l, tyP_t, pIsi, pIsi2, isTy, pChain, pRev, revP_t, pAug, augP_ii, pBestMin_1, pBestMax_1, pUnp, pgNames, pSSZ, lstP_l, pSrtZ_1, srtD_i, pNoP, intP_i, pPart, slP_t, slP_l, pSl, pCall, pCallK, pBor, bor_bool, pItS, rg1, rg2, pRng1, pRng2, zp_t, zp_l, pZip, en1_1, pEnum, seqD_l, seqD_t, pgName, pgNil, pgCons, pgTup, pgSeq, wipeE, pLc, pLc2, pNext, pSeq, pBreak, pCont, pRet, pRetN, pExpr, pIfS, pAsg, pPar, appP, pApp, setP, pSet, pFor, pWhile, endP_n, endP_r, runP, runPB, bd_ret, bd_bad, ofO_some, ofO_none, gpm, List.filterMap_cons, List.filterMap_nil, eqD_ii, eqD_ss, eqD_bb, eqD_nn, eqD_in, eqD_ni, eqD_bn, eqD_nb, eqD_sn, eqD_ns, eqD_is, eqD_si, eqD_bs, eqD_sb, Option.map_some, Option.map_none, Option.bind_some, Option.bind_none, List.getElem?_cons_zero, List.getElem?_cons_succ, List.set_cons_zero, List.set_cons_succ, List.map_cons, List.map_nil, List.replicate, List.cons_append, List.nil_append, List.append_nil, List.length_cons, List.length_nil, List.length_map, atI_0, atI_1, atI_2, atI_3, atI_4, atI_5, decide_eq_true_eq, Bool.not_true, Bool.not_false, Bool.true_and, Bool.false_and, Bool.and_true, Bool.and_false, Bool.or_true, Bool.true_or, Bool.or_false, Bool.false_or, Bool.false_eq_true, Bool.not_eq_true', decide_eq_false_iff_not, ↓reduceIte, decide_true, decide_false, reduceCtorEq, Nat.reduceAdd, Nat.reduceSub, Nat.reduceEqDiff, h]
  · simp only [pVar, pC, pOp, pUn, pNeg_i, pAdd_ii, pAdd_ss, pAdd_tt, pAdd_ll, pSub_ii, pLt_ii, pLe_ii, pGt_ii, pGe_ii, pDiv_ii, pMod_ii, pPow_ii, pMul_ii, pMul_li, pEq_a, pNe_a, isNP_i, isNP_s, isNP_b, isNP_l, isNP_t, isNP_n, pIsN_n, pNotN_n, pIx_s, pIx_t, pIx_l, boolP_b, truP_b, truP_n, truP_i, truP_l, truP_t, pTru, pBool, pNotT, pAndT, pOrT, pYes, pAndV, pOrV, pNotV, pIf, pNil, pCons, pTup, pLst, pCB, pLen_s, pLen_l, pLen_t, pAbs_i, pInt_i, pInt_b, pMin2_ii, pMax2_ii, pListOf_1, pTupOf_1, pAll_l, pAny_l, pSrt_l, pSS, pLR, tyP_n, tyP_b, tyP_i, tyP_s, tyP_l, tyP_t, pIsi, pIsi2, isTy, pChain, pRev, revP_t, pAug, augP_ii, pBestMin_1, pBestMax_1, pUnp, pgNames, pSSZ, lstP_l, pSrtZ_1, srtD_i, pNoP, intP_i, pPart, slP_t, slP_l, pSl, pCall, pCallK, pBor, bor_bool, pItS, rg1, rg2, pRng1, pRng2, zp_t, zp_l, pZip, en1_1, pEnum, seqD_l, seqD_t, pgName, pgNil, pgCons, pgTup, pgSeq, wipeE, pLc, pLc2, pNext, pSeq, pBreak, pCont, pRet, pRetN, pExpr, pIfS, pAsg, pPar, appP, pApp, setP, pSet, pFor, pWhile, endP_n, endP_r, runP, runPB, bd_ret, bd_bad, ofO_some, ofO_none, gpm, List.filterMap_cons, List.filterMap_nil, eqD_ii, eqD_ss, eqD_bb, eqD_nn, eqD_in, eqD_ni, eqD_bn, eqD_nb, eqD_sn, eqD_ns, eqD_is, eqD_si, eqD_bs, eqD_sb, Option.map_some, Option.map_none, Option.bind_some, Option.bind_none, List.getElem?_cons_zero, List.getElem?_cons_succ, List.set_cons_zero, List.set_cons_succ, List.map_cons, List.map_nil, List.replicate, List.cons_append, List.nil_append, List.append_nil, List.length_cons, List.length_nil, List.length_map, atI_0, atI_1, atI_2, atI_3, atI_4, atI_5, decide_eq_true_eq, Bool.not_true, Bool.not_false, Bool.true_and, Bool.false_and, Bool.and_true, Bool.and_false, Bool.or_true, Bool.true_or, Bool.or_false, Bool.false_or, Bool.false_eq_true, Bool.not_eq_true', decide_eq_false_iff_not, ↓reduceIte, decide_true, decide_false, reduceCtorEq, Nat.reduceAdd, Nat.reduceSub, Nat.reduceEqDiff, h, dbl_ok h0 hc, h2]
def offs (n : Int) : List Int := [(0 : Int), 1, 3, 7].take n.toNat
theorem offs_ok {n : Int} (h0 : 0 ≤ n) (hn : n ≤ 4) : p_offsets [.int n] = Y.ret (.list ((offs n).map .int)) := by
  have hr := rg1_ok h0 (show n ≤ 1000000 by omega)
  obtain ⟨E', e1, i, g2, hi, rfl⟩ := forP_det (g := pgName 2) (body := q1_offsets) PyData.int
    (fun r E => ∃ (i : Nat) (g2 : Option PyData), i + r.length = n.toNat ∧ E = [some (.int n), some (.list ((offs i).map .int)), g2])
    (fun z r E ⟨i, g2, hi, e⟩ => by
      subst e
      rw [List.length_cons] at hi
      have hz : ∀ k, k < 60 → k < sizeLine := fun k h => Nat.lt_of_lt_of_le h (by decide)
      refine ⟨[some (.int n), some (.list ((offs i).map .int)), some (.int z)], [some (.int n), some (.list ((offs (i + 1 : Nat)).map .int)), some (.int z)], rfl, ?_, i + 1, some (.int z), by omega, rfl⟩
      have i4 : i < 4 := by omega
      unfold q1_offsets
      match i, i4 with
      | 0, _ =>
        have e : offs ((0 : Nat) : Int) = [] := rfl
        have e' : offs ((0 + 1 : Nat) : Int) = [0] := rfl
        rw [e, e']
        simp only [pVar, pC, pOp, pUn, pNeg_i, pAdd_ii, pAdd_ss, pAdd_tt, pAdd_ll, pSub_ii, pLt_ii, pLe_ii, pGt_ii, pGe_ii, pDiv_ii, pMod_ii, pPow_ii, pMul_ii, pMul_li, pEq_a, pNe_a, isNP_i, isNP_s, isNP_b, isNP_l, isNP_t, isNP_n, pIsN_n, pNotN_n, pIx_s, pIx_t, pIx_l, boolP_b, truP_b, truP_n, truP_i, truP_l, truP_t, pTru, pBool, pNotT, pAndT, pOrT, pYes, pAndV, pOrV, pNotV, pIf, pNil, pCons, pTup, pLst, pCB, pLen_s, pLen_l, pLen_t, pAbs_i, pInt_i, pInt_b, pMin2_ii, pMax2_ii, pListOf_1, pTupOf_1, pAll_l, pAny_l, pSrt_l, pSS, pLR, tyP_n, tyP_b, tyP_i, tyP_s, tyP_l, tyP_t, pIsi, pIsi2, isTy, pChain, pRev, revP_t, pAug, augP_ii, pBestMin_1, pBestMax_1, pUnp, pgNames, pSSZ, lstP_l, pSrtZ_1, srtD_i, pNoP, intP_i, pPart, slP_t, slP_l, pSl, pCall, pCallK, pBor, bor_bool, pItS, rg1, rg2, pRng1, pRng2, zp_t, zp_l, pZip, en1_1, pEnum, seqD_l, seqD_t, pgName, pgNil, pgCons, pgTup, pgSeq, wipeE, pLc, pLc2, pNext, pSeq, pBreak, pCont, pRet, pRetN, pExpr, pIfS, pAsg, pPar, appP, pApp, setP, pSet, pFor, pWhile, endP_n, endP_r, runP, runPB, bd_ret, bd_bad, ofO_some, ofO_none, gpm, List.filterMap_cons, List.filterMap_nil, eqD_ii, eqD_ss, eqD_bb, eqD_nn, eqD_in, eqD_ni, eqD_bn, eqD_nb, eqD_sn, eqD_ns, eqD_is, eqD_si, eqD_bs, eqD_sb, Option.map_some, Option.map_none, Option.bind_some, Option.bind_none, List.getElem?_cons_zero, List.getElem?_cons_succ, List.set_cons_zero, List.set_cons_succ, List.map_cons, List.map_nil, List.replicate, List.cons_append, List.nil_append, List.append_nil, List.length_cons, List.length_nil, List.length_map, atI_0, atI_1, atI_2, atI_3, atI_4, atI_5, decide_eq_true_eq, Bool.not_true, Bool.not_false, Bool.true_and, Bool.false_and, Bool.and_true, Bool.and_false, Bool.or_true, Bool.true_or, Bool.or_false, Bool.false_or, Bool.false_eq_true, Bool.not_eq_true', decide_eq_false_iff_not, ↓reduceIte, decide_true, decide_false, reduceCtorEq, Nat.reduceAdd, Nat.reduceSub, Nat.reduceEqDiff, List.isEmpty_nil, hz 0 (by omega)]
      | 1, _ =>
        have e : offs ((1 : Nat) : Int) = [0] := rfl
        have e' : offs ((1 + 1 : Nat) : Int) = [0, 1] := rfl
        have a : L2.atI [PyData.int 0] (-1) = some (.int 0) := rfl
        rw [e, e']
        simp only [pVar, pC, pOp, pUn, pNeg_i, pAdd_ii, pAdd_ss, pAdd_tt, pAdd_ll, pSub_ii, pLt_ii, pLe_ii, pGt_ii, pGe_ii, pDiv_ii, pMod_ii, pPow_ii, pEq_a, pNe_a, isNP_i, isNP_s, isNP_b, isNP_l, isNP_t, isNP_n, pIsN_n, pNotN_n, pIx_s, pIx_t, pIx_l, boolP_b, truP_b, truP_n, truP_i, truP_l, truP_t, pTru, pBool, pNotT, pAndT, pOrT, pYes, pAndV, pOrV, pNotV, pIf, pNil, pCons, pTup, pLst, pCB, pLen_s, pLen_l, pLen_t, pAbs_i, pInt_i, pInt_b, pMin2_ii, pMax2_ii, pListOf_1, pTupOf_1, pAll_l, pAny_l, pSrt_l, pSS, pLR, tyP_n, tyP_b, tyP_i, tyP_s, tyP_l, tyP_t, pIsi, pIsi2, isTy, pChain, pRev, revP_t, pAug, augP_ii, pBestMin_1, pBestMax_1, pUnp, pgNames, pSSZ, lstP_l, pSrtZ_1, srtD_i, pNoP, intP_i, pPart, slP_t, slP_l, pSl, pCall, pCallK, pBor, bor_bool, pItS, rg1, rg2, pRng1, pRng2, zp_t, zp_l, pZip, en1_1, pEnum, seqD_l, seqD_t, pgName, pgNil, pgCons, pgTup, pgSeq, wipeE, pLc, pLc2, pNext, pSeq, pBreak, pCont, pRet, pRetN, pExpr, pIfS, pAsg, pPar, appP, pApp, setP, pSet, pFor, pWhile, endP_n, endP_r, runP, runPB, bd_ret, bd_bad, ofO_some, ofO_none, gpm, List.filterMap_cons, List.filterMap_nil, eqD_ii, eqD_ss, eqD_bb, eqD_nn, eqD_in, eqD_ni, eqD_bn, eqD_nb, eqD_sn, eqD_ns, eqD_is, eqD_si, eqD_bs, eqD_sb, Option.map_some, Option.map_none, Option.bind_some, Option.bind_none, List.getElem?_cons_zero, List.getElem?_cons_succ, List.set_cons_zero, List.set_cons_succ, List.map_cons, List.map_nil, List.replicate, List.cons_append, List.nil_append, List.append_nil, List.length_cons, List.length_nil, List.length_map, atI_0, atI_1, atI_2, atI_3, atI_4, atI_5, decide_eq_true_eq, Bool.not_true, Bool.not_false, Bool.true_and, Bool.false_and, Bool.and_true, Bool.and_false, Bool.or_true, Bool.true_or, Bool.or_false, Bool.false_or, Bool.false_eq_true, Bool.not_eq_true', decide_eq_false_iff_not, ↓reduceIte, decide_true, decide_false, reduceCtorEq, Nat.reduceAdd, Nat.reduceSub, Nat.reduceEqDiff, List.isEmpty_cons, hz 1 (by omega), a, mul_ok (i := 0) (j := 2) (by omega)]
        rfl
      | 2, _ =>
        have e : offs ((2 : Nat) : Int) = [0, 1] := rfl
        have e' : offs ((2 + 1 : Nat) : Int) = [0, 1, 3] := rfl
        have a : L2.atI [PyData.int 0, .int 1] (-1) = some (.int 1) := rfl
        rw [e, e']
        simp only [pVar, pC, pOp, pUn, pNeg_i, pAdd_ii, pAdd_ss, pAdd_tt, pAdd_ll, pSub_ii, pLt_ii, pLe_ii, pGt_ii, pGe_ii, pDiv_ii, pMod_ii, pPow_ii, pEq_a, pNe_a, isNP_i, isNP_s, isNP_b, isNP_l, isNP_t, isNP_n, pIsN_n, pNotN_n, pIx_s, pIx_t, pIx_l, boolP_b, truP_b, truP_n, truP_i, truP_l, truP_t, pTru, pBool, pNotT, pAndT, pOrT, pYes, pAndV, pOrV, pNotV, pIf, pNil, pCons, pTup, pLst, pCB, pLen_s, pLen_l, pLen_t, pAbs_i, pInt_i, pInt_b, pMin2_ii, pMax2_ii, pListOf_1, pTupOf_1, pAll_l, pAny_l, pSrt_l, pSS, pLR, tyP_n, tyP_b, tyP_i, tyP_s, tyP_l, tyP_t, pIsi, pIsi2, isTy, pChain, pRev, revP_t, pAug, augP_ii, pBestMin_1, pBestMax_1, pUnp, pgNames, pSSZ, lstP_l, pSrtZ_1, srtD_i, pNoP, intP_i, pPart, slP_t, slP_l, pSl, pCall, pCallK, pBor, bor_bool, pItS, rg1, rg2, pRng1, pRng2, zp_t, zp_l, pZip, en1_1, pEnum, seqD_l, seqD_t, pgName, pgNil, pgCons, pgTup, pgSeq, wipeE, pLc, pLc2, pNext, pSeq, pBreak, pCont, pRet, pRetN, pExpr, pIfS, pAsg, pPar, appP, pApp, setP, pSet, pFor, pWhile, endP_n, endP_r, runP, runPB, bd_ret, bd_bad, ofO_some, ofO_none, gpm, List.filterMap_cons, List.filterMap_nil, eqD_ii, eqD_ss, eqD_bb, eqD_nn, eqD_in, eqD_ni, eqD_bn, eqD_nb, eqD_sn, eqD_ns, eqD_is, eqD_si, eqD_bs, eqD_sb, Option.map_some, Option.map_none, Option.bind_some, Option.bind_none, List.getElem?_cons_zero, List.getElem?_cons_succ, List.set_cons_zero, List.set_cons_succ, List.map_cons, List.map_nil, List.replicate, List.cons_append, List.nil_append, List.append_nil, List.length_cons, List.length_nil, List.length_map, atI_0, atI_1, atI_2, atI_3, atI_4, atI_5, decide_eq_true_eq, Bool.not_true, Bool.not_false, Bool.true_and, Bool.false_and, Bool.and_true, Bool.and_false, Bool.or_true, Bool.true_or, Bool.or_false, Bool.false_or, Bool.false_eq_true, Bool.not_eq_true', decide_eq_false_iff_not, ↓reduceIte, decide_true, decide_false, reduceCtorEq, Nat.reduceAdd, Nat.reduceSub, Nat.reduceEqDiff, List.isEmpty_cons, hz 2 (by omega), a, mul_ok (i := 1) (j := 2) (by omega)]
        rfl
      | 3, _ =>
        have e : offs ((3 : Nat) : Int) = [0, 1, 3] := rfl
        have e' : offs ((3 + 1 : Nat) : Int) = [0, 1, 3, 7] := rfl
        have a : L2.atI [PyData.int 0, .int 1, .int 3] (-1) = some (.int 3) := rfl
        rw [e, e']
        simp only [pVar, pC, pOp, pUn, pNeg_i, pAdd_ii, pAdd_ss, pAdd_tt, pAdd_ll, pSub_ii, pLt_ii, pLe_ii, pGt_ii, pGe_ii, pDiv_ii, pMod_ii, pPow_ii, pEq_a, pNe_a, isNP_i, isNP_s, isNP_b, isNP_l, isNP_t, isNP_n, pIsN_n, pNotN_n, pIx_s, pIx_t, pIx_l, boolP_b, truP_b, truP_n, truP_i, truP_l, truP_t, pTru, pBool, pNotT, pAndT, pOrT, pYes, pAndV, pOrV, pNotV, pIf, pNil, pCons, pTup, pLst, pCB, pLen_s, pLen_l, pLen_t, pAbs_i, pInt_i, pInt_b, pMin2_ii, pMax2_ii, pListOf_1, pTupOf_1, pAll_l, pAny_l, pSrt_l, pSS, pLR, tyP_n, tyP_b, tyP_i, tyP_s, tyP_l, tyP_t, pIsi, pIsi2, isTy, pChain, pRev, revP_t, pAug, augP_ii, pBestMin_1, pBestMax_1, pUnp, pgNames, pSSZ, lstP_l, pSrtZ_1, srtD_i, pNoP, intP_i, pPart, slP_t, slP_l, pSl, pCall, pCallK, pBor, bor_bool, pItS, rg1, rg2, pRng1, pRng2, zp_t, zp_l, pZip, en1_1, pEnum, seqD_l, seqD_t, pgName, pgNil, pgCons, pgTup, pgSeq, wipeE, pLc, pLc2, pNext, pSeq, pBreak, pCont, pRet, pRetN, pExpr, pIfS, pAsg, pPar, appP, pApp, setP, pSet, pFor, pWhile, endP_n, endP_r, runP, runPB, bd_ret, bd_bad, ofO_some, ofO_none, gpm, List.filterMap_cons, List.filterMap_nil, eqD_ii, eqD_ss, eqD_bb, eqD_nn, eqD_in, eqD_ni, eqD_bn, eqD_nb, eqD_sn, eqD_ns, eqD_is, eqD_si, eqD_bs, eqD_sb, Option.map_some, Option.map_none, Option.bind_some, Option.bind_none, List.getElem?_cons_zero, List.getElem?_cons_succ, List.set_cons_zero, List.set_cons_succ, List.map_cons, List.map_nil, List.replicate, List.cons_append, List.nil_append, List.append_nil, List.length_cons, List.length_nil, List.length_map, atI_0, atI_1, atI_2, atI_3, atI_4, atI_5, decide_eq_true_eq, Bool.not_true, Bool.not_false, Bool.true_and, Bool.false_and, Bool.and_true, Bool.and_false, Bool.or_true, Bool.true_or, Bool.or_false, Bool.false_or, Bool.false_eq_true, Bool.not_eq_true', decide_eq_false_iff_not, ↓reduceIte, decide_true, decide_false, reduceCtorEq, Nat.reduceAdd, Nat.reduceSub, Nat.reduceEqDiff, List.isEmpty_cons, hz 3 (by omega), a, mul_ok (i := 3) (j := 2) (by omega)]
        rfl)
    (upto n) [some (.int n), some (.list []), none] ⟨0, none, by rw [upto_len]; omega, rfl⟩
  have z0 : 0 ≤ sizeLine := by decide
  have hi2 : i = n.toNat := by simpa using hi
  subst hi2
  unfold p_offsets
  simp only [pVar, pC, pOp, pUn, pNeg_i, pAdd_ii, pAdd_ss, pAdd_tt, pAdd_ll, pSub_ii, pLt_ii, pLe_ii, pGt_ii, pGe_ii, pDiv_ii, pMod_ii, pPow_ii, pMul_ii, pMul_li, pEq_a, pNe_a, isNP_i, isNP_s, isNP_b, isNP_l, isNP_t, isNP_n, pIsN_n, pNotN_n, pIx_s, pIx_t, pIx_l, boolP_b, truP_b, truP_n, truP_i, truP_l, truP_t, pTru, pBool, pNotT, pAndT, pOrT, pYes, pAndV, pOrV, pNotV, pIf, pNil, pCons, pTup, pLst, pCB, pLen_s, pLen_l, pLen_t, pAbs_i, pInt_i, pInt_b, pMin2_ii, pMax2_ii, pListOf_1, pTupOf_1, pAll_l, pAny_l, pSrt_l, pSS, pLR, tyP_n, tyP_b, tyP_i, tyP_s, tyP_l, tyP_t, pIsi, pIsi2, isTy, pChain, pRev, revP_t, pAug, augP_ii, pBestMin_1, pBestMax_1, pUnp, pgNames, pSSZ, lstP_l, pSrtZ_1, srtD_i, pNoP, intP_i, pPart, slP_t, slP_l, pSl, pCall, pCallK, pBor, bor_bool, pItS, rg2, pRng1, pRng2, zp_t, zp_l, pZip, en1_1, pEnum, seqD_l, seqD_t, pgName, pgNil, pgCons, pgTup, pgSeq, wipeE, pLc, pLc2, pNext, pSeq, pBreak, pCont, pRet, pRetN, pExpr, pIfS, pAsg, pPar, appP, pApp, setP, pSet, pFor, pWhile, endP_n, endP_r, runP, runPB, bd_ret, bd_bad, ofO_some, ofO_none, gpm, List.filterMap_cons, List.filterMap_nil, eqD_ii, eqD_ss, eqD_bb, eqD_nn, eqD_in, eqD_ni, eqD_bn, eqD_nb, eqD_sn, eqD_ns, eqD_is, eqD_si, eqD_bs, eqD_sb, Option.map_some, Option.map_none, Option.bind_some, Option.bind_none, List.getElem?_cons_zero, List.getElem?_cons_succ, List.set_cons_zero, List.set_cons_succ, List.map_cons, List.map_nil, List.replicate, List.cons_append, List.nil_append, List.append_nil, List.length_cons, List.length_nil, List.length_map, atI_0, atI_1, atI_2, atI_3, atI_4, atI_5, decide_eq_true_eq, Bool.not_true, Bool.not_false, Bool.true_and, Bool.false_and, Bool.and_true, Bool.and_false, Bool.or_true, Bool.true_or, Bool.or_false, Bool.false_or, Bool.false_eq_true, Bool.not_eq_true', decide_eq_false_iff_not, ↓reduceIte, decide_true, decide_false, reduceCtorEq, Nat.reduceAdd, Nat.reduceSub, Nat.reduceEqDiff, z0, hr, e1]
  rw [show (((n.toNat : Nat) : Int)) = n by omega]
def ev (c o : Int) : List (Int × Int) := srtP ((upto (c / 2)).map fun k => ord (2 * k) ((k + o) % (c / 2) * 2 + 1))
theorem even_ok {c o : Int} (h0 : 2 ≤ c) (hc : c ≤ 30) (o0 : 0 ≤ o) (o1 : o ≤ 30) : p_even_round [.int c, .int o] = Y.ret (pl (true, true) (ev c o)) := by
  have e := lcP_map (vs := [3]) (g := pgName 3) (tt := pYes) (te := pCall p_in_order (pCons (pTup (pCons (pOp pMul (pC (.int 2)) (pVar 3)) (pCons (pOp pAdd (pOp pMul (pOp pMod (pOp pAdd (pVar 3) (pVar 1)) (pVar 2)) (pC (.int 2))) (pC (.int 1))) pNil))) pNil)) (E := [some (.int c), some (.int o), some (.int (c / 2)), none])
    PyData.int (fun _ => true) (fun k => pr true (ord (2 * k) ((k + o) % (c / 2) * 2 + 1))) (upto (c / 2)) [] (fun k hk => by
      have hk := upto_mem.mp hk
      have z2 : 2 ≤ sizeLine := by decide
      have hp : 0 < c / 2 := by omega
      have m0 := Int.emod_nonneg (k + o) (show c / 2 ≠ 0 by omega)
      have m1 := Int.emod_lt_of_pos (k + o) hp
      refine ⟨[some (.int c), some (.int o), some (.int (c / 2)), some (.int k)], rfl, rfl, fun _ => ?_⟩
      simp only [pVar, pC, pOp, pUn, pNeg_i, pAdd_ii, pAdd_ss, pAdd_tt, pAdd_ll, pSub_ii, pLt_ii, pLe_ii, pGt_ii, pGe_ii, pDiv_ii, pMod_ii, pPow_ii, pEq_a, pNe_a, isNP_i, isNP_s, isNP_b, isNP_l, isNP_t, isNP_n, pIsN_n, pNotN_n, pIx_s, pIx_t, pIx_l, boolP_b, truP_b, truP_n, truP_i, truP_l, truP_t, pTru, pBool, pNotT, pAndT, pOrT, pYes, pAndV, pOrV, pNotV, pIf, pNil, pCons, pTup, pLst, pCB, pLen_s, pLen_l, pLen_t, pAbs_i, pInt_i, pInt_b, pMin2_ii, pMax2_ii, pListOf_1, pTupOf_1, pAll_l, pAny_l, pSrt_l, pSS, pLR, tyP_n, tyP_b, tyP_i, tyP_s, tyP_l, tyP_t, pIsi, pIsi2, isTy, pChain, pRev, revP_t, pAug, augP_ii, pBestMin_1, pBestMax_1, pUnp, pgNames, pSSZ, lstP_l, pSrtZ_1, srtD_i, pNoP, intP_i, pPart, slP_t, slP_l, pSl, pCall, pCallK, pBor, bor_bool, pItS, rg1, rg2, pRng1, pRng2, zp_t, zp_l, pZip, en1_1, pEnum, seqD_l, seqD_t, pgName, pgNil, pgCons, pgTup, pgSeq, wipeE, pLc, pLc2, pNext, pSeq, pBreak, pCont, pRet, pRetN, pExpr, pIfS, pAsg, pPar, appP, pApp, setP, pSet, pFor, pWhile, endP_n, endP_r, runP, runPB, bd_ret, bd_bad, ofO_some, ofO_none, gpm, List.filterMap_cons, List.filterMap_nil, eqD_ii, eqD_ss, eqD_bb, eqD_nn, eqD_in, eqD_ni, eqD_bn, eqD_nb, eqD_sn, eqD_ns, eqD_is, eqD_si, eqD_bs, eqD_sb, Option.map_some, Option.map_none, Option.bind_some, Option.bind_none, List.getElem?_cons_zero, List.getElem?_cons_succ, List.set_cons_zero, List.set_cons_succ, List.map_cons, List.map_nil, List.replicate, List.cons_append, List.nil_append, List.append_nil, List.length_cons, List.length_nil, List.length_map, atI_0, atI_1, atI_2, atI_3, atI_4, atI_5, decide_eq_true_eq, Bool.not_true, Bool.not_false, Bool.true_and, Bool.false_and, Bool.and_true, Bool.and_false, Bool.or_true, Bool.true_or, Bool.or_false, Bool.false_or, Bool.false_eq_true, Bool.not_eq_true', decide_eq_false_iff_not, ↓reduceIte, decide_true, decide_false, reduceCtorEq, Nat.reduceAdd, Nat.reduceSub, Nat.reduceEqDiff, z2, hp, mul_ok (i := 2) (j := k) (by omega), mul_ok (i := (k + o) % (c / 2)) (j := 2) ⟨by omega, by omega⟩, order_ok]) (by rw [upto_len]; exact Nat.le_trans (show 0 + (c / 2).toNat ≤ 30 by omega) (by decide))
  rw [List.filter_eq_self.mpr (fun _ _ => rfl), List.nil_append] at e
  have e2 : ((upto (c / 2)).map fun k => pr true (ord (2 * k) ((k + o) % (c / 2) * 2 + 1))) = ((upto (c / 2)).map fun k => ord (2 * k) ((k + o) % (c / 2) * 2 + 1)).map (pr true) := by rw [List.map_map]; rfl
  have hr := rg1_ok (c := c / 2) (by omega) (by omega)
  unfold p_even_round
  simp only [pVar, pC, pOp, pUn, pNeg_i, pAdd_ii, pAdd_ss, pAdd_tt, pAdd_ll, pSub_ii, pLt_ii, pLe_ii, pGt_ii, pGe_ii, pMod_ii, pPow_ii, pMul_ii, pMul_li, pEq_a, pNe_a, isNP_i, isNP_s, isNP_b, isNP_l, isNP_t, isNP_n, pIsN_n, pNotN_n, pIx_s, pIx_t, pIx_l, boolP_b, truP_b, truP_n, truP_i, truP_l, truP_t, pTru, pBool, pNotT, pAndT, pOrT, pYes, pAndV, pOrV, pNotV, pIf, pNil, pCons, pTup, pLst, pCB, pLen_s, pLen_l, pLen_t, pAbs_i, pInt_i, pInt_b, pMin2_ii, pMax2_ii, pListOf_1, pTupOf_1, pAll_l, pAny_l, pSrt_l, pSS, pLR, tyP_n, tyP_b, tyP_i, tyP_s, tyP_l, tyP_t, pIsi, pIsi2, isTy, pChain, pRev, revP_t, pAug, augP_ii, pBestMin_1, pBestMax_1, pUnp, pgNames, pSSZ, lstP_l, pSrtZ_1, srtD_i, pNoP, intP_i, pPart, slP_t, slP_l, pSl, pCall, pCallK, pBor, bor_bool, pItS, rg2, pRng1, pRng2, zp_t, zp_l, pZip, en1_1, pEnum, seqD_l, seqD_t, pgName, pgNil, pgCons, pgTup, pgSeq, wipeE, pLc, pLc2, pNext, pSeq, pBreak, pCont, pRet, pRetN, pExpr, pIfS, pAsg, pPar, appP, pApp, setP, pSet, pFor, pWhile, endP_n, endP_r, runP, runPB, bd_ret, bd_bad, ofO_some, ofO_none, gpm, List.filterMap_cons, List.filterMap_nil, eqD_ii, eqD_ss, eqD_bb, eqD_nn, eqD_in, eqD_ni, eqD_bn, eqD_nb, eqD_sn, eqD_ns, eqD_is, eqD_si, eqD_bs, eqD_sb, Option.map_some, Option.map_none, Option.bind_some, Option.bind_none, List.getElem?_cons_zero, List.getElem?_cons_succ, List.set_cons_zero, List.set_cons_succ, List.map_cons, List.map_nil, List.replicate, List.cons_append, List.nil_append, List.append_nil, List.length_cons, List.length_nil, List.length_map, atI_0, atI_1, atI_2, atI_3, atI_4, atI_5, decide_eq_true_eq, Bool.not_true, Bool.not_false, Bool.true_and, Bool.false_and, Bool.and_true, Bool.and_false, Bool.or_true, Bool.true_or, Bool.or_false, Bool.false_or, Bool.false_eq_true, Bool.not_eq_true', decide_eq_false_iff_not, ↓reduceIte, decide_true, decide_false, reduceCtorEq, Nat.reduceAdd, Nat.reduceSub, Nat.reduceEqDiff, half_ok, hr, e, e2, srt_pairs]
  rfl
end P
namespace P
open PySem L2 Z Y
theorem rg2_ok {p c : Int} (h0 : 0 ≤ p) (h1 : p < c) (h2 : c ≤ 1000000) : rg2 [.int (p + 1), .int c] = Y.ret (((upto c).filter fun j => decide (p < j)).map .int) := by
  show (if -(2 ^ 62) ≤ p + 1 ∧ p + 1 < 2 ^ 62 ∧ -(2 ^ 62) ≤ c ∧ c < 2 ^ 62 then Y.ret (rngP (p + 1) (c - (p + 1)).toNat) else bad) = _
  rw [if_pos ⟨by omega, by omega, by omega, by omega⟩]
  have e : (upto c).filter (fun j => decide (p < j)) = (List.range (c - (p + 1)).toNat).map fun i => p + 1 + (i : Nat) := by
    refine List.Perm.eq_of_pairwise (le := (· < ·)) (fun a b _ _ h1 h2 => by omega) ((upto_lt c).sublist List.filter_sublist) ?_ ?_
    · rw [List.pairwise_map]
      exact List.pairwise_lt_range.imp fun h => by omega
    · refine (List.perm_ext_iff_of_nodup (((upto_lt c).sublist List.filter_sublist).imp fun h => by omega) ?_).mpr fun a => ?_
      · unfold List.Nodup
        rw [List.pairwise_map]
        exact List.pairwise_lt_range.imp fun h => by omega
      · rw [List.mem_filter, upto_mem, decide_eq_true_eq, List.mem_map]
        constructor
        · intro h
          exact ⟨(a - (p + 1)).toNat, List.mem_range.mpr (by omega), by omega⟩
        · rintro ⟨i, hi, rfl⟩
          rw [List.mem_range] at hi
          omega
  rw [e]
  unfold rngP
  rw [List.map_map]
  rfl
/-! rounds_plan; what is a row of rounds -/
def rsD (rs : List (List (Int × Int))) : PyData := .tuple (rs.map (pl (true, true)))
def rpE (c : Int) : List (List (Int × Int)) := (offs (db c)).map (ev c)
def core (c : Int) : Int := if c ≤ 2 then 1 else if c ≤ 4 then 2 else if c ≤ 8 then 4 else 8
def asd (c : Int) : List (Int × Int) := ((upto c).filter fun j => decide (core c - 1 < j)).map fun p => (p - core c, p)
def rp (c : Int) : List (List (Int × Int)) := if c = 1 then [] else if c % 2 = 0 then rpE c else asd c :: rpE (core c) ++ [asd c]
theorem db_le {c : Int} : 0 ≤ db c ∧ db c ≤ 4 := by
  unfold db
  repeat' split <;> try omega
theorem offs_mem {n x : Int} (h : x ∈ offs n) : 0 ≤ x ∧ x ≤ 7 := by
  unfold offs at h
  have := List.mem_of_mem_take h
  simp only [List.mem_cons, List.not_mem_nil, or_false] at this
  omega
theorem offs_len (n : Int) : (offs n).length ≤ 4 := by
  unfold offs
  rw [List.length_take]
  exact Nat.min_le_right _ _
theorem rplanE {n : Nat} {c : Int} (h0 : 2 ≤ c) (hc : c ≤ 16) (h : c % 2 = 0) : p_rounds_plan (n + 1) [.int c] = Y.ret (rsD (rpE c)) := by
  have e := fun g1 g2 => lcP_map (vs := [3]) (g := pgName 3) (tt := pYes) (te := pCall p_even_round (pCons (pVar 0) (pCons (pVar 3) pNil))) (E := [some (.int c), g1, g2, none, none]) PyData.int (fun _ => true) (fun o => pl (true, true) (ev c o)) (offs (db c)) [] (fun o ho => by
    have ho := offs_mem ho
    refine ⟨[some (.int c), g1, g2, some (.int o), none], rfl, rfl, fun _ => ?_⟩
    simp only [pVar, pC, pOp, pUn, pNeg_i, pAdd_ii, pAdd_ss, pAdd_tt, pAdd_ll, pSub_ii, pLt_ii, pLe_ii, pGt_ii, pGe_ii, pDiv_ii, pMod_ii, pPow_ii, pMul_ii, pMul_li, pEq_a, pNe_a, isNP_i, isNP_s, isNP_b, isNP_l, isNP_t, isNP_n, pIsN_n, pNotN_n, pIx_s, pIx_t, pIx_l, boolP_b, truP_b, truP_n, truP_i, truP_l, truP_t, pTru, pBool, pNotT, pAndT, pOrT, pYes, pAndV, pOrV, pNotV, pIf, pNil, pCons, pTup, pLst, pCB, pLen_s, pLen_l, pLen_t, pAbs_i, pInt_i, pInt_b, pMin2_ii, pMax2_ii, pListOf_1, pTupOf_1, pAll_l, pAny_l, pSrt_l, pSS, pLR, tyP_n, tyP_b, tyP_i, tyP_s, tyP_l, tyP_t, pIsi, pIsi2, isTy, pChain, pRev, revP_t, pAug, augP_ii, pBestMin_1, pBestMax_1, pUnp, pgNames, pSSZ, lstP_l, pSrtZ_1, srtD_i, pNoP, intP_i, pPart, slP_t, slP_l, pSl, pCall, pCallK, pBor, bor_bool, pItS, rg1, rg2, pRng1, pRng2, zp_t, zp_l, pZip, en1_1, pEnum, seqD_l, seqD_t, pgName, pgNil, pgCons, pgTup, pgSeq, wipeE, pLc, pLc2, pNext, pSeq, pBreak, pCont, pRet, pRetN, pExpr, pIfS, pAsg, pPar, appP, pApp, setP, pSet, pFor, pWhile, endP_n, endP_r, runP, runPB, bd_ret, bd_bad, ofO_some, ofO_none, gpm, List.filterMap_cons, List.filterMap_nil, eqD_ii, eqD_ss, eqD_bb, eqD_nn, eqD_in, eqD_ni, eqD_bn, eqD_nb, eqD_sn, eqD_ns, eqD_is, eqD_si, eqD_bs, eqD_sb, Option.map_some, Option.map_none, Option.bind_some, Option.bind_none, List.getElem?_cons_zero, List.getElem?_cons_succ, List.set_cons_zero, List.set_cons_succ, List.map_cons, List.map_nil, List.replicate, List.cons_append, List.nil_append, List.append_nil, List.length_cons, List.length_nil, List.length_map, atI_0, atI_1, atI_2, atI_3, atI_4, atI_5, decide_eq_true_eq, Bool.not_true, Bool.not_false, Bool.true_and, Bool.false_and, Bool.and_true, Bool.and_false, Bool.or_true, Bool.true_or, Bool.or_false, Bool.false_or, Bool.false_eq_true, Bool.not_eq_true', decide_eq_false_iff_not, ↓reduceIte, decide_true, decide_false, reduceCtorEq, Nat.reduceAdd, Nat.reduceSub, Nat.reduceEqDiff, even_ok h0 (show c ≤ 30 by omega) ho.1 (show o ≤ 30 by omega)]) (Nat.le_trans (show 0 + (offs (db c)).length ≤ 4 by have := offs_len (db c); omega) (by decide))
  simp only [List.filter_eq_self.mpr (fun _ _ => rfl), List.nil_append] at e
  have h1 : c ≠ 1 := by omega
  have h2 : (0 : Int) < 2 := by decide
  have d := db_le (c := c)
  have er : rsD (rpE c) = .tuple ((offs (db c)).map fun o => pl (true, true) (ev c o)) := by
    unfold rsD rpE
    rw [List.map_map]
    rfl
  unfold p_rounds_plan
  simp only [pVar, pC, pOp, pUn, pNeg_i, pAdd_ii, pAdd_ss, pAdd_tt, pAdd_ll, pSub_ii, pLt_ii, pLe_ii, pGt_ii, pGe_ii, pDiv_ii, pMod_ii, pPow_ii, pMul_ii, pMul_li, pEq_a, pNe_a, isNP_i, isNP_s, isNP_b, isNP_l, isNP_t, isNP_n, pIsN_n, pNotN_n, pIx_s, pIx_t, pIx_l, boolP_b, truP_b, truP_n, truP_i, truP_l, truP_t, pTru, pBool, pNotT, pAndT, pOrT, pYes, pAndV, pOrV, pNotV, pIf, pNil, pCons, pTup, pLst, pCB, pLen_s, pLen_l, pLen_t, pAbs_i, pInt_i, pInt_b, pMin2_ii, pMax2_ii, pListOf_1, pTupOf_1, pAll_l, pAny_l, pSrt_l, pSS, pLR, tyP_n, tyP_b, tyP_i, tyP_s, tyP_l, tyP_t, pIsi, pIsi2, isTy, pChain, pRev, revP_t, pAug, augP_ii, pBestMin_1, pBestMax_1, pUnp, pgNames, pSSZ, lstP_l, pSrtZ_1, srtD_i, pNoP, intP_i, pPart, slP_t, slP_l, pSl, pCall, pCallK, pBor, bor_bool, pItS, rg1, rg2, pRng1, pRng2, zp_t, zp_l, pZip, en1_1, pEnum, seqD_l, seqD_t, pgName, pgNil, pgCons, pgTup, pgSeq, wipeE, pLc, pLc2, pNext, pSeq, pBreak, pCont, pRet, pRetN, pExpr, pIfS, pAsg, pPar, appP, pApp, setP, pSet, pFor, pWhile, endP_n, endP_r, runP, runPB, bd_ret, bd_bad, ofO_some, ofO_none, gpm, List.filterMap_cons, List.filterMap_nil, eqD_ii, eqD_ss, eqD_bb, eqD_nn, eqD_in, eqD_ni, eqD_bn, eqD_nb, eqD_sn, eqD_ns, eqD_is, eqD_si, eqD_bs, eqD_sb, Option.map_some, Option.map_none, Option.bind_some, Option.bind_none, List.getElem?_cons_zero, List.getElem?_cons_succ, List.set_cons_zero, List.set_cons_succ, List.map_cons, List.map_nil, List.replicate, List.cons_append, List.nil_append, List.append_nil, List.length_cons, List.length_nil, List.length_map, atI_0, atI_1, atI_2, atI_3, atI_4, atI_5, decide_eq_true_eq, Bool.not_true, Bool.not_false, Bool.true_and, Bool.false_and, Bool.and_true, Bool.and_false, Bool.or_true, Bool.true_or, Bool.or_false, Bool.false_or, Bool.false_eq_true, Bool.not_eq_true', decide_eq_false_iff_not, ↓reduceIte, decide_true, decide_false, reduceCtorEq, Nat.reduceAdd, Nat.reduceSub, Nat.reduceEqDiff, h1, h2, h, dbl_ok (show 1 ≤ c by omega) hc, offs_ok d.1 d.2, e, er]
theorem pow_core {c : Int} {k : Nat} (h0 : 3 ≤ c) (hc : c ≤ 16) (h1 : c ≤ (2 : Int) ^ k * 2) (h2 : ∀ j, j < k → (2 : Int) ^ j * 2 < c) : (2 : Int) ^ k = core c := by
  have hk : k ≤ 3 := by
    refine Classical.byContradiction fun h => ?_
    have := h2 3 (by omega)
    have e : (2 : Int) ^ 3 = 8 := by decide
    omega
  have e0 : (2 : Int) ^ 0 = 1 := by decide
  have e1 : (2 : Int) ^ 1 = 2 := by decide
  have e2 : (2 : Int) ^ 2 = 4 := by decide
  have e3 : (2 : Int) ^ 3 = 8 := by decide
  have a0 := h2 0
  have a1 := h2 1
  have a2 := h2 2
  rw [e0] at a0
  rw [e1] at a1
  rw [e2] at a2
  unfold core
  match k, hk with
  | 0, _ => rw [e0] at h1; omega
  | 1, _ => rw [e1] at h1 ⊢; have := a0 (by omega); repeat' split <;> try omega
  | 2, _ => rw [e2] at h1 ⊢; have := a1 (by omega); repeat' split <;> try omega
  | 3, _ => rw [e3] at h1 ⊢; have := a2 (by omega); repeat' split <;> try omega
theorem core_low {c : Int} (h0 : 3 ≤ c) : 2 ≤ core c ∧ core c < c ∧ core c ≤ 8 ∧ core c % 2 = 0 := by
  unfold core
  repeat' split <;> try omega
theorem aside_len {c : Int} (hc : c ≤ 30) : ((upto c).filter fun j => decide (core c - 1 < j)).length ≤ 30 := by
  have := filter_len (c := c) (f := fun j => decide (core c - 1 < j))
  omega
theorem rplanO {n : Nat} {c : Int} (h0 : 3 ≤ c) (hc : c ≤ 16) (h : c % 2 ≠ 0) : p_rounds_plan (n + 2) [.int c] = Y.ret (rsD (asd c :: rpE (core c) ++ [asd c])) := by
  have cl := core_low h0
  obtain ⟨E', e1, k, k1, k2, rfl⟩ := while_det (c := pBool (pOp pLt (pOp pMul (pVar 1) (pC (.int 2))) (pVar 0))) (body := q1_rounds_plan)
    (fun E m => ∃ k : Nat, m + k = 20 ∧ (∀ j, j < k → (2 : Int) ^ j * 2 < c) ∧ E = [some (.int c), some (.int ((2 : Int) ^ k)), none, none, none])
    (fun E => ∃ k : Nat, c ≤ (2 : Int) ^ k * 2 ∧ (∀ j, j < k → (2 : Int) ^ j * 2 < c) ∧ E = [some (.int c), some (.int ((2 : Int) ^ k)), none, none, none])
    (fun E m ⟨k, hm, k2, e⟩ => by
      subst e
      have hk : k ≤ 3 := by
        refine Classical.byContradiction fun h => ?_
        have := k2 3 (by omega)
        have e : (2 : Int) ^ 3 = 8 := by decide
        omega
      have hp := pow_le (show k ≤ 4 by omega)
      have mo := mul_ok (i := (2 : Int) ^ k) (j := 2) ⟨by omega, by omega⟩
      by_cases h : (2 : Int) ^ k * 2 < c
      · refine .inr ⟨by simp only [pVar, pC, pOp, pUn, pNeg_i, pAdd_ii, pAdd_ss, pAdd_tt, pAdd_ll, pSub_ii, pLt_ii, pLe_ii, pGt_ii, pGe_ii, pDiv_ii, pMod_ii, pPow_ii, pEq_a, pNe_a, isNP_i, isNP_s, isNP_b, isNP_l, isNP_t, isNP_n, pIsN_n, pNotN_n, pIx_s, pIx_t, pIx_l, boolP_b, truP_b, truP_n, truP_i, truP_l, truP_t, pTru, pBool, pNotT, pAndT, pOrT, pYes, pAndV, pOrV, pNotV, pIf, pNil, pCons, pTup, pLst, pCB, pLen_s, pLen_l, pLen_t, pAbs_i, pInt_i, pInt_b, pMin2_ii, pMax2_ii, pListOf_1, pTupOf_1, pAll_l, pAny_l, pSrt_l, pSS, pLR, tyP_n, tyP_b, tyP_i, tyP_s, tyP_l, tyP_t, pIsi, pIsi2, isTy, pChain, pRev, revP_t, pAug, augP_ii, pBestMin_1, pBestMax_1, pUnp, pgNames, pSSZ, lstP_l, pSrtZ_1, srtD_i, pNoP, intP_i, pPart, slP_t, slP_l, pSl, pCall, pCallK, pBor, bor_bool, pItS, rg1, rg2, pRng1, pRng2, zp_t, zp_l, pZip, en1_1, pEnum, seqD_l, seqD_t, pgName, pgNil, pgCons, pgTup, pgSeq, wipeE, pLc, pLc2, pNext, pSeq, pBreak, pCont, pRet, pRetN, pExpr, pIfS, pAsg, pPar, appP, pApp, setP, pSet, pFor, pWhile, endP_n, endP_r, runP, runPB, bd_ret, bd_bad, ofO_some, ofO_none, gpm, List.filterMap_cons, List.filterMap_nil, eqD_ii, eqD_ss, eqD_bb, eqD_nn, eqD_in, eqD_ni, eqD_bn, eqD_nb, eqD_sn, eqD_ns, eqD_is, eqD_si, eqD_bs, eqD_sb, Option.map_some, Option.map_none, Option.bind_some, Option.bind_none, List.getElem?_cons_zero, List.getElem?_cons_succ, List.set_cons_zero, List.set_cons_succ, List.map_cons, List.map_nil, List.replicate, List.cons_append, List.nil_append, List.append_nil, List.length_cons, List.length_nil, List.length_map, atI_0, atI_1, atI_2, atI_3, atI_4, atI_5, decide_eq_true_eq, Bool.not_true, Bool.not_false, Bool.true_and, Bool.false_and, Bool.and_true, Bool.and_false, Bool.or_true, Bool.true_or, Bool.or_false, Bool.false_or, Bool.false_eq_true, Bool.not_eq_true', decide_eq_false_iff_not, ↓reduceIte, decide_true, decide_false, reduceCtorEq, Nat.reduceAdd, Nat.reduceSub, Nat.reduceEqDiff, mo, h], [some (.int c), some (.int ((2 : Int) ^ (k + 1))), none, none, none], m - 1, ?_, by omega, k + 1, by omega, fun j hj => ?_, rfl⟩
        · unfold q1_rounds_plan
          simp only [pVar, pC, pOp, pUn, pNeg_i, pAdd_ii, pAdd_ss, pAdd_tt, pAdd_ll, pSub_ii, pLt_ii, pLe_ii, pGt_ii, pGe_ii, pDiv_ii, pMod_ii, pPow_ii, pEq_a, pNe_a, isNP_i, isNP_s, isNP_b, isNP_l, isNP_t, isNP_n, pIsN_n, pNotN_n, pIx_s, pIx_t, pIx_l, boolP_b, truP_b, truP_n, truP_i, truP_l, truP_t, pTru, pBool, pNotT, pAndT, pOrT, pYes, pAndV, pOrV, pNotV, pIf, pNil, pCons, pTup, pLst, pCB, pLen_s, pLen_l, pLen_t, pAbs_i, pInt_i, pInt_b, pMin2_ii, pMax2_ii, pListOf_1, pTupOf_1, pAll_l, pAny_l, pSrt_l, pSS, pLR, tyP_n, tyP_b, tyP_i, tyP_s, tyP_l, tyP_t, pIsi, pIsi2, isTy, pChain, pRev, revP_t, pAug, augP_ii, pBestMin_1, pBestMax_1, pUnp, pgNames, pSSZ, lstP_l, pSrtZ_1, srtD_i, pNoP, intP_i, pPart, slP_t, slP_l, pSl, pCall, pCallK, pBor, bor_bool, pItS, rg1, rg2, pRng1, pRng2, zp_t, zp_l, pZip, en1_1, pEnum, seqD_l, seqD_t, pgName, pgNil, pgCons, pgTup, pgSeq, wipeE, pLc, pLc2, pNext, pSeq, pBreak, pCont, pRet, pRetN, pExpr, pIfS, pAsg, pPar, appP, pApp, setP, pSet, pFor, pWhile, endP_n, endP_r, runP, runPB, bd_ret, bd_bad, ofO_some, ofO_none, gpm, List.filterMap_cons, List.filterMap_nil, eqD_ii, eqD_ss, eqD_bb, eqD_nn, eqD_in, eqD_ni, eqD_bn, eqD_nb, eqD_sn, eqD_ns, eqD_is, eqD_si, eqD_bs, eqD_sb, Option.map_some, Option.map_none, Option.bind_some, Option.bind_none, List.getElem?_cons_zero, List.getElem?_cons_succ, List.set_cons_zero, List.set_cons_succ, List.map_cons, List.map_nil, List.replicate, List.cons_append, List.nil_append, List.append_nil, List.length_cons, List.length_nil, List.length_map, atI_0, atI_1, atI_2, atI_3, atI_4, atI_5, decide_eq_true_eq, Bool.not_true, Bool.not_false, Bool.true_and, Bool.false_and, Bool.and_true, Bool.and_false, Bool.or_true, Bool.true_or, Bool.or_false, Bool.false_or, Bool.false_eq_true, Bool.not_eq_true', decide_eq_false_iff_not, ↓reduceIte, decide_true, decide_false, reduceCtorEq, Nat.reduceAdd, Nat.reduceSub, Nat.reduceEqDiff, mo, Int.pow_succ]
        · by_cases e : j = k
          · rw [e]; exact h
          · exact k2 j (by omega)
      · exact .inl ⟨by simp only [pVar, pC, pOp, pUn, pNeg_i, pAdd_ii, pAdd_ss, pAdd_tt, pAdd_ll, pSub_ii, pLt_ii, pLe_ii, pGt_ii, pGe_ii, pDiv_ii, pMod_ii, pPow_ii, pEq_a, pNe_a, isNP_i, isNP_s, isNP_b, isNP_l, isNP_t, isNP_n, pIsN_n, pNotN_n, pIx_s, pIx_t, pIx_l, boolP_b, truP_b, truP_n, truP_i, truP_l, truP_t, pTru, pBool, pNotT, pAndT, pOrT, pYes, pAndV, pOrV, pNotV, pIf, pNil, pCons, pTup, pLst, pCB, pLen_s, pLen_l, pLen_t, pAbs_i, pInt_i, pInt_b, pMin2_ii, pMax2_ii, pListOf_1, pTupOf_1, pAll_l, pAny_l, pSrt_l, pSS, pLR, tyP_n, tyP_b, tyP_i, tyP_s, tyP_l, tyP_t, pIsi, pIsi2, isTy, pChain, pRev, revP_t, pAug, augP_ii, pBestMin_1, pBestMax_1, pUnp, pgNames, pSSZ, lstP_l, pSrtZ_1, srtD_i, pNoP, intP_i, pPart, slP_t, slP_l, pSl, pCall, pCallK, pBor, bor_bool, pItS, rg1, rg2, pRng1, pRng2, zp_t, zp_l, pZip, en1_1, pEnum, seqD_l, seqD_t, pgName, pgNil, pgCons, pgTup, pgSeq, wipeE, pLc, pLc2, pNext, pSeq, pBreak, pCont, pRet, pRetN, pExpr, pIfS, pAsg, pPar, appP, pApp, setP, pSet, pFor, pWhile, endP_n, endP_r, runP, runPB, bd_ret, bd_bad, ofO_some, ofO_none, gpm, List.filterMap_cons, List.filterMap_nil, eqD_ii, eqD_ss, eqD_bb, eqD_nn, eqD_in, eqD_ni, eqD_bn, eqD_nb, eqD_sn, eqD_ns, eqD_is, eqD_si, eqD_bs, eqD_sb, Option.map_some, Option.map_none, Option.bind_some, Option.bind_none, List.getElem?_cons_zero, List.getElem?_cons_succ, List.set_cons_zero, List.set_cons_succ, List.map_cons, List.map_nil, List.replicate, List.cons_append, List.nil_append, List.append_nil, List.length_cons, List.length_nil, List.length_map, atI_0, atI_1, atI_2, atI_3, atI_4, atI_5, decide_eq_true_eq, Bool.not_true, Bool.not_false, Bool.true_and, Bool.false_and, Bool.and_true, Bool.and_false, Bool.or_true, Bool.true_or, Bool.or_false, Bool.false_or, Bool.false_eq_true, Bool.not_eq_true', decide_eq_false_iff_not, ↓reduceIte, decide_true, decide_false, reduceCtorEq, Nat.reduceAdd, Nat.reduceSub, Nat.reduceEqDiff, mo, h], k, by omega, k2, rfl⟩)
    1000 20 [some (.int c), some (.int 1), none, none, none] (by omega) ⟨0, rfl, (fun j hj => absurd hj (Nat.not_lt_zero _)), rfl⟩
  rw [pow_core h0 hc k1 k2] at e1
  have al := aside_len (c := c) (by omega)
  have ea := fun g2 g3 => lcP_map (vs := [4]) (g := pgName 4) (tt := pYes) (te := pTup (pCons (pOp Y.pSub (pVar 4) (pVar 1)) (pCons (pVar 4) pNil))) (E := [some (.int c), some (.int (core c)), g2, g3, none]) PyData.int (fun _ => true) (fun p => pr true (p - core c, p)) ((upto c).filter fun j => decide (core c - 1 < j)) [] (fun p _ => by
    have z2 : 2 ≤ sizeLine := by decide
    refine ⟨[some (.int c), some (.int (core c)), g2, g3, some (.int p)], rfl, rfl, fun _ => ?_⟩
    simp only [pVar, pC, pOp, pUn, pNeg_i, pAdd_ii, pAdd_ss, pAdd_tt, pAdd_ll, pSub_ii, pLt_ii, pLe_ii, pGt_ii, pGe_ii, pDiv_ii, pMod_ii, pPow_ii, pMul_ii, pMul_li, pEq_a, pNe_a, isNP_i, isNP_s, isNP_b, isNP_l, isNP_t, isNP_n, pIsN_n, pNotN_n, pIx_s, pIx_t, pIx_l, boolP_b, truP_b, truP_n, truP_i, truP_l, truP_t, pTru, pBool, pNotT, pAndT, pOrT, pYes, pAndV, pOrV, pNotV, pIf, pNil, pCons, pTup, pLst, pCB, pLen_s, pLen_l, pLen_t, pAbs_i, pInt_i, pInt_b, pMin2_ii, pMax2_ii, pListOf_1, pTupOf_1, pAll_l, pAny_l, pSrt_l, pSS, pLR, tyP_n, tyP_b, tyP_i, tyP_s, tyP_l, tyP_t, pIsi, pIsi2, isTy, pChain, pRev, revP_t, pAug, augP_ii, pBestMin_1, pBestMax_1, pUnp, pgNames, pSSZ, lstP_l, pSrtZ_1, srtD_i, pNoP, intP_i, pPart, slP_t, slP_l, pSl, pCall, pCallK, pBor, bor_bool, pItS, rg1, rg2, pRng1, pRng2, zp_t, zp_l, pZip, en1_1, pEnum, seqD_l, seqD_t, pgName, pgNil, pgCons, pgTup, pgSeq, wipeE, pLc, pLc2, pNext, pSeq, pBreak, pCont, pRet, pRetN, pExpr, pIfS, pAsg, pPar, appP, pApp, setP, pSet, pFor, pWhile, endP_n, endP_r, runP, runPB, bd_ret, bd_bad, ofO_some, ofO_none, gpm, List.filterMap_cons, List.filterMap_nil, eqD_ii, eqD_ss, eqD_bb, eqD_nn, eqD_in, eqD_ni, eqD_bn, eqD_nb, eqD_sn, eqD_ns, eqD_is, eqD_si, eqD_bs, eqD_sb, Option.map_some, Option.map_none, Option.bind_some, Option.bind_none, List.getElem?_cons_zero, List.getElem?_cons_succ, List.set_cons_zero, List.set_cons_succ, List.map_cons, List.map_nil, List.replicate, List.cons_append, List.nil_append, List.append_nil, List.length_cons, List.length_nil, List.length_map, atI_0, atI_1, atI_2, atI_3, atI_4, atI_5, decide_eq_true_eq, Bool.not_true, Bool.not_false, Bool.true_and, Bool.false_and, Bool.and_true, Bool.and_false, Bool.or_true, Bool.true_or, Bool.or_false, Bool.false_or, Bool.false_eq_true, Bool.not_eq_true', decide_eq_false_iff_not, ↓reduceIte, decide_true, decide_false, reduceCtorEq, Nat.reduceAdd, Nat.reduceSub, Nat.reduceEqDiff, z2, pr, cond_true]) (Nat.le_trans (show 0 + _ ≤ 30 by rw [Nat.zero_add]; exact al) (by decide))
  simp only [List.filter_eq_self.mpr (fun _ _ => rfl), List.nil_append] at ea
  have er : rg2 [.int (core c), .int c] = Y.ret (((upto c).filter fun j => decide (core c - 1 < j)).map .int) := by
    have := rg2_ok (p := core c - 1) (c := c) (by omega) (by omega) (by omega)
    rwa [show core c - 1 + 1 = core c by omega] at this
  have eas : PyData.tuple (((upto c).filter fun j => decide (core c - 1 < j)).map fun p => pr true (p - core c, p)) = pl (true, true) (asd c) := by
    unfold asd
    show _ = PyData.tuple ((((upto c).filter fun j => decide (core c - 1 < j)).map fun p => (p - core c, p)).map (pr true))
    rw [List.map_map]
    rfl
  have h1 : c ≠ 1 := by omega
  have h2 : (0 : Int) < 2 := by decide
  have z1 : 1 ≤ sizeLine := by decide
  have rc := rplanE (n := n) (c := core c) cl.1 (by omega) cl.2.2.2
  have l1 : (rpE (core c)).length ≤ 4 := by
    unfold rpE
    rw [List.length_map]
    exact offs_len _
  have a1 : pAdd (.tuple [pl (true, true) (asd c)]) (rsD (rpE (core c))) = some (rsD (asd c :: rpE (core c))) := by
    show (if [pl (true, true) (asd c)].length + ((rpE (core c)).map (pl (true, true))).length ≤ sizeLine then _ else none) = _
    rw [if_pos (by rw [List.length_map]; exact Nat.le_trans (show 1 + (rpE (core c)).length ≤ 5 by omega) (by decide))]
    rfl
  have a2 : pAdd (rsD (asd c :: rpE (core c))) (.tuple [pl (true, true) (asd c)]) = some (rsD (asd c :: rpE (core c) ++ [asd c])) := by
    show (if ((asd c :: rpE (core c)).map (pl (true, true))).length + [pl (true, true) (asd c)].length ≤ sizeLine then some (PyData.tuple ((asd c :: rpE (core c)).map (pl (true, true)) ++ [pl (true, true) (asd c)])) else none) = _
    rw [if_pos (by rw [List.length_map, List.length_cons]; exact Nat.le_trans (show (rpE (core c)).length + 1 + 1 ≤ 6 by omega) (by decide))]
    unfold rsD
    rw [List.map_append]
    rfl
  unfold p_rounds_plan
  simp only [pVar, pC, pOp, pUn, pNeg_i, pSub_ii, pLt_ii, pLe_ii, pGt_ii, pGe_ii, pDiv_ii, pMod_ii, pPow_ii, pMul_ii, pMul_li, pEq_a, pNe_a, isNP_i, isNP_s, isNP_b, isNP_l, isNP_t, isNP_n, pIsN_n, pNotN_n, pIx_s, pIx_t, pIx_l, boolP_b, truP_b, truP_n, truP_i, truP_l, truP_t, pTru, pBool, pNotT, pAndT, pOrT, pYes, pAndV, pOrV, pNotV, pIf, pNil, pCons, pTup, pLst, pCB, pLen_s, pLen_l, pLen_t, pAbs_i, pInt_i, pInt_b, pMin2_ii, pMax2_ii, pListOf_1, pTupOf_1, pAll_l, pAny_l, pSrt_l, pSS, pLR, tyP_n, tyP_b, tyP_i, tyP_s, tyP_l, tyP_t, pIsi, pIsi2, isTy, pChain, pRev, revP_t, pAug, augP_ii, pBestMin_1, pBestMax_1, pUnp, pgNames, pSSZ, lstP_l, pSrtZ_1, srtD_i, pNoP, intP_i, pPart, slP_t, slP_l, pSl, pCall, pCallK, pBor, bor_bool, pItS, rg1, pRng1, pRng2, zp_t, zp_l, pZip, en1_1, pEnum, seqD_l, seqD_t, pgName, pgNil, pgCons, pgTup, pgSeq, wipeE, pLc, pLc2, pNext, pSeq, pBreak, pCont, pRet, pRetN, pExpr, pIfS, pAsg, pPar, appP, pApp, setP, pSet, pFor, pWhile, endP_n, endP_r, runP, runPB, bd_ret, bd_bad, ofO_some, ofO_none, gpm, List.filterMap_cons, List.filterMap_nil, eqD_ii, eqD_ss, eqD_bb, eqD_nn, eqD_in, eqD_ni, eqD_bn, eqD_nb, eqD_sn, eqD_ns, eqD_is, eqD_si, eqD_bs, eqD_sb, Option.map_some, Option.map_none, Option.bind_some, Option.bind_none, List.getElem?_cons_zero, List.getElem?_cons_succ, List.set_cons_zero, List.set_cons_succ, List.map_cons, List.map_nil, List.replicate, List.cons_append, List.nil_append, List.append_nil, List.length_cons, List.length_nil, List.length_map, atI_0, atI_1, atI_2, atI_3, atI_4, atI_5, decide_eq_true_eq, Bool.not_true, Bool.not_false, Bool.true_and, Bool.false_and, Bool.and_true, Bool.and_false, Bool.or_true, Bool.true_or, Bool.or_false, Bool.false_or, Bool.false_eq_true, Bool.not_eq_true', decide_eq_false_iff_not, ↓reduceIte, decide_true, decide_false, reduceCtorEq, Nat.reduceAdd, Nat.reduceSub, Nat.reduceEqDiff, h1, h2, h, e1, er, ea, eas, z1, rc, a1, a2]
theorem rplan_ok {c : Int} (h0 : 1 ≤ c) (hc : c ≤ 16) : p_rounds_plan 6 [.int c] = Y.ret (rsD (rp c)) := by
  unfold rp
  by_cases h : c = 1
  · rw [if_pos h]
    unfold p_rounds_plan
    have z0 : 0 ≤ sizeLine := by decide
    simp only [pVar, pC, pOp, pUn, pNeg_i, pAdd_ii, pAdd_ss, pAdd_tt, pAdd_ll, pSub_ii, pLt_ii, pLe_ii, pGt_ii, pGe_ii, pDiv_ii, pMod_ii, pPow_ii, pMul_ii, pMul_li, pEq_a, pNe_a, isNP_i, isNP_s, isNP_b, isNP_l, isNP_t, isNP_n, pIsN_n, pNotN_n, pIx_s, pIx_t, pIx_l, boolP_b, truP_b, truP_n, truP_i, truP_l, truP_t, pTru, pBool, pNotT, pAndT, pOrT, pYes, pAndV, pOrV, pNotV, pIf, pNil, pCons, pTup, pLst, pCB, pLen_s, pLen_l, pLen_t, pAbs_i, pInt_i, pInt_b, pMin2_ii, pMax2_ii, pListOf_1, pTupOf_1, pAll_l, pAny_l, pSrt_l, pSS, pLR, tyP_n, tyP_b, tyP_i, tyP_s, tyP_l, tyP_t, pIsi, pIsi2, isTy, pChain, pRev, revP_t, pAug, augP_ii, pBestMin_1, pBestMax_1, pUnp, pgNames, pSSZ, lstP_l, pSrtZ_1, srtD_i, pNoP, intP_i, pPart, slP_t, slP_l, pSl, pCall, pCallK, pBor, bor_bool, pItS, rg1, rg2, pRng1, pRng2, zp_t, zp_l, pZip, en1_1, pEnum, seqD_l, seqD_t, pgName, pgNil, pgCons, pgTup, pgSeq, wipeE, pLc, pLc2, pNext, pSeq, pBreak, pCont, pRet, pRetN, pExpr, pIfS, pAsg, pPar, appP, pApp, setP, pSet, pFor, pWhile, endP_n, endP_r, runP, runPB, bd_ret, bd_bad, ofO_some, ofO_none, gpm, List.filterMap_cons, List.filterMap_nil, eqD_ii, eqD_ss, eqD_bb, eqD_nn, eqD_in, eqD_ni, eqD_bn, eqD_nb, eqD_sn, eqD_ns, eqD_is, eqD_si, eqD_bs, eqD_sb, Option.map_some, Option.map_none, Option.bind_some, Option.bind_none, List.getElem?_cons_zero, List.getElem?_cons_succ, List.set_cons_zero, List.set_cons_succ, List.map_cons, List.map_nil, List.replicate, List.cons_append, List.nil_append, List.append_nil, List.length_cons, List.length_nil, List.length_map, atI_0, atI_1, atI_2, atI_3, atI_4, atI_5, decide_eq_true_eq, Bool.not_true, Bool.not_false, Bool.true_and, Bool.false_and, Bool.and_true, Bool.and_false, Bool.or_true, Bool.true_or, Bool.or_false, Bool.false_or, Bool.false_eq_true, Bool.not_eq_true', decide_eq_false_iff_not, ↓reduceIte, decide_true, decide_false, reduceCtorEq, Nat.reduceAdd, Nat.reduceSub, Nat.reduceEqDiff, h, z0]
    rfl
  · rw [if_neg h]
    by_cases k : c % 2 = 0
    · rw [if_pos k]
      exact rplanE (by omega) hc k
    · rw [if_neg k]
      exact rplanO (by omega) hc k
/-! is_pair, is_round, shows_rounds -/
structure Rok (c : Int) (R : List (Int × Int)) : Prop where
  low : ∀ q ∈ R, 0 ≤ q.1 ∧ q.1 < q.2 ∧ q.2 < c
  ne : R ≠ []
  nd : (R.flatMap fun q => [q.1, q.2]).Nodup
  asc : srtP R = R
theorem isnum_ok {i : Int} : p_is_number [.int i] = Y.ret (.bool true) := by
  unfold p_is_number
  simp only [pVar, pC, pOp, pUn, pNeg_i, pAdd_ii, pAdd_ss, pAdd_tt, pAdd_ll, pSub_ii, pLt_ii, pLe_ii, pGt_ii, pGe_ii, pDiv_ii, pMod_ii, pPow_ii, pMul_ii, pMul_li, pEq_a, pNe_a, isNP_i, isNP_s, isNP_b, isNP_l, isNP_t, isNP_n, pIsN_n, pNotN_n, pIx_s, pIx_t, pIx_l, boolP_b, truP_b, truP_n, truP_i, truP_l, truP_t, pTru, pBool, pNotT, pAndT, pOrT, pYes, pAndV, pOrV, pNotV, pIf, pNil, pCons, pTup, pLst, pCB, pLen_s, pLen_l, pLen_t, pAbs_i, pInt_i, pInt_b, pMin2_ii, pMax2_ii, pListOf_1, pTupOf_1, pAll_l, pAny_l, pSrt_l, pSS, pLR, tyP_n, tyP_b, tyP_i, tyP_s, tyP_l, tyP_t, pIsi, pIsi2, isTy, pChain, pRev, revP_t, pAug, augP_ii, pBestMin_1, pBestMax_1, pUnp, pgNames, pSSZ, lstP_l, pSrtZ_1, srtD_i, pNoP, intP_i, pPart, slP_t, slP_l, pSl, pCall, pCallK, pBor, bor_bool, pItS, rg1, rg2, pRng1, pRng2, zp_t, zp_l, pZip, en1_1, pEnum, seqD_l, seqD_t, pgName, pgNil, pgCons, pgTup, pgSeq, wipeE, pLc, pLc2, pNext, pSeq, pBreak, pCont, pRet, pRetN, pExpr, pIfS, pAsg, pPar, appP, pApp, setP, pSet, pFor, pWhile, endP_n, endP_r, runP, runPB, bd_ret, bd_bad, ofO_some, ofO_none, gpm, List.filterMap_cons, List.filterMap_nil, eqD_ii, eqD_ss, eqD_bb, eqD_nn, eqD_in, eqD_ni, eqD_bn, eqD_nb, eqD_sn, eqD_ns, eqD_is, eqD_si, eqD_bs, eqD_sb, Option.map_some, Option.map_none, Option.bind_some, Option.bind_none, List.getElem?_cons_zero, List.getElem?_cons_succ, List.set_cons_zero, List.set_cons_succ, List.map_cons, List.map_nil, List.replicate, List.cons_append, List.nil_append, List.append_nil, List.length_cons, List.length_nil, List.length_map, atI_0, atI_1, atI_2, atI_3, atI_4, atI_5, decide_eq_true_eq, Bool.not_true, Bool.not_false, Bool.true_and, Bool.false_and, Bool.and_true, Bool.and_false, Bool.or_true, Bool.true_or, Bool.or_false, Bool.false_or, Bool.false_eq_true, Bool.not_eq_true', decide_eq_false_iff_not, ↓reduceIte, decide_true, decide_false, reduceCtorEq, Nat.reduceAdd, Nat.reduceSub, Nat.reduceEqDiff]
theorem ispair_ok {c : Int} {q : Int × Int} (h : 0 ≤ q.1 ∧ q.1 < q.2 ∧ q.2 < c) : p_is_pair [.int c, pr true q] = Y.ret (.bool true) := by
  have e := lcP_map (vs := [2]) (g := pgName 2) (tt := pYes) (te := pCall p_is_number (pCons (pVar 2) pNil)) (E := [some (.int c), some (.tuple [.int q.1, .int q.2]), none]) PyData.int (fun _ => true) (fun _ => .bool true) [q.1, q.2] [] (fun p _ => by
    refine ⟨[some (.int c), some (.tuple [.int q.1, .int q.2]), some (.int p)], rfl, rfl, fun _ => ?_⟩
    simp only [pVar, pC, pOp, pUn, pNeg_i, pAdd_ii, pAdd_ss, pAdd_tt, pAdd_ll, pSub_ii, pLt_ii, pLe_ii, pGt_ii, pGe_ii, pDiv_ii, pMod_ii, pPow_ii, pMul_ii, pMul_li, pEq_a, pNe_a, isNP_i, isNP_s, isNP_b, isNP_l, isNP_t, isNP_n, pIsN_n, pNotN_n, pIx_s, pIx_t, pIx_l, boolP_b, truP_b, truP_n, truP_i, truP_l, truP_t, pTru, pBool, pNotT, pAndT, pOrT, pYes, pAndV, pOrV, pNotV, pIf, pNil, pCons, pTup, pLst, pCB, pLen_s, pLen_l, pLen_t, pAbs_i, pInt_i, pInt_b, pMin2_ii, pMax2_ii, pListOf_1, pTupOf_1, pAll_l, pAny_l, pSrt_l, pSS, pLR, tyP_n, tyP_b, tyP_i, tyP_s, tyP_l, tyP_t, pIsi, pIsi2, isTy, pChain, pRev, revP_t, pAug, augP_ii, pBestMin_1, pBestMax_1, pUnp, pgNames, pSSZ, lstP_l, pSrtZ_1, srtD_i, pNoP, intP_i, pPart, slP_t, slP_l, pSl, pCall, pCallK, pBor, bor_bool, pItS, rg1, rg2, pRng1, pRng2, zp_t, zp_l, pZip, en1_1, pEnum, seqD_l, seqD_t, pgName, pgNil, pgCons, pgTup, pgSeq, wipeE, pLc, pLc2, pNext, pSeq, pBreak, pCont, pRet, pRetN, pExpr, pIfS, pAsg, pPar, appP, pApp, setP, pSet, pFor, pWhile, endP_n, endP_r, runP, runPB, bd_ret, bd_bad, ofO_some, ofO_none, gpm, List.filterMap_cons, List.filterMap_nil, eqD_ii, eqD_ss, eqD_bb, eqD_nn, eqD_in, eqD_ni, eqD_bn, eqD_nb, eqD_sn, eqD_ns, eqD_is, eqD_si, eqD_bs, eqD_sb, Option.map_some, Option.map_none, Option.bind_some, Option.bind_none, List.getElem?_cons_zero, List.getElem?_cons_succ, List.set_cons_zero, List.set_cons_succ, List.map_cons, List.map_nil, List.replicate, List.cons_append, List.nil_append, List.append_nil, List.length_cons, List.length_nil, List.length_map, atI_0, atI_1, atI_2, atI_3, atI_4, atI_5, decide_eq_true_eq, Bool.not_true, Bool.not_false, Bool.true_and, Bool.false_and, Bool.and_true, Bool.and_false, Bool.or_true, Bool.true_or, Bool.or_false, Bool.false_or, Bool.false_eq_true, Bool.not_eq_true', decide_eq_false_iff_not, ↓reduceIte, decide_true, decide_false, reduceCtorEq, Nat.reduceAdd, Nat.reduceSub, Nat.reduceEqDiff, isnum_ok]) (by simp; decide)
  simp only [List.filter_eq_self.mpr (fun _ _ => rfl), List.nil_append, List.map_cons, List.map_nil] at e
  have b : boolsP [.bool true, .bool true] = some [true, true] := rfl
  have l2 : ((2 : Nat) : Int) = 2 := rfl
  unfold p_is_pair
  simp only [pVar, pC, pOp, pUn, pNeg_i, pAdd_ii, pAdd_ss, pAdd_tt, pAdd_ll, pSub_ii, pLt_ii, pLe_ii, pGt_ii, pGe_ii, pDiv_ii, pMod_ii, pPow_ii, pMul_ii, pMul_li, pEq_a, pNe_a, isNP_i, isNP_s, isNP_b, isNP_l, isNP_t, isNP_n, pIsN_n, pNotN_n, pIx_s, pIx_t, pIx_l, boolP_b, truP_b, truP_n, truP_i, truP_l, truP_t, pTru, pBool, pNotT, pAndT, pOrT, pYes, pAndV, pOrV, pNotV, pIf, pNil, pCons, pTup, pLst, pCB, pLen_s, pLen_l, pLen_t, pAbs_i, pInt_i, pInt_b, pMin2_ii, pMax2_ii, pListOf_1, pTupOf_1, pAll_l, pAny_l, pSrt_l, pSS, pLR, tyP_n, tyP_b, tyP_i, tyP_s, tyP_l, tyP_t, pIsi, pIsi2, isTy, pChain, pRev, revP_t, pAug, augP_ii, pBestMin_1, pBestMax_1, pUnp, pgNames, pSSZ, lstP_l, pSrtZ_1, srtD_i, pNoP, intP_i, pPart, slP_t, slP_l, pSl, pCall, pCallK, pBor, bor_bool, pItS, rg1, rg2, pRng1, pRng2, zp_t, zp_l, pZip, en1_1, pEnum, seqD_l, seqD_t, pgName, pgNil, pgCons, pgTup, pgSeq, wipeE, pLc, pLc2, pNext, pSeq, pBreak, pCont, pRet, pRetN, pExpr, pIfS, pAsg, pPar, appP, pApp, setP, pSet, pFor, pWhile, endP_n, endP_r, runP, runPB, bd_ret, bd_bad, ofO_some, ofO_none, gpm, List.filterMap_cons, List.filterMap_nil, eqD_ii, eqD_ss, eqD_bb, eqD_nn, eqD_in, eqD_ni, eqD_bn, eqD_nb, eqD_sn, eqD_ns, eqD_is, eqD_si, eqD_bs, eqD_sb, Option.map_some, Option.map_none, Option.bind_some, Option.bind_none, List.getElem?_cons_zero, List.getElem?_cons_succ, List.set_cons_zero, List.set_cons_succ, List.map_cons, List.map_nil, List.replicate, List.cons_append, List.nil_append, List.append_nil, List.length_cons, List.length_nil, List.length_map, atI_0, atI_1, atI_2, atI_3, atI_4, atI_5, decide_eq_true_eq, Bool.not_true, Bool.not_false, Bool.true_and, Bool.false_and, Bool.and_true, Bool.and_false, Bool.or_true, Bool.true_or, Bool.or_false, Bool.false_or, Bool.false_eq_true, Bool.not_eq_true', decide_eq_false_iff_not, ↓reduceIte, decide_true, decide_false, reduceCtorEq, Nat.reduceAdd, Nat.reduceSub, Nat.reduceEqDiff, pr, cond_true, e, b, List.all_cons, List.all_nil, id, l2, pChain3, h.1, h.2.1, h.2.2]
theorem flat_len (R : List (Int × Int)) : (R.flatMap fun q => [q.1, q.2]).length = 2 * R.length := by
  induction R with
  | nil => rfl
  | cons q R ih => rw [List.flatMap_cons, List.length_append, ih, List.length_cons]; simp; omega
theorem Rok.len {c : Int} {R : List (Int × Int)} (h : Rok c R) : 2 * R.length ≤ c.toNat := by
  have := sub_len _ (upto c) h.nd fun x hx => by
    obtain ⟨q, hq, hx⟩ := List.mem_flatMap.mp hx
    have hq := h.low q hq
    simp only [List.mem_cons, List.not_mem_nil, or_false] at hx
    rcases hx with rfl | rfl <;> exact upto_mem.mpr (by omega)
  rw [flat_len, upto_len] at this
  exact this
theorem eqv_prs : ∀ A B : List (Int × Int), PyData.eqvAll (A.map (pr true)) (B.map (pr true)) = decide (A = B)
  | [], [] => by simp [PyData.eqvAll]
  | [], _ :: _ => by simp [PyData.eqvAll]
  | _ :: _, [] => by simp [PyData.eqvAll]
  | a :: A, b :: B => by
    obtain ⟨a1, a2⟩ := a
    obtain ⟨b1, b2⟩ := b
    simp only [List.map_cons, PyData.eqvAll, eqv_prs A B, pr, cond_true, PyData.eqv]
    rw [Bool.eq_iff_iff]
    simp [and_assoc]
theorem eqD_prs {A B : List (Int × Int)} : eqD (.list (A.map (pr true))) (.list (B.map (pr true))) = some (decide (A = B)) := by
  show (if SeqAt.shaped _ = true ∧ SeqAt.shaped _ = true then some (PyData.eqv _ _) else none) = _
  rw [if_pos ⟨sh_pl (a := false), sh_pl (a := false)⟩, PyData.eqv, eqv_prs]
theorem eqD_pl0 {R : List (Int × Int)} (h : R ≠ []) : eqD (pl (true, true) R) (.tuple []) = some false := by
  show (if SeqAt.shaped _ = true ∧ SeqAt.shaped _ = true then some (PyData.eqv (.tuple (R.map (pr true))) (.tuple [])) else none) = _
  rw [if_pos ⟨sh_pl (a := true), by decide⟩]
  cases R with
  | nil => exact absurd rfl h
  | cons q R => simp [PyData.eqv, PyData.eqvAll]
theorem uq_len {ns : List Int} (h : ns.Nodup) : (uq ns).length = ns.length :=
  List.Perm.length_eq ((List.perm_ext_iff_of_nodup ((uq_lt ns).imp fun h => by omega) h).mpr fun k => uq_mem ns k)
theorem isround_ok {c : Int} (hc : c ≤ 30) {R : List (Int × Int)} (h : Rok c R) : p_is_round [.int c, pl (true, true) R] = Y.ret (.bool true) := by
  have hl := h.len
  have z0 : 0 ≤ sizeLine := by decide
  have e := fun g2 => lcP_map (vs := [3]) (g := pgName 3) (tt := pYes) (te := pCall p_is_pair (pCons (pVar 0) (pCons (pVar 3) pNil))) (E := [some (.int c), some (pl (true, true) R), g2, none, none]) (pr true) (fun _ => true) (fun _ => .bool true) R [] (fun q hq => by
    refine ⟨[some (.int c), some (pl (true, true) R), g2, some (pr true q), none], rfl, rfl, fun _ => ?_⟩
    simp only [pVar, pC, pOp, pUn, pNeg_i, pAdd_ii, pAdd_ss, pAdd_tt, pAdd_ll, pSub_ii, pLt_ii, pLe_ii, pGt_ii, pGe_ii, pDiv_ii, pMod_ii, pPow_ii, pMul_ii, pMul_li, pEq_a, pNe_a, isNP_i, isNP_s, isNP_b, isNP_l, isNP_t, isNP_n, pIsN_n, pNotN_n, pIx_s, pIx_t, pIx_l, boolP_b, truP_b, truP_n, truP_i, truP_l, truP_t, pTru, pBool, pNotT, pAndT, pOrT, pYes, pAndV, pOrV, pNotV, pIf, pNil, pCons, pTup, pLst, pCB, pLen_s, pLen_l, pLen_t, pAbs_i, pInt_i, pInt_b, pMin2_ii, pMax2_ii, pListOf_1, pTupOf_1, pAll_l, pAny_l, pSrt_l, pSS, pLR, tyP_n, tyP_b, tyP_i, tyP_s, tyP_l, tyP_t, pIsi, pIsi2, isTy, pChain, pRev, revP_t, pAug, augP_ii, pBestMin_1, pBestMax_1, pUnp, pgNames, pSSZ, lstP_l, pSrtZ_1, srtD_i, pNoP, intP_i, pPart, slP_t, slP_l, pSl, pCall, pCallK, pBor, bor_bool, pItS, rg1, rg2, pRng1, pRng2, zp_t, zp_l, pZip, en1_1, pEnum, seqD_l, seqD_t, pgName, pgNil, pgCons, pgTup, pgSeq, wipeE, pLc, pLc2, pNext, pSeq, pBreak, pCont, pRet, pRetN, pExpr, pIfS, pAsg, pPar, appP, pApp, setP, pSet, pFor, pWhile, endP_n, endP_r, runP, runPB, bd_ret, bd_bad, ofO_some, ofO_none, gpm, List.filterMap_cons, List.filterMap_nil, eqD_ii, eqD_ss, eqD_bb, eqD_nn, eqD_in, eqD_ni, eqD_bn, eqD_nb, eqD_sn, eqD_ns, eqD_is, eqD_si, eqD_bs, eqD_sb, Option.map_some, Option.map_none, Option.bind_some, Option.bind_none, List.getElem?_cons_zero, List.getElem?_cons_succ, List.set_cons_zero, List.set_cons_succ, List.map_cons, List.map_nil, List.replicate, List.cons_append, List.nil_append, List.append_nil, List.length_cons, List.length_nil, List.length_map, atI_0, atI_1, atI_2, atI_3, atI_4, atI_5, decide_eq_true_eq, Bool.not_true, Bool.not_false, Bool.true_and, Bool.false_and, Bool.and_true, Bool.and_false, Bool.or_true, Bool.true_or, Bool.or_false, Bool.false_or, Bool.false_eq_true, Bool.not_eq_true', decide_eq_false_iff_not, ↓reduceIte, decide_true, decide_false, reduceCtorEq, Nat.reduceAdd, Nat.reduceSub, Nat.reduceEqDiff, ispair_ok (h.low q hq)]) (Nat.le_trans (show 0 + R.length ≤ 30 by omega) (by decide))
  simp only [List.filter_eq_self.mpr (fun _ _ => rfl), List.nil_append] at e
  have e2 := fun g2 => lc2P_map (vs := [3, 4]) (vs1 := [4]) (g := pgName 3) (g1 := pgName 4) (tt := pYes) (tt1 := pYes) (src1 := pItS (pVar 3)) (te := pVar 4) (E := [some (.int c), some (pl (true, true) R), g2, none, none])
    (pr true) (fun _ => true) PyData.int (fun q => [q.1, q.2]) (fun _ _ => true) (fun _ x => .int x) R [] (fun q hq => by
      refine ⟨[some (.int c), some (pl (true, true) R), g2, some (pr true q), none], rfl, rfl, fun _ => ⟨?_, fun x hx => ⟨[some (.int c), some (pl (true, true) R), g2, some (pr true q), some (.int x)], rfl, rfl, fun _ => rfl⟩⟩⟩
      simp only [pVar, pC, pOp, pUn, pNeg_i, pAdd_ii, pAdd_ss, pAdd_tt, pAdd_ll, pSub_ii, pLt_ii, pLe_ii, pGt_ii, pGe_ii, pDiv_ii, pMod_ii, pPow_ii, pMul_ii, pMul_li, pEq_a, pNe_a, isNP_i, isNP_s, isNP_b, isNP_l, isNP_t, isNP_n, pIsN_n, pNotN_n, pIx_s, pIx_t, pIx_l, boolP_b, truP_b, truP_n, truP_i, truP_l, truP_t, pTru, pBool, pNotT, pAndT, pOrT, pYes, pAndV, pOrV, pNotV, pIf, pNil, pCons, pTup, pLst, pCB, pLen_s, pLen_l, pLen_t, pAbs_i, pInt_i, pInt_b, pMin2_ii, pMax2_ii, pListOf_1, pTupOf_1, pAll_l, pAny_l, pSrt_l, pSS, pLR, tyP_n, tyP_b, tyP_i, tyP_s, tyP_l, tyP_t, pIsi, pIsi2, isTy, pChain, pRev, revP_t, pAug, augP_ii, pBestMin_1, pBestMax_1, pUnp, pgNames, pSSZ, lstP_l, pSrtZ_1, srtD_i, pNoP, intP_i, pPart, slP_t, slP_l, pSl, pCall, pCallK, pBor, bor_bool, pItS, rg1, rg2, pRng1, pRng2, zp_t, zp_l, pZip, en1_1, pEnum, seqD_l, seqD_t, pgName, pgNil, pgCons, pgTup, pgSeq, wipeE, pLc, pLc2, pNext, pSeq, pBreak, pCont, pRet, pRetN, pExpr, pIfS, pAsg, pPar, appP, pApp, setP, pSet, pFor, pWhile, endP_n, endP_r, runP, runPB, bd_ret, bd_bad, ofO_some, ofO_none, gpm, List.filterMap_cons, List.filterMap_nil, eqD_ii, eqD_ss, eqD_bb, eqD_nn, eqD_in, eqD_ni, eqD_bn, eqD_nb, eqD_sn, eqD_ns, eqD_is, eqD_si, eqD_bs, eqD_sb, Option.map_some, Option.map_none, Option.bind_some, Option.bind_none, List.getElem?_cons_zero, List.getElem?_cons_succ, List.set_cons_zero, List.set_cons_succ, List.map_cons, List.map_nil, List.replicate, List.cons_append, List.nil_append, List.append_nil, List.length_cons, List.length_nil, List.length_map, atI_0, atI_1, atI_2, atI_3, atI_4, atI_5, decide_eq_true_eq, Bool.not_true, Bool.not_false, Bool.true_and, Bool.false_and, Bool.and_true, Bool.and_false, Bool.or_true, Bool.true_or, Bool.or_false, Bool.false_or, Bool.false_eq_true, Bool.not_eq_true', decide_eq_false_iff_not, ↓reduceIte, decide_true, decide_false, reduceCtorEq, Nat.reduceAdd, Nat.reduceSub, Nat.reduceEqDiff, seq_pr]) (by rw [flat_len]; exact Nat.le_trans (show 0 + 2 * R.length ≤ 30 by omega) (by decide))
  simp only [List.filter_eq_self.mpr (fun _ _ => rfl), List.nil_append] at e2
  have e3 : (R.flatMap fun q => [q.1, q.2].map PyData.int) = (R.flatMap fun q => [q.1, q.2]).map .int := by rw [List.map_flatMap]
  have b : boolsP (R.map fun _ => .bool true) = some (R.map fun _ => true) := boolsP_map (fun _ => true) R
  have al : (R.map fun _ => true).all id = true := by simp [List.all_map, Function.comp]
  have el := lenSet_i (ns := R.flatMap fun q => [q.1, q.2]) (by rw [flat_len]; omega)
  rw [uq_len h.nd] at el
  have sp : seqD (pl (true, true) R) = some (R.map (pr true)) := seq_pl
  have eq := eqD_prs (A := R) (B := R)
  rw [decide_eq_true rfl] at eq
  have ss : srtD (R.map (pr true)) = some (R.map (pr true)) := by rw [srt_pairs, h.asc]
  have ln := eqD_ii (i := (((R.flatMap fun q => [q.1, q.2]).length : Nat) : Int)) (j := (((R.flatMap fun q => [q.1, q.2]).length : Nat) : Int))
  have tp : tyP (pl (true, true) R) = some .tuple := rfl
  have e4 := eqD_pl0 h.ne
  have ps : pSrtT [pl (true, true) R] = some (.list (R.map (pr true))) := by
    have k : srtT (R.map (pr true)) = srtD (R.map (pr true)) := by
      cases R with
      | nil => exact absurd rfl h.ne
      | cons q R => rfl
    show (srtT (R.map (pr true))).map PyData.list = _
    rw [k, ss]
    rfl
  generalize pl (true, true) R = X at *
  unfold p_is_round
  have e5 : (R.flatMap fun q => [PyData.int q.1, .int q.2]) = (R.flatMap fun q => [q.1, q.2]).map .int := e3
  simp only [pVar, pC, pOp, pUn, pNeg_i, pAdd_ii, pAdd_ss, pAdd_tt, pAdd_ll, pSub_ii, pLt_ii, pLe_ii, pGt_ii, pGe_ii, pDiv_ii, pMod_ii, pPow_ii, pMul_ii, pMul_li, pEq_a, pNe_a, isNP_i, isNP_s, isNP_b, isNP_l, isNP_t, isNP_n, pIsN_n, pNotN_n, pIx_s, pIx_t, pIx_l, boolP_b, truP_b, truP_n, truP_i, truP_l, truP_t, pTru, pBool, pNotT, pAndT, pOrT, pYes, pAndV, pOrV, pNotV, pIf, pNil, pCons, pTup, pLst, pCB, pLen_s, pLen_l, pLen_t, pAbs_i, pInt_i, pInt_b, pMin2_ii, pMax2_ii, pListOf_1, pTupOf_1, pAll_l, pAny_l, pSrt_l, pSS, pLR, tyP_n, tyP_b, tyP_i, tyP_s, tyP_l, tyP_t, pIsi, pIsi2, isTy, pChain, pRev, revP_t, pAug, augP_ii, pBestMin_1, pBestMax_1, pUnp, pgNames, pSSZ, lstP_l, srtD_i, pNoP, intP_i, pPart, slP_t, slP_l, pSl, pCall, pCallK, pBor, bor_bool, pItS, rg1, rg2, pRng1, pRng2, zp_t, zp_l, pZip, en1_1, pEnum, seqD_l, seqD_t, pgName, pgNil, pgCons, pgTup, pgSeq, wipeE, pLc, pLc2, pNext, pSeq, pBreak, pCont, pRet, pRetN, pExpr, pIfS, pAsg, pPar, appP, pApp, setP, pSet, pFor, pWhile, endP_n, endP_r, runP, runPB, bd_ret, bd_bad, ofO_some, ofO_none, gpm, List.filterMap_cons, List.filterMap_nil, eqD_ss, eqD_bb, eqD_nn, eqD_in, eqD_ni, eqD_bn, eqD_nb, eqD_sn, eqD_ns, eqD_is, eqD_si, eqD_bs, eqD_sb, Option.map_some, Option.map_none, Option.bind_some, Option.bind_none, List.getElem?_cons_zero, List.getElem?_cons_succ, List.set_cons_zero, List.set_cons_succ, List.map_cons, List.map_nil, List.replicate, List.cons_append, List.nil_append, List.append_nil, List.length_cons, List.length_nil, atI_0, atI_1, atI_2, atI_3, atI_4, atI_5, decide_eq_true_eq, Bool.not_true, Bool.not_false, Bool.true_and, Bool.false_and, Bool.and_true, Bool.and_false, Bool.or_true, Bool.true_or, Bool.or_false, Bool.false_or, Bool.false_eq_true, Bool.not_eq_true', decide_eq_false_iff_not, ↓reduceIte, decide_true, decide_false, reduceCtorEq, Nat.reduceAdd, Nat.reduceSub, Nat.reduceEqDiff, tp, z0, e4, sp, e, b, al, e2, e5, pLenSet, el, List.length_map, ln, ps, eq]
theorem shows_ok {c : Int} (h0 : 1 ≤ c) (hc : c ≤ 16) {rs : List (List (Int × Int))} (hl : (rs.length : Int) = fr c) (hR : ∀ R ∈ rs, Rok c R) : p_shows_rounds [.int c, rsD rs] = Y.ret (.bool (isNP (agn c "everybody" (has true rs.flatten)))) := by
  have hf : fr c ≤ 5 := by
    have := db_le (c := c)
    unfold fr
    split <;> omega
  have e := fun g3 => lcP_map (vs := [2]) (g := pgName 2) (tt := pYes) (te := pCall p_is_round (pCons (pVar 0) (pCons (pVar 2) pNil))) (E := [some (.int c), some (rsD rs), none, g3]) (pl (true, true)) (fun _ => true) (fun _ => .bool true) rs [] (fun R hq => by
    refine ⟨[some (.int c), some (rsD rs), some (pl (true, true) R), g3], rfl, rfl, fun _ => ?_⟩
    simp only [pVar, pC, pOp, pUn, pNeg_i, pAdd_ii, pAdd_ss, pAdd_tt, pAdd_ll, pSub_ii, pLt_ii, pLe_ii, pGt_ii, pGe_ii, pDiv_ii, pMod_ii, pPow_ii, pMul_ii, pMul_li, pEq_a, pNe_a, isNP_i, isNP_s, isNP_b, isNP_l, isNP_t, isNP_n, pIsN_n, pNotN_n, pIx_s, pIx_t, pIx_l, boolP_b, truP_b, truP_n, truP_i, truP_l, truP_t, pTru, pBool, pNotT, pAndT, pOrT, pYes, pAndV, pOrV, pNotV, pIf, pNil, pCons, pTup, pLst, pCB, pLen_s, pLen_l, pLen_t, pAbs_i, pInt_i, pInt_b, pMin2_ii, pMax2_ii, pListOf_1, pTupOf_1, pAll_l, pAny_l, pSrt_l, pSS, pLR, tyP_n, tyP_b, tyP_i, tyP_s, tyP_l, tyP_t, pIsi, pIsi2, isTy, pChain, pRev, revP_t, pAug, augP_ii, pBestMin_1, pBestMax_1, pUnp, pgNames, pSSZ, lstP_l, pSrtZ_1, srtD_i, pNoP, intP_i, pPart, slP_t, slP_l, pSl, pCall, pCallK, pBor, bor_bool, pItS, rg1, rg2, pRng1, pRng2, zp_t, zp_l, pZip, en1_1, pEnum, seqD_l, seqD_t, pgName, pgNil, pgCons, pgTup, pgSeq, wipeE, pLc, pLc2, pNext, pSeq, pBreak, pCont, pRet, pRetN, pExpr, pIfS, pAsg, pPar, appP, pApp, setP, pSet, pFor, pWhile, endP_n, endP_r, runP, runPB, bd_ret, bd_bad, ofO_some, ofO_none, gpm, List.filterMap_cons, List.filterMap_nil, eqD_ii, eqD_ss, eqD_bb, eqD_nn, eqD_in, eqD_ni, eqD_bn, eqD_nb, eqD_sn, eqD_ns, eqD_is, eqD_si, eqD_bs, eqD_sb, Option.map_some, Option.map_none, Option.bind_some, Option.bind_none, List.getElem?_cons_zero, List.getElem?_cons_succ, List.set_cons_zero, List.set_cons_succ, List.map_cons, List.map_nil, List.replicate, List.cons_append, List.nil_append, List.append_nil, List.length_cons, List.length_nil, List.length_map, atI_0, atI_1, atI_2, atI_3, atI_4, atI_5, decide_eq_true_eq, Bool.not_true, Bool.not_false, Bool.true_and, Bool.false_and, Bool.and_true, Bool.and_false, Bool.or_true, Bool.true_or, Bool.or_false, Bool.false_or, Bool.false_eq_true, Bool.not_eq_true', decide_eq_false_iff_not, ↓reduceIte, decide_true, decide_false, reduceCtorEq, Nat.reduceAdd, Nat.reduceSub, Nat.reduceEqDiff, isround_ok (show c ≤ 30 by omega) (hR R hq)]) (Nat.le_trans (show 0 + rs.length ≤ 30 by omega) (by decide))
  simp only [List.filter_eq_self.mpr (fun _ _ => rfl), List.nil_append] at e
  have fl : rs.flatten.length ≤ 80 := by
    have : ∀ rs : List (List (Int × Int)), (∀ R ∈ rs, Rok c R) → rs.flatten.length ≤ rs.length * 16 := fun rs => by
      induction rs with
      | nil => exact fun _ => Nat.zero_le _
      | cons R rs ih =>
        intro h
        have h1 := (h R List.mem_cons_self).len
        have h2 := ih fun y hy => h y (List.mem_cons_of_mem _ hy)
        rw [List.flatten_cons, List.length_append, List.length_cons, Nat.add_mul, Nat.one_mul]
        omega
    have := this rs hR
    omega
  have fe : (rs.flatMap fun R => R) = rs.flatten := by rw [List.flatMap_def]; simp
  have e2 := lc2P_map (vs := [2, 3]) (vs1 := [3]) (g := pgName 2) (g1 := pgName 3) (tt := pYes) (tt1 := pYes) (src1 := pItS (pVar 2)) (te := pVar 3) (E := [some (.int c), some (rsD rs), none, none])
    (pl (true, true)) (fun _ => true) (pr true) (fun R => R) (fun _ _ => true) (fun _ q => pr true q) rs [] (fun R hq => by
      refine ⟨[some (.int c), some (rsD rs), some (pl (true, true) R), none], rfl, rfl, fun _ => ⟨?_, fun x hx => ⟨[some (.int c), some (rsD rs), some (pl (true, true) R), some (pr true x)], rfl, rfl, fun _ => rfl⟩⟩⟩
      simp only [pVar, pC, pOp, pUn, pNeg_i, pAdd_ii, pAdd_ss, pAdd_tt, pAdd_ll, pSub_ii, pLt_ii, pLe_ii, pGt_ii, pGe_ii, pDiv_ii, pMod_ii, pPow_ii, pMul_ii, pMul_li, pEq_a, pNe_a, isNP_i, isNP_s, isNP_b, isNP_l, isNP_t, isNP_n, pIsN_n, pNotN_n, pIx_s, pIx_t, pIx_l, boolP_b, truP_b, truP_n, truP_i, truP_l, truP_t, pTru, pBool, pNotT, pAndT, pOrT, pYes, pAndV, pOrV, pNotV, pIf, pNil, pCons, pTup, pLst, pCB, pLen_s, pLen_l, pLen_t, pAbs_i, pInt_i, pInt_b, pMin2_ii, pMax2_ii, pListOf_1, pTupOf_1, pAll_l, pAny_l, pSrt_l, pSS, pLR, tyP_n, tyP_b, tyP_i, tyP_s, tyP_l, tyP_t, pIsi, pIsi2, isTy, pChain, pRev, revP_t, pAug, augP_ii, pBestMin_1, pBestMax_1, pUnp, pgNames, pSSZ, lstP_l, pSrtZ_1, srtD_i, pNoP, intP_i, pPart, slP_t, slP_l, pSl, pCall, pCallK, pBor, bor_bool, pItS, rg1, rg2, pRng1, pRng2, zp_t, zp_l, pZip, en1_1, pEnum, seqD_l, seqD_t, pgName, pgNil, pgCons, pgTup, pgSeq, wipeE, pLc, pLc2, pNext, pSeq, pBreak, pCont, pRet, pRetN, pExpr, pIfS, pAsg, pPar, appP, pApp, setP, pSet, pFor, pWhile, endP_n, endP_r, runP, runPB, bd_ret, bd_bad, ofO_some, ofO_none, gpm, List.filterMap_cons, List.filterMap_nil, eqD_ii, eqD_ss, eqD_bb, eqD_nn, eqD_in, eqD_ni, eqD_bn, eqD_nb, eqD_sn, eqD_ns, eqD_is, eqD_si, eqD_bs, eqD_sb, Option.map_some, Option.map_none, Option.bind_some, Option.bind_none, List.getElem?_cons_zero, List.getElem?_cons_succ, List.set_cons_zero, List.set_cons_succ, List.map_cons, List.map_nil, List.replicate, List.cons_append, List.nil_append, List.append_nil, List.length_cons, List.length_nil, List.length_map, atI_0, atI_1, atI_2, atI_3, atI_4, atI_5, decide_eq_true_eq, Bool.not_true, Bool.not_false, Bool.true_and, Bool.false_and, Bool.and_true, Bool.and_false, Bool.or_true, Bool.true_or, Bool.or_false, Bool.false_or, Bool.false_eq_true, Bool.not_eq_true', decide_eq_false_iff_not, ↓reduceIte, decide_true, decide_false, reduceCtorEq, Nat.reduceAdd, Nat.reduceSub, Nat.reduceEqDiff, seq_pl]) (by rw [fe]; exact Nat.le_trans (show 0 + rs.flatten.length ≤ 80 by omega) (by decide))
  simp only [List.filter_eq_self.mpr (fun _ _ => rfl), List.nil_append] at e2
  have e3 : PyData.list (rs.flatMap fun R => R.map fun q => pr true q) = pl (false, true) rs.flatten := by
    show _ = PyData.list (rs.flatten.map (pr true))
    rw [← fe, List.map_flatMap]
  have b : boolsP (rs.map fun _ => .bool true) = some (rs.map fun _ => true) := boolsP_map (fun _ => true) rs
  have al : (rs.map fun _ => true).all id = true := by simp [List.all_map, Function.comp]
  have pk : Pok c rs.flatten := fun q hq => by
    obtain ⟨R, h1, h2⟩ := List.mem_flatten.mp hq
    have := (hR R h1).low q h2
    exact ⟨⟨this.1, by omega⟩, ⟨by omega, this.2.2⟩, by omega⟩
  have er := reaches_ok (c := c) (by omega) (by omega) (w := "meet") (g := "everybody") (k := (false, true)) pk
  have sp : seqD (rsD rs) = some (rs.map (pl (true, true))) := rfl
  have tp : tyP (rsD rs) = some .tuple := rfl
  have pn : pLen [rsD rs] = some (.int (rs.length : Nat)) := by
    show some (PyData.int ((rs.map (pl (true, true))).length : Nat)) = _
    rw [List.length_map]
  have ef := fewr_ok h0 hc
  have dm : decide ((Str.ofString "meet") = (Str.ofString "meet")) = true := by decide
  rw [dm] at er
  rw [hl] at pn
  generalize rsD rs = X at *
  unfold p_shows_rounds
  simp only [pVar, pC, pOp, pUn, pNeg_i, pAdd_ii, pAdd_ss, pAdd_tt, pAdd_ll, pSub_ii, pLt_ii, pLe_ii, pGt_ii, pGe_ii, pDiv_ii, pMod_ii, pPow_ii, pMul_ii, pMul_li, pEq_a, pNe_a, isNP_i, isNP_s, isNP_b, isNP_l, isNP_t, isNP_n, pIsN_n, pNotN_n, pIx_s, pIx_t, pIx_l, boolP_b, truP_b, truP_n, truP_i, truP_l, truP_t, pTru, pBool, pNotT, pAndT, pOrT, pYes, pAndV, pOrV, pNotV, pIf, pNil, pCons, pTup, pLst, pCB, pAbs_i, pInt_i, pInt_b, pMin2_ii, pMax2_ii, pListOf_1, pTupOf_1, pAll_l, pAny_l, pSrt_l, pSS, pLR, tyP_n, tyP_b, tyP_i, tyP_s, tyP_l, tyP_t, pIsi, pIsi2, isTy, pChain, pRev, revP_t, pAug, augP_ii, pBestMin_1, pBestMax_1, pUnp, pgNames, pSSZ, lstP_l, pSrtZ_1, srtD_i, pNoP, intP_i, pPart, slP_t, slP_l, pSl, pCall, pCallK, pBor, bor_bool, pItS, rg1, rg2, pRng1, pRng2, zp_t, zp_l, pZip, en1_1, pEnum, seqD_l, seqD_t, pgName, pgNil, pgCons, pgTup, pgSeq, wipeE, pLc, pLc2, pNext, pSeq, pBreak, pCont, pRet, pRetN, pExpr, pIfS, pAsg, pPar, appP, pApp, setP, pSet, pFor, pWhile, endP_n, endP_r, runP, runPB, bd_ret, bd_bad, ofO_some, ofO_none, gpm, List.filterMap_cons, List.filterMap_nil, eqD_ii, eqD_ss, eqD_bb, eqD_nn, eqD_in, eqD_ni, eqD_bn, eqD_nb, eqD_sn, eqD_ns, eqD_is, eqD_si, eqD_bs, eqD_sb, Option.map_some, Option.map_none, Option.bind_some, Option.bind_none, List.getElem?_cons_zero, List.getElem?_cons_succ, List.set_cons_zero, List.set_cons_succ, List.map_cons, List.map_nil, List.replicate, List.cons_append, List.nil_append, List.append_nil, List.length_cons, List.length_nil, List.length_map, atI_0, atI_1, atI_2, atI_3, atI_4, atI_5, decide_eq_true_eq, Bool.not_true, Bool.not_false, Bool.true_and, Bool.false_and, Bool.and_true, Bool.and_false, Bool.or_true, Bool.true_or, Bool.or_false, Bool.false_or, Bool.false_eq_true, Bool.not_eq_true', decide_eq_false_iff_not, ↓reduceIte, decide_true, decide_false, reduceCtorEq, Nat.reduceAdd, Nat.reduceSub, Nat.reduceEqDiff, tp, pn, ef, sp, e, b, al, e2, e3, er]
theorem shows_no {c : Int} (h0 : 1 ≤ c) (hc : c ≤ 16) {rs : List (List (Int × Int))} (hl : (rs.length : Int) ≠ fr c) : p_shows_rounds [.int c, rsD rs] = Y.ret (.bool false) := by
  have tp : tyP (rsD rs) = some .tuple := rfl
  have pn : pLen [rsD rs] = some (.int (rs.length : Nat)) := by
    show some (PyData.int ((rs.map (pl (true, true))).length : Nat)) = _
    rw [List.length_map]
  have ef := fewr_ok h0 hc
  generalize rsD rs = X at *
  unfold p_shows_rounds
  simp only [pVar, pC, pOp, pUn, pNeg_i, pAdd_ii, pAdd_ss, pAdd_tt, pAdd_ll, pSub_ii, pLt_ii, pLe_ii, pGt_ii, pGe_ii, pDiv_ii, pMod_ii, pPow_ii, pMul_ii, pMul_li, pEq_a, pNe_a, isNP_i, isNP_s, isNP_b, isNP_l, isNP_t, isNP_n, pIsN_n, pNotN_n, pIx_s, pIx_t, pIx_l, boolP_b, truP_b, truP_n, truP_i, truP_l, truP_t, pTru, pBool, pNotT, pAndT, pOrT, pYes, pAndV, pOrV, pNotV, pIf, pNil, pCons, pTup, pLst, pCB, pAbs_i, pInt_i, pInt_b, pMin2_ii, pMax2_ii, pListOf_1, pTupOf_1, pAll_l, pAny_l, pSrt_l, pSS, pLR, tyP_n, tyP_b, tyP_i, tyP_s, tyP_l, tyP_t, pIsi, pIsi2, isTy, pChain, pRev, revP_t, pAug, augP_ii, pBestMin_1, pBestMax_1, pUnp, pgNames, pSSZ, lstP_l, pSrtZ_1, srtD_i, pNoP, intP_i, pPart, slP_t, slP_l, pSl, pCall, pCallK, pBor, bor_bool, pItS, rg1, rg2, pRng1, pRng2, zp_t, zp_l, pZip, en1_1, pEnum, seqD_l, seqD_t, pgName, pgNil, pgCons, pgTup, pgSeq, wipeE, pLc, pLc2, pNext, pSeq, pBreak, pCont, pRet, pRetN, pExpr, pIfS, pAsg, pPar, appP, pApp, setP, pSet, pFor, pWhile, endP_n, endP_r, runP, runPB, bd_ret, bd_bad, ofO_some, ofO_none, gpm, List.filterMap_cons, List.filterMap_nil, eqD_ii, eqD_ss, eqD_bb, eqD_nn, eqD_in, eqD_ni, eqD_bn, eqD_nb, eqD_sn, eqD_ns, eqD_is, eqD_si, eqD_bs, eqD_sb, Option.map_some, Option.map_none, Option.bind_some, Option.bind_none, List.getElem?_cons_zero, List.getElem?_cons_succ, List.set_cons_zero, List.set_cons_succ, List.map_cons, List.map_nil, List.replicate, List.cons_append, List.nil_append, List.append_nil, List.length_cons, List.length_nil, List.length_map, atI_0, atI_1, atI_2, atI_3, atI_4, atI_5, decide_eq_true_eq, Bool.not_true, Bool.not_false, Bool.true_and, Bool.false_and, Bool.and_true, Bool.and_false, Bool.or_true, Bool.true_or, Bool.or_false, Bool.false_or, Bool.false_eq_true, Bool.not_eq_true', decide_eq_false_iff_not, ↓reduceIte, decide_true, decide_false, reduceCtorEq, Nat.reduceAdd, Nat.reduceSub, Nat.reduceEqDiff, tp, pn, ef, hl]
end P
namespace P
open PySem L2 Z Y
/-! the told rounds, c up to 10 -/
theorem run_mem {r : Int} {q : Int × Int} (hr : r = q.1 ∨ r = q.2) : ∀ {R : List (Int × Int)} {F : Int → Int → Bool}, Mt R → q ∈ R → ∀ o, run R F o r = (F o q.1 || F o q.2)
  | [], _, _, h, _ => nomatch h
  | p :: R, F, hm, h, o => by
    have hm := List.pairwise_cons.mp hm
    show run R (stepF true F p) o r = _
    rcases List.mem_cons.mp h with e | h
    · subst e
      rw [run_out (fun y hy => ?_) o, step_in hr]
      have d := hm.1 y hy
      unfold dis at d
      rcases hr with k | k <;> rw [k]
      · exact ⟨d.1, d.2.1⟩
      · exact ⟨d.2.2.1, d.2.2.2⟩
    · have d := hm.1 q h
      unfold dis at d
      rw [run_mem hr hm.2 h o, step_out (Ne.symm d.1) (Ne.symm d.2.2.1), step_out (Ne.symm d.2.1) (Ne.symm d.2.2.2)]
theorem dis_symm {a b : Int × Int} (h : dis a b) : dis b a := ⟨Ne.symm h.1, Ne.symm h.2.2.1, Ne.symm h.2.1, Ne.symm h.2.2.2⟩
theorem Mt.perm {R R' : List (Int × Int)} (h : Mt R) (p : R'.Perm R) : Mt R' := (p.pairwise_iff fun h => dis_symm h).mpr h
theorem run_perm {R R' : List (Int × Int)} (h : Mt R) (p : R'.Perm R) (F : Int → Int → Bool) : run R' F = run R F := by
  funext o r
  by_cases k : ∃ q ∈ R, r = q.1 ∨ r = q.2
  · obtain ⟨q, hq, hr⟩ := k
    rw [run_mem hr (h.perm p) (p.mem_iff.mpr hq), run_mem hr h hq]
  · have : ∀ q ∈ R, r ≠ q.1 ∧ r ≠ q.2 := fun q hq => ⟨fun e => k ⟨q, hq, .inl e⟩, fun e => k ⟨q, hq, .inr e⟩⟩
    rw [run_out fun q hq => this q (p.mem_iff.mp hq), run_out this]
theorem run_srt : ∀ (Ls : List (List (Int × Int))) (F : Int → Int → Bool), (∀ L ∈ Ls, Mt L) → run (Ls.map srtP).flatten F = run Ls.flatten F
  | [], _, _ => rfl
  | L :: Ls, F, h => by
    rw [List.map_cons, List.flatten_cons, List.flatten_cons]
    show (srtP L ++ (Ls.map srtP).flatten).foldl (stepF true) F = (L ++ Ls.flatten).foldl (stepF true) F
    rw [List.foldl_append, List.foldl_append]
    have e : (srtP L).foldl (stepF true) F = L.foldl (stepF true) F := run_perm (h L List.mem_cons_self) (srtP_perm L) F
    rw [e]
    exact run_srt Ls _ fun y hy => h y (List.mem_cons_of_mem _ hy)
def evB (c o : Int) : List (Int × Int) := (upto (c / 2)).map fun k => ord (2 * k) ((k + o) % (c / 2) * 2 + 1)
def rpB (c : Int) : List (List (Int × Int)) := if c = 1 then [] else if c % 2 = 0 then (offs (db c)).map (evB c) else asd c :: (offs (db (core c))).map (evB (core c)) ++ [asd c]
theorem asd_srt (c : Int) : srtP (asd c) = asd c := by
  refine (srtP_only (.refl _) ?_).symm
  unfold asd
  rw [List.pairwise_map]
  refine ((upto_lt c).sublist List.filter_sublist).imp fun h => ?_
  simp only [pairLe, Bool.or_eq_true, decide_eq_true_eq]
  left
  omega
theorem rp_eq (c : Int) : rp c = (rpB c).map srtP := by
  have e : ∀ c, (offs (db c)).map (ev c) = ((offs (db c)).map (evB c)).map srtP := fun c => by
    rw [List.map_map]
    rfl
  unfold rp rpB rpE
  split
  · rfl
  · split
    · exact e c
    · rw [List.map_append, List.map_cons, List.map_cons, List.map_nil, asd_srt, e]
def okB (c : Int) (L : List (Int × Int)) : Bool := L.all (fun q => decide (0 ≤ q.1) && decide (q.1 < q.2) && decide (q.2 < c)) && !L.isEmpty && decide (L.flatMap fun q => [q.1, q.2]).Nodup
def chk (c : Int) : Bool := (rpB c).all (okB c) && decide (((rpB c).length : Int) = fr c) && (upto c).all fun o => (upto c).all fun r => has true (rpB c).flatten o r
theorem chk_all : ([1, 2, 3, 4, 5, 6, 7, 8, 9, 10] : List Int).all chk = true := by decide +kernel
theorem chk_ok {c : Int} (h0 : 1 ≤ c) (hc : c ≤ 10) : chk c = true := by
  refine List.all_eq_true.mp chk_all c ?_
  simp only [List.mem_cons, List.not_mem_nil, or_false]
  omega
theorem Rok_of {c : Int} {L : List (Int × Int)} (h : okB c L = true) : Rok c (srtP L) ∧ Mt L ∧ Pok c L := by
  unfold okB at h
  simp only [Bool.and_eq_true, List.all_eq_true, decide_eq_true_eq, Bool.not_eq_true', List.isEmpty_eq_false_iff] at h
  obtain ⟨⟨h1, h2⟩, h3⟩ := h
  refine ⟨⟨fun q hq => ?_, fun e => ?_, ?_, srtP_idem L⟩, ?_, fun q hq => ?_⟩
  · have := h1 q ((srtP_perm L).mem_iff.mp hq)
    exact ⟨this.1.1, this.1.2, this.2⟩
  · have := (srtP_perm L).length_eq
    rw [e, List.length_nil] at this
    exact h2 (List.length_eq_zero_iff.mp this.symm)
  · exact (List.Perm.flatMap_right _ (srtP_perm L)).nodup_iff.mpr h3
  · unfold Mt
    clear h1 h2
    induction L with
    | nil => exact .nil
    | cons q L ih =>
      rw [List.flatMap_cons] at h3
      have n := List.nodup_append.mp h3
      refine List.pairwise_cons.mpr ⟨fun q' hq' => ?_, ih n.2.1⟩
      have m1 : ∀ x ∈ [q'.1, q'.2], x ∈ L.flatMap fun q => [q.1, q.2] := fun x hx => List.mem_flatMap.mpr ⟨q', hq', hx⟩
      exact ⟨n.2.2 _ (by simp) _ (m1 _ (by simp)), n.2.2 _ (by simp) _ (m1 _ (by simp)), n.2.2 _ (by simp) _ (m1 _ (by simp)), n.2.2 _ (by simp) _ (m1 _ (by simp))⟩
  · have := h1 q hq
    exact ⟨⟨this.1.1, by omega⟩, ⟨by omega, this.2⟩, by omega⟩
theorem rp_good {c : Int} (h0 : 1 ≤ c) (hc : c ≤ 10) : ((rp c).length : Int) = fr c ∧ (∀ R ∈ rp c, Rok c R ∧ Mt R ∧ Pok c R) ∧ ∀ o r, (0 ≤ o ∧ o < c) → (0 ≤ r ∧ r < c) → has true (rp c).flatten o r = true := by
  have h := chk_ok h0 hc
  unfold chk at h
  simp only [Bool.and_eq_true, List.all_eq_true, decide_eq_true_eq] at h
  obtain ⟨⟨h1, h2⟩, h3⟩ := h
  rw [rp_eq]
  refine ⟨by rw [List.length_map]; exact h2, fun R hR => ?_, fun o r ho hr => ?_⟩
  · obtain ⟨L, hL, rfl⟩ := List.mem_map.mp hR
    obtain ⟨a, b, d⟩ := Rok_of (h1 L hL)
    exact ⟨a, b.perm (srtP_perm L), fun q hq => d q ((srtP_perm L).mem_iff.mp hq)⟩
  · have := h3 o (upto_mem.mpr ho) r (upto_mem.mpr hr)
    have e : run ((rpB c).map srtP).flatten own0 = run (rpB c).flatten own0 := run_srt _ _ fun L hL => (Rok_of (h1 L hL)).2.1
    show run ((rpB c).map srtP).flatten own0 o r = true
    rw [e]
    exact this
end P
namespace P
open PySem L2 Z Y
/-! drawn rounds -/
def flat2 (R : List (Int × Int)) : List Int := R.flatMap fun q => [q.1, q.2]
theorem Mt_of : ∀ {R : List (Int × Int)}, (flat2 R).Nodup → Mt R
  | [], _ => .nil
  | q :: R, h => by
    unfold flat2 at h
    rw [List.flatMap_cons] at h
    have n := List.nodup_append.mp h
    refine List.pairwise_cons.mpr ⟨fun q' hq' => ?_, Mt_of n.2.1⟩
    have m1 : ∀ x ∈ [q'.1, q'.2], x ∈ R.flatMap fun q => [q.1, q.2] := fun x hx => List.mem_flatMap.mpr ⟨q', hq', hx⟩
    exact ⟨n.2.2 _ (by simp) _ (m1 _ (by simp)), n.2.2 _ (by simp) _ (m1 _ (by simp)), n.2.2 _ (by simp) _ (m1 _ (by simp)), n.2.2 _ (by simp) _ (m1 _ (by simp))⟩
/-- a drawn round -/
structure Drn (c : Int) (R : List (Int × Int)) : Prop where
  mt : Mt R
  pok : Pok c R
  odd : c % 2 = 1 → ∃ r, (0 ≤ r ∧ r < c) ∧ ∀ q ∈ R, r ≠ q.1 ∧ r ≠ q.2
theorem drn_of {c : Int} (h0 : 0 ≤ c) {R rs : List (Int × Int)} {l : List Int} (hp : (flat2 R ++ l).Perm (upto c)) (hl : l.length ≤ 1) : Drn c (srtP R) := by
  have un : (flat2 R ++ l).Nodup := hp.nodup_iff.mpr ((upto_lt c).imp fun h => by omega)
  have n := List.nodup_append.mp un
  have mt := Mt_of n.1
  have low : ∀ x ∈ flat2 R, 0 ≤ x ∧ x < c := fun x hx => upto_mem.mp (hp.mem_iff.mp (List.mem_append_left _ hx))
  have mem : ∀ q ∈ R, q.1 ∈ flat2 R ∧ q.2 ∈ flat2 R := fun q hq => ⟨List.mem_flatMap.mpr ⟨q, hq, by simp⟩, List.mem_flatMap.mpr ⟨q, hq, by simp⟩⟩
  have ne : ∀ q ∈ R, q.1 ≠ q.2 := fun q hq e => by
    have : ∀ R : List (Int × Int), (flat2 R).Nodup → ∀ q ∈ R, q.1 ≠ q.2 := fun R => by
      induction R with
      | nil => exact fun _ _ h => nomatch h
      | cons p R ih =>
        intro hn q hq
        unfold flat2 at hn
        rw [List.flatMap_cons] at hn
        have n := List.nodup_append.mp hn
        rcases List.mem_cons.mp hq with rfl | hq
        · exact fun e => (List.nodup_cons.mp n.1).1 (by rw [e]; exact List.mem_cons_self)
        · exact ih n.2.1 q hq
    exact this R n.1 q hq e
  refine ⟨mt.perm (srtP_perm R), fun q hq => ?_, fun ho => ?_⟩
  · have hq := (srtP_perm R).mem_iff.mp hq
    exact ⟨low _ (mem q hq).1, low _ (mem q hq).2, ne q hq⟩
  · have len := hp.length_eq
    rw [List.length_append, upto_len] at len
    have fl : (flat2 R).length = 2 * R.length := flat_len R
    match l, hl, hp, n, len with
    | [], _, _, _, len => rw [List.length_nil] at len; omega
    | [r], _, hp, n, _ =>
      refine ⟨r, upto_mem.mp (hp.mem_iff.mp (List.mem_append_right _ List.mem_cons_self)), fun q hq => ?_⟩
      have hq := mem q ((srtP_perm R).mem_iff.mp hq)
      exact ⟨fun e => n.2.2 _ hq.1 _ List.mem_cons_self e.symm, fun e => n.2.2 _ hq.2 _ List.mem_cons_self e.symm⟩
    | _ :: _ :: _, hl, _, _, _ => simp at hl
theorem drawn_wp {c m : Int} (h1 : 1 ≤ c) (hc : c ≤ 10) (m0 : 0 ≤ m) (m1 : m ≤ 5) {n : Nat} {Q : PyData → Nat → Prop} (hn : n ≤ 2 ^ 30) (h : ∀ rs n', (rs.length : Int) = m → (∀ R ∈ rs, Drn c R) → n' ≤ n + 60 → Q (rsD rs) n') : p_law_drawn_rounds [.int c, .int m] n Q := by
  have z0 : 0 ≤ sizeLine := by decide
  have z2 : 2 ≤ sizeLine := by decide
  unfold p_law_drawn_rounds runPB
  simp only [List.map_cons, List.map_nil, List.replicate, List.cons_append, List.nil_append, List.append_nil, List.length_cons, List.length_nil, if_true]
  have e0 : pAsg (pLst pNil) (pgName 3) [none, some (.int c), some (.int m), none, none, none, none, none, none] = Y.ret (.nx [none, some (.int c), some (.int m), some (.list []), none, none, none, none, none]) := by
    simp only [pVar, pC, pOp, pUn, pNeg_i, pAdd_ii, pAdd_ss, pAdd_tt, pAdd_ll, pSub_ii, pLt_ii, pLe_ii, pGt_ii, pGe_ii, pDiv_ii, pMod_ii, pPow_ii, pMul_ii, pMul_li, pEq_a, pNe_a, isNP_i, isNP_s, isNP_b, isNP_l, isNP_t, isNP_n, pIsN_n, pNotN_n, pIx_s, pIx_t, pIx_l, boolP_b, truP_b, truP_n, truP_i, truP_l, truP_t, pTru, pBool, pNotT, pAndT, pOrT, pYes, pAndV, pOrV, pNotV, pIf, pNil, pCons, pTup, pLst, pCB, pLen_s, pLen_l, pLen_t, pAbs_i, pInt_i, pInt_b, pMin2_ii, pMax2_ii, pListOf_1, pTupOf_1, pAll_l, pAny_l, pSrt_l, pSS, pLR, tyP_n, tyP_b, tyP_i, tyP_s, tyP_l, tyP_t, pIsi, pIsi2, isTy, pChain, pRev, revP_t, pAug, augP_ii, pBestMin_1, pBestMax_1, pUnp, pgNames, pSSZ, lstP_l, pSrtZ_1, srtD_i, pNoP, intP_i, pPart, slP_t, slP_l, pSl, pCall, pCallK, pBor, bor_bool, pItS, rg1, rg2, pRng1, pRng2, zp_t, zp_l, pZip, en1_1, pEnum, seqD_l, seqD_t, pgName, pgNil, pgCons, pgTup, pgSeq, wipeE, pLc, pLc2, pNext, pSeq, pBreak, pCont, pRet, pRetN, pExpr, pIfS, pAsg, pPar, appP, pApp, setP, pSet, pFor, pWhile, endP_n, endP_r, runP, runPB, bd_ret, bd_bad, ofO_some, ofO_none, gpm, List.filterMap_cons, List.filterMap_nil, eqD_ii, eqD_ss, eqD_bb, eqD_nn, eqD_in, eqD_ni, eqD_bn, eqD_nb, eqD_sn, eqD_ns, eqD_is, eqD_si, eqD_bs, eqD_sb, Option.map_some, Option.map_none, Option.bind_some, Option.bind_none, List.getElem?_cons_zero, List.getElem?_cons_succ, List.set_cons_zero, List.set_cons_succ, List.map_cons, List.map_nil, List.replicate, List.cons_append, List.nil_append, List.append_nil, List.length_cons, List.length_nil, List.length_map, atI_0, atI_1, atI_2, atI_3, atI_4, atI_5, decide_eq_true_eq, Bool.not_true, Bool.not_false, Bool.true_and, Bool.false_and, Bool.and_true, Bool.and_false, Bool.or_true, Bool.true_or, Bool.or_false, Bool.false_or, Bool.false_eq_true, Bool.not_eq_true', decide_eq_false_iff_not, ↓reduceIte, decide_true, decide_false, reduceCtorEq, Nat.reduceAdd, Nat.reduceSub, Nat.reduceEqDiff, z0]
  rw [seq_ret e0]
  refine seq_wp ?_
  refine for_wp (xs := (upto m).map .int) (by simp only [pVar, pC, pOp, pUn, pNeg_i, pAdd_ii, pAdd_ss, pAdd_tt, pAdd_ll, pSub_ii, pLt_ii, pLe_ii, pGt_ii, pGe_ii, pDiv_ii, pMod_ii, pPow_ii, pMul_ii, pMul_li, pEq_a, pNe_a, isNP_i, isNP_s, isNP_b, isNP_l, isNP_t, isNP_n, pIsN_n, pNotN_n, pIx_s, pIx_t, pIx_l, boolP_b, truP_b, truP_n, truP_i, truP_l, truP_t, pTru, pBool, pNotT, pAndT, pOrT, pYes, pAndV, pOrV, pNotV, pIf, pNil, pCons, pTup, pLst, pCB, pLen_s, pLen_l, pLen_t, pAbs_i, pInt_i, pInt_b, pMin2_ii, pMax2_ii, pListOf_1, pTupOf_1, pAll_l, pAny_l, pSrt_l, pSS, pLR, tyP_n, tyP_b, tyP_i, tyP_s, tyP_l, tyP_t, pIsi, pIsi2, isTy, pChain, pRev, revP_t, pAug, augP_ii, pBestMin_1, pBestMax_1, pUnp, pgNames, pSSZ, lstP_l, pSrtZ_1, srtD_i, pNoP, intP_i, pPart, slP_t, slP_l, pSl, pCall, pCallK, pBor, bor_bool, pItS, rg2, pRng1, pRng2, zp_t, zp_l, pZip, en1_1, pEnum, seqD_l, seqD_t, pgName, pgNil, pgCons, pgTup, pgSeq, wipeE, pLc, pLc2, pNext, pSeq, pBreak, pCont, pRet, pRetN, pExpr, pIfS, pAsg, pPar, appP, pApp, setP, pSet, pFor, pWhile, endP_n, endP_r, runP, runPB, bd_ret, bd_bad, ofO_some, ofO_none, gpm, List.filterMap_cons, List.filterMap_nil, eqD_ii, eqD_ss, eqD_bb, eqD_nn, eqD_in, eqD_ni, eqD_bn, eqD_nb, eqD_sn, eqD_ns, eqD_is, eqD_si, eqD_bs, eqD_sb, Option.map_some, Option.map_none, Option.bind_some, Option.bind_none, List.getElem?_cons_zero, List.getElem?_cons_succ, List.set_cons_zero, List.set_cons_succ, List.map_cons, List.map_nil, List.replicate, List.cons_append, List.nil_append, List.append_nil, List.length_cons, List.length_nil, List.length_map, atI_0, atI_1, atI_2, atI_3, atI_4, atI_5, decide_eq_true_eq, Bool.not_true, Bool.not_false, Bool.true_and, Bool.false_and, Bool.and_true, Bool.and_false, Bool.or_true, Bool.true_or, Bool.or_false, Bool.false_or, Bool.false_eq_true, Bool.not_eq_true', decide_eq_false_iff_not, ↓reduceIte, decide_true, decide_false, reduceCtorEq, Nat.reduceAdd, Nat.reduceSub, Nat.reduceEqDiff, rg1_ok m0 (show m ≤ 1000000 by omega)]) ?_
  refine forP_inv (g := pgName 4) (body := q2_law_drawn_rounds) PyData.int (fun r E k => ∃ (rs : List (List (Int × Int))) (g4 g5 g6 g7 g8 : Option PyData), E = [none, some (.int c), some (.int m), some (.list (rs.map (pl (true, true)))), g4, g5, g6, g7, g8] ∧ (∀ R ∈ rs, Drn c R) ∧ ((rs.length + r.length : Nat) : Int) = m ∧ k ≤ n + 10 * rs.length)
    (fun z r E k K ⟨rs, g4, g5, g6, g7, g8, e, hR, hl, hk⟩ hK => by
      subst e
      rw [List.length_cons] at hl
      have eU : pPar 5 6 (pCons (pLR (pVar 1)) (pCons (pLst pNil) pNil)) [none, some (.int c), some (.int m), some (.list (rs.map (pl (true, true)))), some (.int z), g5, g6, g7, g8] = Y.ret (.nx [none, some (.int c), some (.int m), some (.list (rs.map (pl (true, true)))), some (.int z), some (.list ((upto c).map .int)), some (.list []), g7, g8]) := by
        simp only [pVar, pC, pOp, pUn, pNeg_i, pAdd_ii, pAdd_ss, pAdd_tt, pAdd_ll, pSub_ii, pLt_ii, pLe_ii, pGt_ii, pGe_ii, pDiv_ii, pMod_ii, pPow_ii, pMul_ii, pMul_li, pEq_a, pNe_a, isNP_i, isNP_s, isNP_b, isNP_l, isNP_t, isNP_n, pIsN_n, pNotN_n, pIx_s, pIx_t, pIx_l, boolP_b, truP_b, truP_n, truP_i, truP_l, truP_t, pTru, pBool, pNotT, pAndT, pOrT, pYes, pAndV, pOrV, pNotV, pIf, pNil, pCons, pTup, pLst, pCB, pLen_s, pLen_l, pLen_t, pAbs_i, pInt_i, pInt_b, pMin2_ii, pMax2_ii, pListOf_1, pTupOf_1, pAll_l, pAny_l, pSrt_l, pSS, pLR, tyP_n, tyP_b, tyP_i, tyP_s, tyP_l, tyP_t, pIsi, pIsi2, isTy, pChain, pRev, revP_t, pAug, augP_ii, pBestMin_1, pBestMax_1, pUnp, pgNames, pSSZ, lstP_l, pSrtZ_1, srtD_i, pNoP, intP_i, pPart, slP_t, slP_l, pSl, pCall, pCallK, pBor, bor_bool, pItS, rg1, rg2, pRng1, pRng2, zp_t, zp_l, pZip, en1_1, pEnum, seqD_l, seqD_t, pgName, pgNil, pgCons, pgTup, pgSeq, wipeE, pLc, pLc2, pNext, pSeq, pBreak, pCont, pRet, pRetN, pExpr, pIfS, pAsg, pPar, appP, pApp, setP, pSet, pFor, pWhile, endP_n, endP_r, runP, runPB, bd_ret, bd_bad, ofO_some, ofO_none, gpm, List.filterMap_cons, List.filterMap_nil, eqD_ii, eqD_ss, eqD_bb, eqD_nn, eqD_in, eqD_ni, eqD_bn, eqD_nb, eqD_sn, eqD_ns, eqD_is, eqD_si, eqD_bs, eqD_sb, Option.map_some, Option.map_none, Option.bind_some, Option.bind_none, List.getElem?_cons_zero, List.getElem?_cons_succ, List.set_cons_zero, List.set_cons_succ, List.map_cons, List.map_nil, List.replicate, List.cons_append, List.nil_append, List.append_nil, List.length_cons, List.length_nil, List.length_map, atI_0, atI_1, atI_2, atI_3, atI_4, atI_5, decide_eq_true_eq, Bool.not_true, Bool.not_false, Bool.true_and, Bool.false_and, Bool.and_true, Bool.and_false, Bool.or_true, Bool.true_or, Bool.or_false, Bool.false_or, Bool.false_eq_true, Bool.not_eq_true', decide_eq_false_iff_not, ↓reduceIte, decide_true, decide_false, reduceCtorEq, Nat.reduceAdd, Nat.reduceSub, Nat.reduceEqDiff, z0, lr_ok (c := c) (by omega) (by omega)]
      have zr : rs.length < sizeLine := Nat.lt_of_le_of_lt (show rs.length ≤ 10 by omega) (by decide)
      unfold q2_law_drawn_rounds
      show (bd (fun E' => _) _ (pgName 4 (.int z) _)) k K
      have eg : pgName 4 (.int z) [none, some (.int c), some (.int m), some (.list (rs.map (pl (true, true)))), g4, g5, g6, g7, g8] = Y.ret [none, some (.int c), some (.int m), some (.list (rs.map (pl (true, true)))), some (.int z), g5, g6, g7, g8] := rfl
      rw [eg, bd_ret]
      show pSeq _ _ _ k K
      unfold pSeq
      rw [eU, bd_ret]
      show pSeq _ _ _ k K
      unfold pSeq pWhile
      rw [bd_at]
      refine while_inv (fun E k' w => ∃ (ps : List (Int × Int)) (l : List Int) (g7 g8 : Option PyData), E = [none, some (.int c), some (.int m), some (.list (rs.map (pl (true, true)))), some (.int z), some (.list (l.map .int)), some (.list (ps.map (pr true))), g7, g8] ∧ (flat2 ps ++ l).Perm (upto c) ∧ w = l.length ∧ k' ≤ k + 2 * ps.length)
        (fun E k' => ∃ (ps : List (Int × Int)) (l : List Int) (g7 g8 : Option PyData), E = [none, some (.int c), some (.int m), some (.list (rs.map (pl (true, true)))), some (.int z), some (.list (l.map .int)), some (.list (ps.map (pr true))), g7, g8] ∧ (flat2 ps ++ l).Perm (upto c) ∧ l.length ≤ 1 ∧ k' ≤ k + 2 * ps.length)
        (fun E k' w ⟨ps, l, g7, g8, e, hp, hw, hk'⟩ => by
          subst e
          have len := hp.length_eq
          have fl : (flat2 ps).length = 2 * ps.length := flat_len ps
          rw [List.length_append, upto_len] at len
          by_cases hl1 : l.length ≤ 1
          · refine .inl ⟨?_, ps, l, g7, g8, rfl, hp, hl1, hk'⟩
            have : ¬ (1 : Int) < (l.length : Nat) := by omega
            simp only [pVar, pC, pOp, pUn, pNeg_i, pAdd_ii, pAdd_ss, pAdd_tt, pAdd_ll, pSub_ii, pLt_ii, pLe_ii, pGt_ii, pGe_ii, pDiv_ii, pMod_ii, pPow_ii, pMul_ii, pMul_li, pEq_a, pNe_a, isNP_i, isNP_s, isNP_b, isNP_l, isNP_t, isNP_n, pIsN_n, pNotN_n, pIx_s, pIx_t, pIx_l, boolP_b, truP_b, truP_n, truP_i, truP_l, truP_t, pTru, pBool, pNotT, pAndT, pOrT, pYes, pAndV, pOrV, pNotV, pIf, pNil, pCons, pTup, pLst, pCB, pLen_s, pLen_l, pLen_t, pAbs_i, pInt_i, pInt_b, pMin2_ii, pMax2_ii, pListOf_1, pTupOf_1, pAll_l, pAny_l, pSrt_l, pSS, pLR, tyP_n, tyP_b, tyP_i, tyP_s, tyP_l, tyP_t, pIsi, pIsi2, isTy, pChain, pRev, revP_t, pAug, augP_ii, pBestMin_1, pBestMax_1, pUnp, pgNames, pSSZ, lstP_l, pSrtZ_1, srtD_i, pNoP, intP_i, pPart, slP_t, slP_l, pSl, pCall, pCallK, pBor, bor_bool, pItS, rg1, rg2, pRng1, pRng2, zp_t, zp_l, pZip, en1_1, pEnum, seqD_l, seqD_t, pgName, pgNil, pgCons, pgTup, pgSeq, wipeE, pLc, pLc2, pNext, pSeq, pBreak, pCont, pRet, pRetN, pExpr, pIfS, pAsg, pPar, appP, pApp, setP, pSet, pFor, pWhile, endP_n, endP_r, runP, runPB, bd_ret, bd_bad, ofO_some, ofO_none, gpm, List.filterMap_cons, List.filterMap_nil, eqD_ii, eqD_ss, eqD_bb, eqD_nn, eqD_in, eqD_ni, eqD_bn, eqD_nb, eqD_sn, eqD_ns, eqD_is, eqD_si, eqD_bs, eqD_sb, Option.map_some, Option.map_none, Option.bind_some, Option.bind_none, List.getElem?_cons_zero, List.getElem?_cons_succ, List.set_cons_zero, List.set_cons_succ, List.map_cons, List.map_nil, List.replicate, List.cons_append, List.nil_append, List.append_nil, List.length_cons, List.length_nil, List.length_map, atI_0, atI_1, atI_2, atI_3, atI_4, atI_5, decide_eq_true_eq, Bool.not_true, Bool.not_false, Bool.true_and, Bool.false_and, Bool.and_true, Bool.and_false, Bool.or_true, Bool.true_or, Bool.or_false, Bool.false_or, Bool.false_eq_true, Bool.not_eq_true', decide_eq_false_iff_not, ↓reduceIte, decide_true, decide_false, reduceCtorEq, Nat.reduceAdd, Nat.reduceSub, Nat.reduceEqDiff, this]
          · refine .inr ⟨?_, fun K hK => ?_⟩
            · have : (1 : Int) < (l.length : Nat) := by omega
              simp only [pVar, pC, pOp, pUn, pNeg_i, pAdd_ii, pAdd_ss, pAdd_tt, pAdd_ll, pSub_ii, pLt_ii, pLe_ii, pGt_ii, pGe_ii, pDiv_ii, pMod_ii, pPow_ii, pMul_ii, pMul_li, pEq_a, pNe_a, isNP_i, isNP_s, isNP_b, isNP_l, isNP_t, isNP_n, pIsN_n, pNotN_n, pIx_s, pIx_t, pIx_l, boolP_b, truP_b, truP_n, truP_i, truP_l, truP_t, pTru, pBool, pNotT, pAndT, pOrT, pYes, pAndV, pOrV, pNotV, pIf, pNil, pCons, pTup, pLst, pCB, pLen_s, pLen_l, pLen_t, pAbs_i, pInt_i, pInt_b, pMin2_ii, pMax2_ii, pListOf_1, pTupOf_1, pAll_l, pAny_l, pSrt_l, pSS, pLR, tyP_n, tyP_b, tyP_i, tyP_s, tyP_l, tyP_t, pIsi, pIsi2, isTy, pChain, pRev, revP_t, pAug, augP_ii, pBestMin_1, pBestMax_1, pUnp, pgNames, pSSZ, lstP_l, pSrtZ_1, srtD_i, pNoP, intP_i, pPart, slP_t, slP_l, pSl, pCall, pCallK, pBor, bor_bool, pItS, rg1, rg2, pRng1, pRng2, zp_t, zp_l, pZip, en1_1, pEnum, seqD_l, seqD_t, pgName, pgNil, pgCons, pgTup, pgSeq, wipeE, pLc, pLc2, pNext, pSeq, pBreak, pCont, pRet, pRetN, pExpr, pIfS, pAsg, pPar, appP, pApp, setP, pSet, pFor, pWhile, endP_n, endP_r, runP, runPB, bd_ret, bd_bad, ofO_some, ofO_none, gpm, List.filterMap_cons, List.filterMap_nil, eqD_ii, eqD_ss, eqD_bb, eqD_nn, eqD_in, eqD_ni, eqD_bn, eqD_nb, eqD_sn, eqD_ns, eqD_is, eqD_si, eqD_bs, eqD_sb, Option.map_some, Option.map_none, Option.bind_some, Option.bind_none, List.getElem?_cons_zero, List.getElem?_cons_succ, List.set_cons_zero, List.set_cons_succ, List.map_cons, List.map_nil, List.replicate, List.cons_append, List.nil_append, List.append_nil, List.length_cons, List.length_nil, List.length_map, atI_0, atI_1, atI_2, atI_3, atI_4, atI_5, decide_eq_true_eq, Bool.not_true, Bool.not_false, Bool.true_and, Bool.false_and, Bool.and_true, Bool.and_false, Bool.or_true, Bool.true_or, Bool.or_false, Bool.false_or, Bool.false_eq_true, Bool.not_eq_true', decide_eq_false_iff_not, ↓reduceIte, decide_true, decide_false, reduceCtorEq, Nat.reduceAdd, Nat.reduceSub, Nat.reduceEqDiff, this]
            · have zp : ps.length < sizeLine := Nat.lt_of_le_of_lt (show ps.length ≤ 10 by omega) (by decide)
              have zl : (l.map PyData.int).length < sizeLine := by
                rw [List.length_map]
                exact Nat.lt_of_le_of_lt (show l.length ≤ 10 by omega) (by decide)
              unfold q1_law_drawn_rounds p_law_take pPop2
              simp only [pVar, pC, pOp, pUn, pNeg_i, pAdd_ii, pAdd_ss, pAdd_tt, pAdd_ll, pSub_ii, pLt_ii, pLe_ii, pGt_ii, pGe_ii, pDiv_ii, pMod_ii, pPow_ii, pMul_ii, pMul_li, pEq_a, pNe_a, isNP_i, isNP_s, isNP_b, isNP_l, isNP_t, isNP_n, pIsN_n, pNotN_n, pIx_s, pIx_t, pIx_l, boolP_b, truP_b, truP_n, truP_i, truP_l, truP_t, pTru, pBool, pNotT, pAndT, pOrT, pYes, pAndV, pOrV, pNotV, pIf, pNil, pCons, pTup, pLst, pCB, pLen_s, pLen_l, pLen_t, pAbs_i, pInt_i, pInt_b, pMin2_ii, pMax2_ii, pListOf_1, pTupOf_1, pAll_l, pAny_l, pSrt_l, pSS, pLR, tyP_n, tyP_b, tyP_i, tyP_s, tyP_l, tyP_t, pIsi, pIsi2, isTy, pChain, pRev, revP_t, pAug, augP_ii, pBestMin_1, pBestMax_1, pUnp, pgNames, pSSZ, lstP_l, pSrtZ_1, srtD_i, pNoP, intP_i, pPart, slP_t, slP_l, pSl, pCall, pCallK, pBor, bor_bool, pItS, rg1, rg2, pRng1, pRng2, zp_t, zp_l, pZip, en1_1, pEnum, seqD_l, seqD_t, pgName, pgNil, pgCons, pgTup, pgSeq, wipeE, pLc, pLc2, pNext, pSeq, pBreak, pCont, pRet, pRetN, pExpr, pIfS, pAsg, pPar, appP, pApp, setP, pSet, pFor, pWhile, endP_n, endP_r, runP, runPB, bd_ret, bd_bad, ofO_some, ofO_none, gpm, List.filterMap_cons, List.filterMap_nil, eqD_ii, eqD_ss, eqD_bb, eqD_nn, eqD_in, eqD_ni, eqD_bn, eqD_nb, eqD_sn, eqD_ns, eqD_is, eqD_si, eqD_bs, eqD_sb, Option.map_some, Option.map_none, Option.bind_some, Option.bind_none, List.getElem?_cons_zero, List.getElem?_cons_succ, List.set_cons_zero, List.set_cons_succ, List.map_nil, List.replicate, List.cons_append, List.nil_append, List.append_nil, List.length_nil, List.length_map, atI_0, atI_1, atI_2, atI_3, atI_4, atI_5, decide_eq_true_eq, Bool.not_true, Bool.not_false, Bool.true_and, Bool.false_and, Bool.and_true, Bool.and_false, Bool.or_true, Bool.true_or, Bool.or_false, Bool.false_or, Bool.false_eq_true, Bool.not_eq_true', decide_eq_false_iff_not, ↓reduceIte, decide_true, decide_false, reduceCtorEq, Nat.reduceAdd, Nat.reduceSub, Nat.reduceEqDiff, pTake, bd_bd, draw_bd]
              refine ⟨⟨by omega, by omega, by omega⟩, fun y y0 y1 => ?_⟩
              have hy : y.toNat < l.length := by omega
              have e1 : (l.map PyData.int)[y.toNat]? = some (.int (l[y.toNat])) := by
                rw [List.getElem?_map, List.getElem?_eq_getElem hy]
                rfl
              unfold popP
              simp only [pVar, pC, pOp, pUn, pNeg_i, pAdd_ii, pAdd_ss, pAdd_tt, pAdd_ll, pSub_ii, pLt_ii, pLe_ii, pGt_ii, pGe_ii, pDiv_ii, pMod_ii, pPow_ii, pMul_ii, pMul_li, pEq_a, pNe_a, isNP_i, isNP_s, isNP_b, isNP_l, isNP_t, isNP_n, pIsN_n, pNotN_n, pIx_s, pIx_t, pIx_l, boolP_b, truP_b, truP_n, truP_i, truP_l, truP_t, pTru, pBool, pNotT, pAndT, pOrT, pYes, pAndV, pOrV, pNotV, pIf, pNil, pCons, pTup, pLst, pCB, pLen_s, pLen_l, pLen_t, pAbs_i, pInt_i, pInt_b, pMin2_ii, pMax2_ii, pListOf_1, pTupOf_1, pAll_l, pAny_l, pSrt_l, pSS, pLR, tyP_n, tyP_b, tyP_i, tyP_s, tyP_l, tyP_t, pIsi, pIsi2, isTy, pChain, pRev, revP_t, pAug, augP_ii, pBestMin_1, pBestMax_1, pUnp, pgNames, pSSZ, lstP_l, pSrtZ_1, srtD_i, pNoP, intP_i, pPart, slP_t, slP_l, pSl, pCall, pCallK, pBor, bor_bool, pItS, rg1, rg2, pRng1, pRng2, zp_t, zp_l, pZip, en1_1, pEnum, seqD_l, seqD_t, pgName, pgNil, pgCons, pgTup, pgSeq, wipeE, pLc, pLc2, pNext, pSeq, pBreak, pCont, pRet, pRetN, pExpr, pIfS, pAsg, pPar, appP, pApp, setP, pSet, pFor, pWhile, endP_n, endP_r, runP, runPB, bd_ret, bd_bad, ofO_some, ofO_none, gpm, List.filterMap_cons, List.filterMap_nil, eqD_ii, eqD_ss, eqD_bb, eqD_nn, eqD_in, eqD_ni, eqD_bn, eqD_nb, eqD_sn, eqD_ns, eqD_is, eqD_si, eqD_bs, eqD_sb, Option.map_some, Option.map_none, Option.bind_some, Option.bind_none, List.getElem?_cons_zero, List.getElem?_cons_succ, List.set_cons_zero, List.set_cons_succ, List.map_nil, List.replicate, List.cons_append, List.nil_append, List.append_nil, List.length_nil, atI_0, atI_1, atI_2, atI_3, atI_4, atI_5, decide_eq_true_eq, Bool.not_true, Bool.not_false, Bool.true_and, Bool.false_and, Bool.and_true, Bool.and_false, Bool.or_true, Bool.true_or, Bool.or_false, Bool.false_or, Bool.false_eq_true, Bool.not_eq_true', decide_eq_false_iff_not, ↓reduceIte, decide_true, decide_false, reduceCtorEq, Nat.reduceAdd, Nat.reduceSub, Nat.reduceEqDiff]
              rw [if_pos ⟨y0, by rw [List.length_map]; exact_mod_cast y1, zl⟩, e1]
              have l2 : (l.eraseIdx y.toNat).length = l.length - 1 := by rw [List.length_eraseIdx, if_pos hy]
              simp only [pVar, pC, pOp, pUn, pNeg_i, pAdd_ii, pAdd_ss, pAdd_tt, pAdd_ll, pSub_ii, pLt_ii, pLe_ii, pGt_ii, pGe_ii, pDiv_ii, pMod_ii, pPow_ii, pMul_ii, pMul_li, pEq_a, pNe_a, isNP_i, isNP_s, isNP_b, isNP_l, isNP_t, isNP_n, pIsN_n, pNotN_n, pIx_s, pIx_t, pIx_l, boolP_b, truP_b, truP_n, truP_i, truP_l, truP_t, pTru, pBool, pNotT, pAndT, pOrT, pYes, pAndV, pOrV, pNotV, pIf, pNil, pCons, pTup, pLst, pCB, pLen_s, pLen_l, pLen_t, pAbs_i, pInt_i, pInt_b, pMin2_ii, pMax2_ii, pListOf_1, pTupOf_1, pAll_l, pAny_l, pSrt_l, pSS, pLR, tyP_n, tyP_b, tyP_i, tyP_s, tyP_l, tyP_t, pIsi, pIsi2, isTy, pChain, pRev, revP_t, pAug, augP_ii, pBestMin_1, pBestMax_1, pUnp, pgNames, pSSZ, lstP_l, pSrtZ_1, srtD_i, pNoP, intP_i, pPart, slP_t, slP_l, pSl, pCall, pCallK, pBor, bor_bool, pItS, rg1, rg2, pRng1, pRng2, zp_t, zp_l, pZip, en1_1, pEnum, seqD_l, seqD_t, pgName, pgNil, pgCons, pgTup, pgSeq, wipeE, pLc, pLc2, pNext, pSeq, pBreak, pCont, pRet, pRetN, pExpr, pIfS, pAsg, pPar, appP, pApp, setP, pSet, pFor, pWhile, endP_n, endP_r, runP, runPB, bd_ret, bd_bad, ofO_some, ofO_none, gpm, List.filterMap_cons, List.filterMap_nil, eqD_ii, eqD_ss, eqD_bb, eqD_nn, eqD_in, eqD_ni, eqD_bn, eqD_nb, eqD_sn, eqD_ns, eqD_is, eqD_si, eqD_bs, eqD_sb, Option.map_some, Option.map_none, Option.bind_some, Option.bind_none, List.getElem?_cons_zero, List.getElem?_cons_succ, List.set_cons_zero, List.set_cons_succ, List.map_nil, List.replicate, List.cons_append, List.nil_append, List.append_nil, List.length_nil, List.length_map, atI_0, atI_1, atI_2, atI_3, atI_4, atI_5, decide_eq_true_eq, Bool.not_true, Bool.not_false, Bool.true_and, Bool.false_and, Bool.and_true, Bool.and_false, Bool.or_true, Bool.true_or, Bool.or_false, Bool.false_or, Bool.false_eq_true, Bool.not_eq_true', decide_eq_false_iff_not, ↓reduceIte, decide_true, decide_false, reduceCtorEq, Nat.reduceAdd, Nat.reduceSub, Nat.reduceEqDiff, erase_map, bd_bd, draw_bd]
              refine ⟨⟨by omega, by omega, by omega⟩, fun x x0 x1 => ?_⟩
              have hx : x.toNat < (l.eraseIdx y.toNat).length := by omega
              have e2 : ((l.eraseIdx y.toNat).map PyData.int)[x.toNat]? = some (.int ((l.eraseIdx y.toNat)[x.toNat])) := by
                rw [List.getElem?_map, List.getElem?_eq_getElem hx]
                rfl
              have zl2 : ((l.eraseIdx y.toNat).map PyData.int).length < sizeLine := by
                rw [List.length_map]
                exact Nat.lt_of_le_of_lt (show (l.eraseIdx y.toNat).length ≤ 10 by omega) (by decide)
              rw [if_pos ⟨x0, x1, by rw [List.length_map] at zl2; exact zl2⟩, e2]
              simp only [pVar, pC, pOp, pUn, pNeg_i, pAdd_ii, pAdd_ss, pAdd_tt, pAdd_ll, pSub_ii, pLt_ii, pLe_ii, pGt_ii, pGe_ii, pDiv_ii, pMod_ii, pPow_ii, pMul_ii, pMul_li, pEq_a, pNe_a, isNP_i, isNP_s, isNP_b, isNP_l, isNP_t, isNP_n, pIsN_n, pNotN_n, pIx_s, pIx_t, pIx_l, boolP_b, truP_b, truP_n, truP_i, truP_l, truP_t, pTru, pBool, pNotT, pAndT, pOrT, pYes, pAndV, pOrV, pNotV, pIf, pNil, pCons, pTup, pLst, pCB, pLen_s, pLen_l, pLen_t, pAbs_i, pInt_i, pInt_b, pMin2_ii, pMax2_ii, pListOf_1, pTupOf_1, pAll_l, pAny_l, pSrt_l, pSS, pLR, tyP_n, tyP_b, tyP_i, tyP_s, tyP_l, tyP_t, pIsi, pIsi2, isTy, pChain, pRev, revP_t, pAug, augP_ii, pBestMin_1, pBestMax_1, pUnp, pgNames, pSSZ, lstP_l, pSrtZ_1, srtD_i, pNoP, intP_i, pPart, slP_t, slP_l, pSl, pCall, pCallK, pBor, bor_bool, pItS, rg1, rg2, pRng1, pRng2, zp_t, zp_l, pZip, en1_1, pEnum, seqD_l, seqD_t, pgName, pgNil, pgCons, pgTup, pgSeq, wipeE, pLc, pLc2, pNext, pSeq, pBreak, pCont, pRet, pRetN, pExpr, pIfS, pAsg, pPar, appP, pApp, setP, pSet, pFor, pWhile, endP_n, endP_r, runP, runPB, bd_ret, bd_bad, ofO_some, ofO_none, gpm, List.filterMap_cons, List.filterMap_nil, eqD_ii, eqD_ss, eqD_bb, eqD_nn, eqD_in, eqD_ni, eqD_bn, eqD_nb, eqD_sn, eqD_ns, eqD_is, eqD_si, eqD_bs, eqD_sb, Option.map_some, Option.map_none, Option.bind_some, Option.bind_none, List.getElem?_cons_zero, List.getElem?_cons_succ, List.set_cons_zero, List.set_cons_succ, List.map_nil, List.replicate, List.cons_append, List.nil_append, List.append_nil, List.length_cons, List.length_nil, List.length_map, atI_0, atI_1, atI_2, atI_3, atI_4, atI_5, decide_eq_true_eq, Bool.not_true, Bool.not_false, Bool.true_and, Bool.false_and, Bool.and_true, Bool.and_false, Bool.or_true, Bool.true_or, Bool.or_false, Bool.false_or, Bool.false_eq_true, Bool.not_eq_true', decide_eq_false_iff_not, ↓reduceIte, decide_true, decide_false, reduceCtorEq, Nat.reduceAdd, Nat.reduceSub, Nat.reduceEqDiff, z2, zp, erase_map]
              have eo : ∀ p q : Int, PyData.tuple [.int (if q < p then q else p), .int (if q > p then q else p)] = pr true (ord p q) := fun _ _ => rfl
              refine hK _ _ ((l.eraseIdx y.toNat).eraseIdx x.toNat).length (by rw [List.length_eraseIdx, if_pos hx]; omega) ⟨ps ++ [ord l[y.toNat] (l.eraseIdx y.toNat)[x.toNat]], (l.eraseIdx y.toNat).eraseIdx x.toNat, some (.int l[y.toNat]), some (.int (l.eraseIdx y.toNat)[x.toNat]), by rw [List.map_append]; rfl, ?_, rfl, by rw [List.length_append, List.length_singleton]; omega⟩
              refine .trans ?_ hp
              unfold flat2
              rw [List.flatMap_append, List.append_assoc]
              refine List.Perm.append_left _ ?_
              have p1 := erase_perm (l.eraseIdx y.toNat) x.toNat hx
              have p2 := erase_perm l y.toNat hy
              generalize l[y.toNat] = a at *
              generalize (l.eraseIdx y.toNat)[x.toNat] = b at *
              generalize (l.eraseIdx y.toNat).eraseIdx x.toNat = t at *
              generalize l.eraseIdx y.toNat = u at *
              have p3 : (a :: b :: t).Perm l := (List.Perm.cons a p1).trans p2
              refine .trans ?_ p3
              rw [List.flatMap_cons, List.flatMap_nil, List.append_nil, ord_eq]
              split
              · exact List.Perm.swap _ _ _
              · exact .refl _)
        1000 c.toNat _ k _ (by omega) ⟨[], upto c, g7, g8, rfl, .refl _, by rw [upto_len], Nat.le_refl _⟩ fun E k' ⟨ps, l, g7, g8, e, hp, hl1, hk'⟩ => ?_
      subst e
      have len := hp.length_eq
      have fl : (flat2 ps).length = 2 * ps.length := flat_len ps
      rw [List.length_append, upto_len] at len
      have et : PyData.tuple ((srtP ps).map (pr true)) = pl (true, true) (srtP ps) := rfl
      simp only [pVar, pC, pOp, pUn, pNeg_i, pAdd_ii, pAdd_ss, pAdd_tt, pAdd_ll, pSub_ii, pLt_ii, pLe_ii, pGt_ii, pGe_ii, pDiv_ii, pMod_ii, pPow_ii, pMul_ii, pMul_li, pEq_a, pNe_a, isNP_i, isNP_s, isNP_b, isNP_l, isNP_t, isNP_n, pIsN_n, pNotN_n, pIx_s, pIx_t, pIx_l, boolP_b, truP_b, truP_n, truP_i, truP_l, truP_t, pTru, pBool, pNotT, pAndT, pOrT, pYes, pAndV, pOrV, pNotV, pIf, pNil, pCons, pTup, pLst, pCB, pLen_s, pLen_l, pLen_t, pAbs_i, pInt_i, pInt_b, pMin2_ii, pMax2_ii, pListOf_1, pTupOf_1, pAll_l, pAny_l, pSrt_l, pSS, pLR, tyP_n, tyP_b, tyP_i, tyP_s, tyP_l, tyP_t, pIsi, pIsi2, isTy, pChain, pRev, revP_t, pAug, augP_ii, pBestMin_1, pBestMax_1, pUnp, pgNames, pSSZ, lstP_l, pSrtZ_1, srtD_i, pNoP, intP_i, pPart, slP_t, slP_l, pSl, pCall, pCallK, pBor, bor_bool, pItS, rg1, rg2, pRng1, pRng2, zp_t, zp_l, pZip, en1_1, pEnum, seqD_l, seqD_t, pgName, pgNil, pgCons, pgTup, pgSeq, wipeE, pLc, pLc2, pNext, pSeq, pBreak, pCont, pRet, pRetN, pExpr, pIfS, pAsg, pPar, appP, pApp, setP, pSet, pFor, pWhile, endP_n, endP_r, runP, runPB, bd_ret, bd_bad, ofO_some, ofO_none, gpm, List.filterMap_cons, List.filterMap_nil, eqD_ii, eqD_ss, eqD_bb, eqD_nn, eqD_in, eqD_ni, eqD_bn, eqD_nb, eqD_sn, eqD_ns, eqD_is, eqD_si, eqD_bs, eqD_sb, Option.map_some, Option.map_none, Option.bind_some, Option.bind_none, List.getElem?_cons_zero, List.getElem?_cons_succ, List.set_cons_zero, List.set_cons_succ, List.map_cons, List.map_nil, List.replicate, List.cons_append, List.nil_append, List.append_nil, List.length_cons, List.length_nil, List.length_map, atI_0, atI_1, atI_2, atI_3, atI_4, atI_5, decide_eq_true_eq, Bool.not_true, Bool.not_false, Bool.true_and, Bool.false_and, Bool.and_true, Bool.and_false, Bool.or_true, Bool.true_or, Bool.or_false, Bool.false_or, Bool.false_eq_true, Bool.not_eq_true', decide_eq_false_iff_not, ↓reduceIte, decide_true, decide_false, reduceCtorEq, Nat.reduceAdd, Nat.reduceSub, Nat.reduceEqDiff, srt_pairs, zr, et]
      refine hK _ _ ⟨rs ++ [srtP ps], some (.int z), some (.list (l.map .int)), some (.list (ps.map (pr true))), g7, g8, by rw [List.map_append]; rfl, fun R hR' => ?_, by rw [List.length_append, List.length_singleton]; omega, by rw [List.length_append, List.length_singleton]; omega⟩
      rcases List.mem_append.mp hR' with h | h
      · exact hR R h
      · rw [List.mem_singleton.mp h]
        exact drn_of (rs := ps) (by omega) hp hl1)
    (upto m) _ n _ ⟨[], none, none, none, none, none, rfl, (fun _ h => nomatch h), by rw [List.length_nil, upto_len]; omega, by simp⟩ fun E k ⟨rs, g4, g5, g6, g7, g8, e, hR, hl, hk⟩ => ?_
  subst e
  rw [List.length_nil] at hl
  simp only [pVar, pC, pOp, pUn, pNeg_i, pAdd_ii, pAdd_ss, pAdd_tt, pAdd_ll, pSub_ii, pLt_ii, pLe_ii, pGt_ii, pGe_ii, pDiv_ii, pMod_ii, pPow_ii, pMul_ii, pMul_li, pEq_a, pNe_a, isNP_i, isNP_s, isNP_b, isNP_l, isNP_t, isNP_n, pIsN_n, pNotN_n, pIx_s, pIx_t, pIx_l, boolP_b, truP_b, truP_n, truP_i, truP_l, truP_t, pTru, pBool, pNotT, pAndT, pOrT, pYes, pAndV, pOrV, pNotV, pIf, pNil, pCons, pTup, pLst, pCB, pLen_s, pLen_l, pLen_t, pAbs_i, pInt_i, pInt_b, pMin2_ii, pMax2_ii, pListOf_1, pTupOf_1, pAll_l, pAny_l, pSrt_l, pSS, pLR, tyP_n, tyP_b, tyP_i, tyP_s, tyP_l, tyP_t, pIsi, pIsi2, isTy, pChain, pRev, revP_t, pAug, augP_ii, pBestMin_1, pBestMax_1, pUnp, pgNames, pSSZ, lstP_l, pSrtZ_1, srtD_i, pNoP, intP_i, pPart, slP_t, slP_l, pSl, pCall, pCallK, pBor, bor_bool, pItS, rg1, rg2, pRng1, pRng2, zp_t, zp_l, pZip, en1_1, pEnum, seqD_l, seqD_t, pgName, pgNil, pgCons, pgTup, pgSeq, wipeE, pLc, pLc2, pNext, pSeq, pBreak, pCont, pRet, pRetN, pExpr, pIfS, pAsg, pPar, appP, pApp, setP, pSet, pFor, pWhile, endP_n, endP_r, runP, runPB, bd_ret, bd_bad, ofO_some, ofO_none, gpm, List.filterMap_cons, List.filterMap_nil, eqD_ii, eqD_ss, eqD_bb, eqD_nn, eqD_in, eqD_ni, eqD_bn, eqD_nb, eqD_sn, eqD_ns, eqD_is, eqD_si, eqD_bs, eqD_sb, Option.map_some, Option.map_none, Option.bind_some, Option.bind_none, List.getElem?_cons_zero, List.getElem?_cons_succ, List.set_cons_zero, List.set_cons_succ, List.map_cons, List.map_nil, List.replicate, List.cons_append, List.nil_append, List.append_nil, List.length_cons, List.length_nil, List.length_map, atI_0, atI_1, atI_2, atI_3, atI_4, atI_5, decide_eq_true_eq, Bool.not_true, Bool.not_false, Bool.true_and, Bool.false_and, Bool.and_true, Bool.and_false, Bool.or_true, Bool.true_or, Bool.or_false, Bool.false_or, Bool.false_eq_true, Bool.not_eq_true', decide_eq_false_iff_not, ↓reduceIte, decide_true, decide_false, reduceCtorEq, Nat.reduceAdd, Nat.reduceSub, Nat.reduceEqDiff]
  exact h rs k (by omega) hR (by omega)
end P
namespace P
open PySem L2 Z Y
/-! the law -/
theorem len_pl {k : Bool × Bool} {ps : List (Int × Int)} : pLen [pl k ps] = some (.int ps.length) := by
  obtain ⟨a, b⟩ := k
  cases a
  · show some (PyData.int ((ps.map (pr b)).length : Nat)) = _
    rw [List.length_map]
  · show some (PyData.int ((ps.map (pr b)).length : Nat)) = _
    rw [List.length_map]
theorem best_ints {n : Int} {r : List Int} : bestMax ((n :: r).map .int) = some (.int (r.foldl max n)) := by
  have h := ld_all (n := 0) (L := (n :: r).map PyData.int) fun x hx => by
    obtain ⟨i, _, rfl⟩ := List.mem_map.mp hx
    exact ld_int
  have hl : likeB ((n :: r).map PyData.int) = true := by
    unfold likeB
    rw [Bool.and_eq_true, List.all_eq_true, List.all_eq_true]
    refine ⟨fun x hx => List.all_eq_true.mpr fun y hy => ?_, fun x hx => ?_⟩
    · obtain ⟨i, _, rfl⟩ := List.mem_map.mp hx
      obtain ⟨j, _, rfl⟩ := List.mem_map.mp hy
      rfl
    · obtain ⟨i, _, rfl⟩ := List.mem_map.mp hx
      rfl
  show (if PyData.canLayAll0 (.int n :: r.map .int) = true ∧ PyData.depthAll (.int n :: r.map .int) ≤ 60 ∧ likeB (.int n :: r.map .int) = true then some (PySem.W.maxD (.int n) (r.map .int)) else none) = _
  rw [if_pos ⟨h.1, Nat.le_trans h.2 (by decide), hl⟩, PySem.W.maxD_ints]
theorem fold_max {B : Int} : ∀ (r : List Int) (n : Int), n ≤ r.foldl max n ∧ (∀ x ∈ r, x ≤ r.foldl max n) ∧ (n ≤ B → (∀ x ∈ r, x ≤ B) → r.foldl max n ≤ B)
  | [], n => ⟨Int.le_refl _, (fun _ h => nomatch h), fun h _ => h⟩
  | y :: r, n => by
    obtain ⟨a, b, d⟩ := fold_max (B := B) r (max n y)
    refine ⟨by rw [List.foldl_cons]; omega, fun x hx => ?_, fun h1 h2 => ?_⟩
    · rw [List.foldl_cons]
      rcases List.mem_cons.mp hx with rfl | hx
      · omega
      · exact b x hx
    · rw [List.foldl_cons]
      have := h2 y List.mem_cons_self
      exact d (by omega) fun x hx => h2 x (List.mem_cons_of_mem _ hx)
/-- the most that anybody has -/
theorem most_ok {c : Int} (h1 : 1 ≤ c) (H : Int → Int → Bool) {B : Int} (h : ∀ r, 0 ≤ r ∧ r < c → (cd c H r : Int) ≤ B) : ∃ m : Int, bestMax ((upto c).map fun r => .int (cd c H r : Nat)) = some (.int m) ∧ (m ≤ B ∧ m ≤ c) ∧ ∀ r, 0 ≤ r ∧ r < c → (cd c H r : Int) ≤ m := by
  have e : ((upto c).map fun r => PyData.int (cd c H r : Nat)) = ((upto c).map fun r => ((cd c H r : Nat) : Int)).map .int := by rw [List.map_map]; rfl
  have mem : ∀ x, x ∈ ((upto c).map fun r => ((cd c H r : Nat) : Int)) ↔ ∃ r, (0 ≤ r ∧ r < c) ∧ ((cd c H r : Nat) : Int) = x := fun x => by
    rw [List.mem_map]
    exact ⟨fun ⟨r, a, b⟩ => ⟨r, upto_mem.mp a, b⟩, fun ⟨r, a, b⟩ => ⟨r, upto_mem.mpr a, b⟩⟩
  have len : 0 < ((upto c).map fun r => ((cd c H r : Nat) : Int)).length := by
    rw [List.length_map, upto_len]
    omega
  rw [e]
  generalize ((upto c).map fun r => ((cd c H r : Nat) : Int)) = ns at *
  match ns, len with
  | n :: r, _ =>
    obtain ⟨a, b, d⟩ := fold_max (B := B) r n
    have hB : ∀ x ∈ n :: r, x ≤ B := fun x hx => by
      obtain ⟨r, hr, rfl⟩ := (mem x).mp hx
      exact h r hr
    have hC : ∀ x ∈ n :: r, x ≤ c := fun x hx => by
      obtain ⟨r, hr, rfl⟩ := (mem x).mp hx
      have := filter_len (c := c) (f := fun o => H o r)
      unfold cd
      omega
    have d2 := (fold_max (B := c) r n).2.2 (hC n List.mem_cons_self) fun x hx => hC x (List.mem_cons_of_mem _ hx)
    refine ⟨_, best_ints, ⟨d (hB n List.mem_cons_self) fun x hx => hB x (List.mem_cons_of_mem _ hx), d2⟩, fun r' hr' => ?_⟩
    have := (mem _).mpr ⟨r', hr', rfl⟩
    rcases List.mem_cons.mp this with k | k
    · rw [k]; exact a
    · exact b _ k
theorem flat_snoc (pre : List (List (Int × Int))) (R : List (Int × Int)) : (pre ++ [R]).flatten = pre.flatten ++ R := by simp
theorem busy_ok {R : List (Int × Int)} {E0 : Y.Env} {g11 g12 g13 g14 g15 : Option PyData} (hz : R.length ≤ 100) (hE : E0.length = 10) : ∃ g11', forP (pgName 11) q2_law_right (R.map (pr true)) (E0 ++ [some (.list []), g11, g12, g13, g14, g15]) = Y.ret (.nx (E0 ++ [some (.list ((flat2 R).map .int)), g11', g12, g13, g14, g15])) := by
  match E0, hE with
  | [a0, a1, a2, a3, a4, a5, a6, a7, a8, a9], _ =>
    obtain ⟨E', e1, pre, g11', hp, rfl⟩ := forP_det (g := pgName 11) (body := q2_law_right) (pr true)
      (fun r E => ∃ (pre : List (Int × Int)) (g11 : Option PyData), pre ++ r = R ∧ E = [a0, a1, a2, a3, a4, a5, a6, a7, a8, a9, some (.list ((flat2 pre).map .int)), g11, g12, g13, g14, g15])
      (fun q r E ⟨pre, g11, hp, e⟩ => by
        subst e
        have hl := congrArg List.length hp
        rw [List.length_append, List.length_cons] at hl
        have fl : (flat2 pre).length = 2 * pre.length := flat_len pre
        have z : (flat2 pre).length + 2 ≤ sizeLine := Nat.le_trans (show _ ≤ 202 by omega) (by decide)
        refine ⟨_, _, rfl, ?_, pre ++ [q], some (pr true q), by rw [List.append_assoc]; exact hp, rfl⟩
        have ef : flat2 (pre ++ [q]) = flat2 pre ++ [q.1, q.2] := by unfold flat2; rw [List.flatMap_append]; simp
        unfold q2_law_right
        simp only [pVar, pC, pOp, pUn, pNeg_i, pAdd_ii, pAdd_ss, pAdd_tt, pAdd_ll, pSub_ii, pLt_ii, pLe_ii, pGt_ii, pGe_ii, pDiv_ii, pMod_ii, pPow_ii, pMul_ii, pMul_li, pEq_a, pNe_a, isNP_i, isNP_s, isNP_b, isNP_l, isNP_t, isNP_n, pIsN_n, pNotN_n, pIx_s, pIx_t, pIx_l, boolP_b, truP_b, truP_n, truP_i, truP_l, truP_t, pTru, pBool, pNotT, pAndT, pOrT, pYes, pAndV, pOrV, pNotV, pIf, pNil, pCons, pTup, pLst, pCB, pLen_s, pLen_l, pLen_t, pAbs_i, pInt_i, pInt_b, pMin2_ii, pMax2_ii, pListOf_1, pTupOf_1, pAll_l, pAny_l, pSrt_l, pSS, pLR, tyP_n, tyP_b, tyP_i, tyP_s, tyP_l, tyP_t, pIsi, pIsi2, isTy, pChain, pRev, revP_t, pAug, augP_ii, pBestMin_1, pBestMax_1, pUnp, pgNames, pSSZ, lstP_l, pSrtZ_1, srtD_i, pNoP, intP_i, pPart, slP_t, slP_l, pSl, pCall, pCallK, pBor, bor_bool, pItS, rg1, rg2, pRng1, pRng2, zp_t, zp_l, pZip, en1_1, pEnum, seqD_l, seqD_t, pgName, pgNil, pgCons, pgTup, pgSeq, wipeE, pLc, pLc2, pNext, pSeq, pBreak, pCont, pRet, pRetN, pExpr, pIfS, pAsg, pPar, appP, pApp, setP, pSet, pFor, pWhile, endP_n, endP_r, runP, runPB, bd_ret, bd_bad, ofO_some, ofO_none, gpm, List.filterMap_cons, List.filterMap_nil, eqD_ii, eqD_ss, eqD_bb, eqD_nn, eqD_in, eqD_ni, eqD_bn, eqD_nb, eqD_sn, eqD_ns, eqD_is, eqD_si, eqD_bs, eqD_sb, Option.map_some, Option.map_none, Option.bind_some, Option.bind_none, List.getElem?_cons_zero, List.getElem?_cons_succ, List.set_cons_zero, List.set_cons_succ, List.map_cons, List.map_nil, List.replicate, List.cons_append, List.nil_append, List.append_nil, List.length_cons, List.length_nil, List.length_map, atI_0, atI_1, atI_2, atI_3, atI_4, atI_5, decide_eq_true_eq, Bool.not_true, Bool.not_false, Bool.true_and, Bool.false_and, Bool.and_true, Bool.and_false, Bool.or_true, Bool.true_or, Bool.or_false, Bool.false_or, Bool.false_eq_true, Bool.not_eq_true', decide_eq_false_iff_not, ↓reduceIte, decide_true, decide_false, reduceCtorEq, Nat.reduceAdd, Nat.reduceSub, Nat.reduceEqDiff, seq_pr, z, ef, List.map_append])
      R [a0, a1, a2, a3, a4, a5, a6, a7, a8, a9, some (.list []), g11, g12, g13, g14, g15] ⟨[], g11, rfl, rfl⟩
    rw [List.append_nil] at hp
    subst hp
    exact ⟨g11', e1⟩
theorem mt_flat {c : Int} {R : List (Int × Int)} (h : Rok c R) : (flat2 R).Nodup := h.nd
/-- part by part -/
theorem parts_ok {c : Int} (h1 : 1 ≤ c) (hc : c ≤ 10) {X : PyData} {g3 g4 g5 : Option PyData} {rs : List (List (Int × Int))} (hR : ∀ R ∈ rs, Rok c R ∧ Mt R ∧ Pok c R) (hl : rs.length ≤ 10) :
    ∃ m g8 g9 g10 g11, forP (pgName 8) q3_law_right (rs.map (pl (true, true))) [none, some (.int c), some X, g3, g4, g5, some (.list []), some (.int 1), none, none, none, none, none, none, none, none] =
      Y.ret (.nx [none, some (.int c), some X, g3, g4, g5, some (.list (rs.flatten.map (pr true))), some (.int m), g8, g9, g10, g11, none, none, none, none]) := by
  obtain ⟨E', e1, pre, m, g8, g9, g10, g11, hp, _, _, rfl⟩ := forP_det (g := pgName 8) (body := q3_law_right) (pl (true, true))
    (fun r E => ∃ (pre : List (List (Int × Int))) (m : Int) (g8 g9 g10 g11 : Option PyData), pre ++ r = rs ∧ (m ≤ 1000 ∧ -1000 ≤ m) ∧ (∀ ρ, 0 ≤ ρ ∧ ρ < c → (cd c (has true pre.flatten) ρ : Int) ≤ m) ∧ E = [none, some (.int c), some X, g3, g4, g5, some (.list (pre.flatten.map (pr true))), some (.int m), g8, g9, g10, g11, none, none, none, none])
    (fun R r E ⟨pre, m, g8, g9, g10, g11, hp, hm, hcd, e⟩ => by
      subst e
      have hmem : ∀ y ∈ pre ++ [R], y ∈ rs := fun y hy => by
        rw [← hp]
        rcases List.mem_append.mp hy with h | h
        · exact List.mem_append_left _ h
        · rw [List.mem_singleton.mp h]
          exact List.mem_append_right _ List.mem_cons_self
      have hR' := hR R (hmem R (List.mem_append_right _ List.mem_cons_self))
      have hll := congrArg List.length hp
      rw [List.length_append, List.length_cons] at hll
      have rl := hR'.1.len
      have fl : ∀ L : List (List (Int × Int)), (∀ y ∈ L, y ∈ rs) → L.flatten.length ≤ L.length * 10 := fun L => by
        induction L with
        | nil => exact fun _ => Nat.zero_le _
        | cons y L ih =>
          intro h
          have a := (hR y (h y List.mem_cons_self)).1.len
          have b := ih fun z hz => h z (List.mem_cons_of_mem _ hz)
          rw [List.flatten_cons, List.length_append, List.length_cons, Nat.add_mul, Nat.one_mul]
          omega
      have fl1 := fl pre fun y hy => hmem y (List.mem_append_left _ hy)
      have z0 : 0 ≤ sizeLine := by decide
      have zs : pre.flatten.length + R.length ≤ sizeLine := Nat.le_trans (show _ ≤ 200 by omega) (by decide)
      have pk : Pok c (pre.flatten ++ R) := fun q hq => by
        rcases List.mem_append.mp hq with h | h
        · obtain ⟨y, h2, h3⟩ := List.mem_flatten.mp h
          exact (hR y (hmem y (List.mem_append_left _ h2))).2.2 q h3
        · exact hR'.2.2 q h
      have ek := known_ok (c := c) (by omega) (by omega) (w := "meet") (k := (true, true)) pk
      have dm : decide ((Str.ofString "meet") = (Str.ofString "meet")) = true := by decide
      rw [dm] at ek
      have hH : has true (pre.flatten ++ R) = run R (has true pre.flatten) := by
        unfold has
        rw [List.foldl_append]
      rw [hH] at ek
      have hd : ∀ ρ, 0 ≤ ρ ∧ ρ < c → (cd c (run R (has true pre.flatten)) ρ : Int) ≤ 2 * m := fun ρ hρ => by
        have m0 := hcd ρ hρ
        have := double (c := c) (R := R) (F := has true pre.flatten) (m := m.toNat) hR'.2.1 hR'.2.2 (fun r hr => by have := hcd r hr; omega) ρ hρ
        omega
      obtain ⟨m', eb, hm1, hm2⟩ := most_ok h1 (run R (has true pre.flatten)) hd
      have elen := fun g6 g10 g11 => lcP_map (vs := [15]) (g := pgName 15) (tt := pYes) (te := pCB pLen (pCons (pVar 15) pNil)) (E := [none, some (.int c), some X, g3, g4, g5, g6, some (.int m), some (pl (true, true) R), g9, g10, g11, none, none, none, none]) (fun r => row c fun o => run R (has true pre.flatten) o r) (fun _ => true) (fun r => .int (cd c (run R (has true pre.flatten)) r : Nat)) (upto c) [] (fun r hr => by
        refine ⟨[none, some (.int c), some X, g3, g4, g5, g6, some (.int m), some (pl (true, true) R), g9, g10, g11, none, none, none, some (row c fun o => run R (has true pre.flatten) o r)], rfl, rfl, fun _ => ?_⟩
        have : pLen [row c fun o => run R (has true pre.flatten) o r] = some (.int (cd c (run R (has true pre.flatten)) r : Nat)) := by
          show some (PyData.int (((((upto c).filter fun o => run R (has true pre.flatten) o r).map PyData.int).length : Nat) : Int)) = _
          rw [List.length_map]
          rfl
        simp only [pVar, pC, pOp, pUn, pNeg_i, pAdd_ii, pAdd_ss, pAdd_tt, pAdd_ll, pSub_ii, pLt_ii, pLe_ii, pGt_ii, pGe_ii, pDiv_ii, pMod_ii, pPow_ii, pMul_ii, pMul_li, pEq_a, pNe_a, isNP_i, isNP_s, isNP_b, isNP_l, isNP_t, isNP_n, pIsN_n, pNotN_n, pIx_s, pIx_t, pIx_l, boolP_b, truP_b, truP_n, truP_i, truP_l, truP_t, pTru, pBool, pNotT, pAndT, pOrT, pYes, pAndV, pOrV, pNotV, pIf, pNil, pCons, pTup, pLst, pCB, pAbs_i, pInt_i, pInt_b, pMin2_ii, pMax2_ii, pListOf_1, pTupOf_1, pAll_l, pAny_l, pSrt_l, pSS, pLR, tyP_n, tyP_b, tyP_i, tyP_s, tyP_l, tyP_t, pIsi, pIsi2, isTy, pChain, pRev, revP_t, pAug, augP_ii, pBestMin_1, pBestMax_1, pUnp, pgNames, pSSZ, lstP_l, pSrtZ_1, srtD_i, pNoP, intP_i, pPart, slP_t, slP_l, pSl, pCall, pCallK, pBor, bor_bool, pItS, rg1, rg2, pRng1, pRng2, zp_t, zp_l, pZip, en1_1, pEnum, seqD_l, seqD_t, pgName, pgNil, pgCons, pgTup, pgSeq, wipeE, pLc, pLc2, pNext, pSeq, pBreak, pCont, pRet, pRetN, pExpr, pIfS, pAsg, pPar, appP, pApp, setP, pSet, pFor, pWhile, endP_n, endP_r, runP, runPB, bd_ret, bd_bad, ofO_some, ofO_none, gpm, List.filterMap_cons, List.filterMap_nil, eqD_ii, eqD_ss, eqD_bb, eqD_nn, eqD_in, eqD_ni, eqD_bn, eqD_nb, eqD_sn, eqD_ns, eqD_is, eqD_si, eqD_bs, eqD_sb, Option.map_some, Option.map_none, Option.bind_some, Option.bind_none, List.getElem?_cons_zero, List.getElem?_cons_succ, List.set_cons_zero, List.set_cons_succ, List.map_cons, List.map_nil, List.replicate, List.cons_append, List.nil_append, List.append_nil, List.length_cons, List.length_nil, List.length_map, atI_0, atI_1, atI_2, atI_3, atI_4, atI_5, decide_eq_true_eq, Bool.not_true, Bool.not_false, Bool.true_and, Bool.false_and, Bool.and_true, Bool.and_false, Bool.or_true, Bool.true_or, Bool.or_false, Bool.false_or, Bool.false_eq_true, Bool.not_eq_true', decide_eq_false_iff_not, ↓reduceIte, decide_true, decide_false, reduceCtorEq, Nat.reduceAdd, Nat.reduceSub, Nat.reduceEqDiff, this]) (by rw [upto_len]; exact Nat.le_trans (show 0 + c.toNat ≤ 30 by omega) (by decide))
      simp only [List.filter_eq_self.mpr (fun _ _ => rfl), List.nil_append] at elen
      have elen2 : ∀ g6 g10 g11, lcP [15] (pgName 15) pYes (pCB pLen (pCons (pVar 15) pNil)) (tab c (run R (has true pre.flatten))) [] [none, some (.int c), some X, g3, g4, g5, g6, some (.int m), some (pl (true, true) R), g9, g10, g11, none, none, none, none] = Y.ret ((upto c).map fun r => .int (cd c (run R (has true pre.flatten)) r : Nat)) := elen
      obtain ⟨g11', ebz⟩ := busy_ok (R := R) (E0 := [none, some (.int c), some X, g3, g4, g5, some (.list ((pre.flatten ++ R).map (pr true))), some (.int m), some (pl (true, true) R), some (.int m')]) (g11 := g11) (g12 := none) (g13 := none) (g14 := none) (g15 := none) (by omega) rfl
      have el := lenSet_i (ns := flat2 R) (by unfold flat2; rw [flat_len]; omega)
      have fr : (flat2 R).length = 2 * R.length := flat_len R
      rw [uq_len (mt_flat hR'.1)] at el
      have et : PyData.tuple ((pre.flatten ++ R).map (pr true)) = pl (true, true) (pre.flatten ++ R) := rfl
      have sp : seqD (pl (true, true) R) = some (R.map (pr true)) := seq_pl
      have ln : pLen [pl (true, true) R] = some (.int R.length) := len_pl
      refine ⟨[none, some (.int c), some X, g3, g4, g5, some (.list (pre.flatten.map (pr true))), some (.int m), some (pl (true, true) R), g9, g10, g11, none, none, none, none], _, rfl, ?_, pre ++ [R], m', some (pl (true, true) R), some (.int m'), some (.list ((flat2 R).map .int)), g11', by rw [List.append_assoc]; exact hp, ⟨?_, ?_⟩, fun ρ hρ => by rw [flat_snoc, hH]; exact hm2 ρ hρ, rfl⟩
      · have gt : ¬ (2 * m < m') := by omega
        have ne : ((2 * R.length : Nat) : Int) = 2 * (R.length : Int) := by omega
        generalize pl (true, true) R = P at *
        unfold q3_law_right
        simp only [List.cons_append, List.nil_append] at ebz
        rw [flat_snoc]
        simp only [pVar, pC, pOp, pUn, pNeg_i, pAdd_ii, pAdd_ss, pAdd_tt, pAdd_ll, pSub_ii, pLt_ii, pLe_ii, pGt_ii, pGe_ii, pDiv_ii, pMod_ii, pPow_ii, pEq_a, pNe_a, isNP_i, isNP_s, isNP_b, isNP_l, isNP_t, isNP_n, pIsN_n, pNotN_n, pIx_s, pIx_t, pIx_l, boolP_b, truP_b, truP_n, truP_i, truP_l, truP_t, pTru, pBool, pNotT, pAndT, pOrT, pYes, pAndV, pOrV, pNotV, pIf, pNil, pCons, pTup, pLst, pCB, pAbs_i, pInt_i, pInt_b, pMin2_ii, pMax2_ii, pListOf_1, pTupOf_1, pAll_l, pAny_l, pSrt_l, pSS, pLR, tyP_n, tyP_b, tyP_i, tyP_s, tyP_l, tyP_t, pIsi, pIsi2, isTy, pChain, pRev, revP_t, pAug, augP_ii, pBestMin_1, pBestMax_1, pUnp, pgNames, pSSZ, lstP_l, pSrtZ_1, srtD_i, pNoP, intP_i, pPart, slP_t, slP_l, pSl, pCall, pCallK, pBor, bor_bool, pItS, rg1, rg2, pRng1, pRng2, zp_t, zp_l, pZip, en1_1, pEnum, seqD_l, seqD_t, pgName, pgNil, pgCons, pgTup, pgSeq, wipeE, pLc, pLc2, pNext, pSeq, pBreak, pCont, pRet, pRetN, pExpr, pIfS, pAsg, pPar, appP, pApp, setP, pSet, pFor, pWhile, endP_n, endP_r, runP, runPB, bd_ret, bd_bad, ofO_some, ofO_none, gpm, List.filterMap_cons, List.filterMap_nil, eqD_ii, eqD_ss, eqD_bb, eqD_nn, eqD_in, eqD_ni, eqD_bn, eqD_nb, eqD_sn, eqD_ns, eqD_is, eqD_si, eqD_bs, eqD_sb, Option.map_some, Option.map_none, Option.bind_some, Option.bind_none, List.getElem?_cons_zero, List.getElem?_cons_succ, List.set_cons_zero, List.set_cons_succ, List.map_cons, List.map_nil, List.replicate, List.cons_append, List.nil_append, List.append_nil, List.length_cons, List.length_nil, atI_0, atI_1, atI_2, atI_3, atI_4, atI_5, decide_eq_true_eq, Bool.not_true, Bool.not_false, Bool.true_and, Bool.false_and, Bool.and_true, Bool.and_false, Bool.or_true, Bool.true_or, Bool.or_false, Bool.false_or, Bool.false_eq_true, Bool.not_eq_true', decide_eq_false_iff_not, ↓reduceIte, decide_true, decide_false, reduceCtorEq, Nat.reduceAdd, Nat.reduceSub, Nat.reduceEqDiff, sp, List.length_map, zs, ← List.map_append, et, ek, elen2, eb, z0, ebz, mul_ok (i := 2) (j := m) (by omega), gt, pLenSet, el, ln, fr, mul_ok (i := 2) (j := (R.length : Int)) (by omega), ne]
      · omega
      · have := hm2 0 ⟨Int.le_refl _, by omega⟩
        omega)
    rs [none, some (.int c), some X, g3, g4, g5, some (.list []), some (.int 1), none, none, none, none, none, none, none, none] ⟨[], 1, none, none, none, none, rfl, by omega, fun ρ _ => by have := cd_own (c := c) (r := ρ); show ((cd c own0 ρ : Nat) : Int) ≤ 1; omega, rfl⟩
  rw [List.append_nil] at hp
  subst hp
  exact ⟨m, g8, g9, g10, g11, e1⟩
end P
namespace P
open PySem L2 Z Y
theorem pow_less {c : Int} (h0 : 2 ≤ c) (hc : c ≤ 10) : 1 ≤ db c ∧ 2 ^ (db c - 1).toNat < c.toNat := by
  have all : ∀ c ∈ ([2, 3, 4, 5, 6, 7, 8, 9, 10] : List Int), 1 ≤ db c ∧ 2 ^ (db c - 1).toNat < c.toNat := by decide
  refine all c ?_
  simp only [List.mem_cons, List.not_mem_nil, or_false]
  omega
/-- one round less does not do -/
theorem less_no {c : Int} (h0 : 2 ≤ c) (hc : c ≤ 10) {rs : List (List (Int × Int))} (hl : (rs.length : Int) = fr c - 1) (hR : ∀ R ∈ rs, Drn c R) : isNP (agn c "everybody" (has true rs.flatten)) = false := by
  obtain ⟨p1, p2⟩ := pow_less h0 hc
  have hg : ∀ R ∈ rs, Mt R ∧ Pok c R := fun R h => ⟨(hR R h).mt, (hR R h).pok⟩
  unfold fr at hl
  rw [if_neg (by omega)] at hl
  by_cases k : c % 2 = 0
  · refine few_rounds h0 hg ?_
    rw [show rs.length = (db c - 1).toNat by omega]
    exact p2
  · have hne : rs ≠ [] := fun e => by rw [e, List.length_nil] at hl; omega
    have hs := List.dropLast_concat_getLast hne
    have hlast := hR (rs.getLast hne) (List.getLast_mem hne)
    obtain ⟨r, hr, hn⟩ := hlast.odd (by omega)
    rw [← hs]
    refine odd_rounds h0 hr (fun R h => hg R (List.dropLast_subset _ h)) hn ?_
    rw [List.length_dropLast, show rs.length - 1 = (db c - 1).toNat by omega]
    exact p2
theorem flat4_ok {rs : List (List (Int × Int))} {c : Int} {g2 g3 g4 g5 g6 g7 g8 g9 g10 g11 g12 g13 g15 : Option PyData} (hz : ∀ R ∈ rs, R.length ≤ 10) (hl : rs.length ≤ 10) : ∃ g8', forP (pgName 8) q4_law_right (rs.map (pl (true, true))) [none, some (.int c), g2, g3, g4, g5, g6, g7, g8, g9, g10, g11, g12, g13, some (.list []), g15] =
    Y.ret (.nx [none, some (.int c), g2, g3, g4, g5, g6, g7, g8', g9, g10, g11, g12, g13, some (.list (rs.flatten.map (pr true))), g15]) := by
  obtain ⟨E', e1, pre, g8', hp, rfl⟩ := forP_det (g := pgName 8) (body := q4_law_right) (pl (true, true))
    (fun r E => ∃ (pre : List (List (Int × Int))) (g8 : Option PyData), pre ++ r = rs ∧ E = [none, some (.int c), g2, g3, g4, g5, g6, g7, g8, g9, g10, g11, g12, g13, some (.list (pre.flatten.map (pr true))), g15])
    (fun R r E ⟨pre, g8, hp, e⟩ => by
      subst e
      have hll := congrArg List.length hp
      rw [List.length_append, List.length_cons] at hll
      have hmem : ∀ y ∈ pre ++ [R], y ∈ rs := fun y hy => by
        rw [← hp]
        rcases List.mem_append.mp hy with h | h
        · exact List.mem_append_left _ h
        · rw [List.mem_singleton.mp h]
          exact List.mem_append_right _ List.mem_cons_self
      have fl : ∀ L : List (List (Int × Int)), (∀ y ∈ L, y ∈ rs) → L.flatten.length ≤ L.length * 10 := fun L => by
        induction L with
        | nil => exact fun _ => Nat.zero_le _
        | cons y L ih =>
          intro h
          have a := hz y (h y List.mem_cons_self)
          have b := ih fun z hz => h z (List.mem_cons_of_mem _ hz)
          rw [List.flatten_cons, List.length_append, List.length_cons, Nat.add_mul, Nat.one_mul]
          omega
      have fl1 := fl pre fun y hy => hmem y (List.mem_append_left _ hy)
      have rl := hz R (hmem R (List.mem_append_right _ List.mem_cons_self))
      have zs : pre.flatten.length + R.length ≤ sizeLine := Nat.le_trans (show _ ≤ 200 by omega) (by decide)
      refine ⟨_, _, rfl, ?_, pre ++ [R], some (pl (true, true) R), by rw [List.append_assoc]; exact hp, rfl⟩
      have sp : seqD (pl (true, true) R) = some (R.map (pr true)) := seq_pl
      generalize pl (true, true) R = P at *
      unfold q4_law_right
      rw [flat_snoc]
      simp only [pVar, pC, pOp, pUn, pNeg_i, pAdd_ii, pAdd_ss, pAdd_tt, pAdd_ll, pSub_ii, pLt_ii, pLe_ii, pGt_ii, pGe_ii, pDiv_ii, pMod_ii, pPow_ii, pMul_ii, pMul_li, pEq_a, pNe_a, isNP_i, isNP_s, isNP_b, isNP_l, isNP_t, isNP_n, pIsN_n, pNotN_n, pIx_s, pIx_t, pIx_l, boolP_b, truP_b, truP_n, truP_i, truP_l, truP_t, pTru, pBool, pNotT, pAndT, pOrT, pYes, pAndV, pOrV, pNotV, pIf, pNil, pCons, pTup, pLst, pCB, pLen_s, pLen_l, pLen_t, pAbs_i, pInt_i, pInt_b, pMin2_ii, pMax2_ii, pListOf_1, pTupOf_1, pAll_l, pAny_l, pSrt_l, pSS, pLR, tyP_n, tyP_b, tyP_i, tyP_s, tyP_l, tyP_t, pIsi, pIsi2, isTy, pChain, pRev, revP_t, pAug, augP_ii, pBestMin_1, pBestMax_1, pUnp, pgNames, pSSZ, lstP_l, pSrtZ_1, srtD_i, pNoP, intP_i, pPart, slP_t, slP_l, pSl, pCall, pCallK, pBor, bor_bool, pItS, rg1, rg2, pRng1, pRng2, zp_t, zp_l, pZip, en1_1, pEnum, seqD_l, seqD_t, pgName, pgNil, pgCons, pgTup, pgSeq, wipeE, pLc, pLc2, pNext, pSeq, pBreak, pCont, pRet, pRetN, pExpr, pIfS, pAsg, pPar, appP, pApp, setP, pSet, pFor, pWhile, endP_n, endP_r, runP, runPB, bd_ret, bd_bad, ofO_some, ofO_none, gpm, List.filterMap_cons, List.filterMap_nil, eqD_ii, eqD_ss, eqD_bb, eqD_nn, eqD_in, eqD_ni, eqD_bn, eqD_nb, eqD_sn, eqD_ns, eqD_is, eqD_si, eqD_bs, eqD_sb, Option.map_some, Option.map_none, Option.bind_some, Option.bind_none, List.getElem?_cons_zero, List.getElem?_cons_succ, List.set_cons_zero, List.set_cons_succ, List.map_cons, List.map_nil, List.replicate, List.cons_append, List.nil_append, List.append_nil, List.length_cons, List.length_nil, List.length_map, atI_0, atI_1, atI_2, atI_3, atI_4, atI_5, decide_eq_true_eq, Bool.not_true, Bool.not_false, Bool.true_and, Bool.false_and, Bool.and_true, Bool.and_false, Bool.or_true, Bool.true_or, Bool.or_false, Bool.false_or, Bool.false_eq_true, Bool.not_eq_true', decide_eq_false_iff_not, ↓reduceIte, decide_true, decide_false, reduceCtorEq, Nat.reduceAdd, Nat.reduceSub, Nat.reduceEqDiff, sp, zs, List.map_append])
    rs [none, some (.int c), g2, g3, g4, g5, g6, g7, g8, g9, g10, g11, g12, g13, some (.list []), g15] ⟨[], g8, rfl, rfl⟩
  rw [List.append_nil] at hp
  subst hp
  exact ⟨g8', e1⟩
theorem mt_len {c : Int} (h0 : 0 ≤ c) {R : List (Int × Int)} (h : Mt R) (hp : Pok c R) : 2 * R.length ≤ c.toNat := by
  have hn : (flat2 R).Nodup := by
    induction R with
    | nil => exact .nil
    | cons q R ih =>
      have h' := List.pairwise_cons.mp h
      have hq := hp q List.mem_cons_self
      unfold flat2
      rw [List.flatMap_cons]
      refine List.nodup_append.mpr ⟨?_, ih h'.2 fun y hy => hp y (List.mem_cons_of_mem _ hy), fun x hx y hy e => ?_⟩
      · simp [hq.2.2]
      · obtain ⟨q', hq', hy⟩ := List.mem_flatMap.mp hy
        have d := h'.1 q' hq'
        unfold dis at d
        simp only [List.mem_cons, List.not_mem_nil, or_false] at hx hy
        rcases hx with rfl | rfl <;> rcases hy with rfl | rfl <;> first | exact d.1 e | exact d.2.1 e | exact d.2.2.1 e | exact d.2.2.2 e
  have := sub_len _ (upto c) hn fun x hx => by
    obtain ⟨q, hq, hx⟩ := List.mem_flatMap.mp hx
    have hq := hp q hq
    simp only [List.mem_cons, List.not_mem_nil, or_false] at hx
    rcases hx with rfl | rfl
    · exact upto_mem.mpr hq.1
    · exact upto_mem.mpr hq.2.1
  have e : (flat2 R).length = 2 * R.length := flat_len R
  rw [e, upto_len] at this
  exact this
theorem fr_low {c : Int} (h0 : 1 ≤ c) (hc : c ≤ 10) : 0 ≤ fr c ∧ fr c ≤ 5 ∧ (2 ≤ c → 1 ≤ fr c) := by
  have := db_le (c := c)
  have h2 := @pow_less c
  unfold fr
  split
  · omega
  · have := (h2 (by omega) hc).1
    omega
theorem right_wp {n : Nat} {Q : PyData → Nat → Prop} (hn : n ≤ 2 ^ 29) (h : ∀ n', n' ≤ n + 200 → Q (.bool true) n') : p_law_right [] n Q := by
  have z0 : 0 ≤ sizeLine := by decide
  have z2 : 2 ≤ sizeLine := by decide
  have dm : decide ((Str.ofString "meet") = (Str.ofString "meet")) = true := by decide
  unfold p_law_right runPB
  simp only [List.map_nil, List.replicate, List.cons_append, List.nil_append, List.append_nil, List.length_nil, if_true]
  refine seq_wp ?_
  unfold p_law_take
  simp only [pVar, pC, pOp, pUn, pNeg_i, pAdd_ii, pAdd_ss, pAdd_tt, pAdd_ll, pSub_ii, pLt_ii, pLe_ii, pGt_ii, pGe_ii, pDiv_ii, pMod_ii, pPow_ii, pMul_ii, pMul_li, pEq_a, pNe_a, isNP_i, isNP_s, isNP_b, isNP_l, isNP_t, isNP_n, pIsN_n, pNotN_n, pIx_s, pIx_t, pIx_l, boolP_b, truP_b, truP_n, truP_i, truP_l, truP_t, pTru, pBool, pNotT, pAndT, pOrT, pYes, pAndV, pOrV, pNotV, pIf, pNil, pCons, pTup, pLst, pCB, pLen_s, pLen_l, pLen_t, pAbs_i, pInt_i, pInt_b, pMin2_ii, pMax2_ii, pListOf_1, pTupOf_1, pAll_l, pAny_l, pSrt_l, pSS, pLR, tyP_n, tyP_b, tyP_i, tyP_s, tyP_l, tyP_t, pIsi, pIsi2, isTy, pChain, pRev, revP_t, pAug, augP_ii, pBestMin_1, pBestMax_1, pUnp, pgNames, pSSZ, lstP_l, pSrtZ_1, srtD_i, pNoP, intP_i, pPart, slP_t, slP_l, pSl, pCall, pCallK, pBor, bor_bool, pItS, rg1, rg2, pRng1, pRng2, zp_t, zp_l, pZip, en1_1, pEnum, seqD_l, seqD_t, pgName, pgNil, pgCons, pgTup, pgSeq, wipeE, pLc, pLc2, pNext, pBreak, pCont, pRet, pRetN, pExpr, pIfS, pAsg, pPar, appP, pApp, setP, pSet, pFor, pWhile, endP_n, endP_r, runP, runPB, bd_ret, bd_bad, ofO_some, ofO_none, gpm, List.filterMap_cons, List.filterMap_nil, eqD_ii, eqD_ss, eqD_bb, eqD_nn, eqD_in, eqD_ni, eqD_bn, eqD_nb, eqD_sn, eqD_ns, eqD_is, eqD_si, eqD_bs, eqD_sb, Option.map_some, Option.map_none, Option.bind_some, Option.bind_none, List.getElem?_cons_zero, List.getElem?_cons_succ, List.set_cons_zero, List.set_cons_succ, List.map_cons, List.map_nil, List.replicate, List.cons_append, List.nil_append, List.append_nil, List.length_cons, List.length_nil, List.length_map, atI_0, atI_1, atI_2, atI_3, atI_4, atI_5, decide_eq_true_eq, Bool.not_true, Bool.not_false, Bool.true_and, Bool.false_and, Bool.and_true, Bool.and_false, Bool.or_true, Bool.true_or, Bool.or_false, Bool.false_or, Bool.false_eq_true, Bool.not_eq_true', decide_eq_false_iff_not, ↓reduceIte, decide_true, decide_false, reduceCtorEq, Nat.reduceAdd, Nat.reduceSub, Nat.reduceEqDiff, pTake, bd_bd, draw_bd]
  refine ⟨⟨by omega, by omega, by omega⟩, fun r r0 r1 => ?_⟩
  generalize hcc : 1 + r = c
  have c1 : 1 ≤ c := by omega
  have c10 : c ≤ 10 := by omega
  refine nx_wp ?_
  obtain ⟨gl, gR, gH⟩ := rp_good c1 c10
  have frl := fr_low c1 c10
  have eplan := rplan_ok c1 (show c ≤ 16 by omega)
  have esh := shows_ok c1 (show c ≤ 16 by omega) gl fun R hR => (gR R hR).1
  rw [every_yes gH] at esh
  have eLen : pLen [rsD (rp c)] = some (.int (fr c)) := by
    show some (PyData.int (((rp c).map (pl (true, true))).length : Nat)) = _
    rw [List.length_map, gl]
  have eSeq : seqD (rsD (rp c)) = some ((rp c).map (pl (true, true))) := rfl
  obtain ⟨X, hX⟩ : ∃ X, X = rsD (rp c) := ⟨_, rfl⟩
  rw [← hX] at eplan esh eLen eSeq
  rw [seq_ret (E' := [none, some (.int c), some X, some (.int 0), some (.int 1), none, none, none, none, none, none, none, none, none, none, none]) (by
    simp only [pVar, pC, pOp, pUn, pNeg_i, pAdd_ii, pAdd_ss, pAdd_tt, pAdd_ll, pSub_ii, pLt_ii, pLe_ii, pGt_ii, pGe_ii, pDiv_ii, pMod_ii, pPow_ii, pMul_ii, pMul_li, pEq_a, pNe_a, isNP_i, isNP_s, isNP_b, isNP_l, isNP_t, isNP_n, pIsN_n, pNotN_n, pIx_s, pIx_t, pIx_l, boolP_b, truP_b, truP_n, truP_i, truP_l, truP_t, pTru, pBool, pNotT, pAndT, pOrT, pYes, pAndV, pOrV, pNotV, pIf, pNil, pCons, pTup, pLst, pCB, pLen_s, pLen_l, pLen_t, pAbs_i, pInt_i, pInt_b, pMin2_ii, pMax2_ii, pListOf_1, pTupOf_1, pAll_l, pAny_l, pSrt_l, pSS, pLR, tyP_n, tyP_b, tyP_i, tyP_s, tyP_l, tyP_t, pIsi, pIsi2, isTy, pChain, pRev, revP_t, pAug, augP_ii, pBestMin_1, pBestMax_1, pUnp, pgNames, pSSZ, lstP_l, pSrtZ_1, srtD_i, pNoP, intP_i, pPart, slP_t, slP_l, pSl, pCall, pCallK, pBor, bor_bool, pItS, rg1, rg2, pRng1, pRng2, zp_t, zp_l, pZip, en1_1, pEnum, seqD_l, seqD_t, pgName, pgNil, pgCons, pgTup, pgSeq, wipeE, pLc, pLc2, pNext, pSeq, pBreak, pCont, pRet, pRetN, pExpr, pIfS, pAsg, pPar, appP, pApp, setP, pSet, pFor, pWhile, endP_n, endP_r, runP, runPB, bd_ret, bd_bad, ofO_some, ofO_none, gpm, List.filterMap_cons, List.filterMap_nil, eqD_ii, eqD_ss, eqD_bb, eqD_nn, eqD_in, eqD_ni, eqD_bn, eqD_nb, eqD_sn, eqD_ns, eqD_is, eqD_si, eqD_bs, eqD_sb, Option.map_some, Option.map_none, Option.bind_some, Option.bind_none, List.getElem?_cons_zero, List.getElem?_cons_succ, List.set_cons_zero, List.set_cons_succ, List.map_cons, List.map_nil, List.replicate, List.cons_append, List.nil_append, List.append_nil, List.length_cons, List.length_nil, List.length_map, atI_0, atI_1, atI_2, atI_3, atI_4, atI_5, decide_eq_true_eq, Bool.not_true, Bool.not_false, Bool.true_and, Bool.false_and, Bool.and_true, Bool.and_false, Bool.or_true, Bool.true_or, Bool.or_false, Bool.false_or, Bool.false_eq_true, Bool.not_eq_true', decide_eq_false_iff_not, ↓reduceIte, decide_true, decide_false, reduceCtorEq, Nat.reduceAdd, Nat.reduceSub, Nat.reduceEqDiff, eplan])]
  obtain ⟨E', e1, k, k1, k2, rfl⟩ := while_det (c := pBool (pOp pLt (pVar 4) (pVar 1))) (body := q1_law_right)
    (fun E m => ∃ k : Nat, m + k = 20 ∧ (∀ j, j < k → (2 : Int) ^ j < c) ∧ E = [none, some (.int c), some X, some (.int k), some (.int ((2 : Int) ^ k)), none, none, none, none, none, none, none, none, none, none, none])
    (fun E => ∃ k : Nat, c ≤ (2 : Int) ^ k ∧ (∀ j, j < k → (2 : Int) ^ j < c) ∧ E = [none, some (.int c), some X, some (.int k), some (.int ((2 : Int) ^ k)), none, none, none, none, none, none, none, none, none, none, none])
    (fun E m ⟨k, hm, h2, e⟩ => by
      subst e
      have hk := k_le (show c ≤ 16 by omega) h2
      have hp := pow_le hk
      by_cases h : (2 : Int) ^ k < c
      · refine .inr ⟨by simp only [pVar, pC, pOp, pUn, pNeg_i, pAdd_ii, pAdd_ss, pAdd_tt, pAdd_ll, pSub_ii, pLt_ii, pLe_ii, pGt_ii, pGe_ii, pDiv_ii, pMod_ii, pPow_ii, pMul_ii, pMul_li, pEq_a, pNe_a, isNP_i, isNP_s, isNP_b, isNP_l, isNP_t, isNP_n, pIsN_n, pNotN_n, pIx_s, pIx_t, pIx_l, boolP_b, truP_b, truP_n, truP_i, truP_l, truP_t, pTru, pBool, pNotT, pAndT, pOrT, pYes, pAndV, pOrV, pNotV, pIf, pNil, pCons, pTup, pLst, pCB, pLen_s, pLen_l, pLen_t, pAbs_i, pInt_i, pInt_b, pMin2_ii, pMax2_ii, pListOf_1, pTupOf_1, pAll_l, pAny_l, pSrt_l, pSS, pLR, tyP_n, tyP_b, tyP_i, tyP_s, tyP_l, tyP_t, pIsi, pIsi2, isTy, pChain, pRev, revP_t, pAug, augP_ii, pBestMin_1, pBestMax_1, pUnp, pgNames, pSSZ, lstP_l, pSrtZ_1, srtD_i, pNoP, intP_i, pPart, slP_t, slP_l, pSl, pCall, pCallK, pBor, bor_bool, pItS, rg1, rg2, pRng1, pRng2, zp_t, zp_l, pZip, en1_1, pEnum, seqD_l, seqD_t, pgName, pgNil, pgCons, pgTup, pgSeq, wipeE, pLc, pLc2, pNext, pSeq, pBreak, pCont, pRet, pRetN, pExpr, pIfS, pAsg, pPar, appP, pApp, setP, pSet, pFor, pWhile, endP_n, endP_r, runP, runPB, bd_ret, bd_bad, ofO_some, ofO_none, gpm, List.filterMap_cons, List.filterMap_nil, eqD_ii, eqD_ss, eqD_bb, eqD_nn, eqD_in, eqD_ni, eqD_bn, eqD_nb, eqD_sn, eqD_ns, eqD_is, eqD_si, eqD_bs, eqD_sb, Option.map_some, Option.map_none, Option.bind_some, Option.bind_none, List.getElem?_cons_zero, List.getElem?_cons_succ, List.set_cons_zero, List.set_cons_succ, List.map_cons, List.map_nil, List.replicate, List.cons_append, List.nil_append, List.append_nil, List.length_cons, List.length_nil, List.length_map, atI_0, atI_1, atI_2, atI_3, atI_4, atI_5, decide_eq_true_eq, Bool.not_true, Bool.not_false, Bool.true_and, Bool.false_and, Bool.and_true, Bool.and_false, Bool.or_true, Bool.true_or, Bool.or_false, Bool.false_or, Bool.false_eq_true, Bool.not_eq_true', decide_eq_false_iff_not, ↓reduceIte, decide_true, decide_false, reduceCtorEq, Nat.reduceAdd, Nat.reduceSub, Nat.reduceEqDiff, h], [none, some (.int c), some X, some (.int ((k + 1 : Nat) : Int)), some (.int ((2 : Int) ^ (k + 1))), none, none, none, none, none, none, none, none, none, none, none], m - 1, ?_, by omega, k + 1, by omega, fun j hj => ?_, rfl⟩
        · unfold q1_law_right
          simp only [pVar, pC, pOp, pUn, pNeg_i, pAdd_ii, pAdd_ss, pAdd_tt, pAdd_ll, pSub_ii, pLt_ii, pLe_ii, pGt_ii, pGe_ii, pDiv_ii, pMod_ii, pPow_ii, pEq_a, pNe_a, isNP_i, isNP_s, isNP_b, isNP_l, isNP_t, isNP_n, pIsN_n, pNotN_n, pIx_s, pIx_t, pIx_l, boolP_b, truP_b, truP_n, truP_i, truP_l, truP_t, pTru, pBool, pNotT, pAndT, pOrT, pYes, pAndV, pOrV, pNotV, pIf, pNil, pCons, pTup, pLst, pCB, pLen_s, pLen_l, pLen_t, pAbs_i, pInt_i, pInt_b, pMin2_ii, pMax2_ii, pListOf_1, pTupOf_1, pAll_l, pAny_l, pSrt_l, pSS, pLR, tyP_n, tyP_b, tyP_i, tyP_s, tyP_l, tyP_t, pIsi, pIsi2, isTy, pChain, pRev, revP_t, pAug, augP_ii, pBestMin_1, pBestMax_1, pUnp, pgNames, pSSZ, lstP_l, pSrtZ_1, srtD_i, pNoP, intP_i, pPart, slP_t, slP_l, pSl, pCall, pCallK, pBor, bor_bool, pItS, rg1, rg2, pRng1, pRng2, zp_t, zp_l, pZip, en1_1, pEnum, seqD_l, seqD_t, pgName, pgNil, pgCons, pgTup, pgSeq, wipeE, pLc, pLc2, pNext, pSeq, pBreak, pCont, pRet, pRetN, pExpr, pIfS, pAsg, pPar, appP, pApp, setP, pSet, pFor, pWhile, endP_n, endP_r, runP, runPB, bd_ret, bd_bad, ofO_some, ofO_none, gpm, List.filterMap_cons, List.filterMap_nil, eqD_ii, eqD_ss, eqD_bb, eqD_nn, eqD_in, eqD_ni, eqD_bn, eqD_nb, eqD_sn, eqD_ns, eqD_is, eqD_si, eqD_bs, eqD_sb, Option.map_some, Option.map_none, Option.bind_some, Option.bind_none, List.getElem?_cons_zero, List.getElem?_cons_succ, List.set_cons_zero, List.set_cons_succ, List.map_cons, List.map_nil, List.replicate, List.cons_append, List.nil_append, List.append_nil, List.length_cons, List.length_nil, List.length_map, atI_0, atI_1, atI_2, atI_3, atI_4, atI_5, decide_eq_true_eq, Bool.not_true, Bool.not_false, Bool.true_and, Bool.false_and, Bool.and_true, Bool.and_false, Bool.or_true, Bool.true_or, Bool.or_false, Bool.false_or, Bool.false_eq_true, Bool.not_eq_true', decide_eq_false_iff_not, ↓reduceIte, decide_true, decide_false, reduceCtorEq, Nat.reduceAdd, Nat.reduceSub, Nat.reduceEqDiff, mul_ok (i := (2 : Int) ^ k) (j := 2) ⟨by omega, by omega⟩, Int.pow_succ, Int.natCast_add]
          rfl
        · by_cases e : j = k
          · rw [e]; exact h
          · exact h2 j (by omega)
      · exact .inl ⟨by simp only [pVar, pC, pOp, pUn, pNeg_i, pAdd_ii, pAdd_ss, pAdd_tt, pAdd_ll, pSub_ii, pLt_ii, pLe_ii, pGt_ii, pGe_ii, pDiv_ii, pMod_ii, pPow_ii, pMul_ii, pMul_li, pEq_a, pNe_a, isNP_i, isNP_s, isNP_b, isNP_l, isNP_t, isNP_n, pIsN_n, pNotN_n, pIx_s, pIx_t, pIx_l, boolP_b, truP_b, truP_n, truP_i, truP_l, truP_t, pTru, pBool, pNotT, pAndT, pOrT, pYes, pAndV, pOrV, pNotV, pIf, pNil, pCons, pTup, pLst, pCB, pLen_s, pLen_l, pLen_t, pAbs_i, pInt_i, pInt_b, pMin2_ii, pMax2_ii, pListOf_1, pTupOf_1, pAll_l, pAny_l, pSrt_l, pSS, pLR, tyP_n, tyP_b, tyP_i, tyP_s, tyP_l, tyP_t, pIsi, pIsi2, isTy, pChain, pRev, revP_t, pAug, augP_ii, pBestMin_1, pBestMax_1, pUnp, pgNames, pSSZ, lstP_l, pSrtZ_1, srtD_i, pNoP, intP_i, pPart, slP_t, slP_l, pSl, pCall, pCallK, pBor, bor_bool, pItS, rg1, rg2, pRng1, pRng2, zp_t, zp_l, pZip, en1_1, pEnum, seqD_l, seqD_t, pgName, pgNil, pgCons, pgTup, pgSeq, wipeE, pLc, pLc2, pNext, pSeq, pBreak, pCont, pRet, pRetN, pExpr, pIfS, pAsg, pPar, appP, pApp, setP, pSet, pFor, pWhile, endP_n, endP_r, runP, runPB, bd_ret, bd_bad, ofO_some, ofO_none, gpm, List.filterMap_cons, List.filterMap_nil, eqD_ii, eqD_ss, eqD_bb, eqD_nn, eqD_in, eqD_ni, eqD_bn, eqD_nb, eqD_sn, eqD_ns, eqD_is, eqD_si, eqD_bs, eqD_sb, Option.map_some, Option.map_none, Option.bind_some, Option.bind_none, List.getElem?_cons_zero, List.getElem?_cons_succ, List.set_cons_zero, List.set_cons_succ, List.map_cons, List.map_nil, List.replicate, List.cons_append, List.nil_append, List.append_nil, List.length_cons, List.length_nil, List.length_map, atI_0, atI_1, atI_2, atI_3, atI_4, atI_5, decide_eq_true_eq, Bool.not_true, Bool.not_false, Bool.true_and, Bool.false_and, Bool.and_true, Bool.and_false, Bool.or_true, Bool.true_or, Bool.or_false, Bool.false_or, Bool.false_eq_true, Bool.not_eq_true', decide_eq_false_iff_not, ↓reduceIte, decide_true, decide_false, reduceCtorEq, Nat.reduceAdd, Nat.reduceSub, Nat.reduceEqDiff, h], k, by omega, h2, rfl⟩)
    1000 20 [none, some (.int c), some X, some (.int 0), some (.int 1), none, none, none, none, none, none, none, none, none, none, none] (by omega) ⟨0, rfl, (fun j hj => absurd hj (Nat.not_lt_zero _)), rfl⟩
  rw [pow_db c1 (show c ≤ 16 by omega) k1 k2] at e1
  have e1' : pWhile 1000 (pBool (pOp pLt (pVar 4) (pVar 1))) q1_law_right [none, some (.int c), some X, some (.int 0), some (.int 1), none, none, none, none, none, none, none, none, none, none, none] = _ := e1
  rw [seq_ret e1']
  generalize some (PyData.int ((2 : Int) ^ k)) = g4
  rw [seq_ret (E' := [none, some (.int c), some X, some (.int (db c)), g4, some (.int (fr c)), none, none, none, none, none, none, none, none, none, none]) (by
    have h2 : (0 : Int) < 2 := by decide
    unfold fr
    by_cases e : c = 1
    · have e' : ¬ (1 : Int) < c := by omega
      have ed : db c = 0 := by rw [e]; rfl
      rw [if_pos e]
      simp only [pVar, pC, pOp, pUn, pNeg_i, pAdd_ii, pAdd_ss, pAdd_tt, pAdd_ll, pSub_ii, pLt_ii, pLe_ii, pGt_ii, pGe_ii, pDiv_ii, pMod_ii, pPow_ii, pMul_ii, pMul_li, pEq_a, pNe_a, isNP_i, isNP_s, isNP_b, isNP_l, isNP_t, isNP_n, pIsN_n, pNotN_n, pIx_s, pIx_t, pIx_l, boolP_b, truP_b, truP_n, truP_i, truP_l, truP_t, pTru, pBool, pNotT, pAndT, pOrT, pYes, pAndV, pOrV, pNotV, pIf, pNil, pCons, pTup, pLst, pCB, pLen_s, pLen_l, pLen_t, pAbs_i, pInt_i, pInt_b, pMin2_ii, pMax2_ii, pListOf_1, pTupOf_1, pAll_l, pAny_l, pSrt_l, pSS, pLR, tyP_n, tyP_b, tyP_i, tyP_s, tyP_l, tyP_t, pIsi, pIsi2, isTy, pChain, pRev, revP_t, pAug, augP_ii, pBestMin_1, pBestMax_1, pUnp, pgNames, pSSZ, lstP_l, pSrtZ_1, srtD_i, pNoP, intP_i, pPart, slP_t, slP_l, pSl, pCall, pCallK, pBor, bor_bool, pItS, rg1, rg2, pRng1, pRng2, zp_t, zp_l, pZip, en1_1, pEnum, seqD_l, seqD_t, pgName, pgNil, pgCons, pgTup, pgSeq, wipeE, pLc, pLc2, pNext, pSeq, pBreak, pCont, pRet, pRetN, pExpr, pIfS, pAsg, pPar, appP, pApp, setP, pSet, pFor, pWhile, endP_n, endP_r, runP, runPB, bd_ret, bd_bad, ofO_some, ofO_none, gpm, List.filterMap_cons, List.filterMap_nil, eqD_ii, eqD_ss, eqD_bb, eqD_nn, eqD_in, eqD_ni, eqD_bn, eqD_nb, eqD_sn, eqD_ns, eqD_is, eqD_si, eqD_bs, eqD_sb, Option.map_some, Option.map_none, Option.bind_some, Option.bind_none, List.getElem?_cons_zero, List.getElem?_cons_succ, List.set_cons_zero, List.set_cons_succ, List.map_cons, List.map_nil, List.replicate, List.cons_append, List.nil_append, List.append_nil, List.length_cons, List.length_nil, List.length_map, atI_0, atI_1, atI_2, atI_3, atI_4, atI_5, decide_eq_true_eq, Bool.not_true, Bool.not_false, Bool.true_and, Bool.false_and, Bool.and_true, Bool.and_false, Bool.or_true, Bool.true_or, Bool.or_false, Bool.false_or, Bool.false_eq_true, Bool.not_eq_true', decide_eq_false_iff_not, ↓reduceIte, decide_true, decide_false, reduceCtorEq, Nat.reduceAdd, Nat.reduceSub, Nat.reduceEqDiff, e', ed]
      rfl
    · have e' : (1 : Int) < c := by omega
      by_cases k : c % 2 = 1
      · simp only [pVar, pC, pOp, pUn, pNeg_i, pAdd_ii, pAdd_ss, pAdd_tt, pAdd_ll, pSub_ii, pLt_ii, pLe_ii, pGt_ii, pGe_ii, pDiv_ii, pMod_ii, pPow_ii, pMul_ii, pMul_li, pEq_a, pNe_a, isNP_i, isNP_s, isNP_b, isNP_l, isNP_t, isNP_n, pIsN_n, pNotN_n, pIx_s, pIx_t, pIx_l, boolP_b, truP_b, truP_n, truP_i, truP_l, truP_t, pTru, pBool, pNotT, pAndT, pOrT, pYes, pAndV, pOrV, pNotV, pIf, pNil, pCons, pTup, pLst, pCB, pLen_s, pLen_l, pLen_t, pAbs_i, pInt_i, pInt_b, pMin2_ii, pMax2_ii, pListOf_1, pTupOf_1, pAll_l, pAny_l, pSrt_l, pSS, pLR, tyP_n, tyP_b, tyP_i, tyP_s, tyP_l, tyP_t, pIsi, pIsi2, isTy, pChain, pRev, revP_t, pAug, augP_ii, pBestMin_1, pBestMax_1, pUnp, pgNames, pSSZ, lstP_l, pSrtZ_1, srtD_i, pNoP, intP_i, pPart, slP_t, slP_l, pSl, pCall, pCallK, pBor, bor_bool, pItS, rg1, rg2, pRng1, pRng2, zp_t, zp_l, pZip, en1_1, pEnum, seqD_l, seqD_t, pgName, pgNil, pgCons, pgTup, pgSeq, wipeE, pLc, pLc2, pNext, pSeq, pBreak, pCont, pRet, pRetN, pExpr, pIfS, pAsg, pPar, appP, pApp, setP, pSet, pFor, pWhile, endP_n, endP_r, runP, runPB, bd_ret, bd_bad, ofO_some, ofO_none, gpm, List.filterMap_cons, List.filterMap_nil, eqD_ii, eqD_ss, eqD_bb, eqD_nn, eqD_in, eqD_ni, eqD_bn, eqD_nb, eqD_sn, eqD_ns, eqD_is, eqD_si, eqD_bs, eqD_sb, Option.map_some, Option.map_none, Option.bind_some, Option.bind_none, List.getElem?_cons_zero, List.getElem?_cons_succ, List.set_cons_zero, List.set_cons_succ, List.map_cons, List.map_nil, List.replicate, List.cons_append, List.nil_append, List.append_nil, List.length_cons, List.length_nil, List.length_map, atI_0, atI_1, atI_2, atI_3, atI_4, atI_5, decide_eq_true_eq, Bool.not_true, Bool.not_false, Bool.true_and, Bool.false_and, Bool.and_true, Bool.and_false, Bool.or_true, Bool.true_or, Bool.or_false, Bool.false_or, Bool.false_eq_true, Bool.not_eq_true', decide_eq_false_iff_not, ↓reduceIte, decide_true, decide_false, reduceCtorEq, Nat.reduceAdd, Nat.reduceSub, Nat.reduceEqDiff, e', e, h2, k]
      · have k0 : c % 2 = 0 := by omega
        simp only [pVar, pC, pOp, pUn, pNeg_i, pAdd_ii, pAdd_ss, pAdd_tt, pAdd_ll, pSub_ii, pLt_ii, pLe_ii, pGt_ii, pGe_ii, pDiv_ii, pMod_ii, pPow_ii, pMul_ii, pMul_li, pEq_a, pNe_a, isNP_i, isNP_s, isNP_b, isNP_l, isNP_t, isNP_n, pIsN_n, pNotN_n, pIx_s, pIx_t, pIx_l, boolP_b, truP_b, truP_n, truP_i, truP_l, truP_t, pTru, pBool, pNotT, pAndT, pOrT, pYes, pAndV, pOrV, pNotV, pIf, pNil, pCons, pTup, pLst, pCB, pLen_s, pLen_l, pLen_t, pAbs_i, pInt_i, pInt_b, pMin2_ii, pMax2_ii, pListOf_1, pTupOf_1, pAll_l, pAny_l, pSrt_l, pSS, pLR, tyP_n, tyP_b, tyP_i, tyP_s, tyP_l, tyP_t, pIsi, pIsi2, isTy, pChain, pRev, revP_t, pAug, augP_ii, pBestMin_1, pBestMax_1, pUnp, pgNames, pSSZ, lstP_l, pSrtZ_1, srtD_i, pNoP, intP_i, pPart, slP_t, slP_l, pSl, pCall, pCallK, pBor, bor_bool, pItS, rg1, rg2, pRng1, pRng2, zp_t, zp_l, pZip, en1_1, pEnum, seqD_l, seqD_t, pgName, pgNil, pgCons, pgTup, pgSeq, wipeE, pLc, pLc2, pNext, pSeq, pBreak, pCont, pRet, pRetN, pExpr, pIfS, pAsg, pPar, appP, pApp, setP, pSet, pFor, pWhile, endP_n, endP_r, runP, runPB, bd_ret, bd_bad, ofO_some, ofO_none, gpm, List.filterMap_cons, List.filterMap_nil, eqD_ii, eqD_ss, eqD_bb, eqD_nn, eqD_in, eqD_ni, eqD_bn, eqD_nb, eqD_sn, eqD_ns, eqD_is, eqD_si, eqD_bs, eqD_sb, Option.map_some, Option.map_none, Option.bind_some, Option.bind_none, List.getElem?_cons_zero, List.getElem?_cons_succ, List.set_cons_zero, List.set_cons_succ, List.map_cons, List.map_nil, List.replicate, List.cons_append, List.nil_append, List.append_nil, List.length_cons, List.length_nil, List.length_map, atI_0, atI_1, atI_2, atI_3, atI_4, atI_5, decide_eq_true_eq, Bool.not_true, Bool.not_false, Bool.true_and, Bool.false_and, Bool.and_true, Bool.and_false, Bool.or_true, Bool.true_or, Bool.or_false, Bool.false_or, Bool.false_eq_true, Bool.not_eq_true', decide_eq_false_iff_not, ↓reduceIte, decide_true, decide_false, reduceCtorEq, Nat.reduceAdd, Nat.reduceSub, Nat.reduceEqDiff, e', e, h2, k0]
        rfl)]
  have efr := fewr_ok c1 (show c ≤ 16 by omega)
  have ed : eqD (.int (fr c)) (.int (fr c)) = some true := by rw [eqD_ii, decide_eq_true rfl]
  rw [seq_ret (E' := [none, some (.int c), some X, some (.int (db c)), g4, some (.int (fr c)), none, none, none, none, none, none, none, none, none, none]) (by
    simp only [pVar, pC, pOp, pUn, pNeg_i, pAdd_ii, pAdd_ss, pAdd_tt, pAdd_ll, pSub_ii, pLt_ii, pLe_ii, pGt_ii, pGe_ii, pDiv_ii, pMod_ii, pPow_ii, pMul_ii, pMul_li, pEq_a, pNe_a, isNP_i, isNP_s, isNP_b, isNP_l, isNP_t, isNP_n, pIsN_n, pNotN_n, pIx_s, pIx_t, pIx_l, boolP_b, truP_b, truP_n, truP_i, truP_l, truP_t, pTru, pBool, pNotT, pAndT, pOrT, pYes, pAndV, pOrV, pNotV, pIf, pNil, pCons, pTup, pLst, pCB, pLen_s, pLen_l, pLen_t, pAbs_i, pInt_i, pInt_b, pMin2_ii, pMax2_ii, pListOf_1, pTupOf_1, pAll_l, pAny_l, pSrt_l, pSS, pLR, tyP_n, tyP_b, tyP_i, tyP_s, tyP_l, tyP_t, pIsi, pIsi2, isTy, pChain, pRev, revP_t, pAug, augP_ii, pBestMin_1, pBestMax_1, pUnp, pgNames, pSSZ, lstP_l, pSrtZ_1, srtD_i, pNoP, intP_i, pPart, slP_t, slP_l, pSl, pCall, pCallK, pBor, bor_bool, pItS, rg1, rg2, pRng1, pRng2, zp_t, zp_l, pZip, en1_1, pEnum, seqD_l, seqD_t, pgName, pgNil, pgCons, pgTup, pgSeq, wipeE, pLc, pLc2, pNext, pSeq, pBreak, pCont, pRet, pRetN, pExpr, pIfS, pAsg, pPar, appP, pApp, setP, pSet, pFor, pWhile, endP_n, endP_r, runP, runPB, bd_ret, bd_bad, ofO_some, ofO_none, gpm, List.filterMap_cons, List.filterMap_nil, eqD_ss, eqD_bb, eqD_nn, eqD_in, eqD_ni, eqD_bn, eqD_nb, eqD_sn, eqD_ns, eqD_is, eqD_si, eqD_bs, eqD_sb, Option.map_some, Option.map_none, Option.bind_some, Option.bind_none, List.getElem?_cons_zero, List.getElem?_cons_succ, List.set_cons_zero, List.set_cons_succ, List.map_cons, List.map_nil, List.replicate, List.cons_append, List.nil_append, List.append_nil, List.length_cons, List.length_nil, List.length_map, atI_0, atI_1, atI_2, atI_3, atI_4, atI_5, decide_eq_true_eq, Bool.not_true, Bool.not_false, Bool.true_and, Bool.false_and, Bool.and_true, Bool.and_false, Bool.or_true, Bool.true_or, Bool.or_false, Bool.false_or, Bool.false_eq_true, Bool.not_eq_true', decide_eq_false_iff_not, ↓reduceIte, decide_true, decide_false, reduceCtorEq, Nat.reduceAdd, Nat.reduceSub, Nat.reduceEqDiff, efr, ed])]
  rw [seq_ret (E' := [none, some (.int c), some X, some (.int (db c)), g4, some (.int (fr c)), none, none, none, none, none, none, none, none, none, none]) (by
    simp only [pVar, pC, pOp, pUn, pNeg_i, pAdd_ii, pAdd_ss, pAdd_tt, pAdd_ll, pSub_ii, pLt_ii, pLe_ii, pGt_ii, pGe_ii, pDiv_ii, pMod_ii, pPow_ii, pMul_ii, pMul_li, pEq_a, pNe_a, isNP_i, isNP_s, isNP_b, isNP_l, isNP_t, isNP_n, pIsN_n, pNotN_n, pIx_s, pIx_t, pIx_l, boolP_b, truP_b, truP_n, truP_i, truP_l, truP_t, pTru, pBool, pNotT, pAndT, pOrT, pYes, pAndV, pOrV, pNotV, pIf, pNil, pCons, pTup, pLst, pCB, pAbs_i, pInt_i, pInt_b, pMin2_ii, pMax2_ii, pListOf_1, pTupOf_1, pAll_l, pAny_l, pSrt_l, pSS, pLR, tyP_n, tyP_b, tyP_i, tyP_s, tyP_l, tyP_t, pIsi, pIsi2, isTy, pChain, pRev, revP_t, pAug, augP_ii, pBestMin_1, pBestMax_1, pUnp, pgNames, pSSZ, lstP_l, pSrtZ_1, srtD_i, pNoP, intP_i, pPart, slP_t, slP_l, pSl, pCall, pCallK, pBor, bor_bool, pItS, rg1, rg2, pRng1, pRng2, zp_t, zp_l, pZip, en1_1, pEnum, seqD_l, seqD_t, pgName, pgNil, pgCons, pgTup, pgSeq, wipeE, pLc, pLc2, pNext, pSeq, pBreak, pCont, pRet, pRetN, pExpr, pIfS, pAsg, pPar, appP, pApp, setP, pSet, pFor, pWhile, endP_n, endP_r, runP, runPB, bd_ret, bd_bad, ofO_some, ofO_none, gpm, List.filterMap_cons, List.filterMap_nil, eqD_ss, eqD_bb, eqD_nn, eqD_in, eqD_ni, eqD_bn, eqD_nb, eqD_sn, eqD_ns, eqD_is, eqD_si, eqD_bs, eqD_sb, Option.map_some, Option.map_none, Option.bind_some, Option.bind_none, List.getElem?_cons_zero, List.getElem?_cons_succ, List.set_cons_zero, List.set_cons_succ, List.map_cons, List.map_nil, List.replicate, List.cons_append, List.nil_append, List.append_nil, List.length_cons, List.length_nil, List.length_map, atI_0, atI_1, atI_2, atI_3, atI_4, atI_5, decide_eq_true_eq, Bool.not_true, Bool.not_false, Bool.true_and, Bool.false_and, Bool.and_true, Bool.and_false, Bool.or_true, Bool.true_or, Bool.or_false, Bool.false_or, Bool.false_eq_true, Bool.not_eq_true', decide_eq_false_iff_not, ↓reduceIte, decide_true, decide_false, reduceCtorEq, Nat.reduceAdd, Nat.reduceSub, Nat.reduceEqDiff, eLen, ed, esh])]
  rw [seq_ret (E' := [none, some (.int c), some X, some (.int (db c)), g4, some (.int (fr c)), some (.list []), some (.int 1), none, none, none, none, none, none, none, none]) (by
    simp only [pVar, pC, pOp, pUn, pNeg_i, pAdd_ii, pAdd_ss, pAdd_tt, pAdd_ll, pSub_ii, pLt_ii, pLe_ii, pGt_ii, pGe_ii, pDiv_ii, pMod_ii, pPow_ii, pMul_ii, pMul_li, pEq_a, pNe_a, isNP_i, isNP_s, isNP_b, isNP_l, isNP_t, isNP_n, pIsN_n, pNotN_n, pIx_s, pIx_t, pIx_l, boolP_b, truP_b, truP_n, truP_i, truP_l, truP_t, pTru, pBool, pNotT, pAndT, pOrT, pYes, pAndV, pOrV, pNotV, pIf, pNil, pCons, pTup, pLst, pCB, pLen_s, pLen_l, pLen_t, pAbs_i, pInt_i, pInt_b, pMin2_ii, pMax2_ii, pListOf_1, pTupOf_1, pAll_l, pAny_l, pSrt_l, pSS, pLR, tyP_n, tyP_b, tyP_i, tyP_s, tyP_l, tyP_t, pIsi, pIsi2, isTy, pChain, pRev, revP_t, pAug, augP_ii, pBestMin_1, pBestMax_1, pUnp, pgNames, pSSZ, lstP_l, pSrtZ_1, srtD_i, pNoP, intP_i, pPart, slP_t, slP_l, pSl, pCall, pCallK, pBor, bor_bool, pItS, rg1, rg2, pRng1, pRng2, zp_t, zp_l, pZip, en1_1, pEnum, seqD_l, seqD_t, pgName, pgNil, pgCons, pgTup, pgSeq, wipeE, pLc, pLc2, pNext, pSeq, pBreak, pCont, pRet, pRetN, pExpr, pIfS, pAsg, pPar, appP, pApp, setP, pSet, pFor, pWhile, endP_n, endP_r, runP, runPB, bd_ret, bd_bad, ofO_some, ofO_none, gpm, List.filterMap_cons, List.filterMap_nil, eqD_ii, eqD_ss, eqD_bb, eqD_nn, eqD_in, eqD_ni, eqD_bn, eqD_nb, eqD_sn, eqD_ns, eqD_is, eqD_si, eqD_bs, eqD_sb, Option.map_some, Option.map_none, Option.bind_some, Option.bind_none, List.getElem?_cons_zero, List.getElem?_cons_succ, List.set_cons_zero, List.set_cons_succ, List.map_cons, List.map_nil, List.replicate, List.cons_append, List.nil_append, List.append_nil, List.length_cons, List.length_nil, List.length_map, atI_0, atI_1, atI_2, atI_3, atI_4, atI_5, decide_eq_true_eq, Bool.not_true, Bool.not_false, Bool.true_and, Bool.false_and, Bool.and_true, Bool.and_false, Bool.or_true, Bool.true_or, Bool.or_false, Bool.false_or, Bool.false_eq_true, Bool.not_eq_true', decide_eq_false_iff_not, ↓reduceIte, decide_true, decide_false, reduceCtorEq, Nat.reduceAdd, Nat.reduceSub, Nat.reduceEqDiff, z0])]
  refine seq_wp ?_
  refine for_wp (xs := (rp c).map (pl (true, true))) (by simp only [pVar, pC, pOp, pUn, pNeg_i, pAdd_ii, pAdd_ss, pAdd_tt, pAdd_ll, pSub_ii, pLt_ii, pLe_ii, pGt_ii, pGe_ii, pDiv_ii, pMod_ii, pPow_ii, pMul_ii, pMul_li, pEq_a, pNe_a, isNP_i, isNP_s, isNP_b, isNP_l, isNP_t, isNP_n, pIsN_n, pNotN_n, pIx_s, pIx_t, pIx_l, boolP_b, truP_b, truP_n, truP_i, truP_l, truP_t, pTru, pBool, pNotT, pAndT, pOrT, pYes, pAndV, pOrV, pNotV, pIf, pNil, pCons, pTup, pLst, pCB, pLen_s, pLen_l, pLen_t, pAbs_i, pInt_i, pInt_b, pMin2_ii, pMax2_ii, pListOf_1, pTupOf_1, pAll_l, pAny_l, pSrt_l, pSS, pLR, tyP_n, tyP_b, tyP_i, tyP_s, tyP_l, tyP_t, pIsi, pIsi2, isTy, pChain, pRev, revP_t, pAug, augP_ii, pBestMin_1, pBestMax_1, pUnp, pgNames, pSSZ, lstP_l, pSrtZ_1, srtD_i, pNoP, intP_i, pPart, slP_t, slP_l, pSl, pCall, pCallK, pBor, bor_bool, pItS, rg1, rg2, pRng1, pRng2, zp_t, zp_l, pZip, en1_1, pEnum, seqD_l, seqD_t, pgName, pgNil, pgCons, pgTup, pgSeq, wipeE, pLc, pLc2, pNext, pSeq, pBreak, pCont, pRet, pRetN, pExpr, pIfS, pAsg, pPar, appP, pApp, setP, pSet, pFor, pWhile, endP_n, endP_r, runP, runPB, bd_ret, bd_bad, ofO_some, ofO_none, gpm, List.filterMap_cons, List.filterMap_nil, eqD_ii, eqD_ss, eqD_bb, eqD_nn, eqD_in, eqD_ni, eqD_bn, eqD_nb, eqD_sn, eqD_ns, eqD_is, eqD_si, eqD_bs, eqD_sb, Option.map_some, Option.map_none, Option.bind_some, Option.bind_none, List.getElem?_cons_zero, List.getElem?_cons_succ, List.set_cons_zero, List.set_cons_succ, List.map_cons, List.map_nil, List.replicate, List.cons_append, List.nil_append, List.append_nil, List.length_cons, List.length_nil, List.length_map, atI_0, atI_1, atI_2, atI_3, atI_4, atI_5, decide_eq_true_eq, Bool.not_true, Bool.not_false, Bool.true_and, Bool.false_and, Bool.and_true, Bool.and_false, Bool.or_true, Bool.true_or, Bool.or_false, Bool.false_or, Bool.false_eq_true, Bool.not_eq_true', decide_eq_false_iff_not, ↓reduceIte, decide_true, decide_false, reduceCtorEq, Nat.reduceAdd, Nat.reduceSub, Nat.reduceEqDiff, eSeq]) ?_
  obtain ⟨m, g8, g9, g10, g11, ep⟩ := parts_ok c1 c10 (X := X) (g3 := some (.int (db c))) (g4 := g4) (g5 := some (.int (fr c))) (rs := rp c) gR (by omega)
  rw [ep, ret_at]
  dsimp only
  have pk : Pok c (rp c).flatten := fun q hq => by
    obtain ⟨R, h1, h2⟩ := List.mem_flatten.mp hq
    exact (gR R h1).2.2 q h2
  have er := reaches_ok (c := c) (by omega) (by omega) (w := "meet") (g := "everybody") (k := (true, true)) pk
  rw [dm, every_yes gH] at er
  have et : PyData.tuple ((rp c).flatten.map (pr true)) = pl (true, true) (rp c).flatten := rfl
  rw [seq_ret (E' := [none, some (.int c), some X, some (.int (db c)), g4, some (.int (fr c)), some (.list ((rp c).flatten.map (pr true))), some (.int m), g8, g9, g10, g11, none, none, none, none]) (by
    simp only [pVar, pC, pOp, pUn, pNeg_i, pAdd_ii, pAdd_ss, pAdd_tt, pAdd_ll, pSub_ii, pLt_ii, pLe_ii, pGt_ii, pGe_ii, pDiv_ii, pMod_ii, pPow_ii, pMul_ii, pMul_li, pEq_a, pNe_a, isNP_i, isNP_s, isNP_b, isNP_l, isNP_t, isNP_n, pIsN_n, pNotN_n, pIx_s, pIx_t, pIx_l, boolP_b, truP_b, truP_n, truP_i, truP_l, truP_t, pTru, pBool, pNotT, pAndT, pOrT, pYes, pAndV, pOrV, pNotV, pIf, pNil, pCons, pTup, pLst, pCB, pLen_s, pLen_l, pLen_t, pAbs_i, pInt_i, pInt_b, pMin2_ii, pMax2_ii, pListOf_1, pTupOf_1, pAll_l, pAny_l, pSrt_l, pSS, pLR, tyP_n, tyP_b, tyP_i, tyP_s, tyP_l, tyP_t, pIsi, pIsi2, isTy, pChain, pRev, revP_t, pAug, augP_ii, pBestMin_1, pBestMax_1, pUnp, pgNames, pSSZ, lstP_l, pSrtZ_1, srtD_i, pNoP, intP_i, pPart, slP_t, slP_l, pSl, pCall, pCallK, pBor, bor_bool, pItS, rg1, rg2, pRng1, pRng2, zp_t, zp_l, pZip, en1_1, pEnum, seqD_l, seqD_t, pgName, pgNil, pgCons, pgTup, pgSeq, wipeE, pLc, pLc2, pNext, pSeq, pBreak, pCont, pRet, pRetN, pExpr, pIfS, pAsg, pPar, appP, pApp, setP, pSet, pFor, pWhile, endP_n, endP_r, runP, runPB, bd_ret, bd_bad, ofO_some, ofO_none, gpm, List.filterMap_cons, List.filterMap_nil, eqD_ii, eqD_ss, eqD_bb, eqD_nn, eqD_in, eqD_ni, eqD_bn, eqD_nb, eqD_sn, eqD_ns, eqD_is, eqD_si, eqD_bs, eqD_sb, Option.map_some, Option.map_none, Option.bind_some, Option.bind_none, List.getElem?_cons_zero, List.getElem?_cons_succ, List.set_cons_zero, List.set_cons_succ, List.map_cons, List.map_nil, List.replicate, List.cons_append, List.nil_append, List.append_nil, List.length_cons, List.length_nil, List.length_map, atI_0, atI_1, atI_2, atI_3, atI_4, atI_5, decide_eq_true_eq, Bool.not_true, Bool.not_false, Bool.true_and, Bool.false_and, Bool.and_true, Bool.and_false, Bool.or_true, Bool.true_or, Bool.or_false, Bool.false_or, Bool.false_eq_true, Bool.not_eq_true', decide_eq_false_iff_not, ↓reduceIte, decide_true, decide_false, reduceCtorEq, Nat.reduceAdd, Nat.reduceSub, Nat.reduceEqDiff, et, er])]
  generalize some (PyData.list ((rp c).flatten.map (pr true))) = g6
  generalize some (PyData.int m) = g7
  generalize some (PyData.int (db c)) = g3
  refine seq_wp ?_
  refine for_wp (xs := (upto 3).map .int) (by simp only [pVar, pC, pOp, pUn, pNeg_i, pAdd_ii, pAdd_ss, pAdd_tt, pAdd_ll, pSub_ii, pLt_ii, pLe_ii, pGt_ii, pGe_ii, pDiv_ii, pMod_ii, pPow_ii, pMul_ii, pMul_li, pEq_a, pNe_a, isNP_i, isNP_s, isNP_b, isNP_l, isNP_t, isNP_n, pIsN_n, pNotN_n, pIx_s, pIx_t, pIx_l, boolP_b, truP_b, truP_n, truP_i, truP_l, truP_t, pTru, pBool, pNotT, pAndT, pOrT, pYes, pAndV, pOrV, pNotV, pIf, pNil, pCons, pTup, pLst, pCB, pLen_s, pLen_l, pLen_t, pAbs_i, pInt_i, pInt_b, pMin2_ii, pMax2_ii, pListOf_1, pTupOf_1, pAll_l, pAny_l, pSrt_l, pSS, pLR, tyP_n, tyP_b, tyP_i, tyP_s, tyP_l, tyP_t, pIsi, pIsi2, isTy, pChain, pRev, revP_t, pAug, augP_ii, pBestMin_1, pBestMax_1, pUnp, pgNames, pSSZ, lstP_l, pSrtZ_1, srtD_i, pNoP, intP_i, pPart, slP_t, slP_l, pSl, pCall, pCallK, pBor, bor_bool, pItS, rg2, pRng1, pRng2, zp_t, zp_l, pZip, en1_1, pEnum, seqD_l, seqD_t, pgName, pgNil, pgCons, pgTup, pgSeq, wipeE, pLc, pLc2, pNext, pSeq, pBreak, pCont, pRet, pRetN, pExpr, pIfS, pAsg, pPar, appP, pApp, setP, pSet, pFor, pWhile, endP_n, endP_r, runP, runPB, bd_ret, bd_bad, ofO_some, ofO_none, gpm, List.filterMap_cons, List.filterMap_nil, eqD_ii, eqD_ss, eqD_bb, eqD_nn, eqD_in, eqD_ni, eqD_bn, eqD_nb, eqD_sn, eqD_ns, eqD_is, eqD_si, eqD_bs, eqD_sb, Option.map_some, Option.map_none, Option.bind_some, Option.bind_none, List.getElem?_cons_zero, List.getElem?_cons_succ, List.set_cons_zero, List.set_cons_succ, List.map_cons, List.map_nil, List.replicate, List.cons_append, List.nil_append, List.append_nil, List.length_cons, List.length_nil, List.length_map, atI_0, atI_1, atI_2, atI_3, atI_4, atI_5, decide_eq_true_eq, Bool.not_true, Bool.not_false, Bool.true_and, Bool.false_and, Bool.and_true, Bool.and_false, Bool.or_true, Bool.true_or, Bool.or_false, Bool.false_or, Bool.false_eq_true, Bool.not_eq_true', decide_eq_false_iff_not, ↓reduceIte, decide_true, decide_false, reduceCtorEq, Nat.reduceAdd, Nat.reduceSub, Nat.reduceEqDiff, rg1_ok (c := 3) (by decide) (by decide)]) ?_
  refine forP_inv (g := pgName 12) (body := q5_law_right) PyData.int (fun r E k => ∃ (g8 g12 g13 g14 : Option PyData), E = [none, some (.int c), some X, g3, g4, some (.int (fr c)), g6, g7, g8, g9, g10, g11, g12, g13, g14, none] ∧ k + 60 * r.length ≤ n + 190)
    (fun z r E k K ⟨g8, g12, g13, g14, e, hk⟩ hK => by
      subst e
      rw [List.length_cons] at hk
      show (bd (fun E' => _) _ (pgName 12 (.int z) _)) k K
      have eg : pgName 12 (.int z) [none, some (.int c), some X, g3, g4, some (.int (fr c)), g6, g7, g8, g9, g10, g11, g12, g13, g14, none] = Y.ret [none, some (.int c), some X, g3, g4, some (.int (fr c)), g6, g7, g8, g9, g10, g11, some (.int z), g13, g14, none] := rfl
      rw [eg, bd_ret]
      obtain ⟨M, hM, M0, M5, hMf⟩ : ∃ M : Int, (if fr c - 1 > 0 then fr c - 1 else 0) = M ∧ 0 ≤ M ∧ M ≤ 5 ∧ (2 ≤ c → M = fr c - 1) := by
        refine ⟨_, rfl, ?_, ?_, fun h2 => ?_⟩
        · split <;> omega
        · split <;> omega
        · have := frl.2.2 h2
          split <;> omega
      unfold q5_law_right
      unfold pSeq
      simp only [pVar, pC, pOp, pUn, pNeg_i, pAdd_ii, pAdd_ss, pAdd_tt, pAdd_ll, pSub_ii, pLt_ii, pLe_ii, pGt_ii, pGe_ii, pDiv_ii, pMod_ii, pPow_ii, pMul_ii, pMul_li, pEq_a, pNe_a, isNP_i, isNP_s, isNP_b, isNP_l, isNP_t, isNP_n, pIsN_n, pNotN_n, pIx_s, pIx_t, pIx_l, boolP_b, truP_b, truP_n, truP_i, truP_l, truP_t, pTru, pBool, pNotT, pAndT, pOrT, pYes, pAndV, pOrV, pNotV, pIf, pNil, pCons, pTup, pLst, pCB, pLen_s, pLen_l, pLen_t, pAbs_i, pInt_i, pInt_b, pMin2_ii, pMax2_ii, pListOf_1, pTupOf_1, pAll_l, pAny_l, pSrt_l, pSS, pLR, tyP_n, tyP_b, tyP_i, tyP_s, tyP_l, tyP_t, pIsi, pIsi2, isTy, pChain, pRev, revP_t, pAug, augP_ii, pBestMin_1, pBestMax_1, pUnp, pgNames, pSSZ, lstP_l, pSrtZ_1, srtD_i, pNoP, intP_i, pPart, slP_t, slP_l, pSl, pCall, pCallK, pBor, bor_bool, pItS, rg1, rg2, pRng1, pRng2, zp_t, zp_l, pZip, en1_1, pEnum, seqD_l, seqD_t, pgName, pgNil, pgCons, pgTup, pgSeq, wipeE, pLc, pLc2, pNext, pBreak, pCont, pRet, pRetN, pExpr, pIfS, pAsg, pPar, appP, pApp, setP, pSet, pFor, pWhile, endP_n, endP_r, runP, runPB, bd_ret, bd_bad, ofO_some, ofO_none, gpm, List.filterMap_cons, List.filterMap_nil, eqD_ii, eqD_ss, eqD_bb, eqD_nn, eqD_in, eqD_ni, eqD_bn, eqD_nb, eqD_sn, eqD_ns, eqD_is, eqD_si, eqD_bs, eqD_sb, Option.map_some, Option.map_none, Option.bind_some, Option.bind_none, List.getElem?_cons_zero, List.getElem?_cons_succ, List.set_cons_zero, List.set_cons_succ, List.map_cons, List.map_nil, List.replicate, List.cons_append, List.nil_append, List.append_nil, List.length_cons, List.length_nil, List.length_map, atI_0, atI_1, atI_2, atI_3, atI_4, atI_5, decide_eq_true_eq, Bool.not_true, Bool.not_false, Bool.true_and, Bool.false_and, Bool.and_true, Bool.and_false, Bool.or_true, Bool.true_or, Bool.or_false, Bool.false_or, Bool.false_eq_true, Bool.not_eq_true', decide_eq_false_iff_not, ↓reduceIte, decide_true, decide_false, reduceCtorEq, Nat.reduceAdd, Nat.reduceSub, Nat.reduceEqDiff, hM, bd_bd]
      rw [bd_at]
      refine drawn_wp c1 c10 M0 M5 (by omega) fun rs k' hl hR hk' => ?_
      have hsz : ∀ R ∈ rs, R.length ≤ 10 := fun R h => by
        have := mt_len (c := c) (by omega) (hR R h).mt (hR R h).pok
        omega
      obtain ⟨g8', e4⟩ := flat4_ok (rs := rs) (c := c) (g2 := some X) (g3 := g3) (g4 := g4) (g5 := some (.int (fr c))) (g6 := g6) (g7 := g7) (g8 := g8) (g9 := g9) (g10 := g10) (g11 := g11) (g12 := some (.int z)) (g13 := some (rsD rs)) (g15 := none) hsz (by omega)
      have sq : seqD (rsD rs) = some (rs.map (pl (true, true))) := rfl
      have et : PyData.tuple (rs.flatten.map (pr true)) = pl (true, true) rs.flatten := rfl
      by_cases h2 : 2 ≤ c
      · have hM := hMf h2
        have lt : (1 : Int) < c := by omega
        have sn := shows_no c1 (show c ≤ 16 by omega) (rs := rs) (by omega)
        have pk2 : Pok c rs.flatten := fun q hq => by
          obtain ⟨R, h1, h2⟩ := List.mem_flatten.mp hq
          exact (hR R h1).pok q h2
        have er2 := reaches_ok (c := c) (by omega) (by omega) (w := "meet") (g := "everybody") (k := (true, true)) pk2
        rw [dm, less_no h2 c10 (by omega) hR] at er2
        simp only [pVar, pC, pOp, pUn, pNeg_i, pAdd_ii, pAdd_ss, pAdd_tt, pAdd_ll, pSub_ii, pLt_ii, pLe_ii, pGt_ii, pGe_ii, pDiv_ii, pMod_ii, pPow_ii, pMul_ii, pMul_li, pEq_a, pNe_a, isNP_i, isNP_s, isNP_b, isNP_l, isNP_t, isNP_n, pIsN_n, pNotN_n, pIx_s, pIx_t, pIx_l, boolP_b, truP_b, truP_n, truP_i, truP_l, truP_t, pTru, pBool, pNotT, pAndT, pOrT, pYes, pAndV, pOrV, pNotV, pIf, pNil, pCons, pTup, pLst, pCB, pLen_s, pLen_l, pLen_t, pAbs_i, pInt_i, pInt_b, pMin2_ii, pMax2_ii, pListOf_1, pTupOf_1, pAll_l, pAny_l, pSrt_l, pSS, pLR, tyP_n, tyP_b, tyP_i, tyP_s, tyP_l, tyP_t, pIsi, pIsi2, isTy, pChain, pRev, revP_t, pAug, augP_ii, pBestMin_1, pBestMax_1, pUnp, pgNames, pSSZ, lstP_l, pSrtZ_1, srtD_i, pNoP, intP_i, pPart, slP_t, slP_l, pSl, pCall, pCallK, pBor, bor_bool, pItS, rg1, rg2, pRng1, pRng2, zp_t, zp_l, pZip, en1_1, pEnum, seqD_l, seqD_t, pgName, pgNil, pgCons, pgTup, pgSeq, wipeE, pLc, pLc2, pNext, pSeq, pBreak, pCont, pRet, pRetN, pExpr, pIfS, pAsg, pPar, appP, pApp, setP, pSet, pFor, pWhile, endP_n, endP_r, runP, runPB, bd_ret, bd_bad, ofO_some, ofO_none, gpm, List.filterMap_cons, List.filterMap_nil, eqD_ii, eqD_ss, eqD_bb, eqD_nn, eqD_in, eqD_ni, eqD_bn, eqD_nb, eqD_sn, eqD_ns, eqD_is, eqD_si, eqD_bs, eqD_sb, Option.map_some, Option.map_none, Option.bind_some, Option.bind_none, List.getElem?_cons_zero, List.getElem?_cons_succ, List.set_cons_zero, List.set_cons_succ, List.map_cons, List.map_nil, List.replicate, List.cons_append, List.nil_append, List.append_nil, List.length_cons, List.length_nil, List.length_map, atI_0, atI_1, atI_2, atI_3, atI_4, atI_5, decide_eq_true_eq, Bool.not_true, Bool.not_false, Bool.true_and, Bool.false_and, Bool.and_true, Bool.and_false, Bool.or_true, Bool.true_or, Bool.or_false, Bool.false_or, Bool.false_eq_true, Bool.not_eq_true', decide_eq_false_iff_not, ↓reduceIte, decide_true, decide_false, reduceCtorEq, Nat.reduceAdd, Nat.reduceSub, Nat.reduceEqDiff, z0, sq, e4, lt, sn, et, er2]
        exact hK _ _ ⟨g8', some (.int z), some (rsD rs), some (.list (rs.flatten.map (pr true))), rfl, by omega⟩
      · have lt : ¬ (1 : Int) < c := by omega
        simp only [pVar, pC, pOp, pUn, pNeg_i, pAdd_ii, pAdd_ss, pAdd_tt, pAdd_ll, pSub_ii, pLt_ii, pLe_ii, pGt_ii, pGe_ii, pDiv_ii, pMod_ii, pPow_ii, pMul_ii, pMul_li, pEq_a, pNe_a, isNP_i, isNP_s, isNP_b, isNP_l, isNP_t, isNP_n, pIsN_n, pNotN_n, pIx_s, pIx_t, pIx_l, boolP_b, truP_b, truP_n, truP_i, truP_l, truP_t, pTru, pBool, pNotT, pAndT, pOrT, pYes, pAndV, pOrV, pNotV, pIf, pNil, pCons, pTup, pLst, pCB, pLen_s, pLen_l, pLen_t, pAbs_i, pInt_i, pInt_b, pMin2_ii, pMax2_ii, pListOf_1, pTupOf_1, pAll_l, pAny_l, pSrt_l, pSS, pLR, tyP_n, tyP_b, tyP_i, tyP_s, tyP_l, tyP_t, pIsi, pIsi2, isTy, pChain, pRev, revP_t, pAug, augP_ii, pBestMin_1, pBestMax_1, pUnp, pgNames, pSSZ, lstP_l, pSrtZ_1, srtD_i, pNoP, intP_i, pPart, slP_t, slP_l, pSl, pCall, pCallK, pBor, bor_bool, pItS, rg1, rg2, pRng1, pRng2, zp_t, zp_l, pZip, en1_1, pEnum, seqD_l, seqD_t, pgName, pgNil, pgCons, pgTup, pgSeq, wipeE, pLc, pLc2, pNext, pSeq, pBreak, pCont, pRet, pRetN, pExpr, pIfS, pAsg, pPar, appP, pApp, setP, pSet, pFor, pWhile, endP_n, endP_r, runP, runPB, bd_ret, bd_bad, ofO_some, ofO_none, gpm, List.filterMap_cons, List.filterMap_nil, eqD_ii, eqD_ss, eqD_bb, eqD_nn, eqD_in, eqD_ni, eqD_bn, eqD_nb, eqD_sn, eqD_ns, eqD_is, eqD_si, eqD_bs, eqD_sb, Option.map_some, Option.map_none, Option.bind_some, Option.bind_none, List.getElem?_cons_zero, List.getElem?_cons_succ, List.set_cons_zero, List.set_cons_succ, List.map_cons, List.map_nil, List.replicate, List.cons_append, List.nil_append, List.append_nil, List.length_cons, List.length_nil, List.length_map, atI_0, atI_1, atI_2, atI_3, atI_4, atI_5, decide_eq_true_eq, Bool.not_true, Bool.not_false, Bool.true_and, Bool.false_and, Bool.and_true, Bool.and_false, Bool.or_true, Bool.true_or, Bool.or_false, Bool.false_or, Bool.false_eq_true, Bool.not_eq_true', decide_eq_false_iff_not, ↓reduceIte, decide_true, decide_false, reduceCtorEq, Nat.reduceAdd, Nat.reduceSub, Nat.reduceEqDiff, z0, sq, e4, lt]
        exact hK _ _ ⟨g8', some (.int z), some (rsD rs), some (.list (rs.flatten.map (pr true))), rfl, by omega⟩)
    (upto 3) _ (n + 1) _ ⟨g8, none, none, none, rfl, by rw [upto_len]; show n + 1 + 60 * 3 ≤ n + 190; omega⟩ fun E k ⟨g8, g12, g13, g14, e, hk⟩ => ?_
  subst e
  simp only [pVar, pC, pOp, pUn, pNeg_i, pAdd_ii, pAdd_ss, pAdd_tt, pAdd_ll, pSub_ii, pLt_ii, pLe_ii, pGt_ii, pGe_ii, pDiv_ii, pMod_ii, pPow_ii, pMul_ii, pMul_li, pEq_a, pNe_a, isNP_i, isNP_s, isNP_b, isNP_l, isNP_t, isNP_n, pIsN_n, pNotN_n, pIx_s, pIx_t, pIx_l, boolP_b, truP_b, truP_n, truP_i, truP_l, truP_t, pTru, pBool, pNotT, pAndT, pOrT, pYes, pAndV, pOrV, pNotV, pIf, pNil, pCons, pTup, pLst, pCB, pLen_s, pLen_l, pLen_t, pAbs_i, pInt_i, pInt_b, pMin2_ii, pMax2_ii, pListOf_1, pTupOf_1, pAll_l, pAny_l, pSrt_l, pSS, pLR, tyP_n, tyP_b, tyP_i, tyP_s, tyP_l, tyP_t, pIsi, pIsi2, isTy, pChain, pRev, revP_t, pAug, augP_ii, pBestMin_1, pBestMax_1, pUnp, pgNames, pSSZ, lstP_l, pSrtZ_1, srtD_i, pNoP, intP_i, pPart, slP_t, slP_l, pSl, pCall, pCallK, pBor, bor_bool, pItS, rg1, rg2, pRng1, pRng2, zp_t, zp_l, pZip, en1_1, pEnum, seqD_l, seqD_t, pgName, pgNil, pgCons, pgTup, pgSeq, wipeE, pLc, pLc2, pNext, pSeq, pBreak, pCont, pRet, pRetN, pExpr, pIfS, pAsg, pPar, appP, pApp, setP, pSet, pFor, pWhile, endP_n, endP_r, runP, runPB, bd_ret, bd_bad, ofO_some, ofO_none, gpm, List.filterMap_cons, List.filterMap_nil, eqD_ii, eqD_ss, eqD_bb, eqD_nn, eqD_in, eqD_ni, eqD_bn, eqD_nb, eqD_sn, eqD_ns, eqD_is, eqD_si, eqD_bs, eqD_sb, Option.map_some, Option.map_none, Option.bind_some, Option.bind_none, List.getElem?_cons_zero, List.getElem?_cons_succ, List.set_cons_zero, List.set_cons_succ, List.map_cons, List.map_nil, List.replicate, List.cons_append, List.nil_append, List.append_nil, List.length_cons, List.length_nil, List.length_map, atI_0, atI_1, atI_2, atI_3, atI_4, atI_5, decide_eq_true_eq, Bool.not_true, Bool.not_false, Bool.true_and, Bool.false_and, Bool.and_true, Bool.and_false, Bool.or_true, Bool.true_or, Bool.or_false, Bool.false_or, Bool.false_eq_true, Bool.not_eq_true', decide_eq_false_iff_not, ↓reduceIte, decide_true, decide_false, reduceCtorEq, Nat.reduceAdd, Nat.reduceSub, Nat.reduceEqDiff]
  exact h k (by simp at hk; omega)
end P
namespace P
open PySem L2 Z Y
theorem right_z {M : Mem} {l n : Nat} (hB : ZL.BoxOk M l n) (hn : n ≤ 2 ^ 29) : ∃ M', m_law_right [.loc l] M = some (.d (.bool true), M') ∧ ZL.BoxOk M' l ((n + 200 : Nat) : Int) := by
  obtain ⟨x, M', n', e, _, B, rfl, hn'⟩ := sfb_law_right l M n [] (fun x n' => x = .bool true ∧ n' ≤ n + 200) hB (right_wp hn fun n' h => ⟨rfl, h⟩)
  exact ⟨M', e, B.mono (by omega)⟩
theorem rng1_ok {fa : Fa} {Γ : Gm} {M M' : Mem} {i : Int} {k : Nat} (e : fa Γ M = some ([.d (.int i)], M')) (h1 : -(2 ^ 62) ≤ i) (h2 : i < 2 ^ 62) (h3 : i.toNat = k) : fRng1 fa Γ M = some ((rng 0 k, none), M') := by
  unfold fRng1
  rw [e, Option.bind_some]
  show (if -(2 ^ 62) ≤ i ∧ i < 2 ^ 62 then some ((rng 0 i.toNat, none), M') else none) = _
  rw [if_pos ⟨h1, h2⟩, h3]
theorem laps_ok {l : Nat} {s : SV} {k : Option SV} {all : List SV} : ∀ (xs acc : List SV) (M : Mem) (n : Nat) (g : Option SV), ZL.BoxOk M l n → n + 200 * xs.length ≤ 2 ^ 29 → acc.length + xs.length ≤ sizeLine →
    ∃ M', lcF none all [3] (tgName 3) fYes (fCall 1 m_law_right (fCons (fVar 2) fNil)) xs acc [some s, k, some (.loc l), g] M = some (acc ++ xs.map fun _ => .d (.bool true), M')
  | [], acc, M, n, g, _, _, _ => ⟨M, by unfold lcF; rw [if_pos kept_none]; simp⟩
  | x :: r, acc, M, n, g, hB, hn, hz => by
    rw [List.length_cons] at hn hz
    obtain ⟨M1, e1, B1⟩ := right_z hB (by omega)
    obtain ⟨M2, e2⟩ := laps_ok r (acc ++ [.d (.bool true)]) M1 (n + 200) g B1 (by omega) (by rw [List.length_append, List.length_singleton]; omega)
    refine ⟨M2, ?_⟩
    unfold lcF
    rw [if_pos kept_none]
    have hz2 : acc.length < sizeLine := by omega
    simp only [fVar, fC, fOp, fUn, fTru, fBool, fNotT, fAndT, fOrT, fAndV, fOrV, fNotV, fIf, fNil, fCons, fTup, fLst, fLstM, mkT, mkL, fCB, fCall, fCallK, arity, fSl, fNoP, fPart, fIsi, fIsi2, fNext, fSeq, fBreak, fCont, fRet, fRetN, fExpr, fIfS, fAsg, fPar, tgName, tgNil, tgCons, tgTup, tgSeq, tgSub, fBM, fFor, fLc, fLcM, fRng1, fRng2, fItS, fZip, fYes, fChain, boolOf, truth, intOf, gI, gIC, gAdd, Z.gSub, gMul, gDiv, gMod, gLt, gLe, gGt, gGe, gNeg, gEq, gNe, gIsN, gNotN, isN, gIn, gIx, gSl, gLen, gAbs, gInt, gMin2, gMax2, gListOf, gListM, gTupOf, gAll, gAny, boolsOf, gApp, stL, tyOk, tyS, isTy, rdD, seqD, seqOf, lstOf, tupOf, allD, allD_map, eqD_ii, eqD_ss, eqD_bb, eqD_nn, eqD_in, eqD_ni, eqD_bn, eqD_nb, eqD_sn, eqD_ns, eqD_is, eqD_si, eqD_bs, eqD_sb, eqD_tt, eqD_ll, gpm, ↓to_bnd, ↓to_bmp, bnd_some, bnd_none, bmp_some, bmp_none, List.getElem?_cons_zero, List.getElem?_cons_succ, List.set_cons_zero, List.set_cons_succ, List.map_cons, List.map_nil, List.replicate, List.cons_append, List.nil_append, List.append_nil, List.length_cons, List.length_nil, atI_0, atI_1, atI_2, atI_3, atI_4, atI_5, ixN_30, ixN_31, ixN_32, decide_eq_true_eq, Bool.not_true, Bool.not_false, Bool.true_and, Bool.false_and, Bool.and_true, Bool.and_false, Bool.or_true, Bool.true_or, Bool.or_false, Bool.false_or, Bool.false_eq_true, ↓reduceIte, decide_true, decide_false, reduceCtorEq, Nat.reduceAdd, Nat.reduceSub, Nat.reduceEqDiff, wipeG, e1, hz2]
    simp only [List.append_assoc, List.singleton_append] at e2
    exact e2
theorem law_true (ns : List Int) (h : ns.length ≤ 63) : ∃ M', m_law [scr ns] [] = some (.d (.bool true), M') := by
  obtain ⟨j, hj, hr⟩ : ∃ j : Nat, j ≤ 64 ∧ (fRng1 (fCons (fOp gAdd (fC (.int 1)) (fCB gMin2 (fCons (fC (.int 1)) (fCons (fCB gLen (fCons (fVar 0) fNil)) fNil)))) fNil)) [some (scr ns), none, none, none] [] = some ((rng 0 j, none), []) := by
    by_cases q : (ns.length : Int) < 1
    · refine ⟨1 + ns.length, by omega, rng1_ok (i := 1 + (ns.length : Int)) ?_ (by omega) (by omega) (by omega)⟩
      simp only [fVar, fC, fOp, fUn, fTru, fBool, fNotT, fAndT, fOrT, fAndV, fOrV, fNotV, fIf, fNil, fCons, fTup, fLst, fLstM, mkT, mkL, fCB, fCall, fCallK, arity, fSl, fNoP, fPart, fIsi, fIsi2, fNext, fSeq, fBreak, fCont, fRet, fRetN, fExpr, fIfS, fAsg, fPar, tgName, tgNil, tgCons, tgTup, tgSeq, tgSub, fBM, fFor, fLc, fLcM, fRng1, fRng2, fItS, fZip, fYes, fChain, boolOf, truth, intOf, gI, gIC, gAdd, Z.gSub, gMul, gDiv, gMod, gLt, gLe, gGt, gGe, gNeg, gEq, gNe, gIsN, gNotN, isN, gIn, gIx, gSl, gLen, gAbs, gInt, gMin2, gMax2, gListOf, gListM, gTupOf, gAll, gAny, boolsOf, gApp, stL, tyOk, tyS, isTy, rdD, seqD, seqOf, lstOf, tupOf, allD, allD_map, eqD_ii, eqD_ss, eqD_bb, eqD_nn, eqD_in, eqD_ni, eqD_bn, eqD_nb, eqD_sn, eqD_ns, eqD_is, eqD_si, eqD_bs, eqD_sb, eqD_tt, eqD_ll, gpm, ↓to_bnd, ↓to_bmp, bnd_some, bnd_none, bmp_some, bmp_none, List.getElem?_cons_zero, List.getElem?_cons_succ, List.set_cons_zero, List.set_cons_succ, List.map_cons, List.map_nil, List.replicate, List.cons_append, List.nil_append, List.append_nil, List.length_cons, List.length_nil, atI_0, atI_1, atI_2, atI_3, atI_4, atI_5, ixN_30, ixN_31, ixN_32, decide_eq_true_eq, Bool.not_true, Bool.not_false, Bool.true_and, Bool.false_and, Bool.and_true, Bool.and_false, Bool.or_true, Bool.true_or, Bool.or_false, Bool.false_or, Bool.false_eq_true, ↓reduceIte, decide_true, decide_false, reduceCtorEq, Nat.reduceAdd, Nat.reduceSub, Nat.reduceEqDiff, scr, List.length_map, q]
    · refine ⟨2, by omega, rng1_ok (i := 1 + 1) ?_ (by omega) (by omega) (by omega)⟩
      simp only [fVar, fC, fOp, fUn, fTru, fBool, fNotT, fAndT, fOrT, fAndV, fOrV, fNotV, fIf, fNil, fCons, fTup, fLst, fLstM, mkT, mkL, fCB, fCall, fCallK, arity, fSl, fNoP, fPart, fIsi, fIsi2, fNext, fSeq, fBreak, fCont, fRet, fRetN, fExpr, fIfS, fAsg, fPar, tgName, tgNil, tgCons, tgTup, tgSeq, tgSub, fBM, fFor, fLc, fLcM, fRng1, fRng2, fItS, fZip, fYes, fChain, boolOf, truth, intOf, gI, gIC, gAdd, Z.gSub, gMul, gDiv, gMod, gLt, gLe, gGt, gGe, gNeg, gEq, gNe, gIsN, gNotN, isN, gIn, gIx, gSl, gLen, gAbs, gInt, gMin2, gMax2, gListOf, gListM, gTupOf, gAll, gAny, boolsOf, gApp, stL, tyOk, tyS, isTy, rdD, seqD, seqOf, lstOf, tupOf, allD, allD_map, eqD_ii, eqD_ss, eqD_bb, eqD_nn, eqD_in, eqD_ni, eqD_bn, eqD_nb, eqD_sn, eqD_ns, eqD_is, eqD_si, eqD_bs, eqD_sb, eqD_tt, eqD_ll, gpm, ↓to_bnd, ↓to_bmp, bnd_some, bnd_none, bmp_some, bmp_none, List.getElem?_cons_zero, List.getElem?_cons_succ, List.set_cons_zero, List.set_cons_succ, List.map_cons, List.map_nil, List.replicate, List.cons_append, List.nil_append, List.append_nil, List.length_cons, List.length_nil, atI_0, atI_1, atI_2, atI_3, atI_4, atI_5, ixN_30, ixN_31, ixN_32, decide_eq_true_eq, Bool.not_true, Bool.not_false, Bool.true_and, Bool.false_and, Bool.and_true, Bool.and_false, Bool.or_true, Bool.true_or, Bool.or_false, Bool.false_or, Bool.false_eq_true, ↓reduceIte, decide_true, decide_false, reduceCtorEq, Nat.reduceAdd, Nat.reduceSub, Nat.reduceEqDiff, scr, List.length_map, q]
  have key := forF_inv (kp := none) (all := rng 0 j) (g := tgName 1) (body := b1_law) (fun r Γ N => (∃ g1 g2 g3, Γ = [some (scr ns), g1, g2, g3]) ∧ ∀ x ∈ r, ∃ k : Nat, k < 64 ∧ x = .d (.int k)) (fun _ _ _ _ => kept_none) (fun x r Γ N ⟨⟨g1, g2, g3, e⟩, hx⟩ => by
    subst e
    obtain ⟨k, hk, rfl⟩ := hx x List.mem_cons_self
    obtain ⟨M1, b1, _, _, b4⟩ := ZL.box2_ok kst_ok (ns := ns) (M := N) hk
    rw [← box_eq] at b1
    have e12 : fRng1 (fCons (fC (.int 6)) fNil) [some (scr ns), some (.d (.int k)), some (.loc N.length), g3] M1 = some ((rng 0 6, none), M1) := rng1_ok (i := 6) (k := 6) rfl (by omega) (by omega) rfl
    obtain ⟨M2, e2⟩ := laps_ok (s := scr ns) (k := some (.d (.int k))) (all := rng 0 6) (rng 0 6) [] M1 0 g3 b4 (by decide) (by decide)
    have e3 : boolsOf (((rng 0 6).map fun _ => SV.d (.bool true))) = some ((rng 0 6).map fun _ => true) := rfl
    have e4 : ((rng 0 6).map fun _ => true).all id = true := rfl
    have e5 : allD ((rng 0 6).map fun _ => SV.d (.bool true)) = some ((rng 0 6).map fun _ => PyData.bool true) := rfl
    have e6 : boolsOf (((rng 0 6).map fun _ => PyData.bool true).map SV.d) = some ((rng 0 6).map fun _ => true) := rfl
    refine ⟨_, _, [some (scr ns), some (.d (.int k)), some (.loc N.length), g3], M2, rfl, ?_, ⟨_, _, _, rfl⟩, fun y hy => hx y (List.mem_cons_of_mem _ hy)⟩
    unfold b1_law
    simp only [fVar, fC, fOp, fUn, fTru, fBool, fNotT, fAndT, fOrT, fAndV, fOrV, fNotV, fIf, fNil, fCons, fTup, fLst, fLstM, mkT, mkL, fCB, fCall, fCallK, arity, fSl, fNoP, fPart, fIsi, fIsi2, fNext, fSeq, fBreak, fCont, fRet, fRetN, fExpr, fIfS, fAsg, fPar, tgName, tgNil, tgCons, tgTup, tgSeq, tgSub, fBM, fFor, fLc, fLcM, fRng2, fItS, fZip, fYes, fChain, boolOf, truth, intOf, gI, gIC, gAdd, Z.gSub, gMul, gDiv, gMod, gLt, gLe, gGt, gGe, gNeg, gEq, gNe, gIsN, gNotN, isN, gIn, gIx, gSl, gLen, gAbs, gInt, gMin2, gMax2, gListOf, gListM, gTupOf, gAll, gAny, boolsOf, gApp, stL, tyOk, tyS, isTy, rdD, seqD, seqOf, lstOf, tupOf, allD, allD_map, eqD_ii, eqD_ss, eqD_bb, eqD_nn, eqD_in, eqD_ni, eqD_bn, eqD_nb, eqD_sn, eqD_ns, eqD_is, eqD_si, eqD_bs, eqD_sb, eqD_tt, eqD_ll, gpm, ↓to_bnd, ↓to_bmp, bnd_some, bnd_none, bmp_some, bmp_none, List.getElem?_cons_zero, List.getElem?_cons_succ, List.set_cons_zero, List.set_cons_succ, List.map_cons, List.map_nil, List.replicate, List.cons_append, List.nil_append, List.append_nil, List.length_cons, List.length_nil, atI_0, atI_1, atI_2, atI_3, atI_4, atI_5, ixN_30, ixN_31, ixN_32, decide_eq_true_eq, Bool.not_true, Bool.not_false, Bool.true_and, Bool.false_and, Bool.and_true, Bool.and_false, Bool.or_true, Bool.true_or, Bool.or_false, Bool.false_or, Bool.false_eq_true, ↓reduceIte, decide_true, decide_false, reduceCtorEq, Nat.reduceAdd, Nat.reduceSub, Nat.reduceEqDiff, b1, e12, e2, e5, e6, e4]) (rng 0 j) [some (scr ns), none, none, none] [] ⟨⟨_, _, _, rfl⟩, fun x hx => by
      unfold rng at hx
      obtain ⟨k, hk, rfl⟩ := List.mem_map.mp hx
      rw [List.mem_range] at hk
      exact ⟨k, by omega, by simp⟩⟩
  obtain ⟨Γ', M', e1, ⟨g1, g2, g3, rfl⟩, _⟩ := key
  obtain ⟨M2, et, _⟩ := trunc_cut ([] : Mem).length (.bool true) M'
  refine ⟨M2, ?_⟩
  unfold m_law runF
  rw [show ([scr ns].map some ++ List.replicate (4 - [scr ns].length) none) = [some (scr ns), none, none, none] from rfl]
  unfold fSeq fFor
  rw [hr, Option.bind_some]
  simp only
  rw [e1]
  simp only [Option.bind_some, fRet, fC, Option.map_some]
  rw [et]
end P
namespace P
open PySem L2 Z
theorem all_mk {l : PySem.W.OpenLaw} {w : World} {K : PySem.W.Frag} {h : Heap} {mg : Str → Option Value} {fa : Addr} (X : K.In h) (G : h.Ns mainGlobals mg) (hfa : mg "law" = some (.ref fa))
    {f0 : Addr} {od0 an0 : Option Addr} {sl0 : Array (Option Value)} {oc0 kV0 dc0 pm0 cd0 ct0 : Value}
    (a0 : PySem.W.nsIn K mainGlobals "law" = some (some (.ref f0))) (l0 : K.lookup f0 = some ⟨oc0, od0, .func (PySem.W.fnOf "law" "law" (defArgs s_law) (defBody s_law) (defScope s_law) .none kV0 dc0 pm0 an0 cd0 ct0), sl0⟩) (c0 : PySem.W.codeIn K cd0 "law" = true) (k0 : PySem.W.keepIn K (.ref f0) = true)
    {f1 : Addr} {od1 an1 : Option Addr} {sl1 : Array (Option Value)} {oc1 kV1 dc1 pm1 cd1 ct1 : Value}
    (a1 : PySem.W.nsIn K mainGlobals "_law_box" = some (some (.ref f1))) (l1 : K.lookup f1 = some ⟨oc1, od1, .func (PySem.W.fnOf "_law_box" "_law_box" (defArgs s_law_box) (defBody s_law_box) (defScope s_law_box) .none kV1 dc1 pm1 an1 cd1 ct1), sl1⟩) (c1 : PySem.W.codeIn K cd1 "_law_box" = true) (k1 : PySem.W.keepIn K (.ref f1) = true)
    {f2 : Addr} {od2 an2 : Option Addr} {sl2 : Array (Option Value)} {oc2 kV2 dc2 pm2 cd2 ct2 : Value}
    (a2 : PySem.W.nsIn K mainGlobals "joined" = some (some (.ref f2))) (l2 : K.lookup f2 = some ⟨oc2, od2, .func (PySem.W.fnOf "joined" "joined" (defArgs s_joined) (defBody s_joined) (defScope s_joined) .none kV2 dc2 pm2 an2 cd2 ct2), sl2⟩) (c2 : PySem.W.codeIn K cd2 "joined" = true) (k2 : PySem.W.keepIn K (.ref f2) = true)
    {f3 : Addr} {od3 an3 : Option Addr} {sl3 : Array (Option Value)} {oc3 kV3 dc3 pm3 cd3 ct3 : Value}
    (a3 : PySem.W.nsIn K mainGlobals "known_by" = some (some (.ref f3))) (l3 : K.lookup f3 = some ⟨oc3, od3, .func (PySem.W.fnOf "known_by" "known_by" (defArgs s_known_by) (defBody s_known_by) (defScope s_known_by) .none kV3 dc3 pm3 an3 cd3 ct3), sl3⟩) (c3 : PySem.W.codeIn K cd3 "known_by" = true) (k3 : PySem.W.keepIn K (.ref f3) = true)
    {f4 : Addr} {od4 an4 : Option Addr} {sl4 : Array (Option Value)} {oc4 kV4 dc4 pm4 cd4 ct4 : Value}
    (a4 : PySem.W.nsIn K mainGlobals "pairs_of" = some (some (.ref f4))) (l4 : K.lookup f4 = some ⟨oc4, od4, .func (PySem.W.fnOf "pairs_of" "pairs_of" (defArgs s_pairs_of) (defBody s_pairs_of) (defScope s_pairs_of) .none kV4 dc4 pm4 an4 cd4 ct4), sl4⟩) (c4 : PySem.W.codeIn K cd4 "pairs_of" = true) (k4 : PySem.W.keepIn K (.ref f4) = true)
    {f5 : Addr} {od5 an5 : Option Addr} {sl5 : Array (Option Value)} {oc5 kV5 dc5 pm5 cd5 ct5 : Value}
    (a5 : PySem.W.nsIn K mainGlobals "has_both" = some (some (.ref f5))) (l5 : K.lookup f5 = some ⟨oc5, od5, .func (PySem.W.fnOf "has_both" "has_both" (defArgs s_has_both) (defBody s_has_both) (defScope s_has_both) .none kV5 dc5 pm5 an5 cd5 ct5), sl5⟩) (c5 : PySem.W.codeIn K cd5 "has_both" = true) (k5 : PySem.W.keepIn K (.ref f5) = true)
    {f6 : Addr} {od6 an6 : Option Addr} {sl6 : Array (Option Value)} {oc6 kV6 dc6 pm6 cd6 ct6 : Value}
    (a6 : PySem.W.nsIn K mainGlobals "unknown_pairs" = some (some (.ref f6))) (l6 : K.lookup f6 = some ⟨oc6, od6, .func (PySem.W.fnOf "unknown_pairs" "unknown_pairs" (defArgs s_unknown_pairs) (defBody s_unknown_pairs) (defScope s_unknown_pairs) .none kV6 dc6 pm6 an6 cd6 ct6), sl6⟩) (c6 : PySem.W.codeIn K cd6 "unknown_pairs" = true) (k6 : PySem.W.keepIn K (.ref f6) = true)
    {f7 : Addr} {od7 an7 : Option Addr} {sl7 : Array (Option Value)} {oc7 kV7 dc7 pm7 cd7 ct7 : Value}
    (a7 : PySem.W.nsIn K mainGlobals "against" = some (some (.ref f7))) (l7 : K.lookup f7 = some ⟨oc7, od7, .func (PySem.W.fnOf "against" "against" (defArgs s_against) (defBody s_against) (defScope s_against) .none kV7 dc7 pm7 an7 cd7 ct7), sl7⟩) (c7 : PySem.W.codeIn K cd7 "against" = true) (k7 : PySem.W.keepIn K (.ref f7) = true)
    {f8 : Addr} {od8 an8 : Option Addr} {sl8 : Array (Option Value)} {oc8 kV8 dc8 pm8 cd8 ct8 : Value}
    (a8 : PySem.W.nsIn K mainGlobals "reaches" = some (some (.ref f8))) (l8 : K.lookup f8 = some ⟨oc8, od8, .func (PySem.W.fnOf "reaches" "reaches" (defArgs s_reaches) (defBody s_reaches) (defScope s_reaches) .none kV8 dc8 pm8 an8 cd8 ct8), sl8⟩) (c8 : PySem.W.codeIn K cd8 "reaches" = true) (k8 : PySem.W.keepIn K (.ref f8) = true)
    {f9 : Addr} {od9 an9 : Option Addr} {sl9 : Array (Option Value)} {oc9 kV9 dc9 pm9 cd9 ct9 : Value}
    (a9 : PySem.W.nsIn K mainGlobals "doublings" = some (some (.ref f9))) (l9 : K.lookup f9 = some ⟨oc9, od9, .func (PySem.W.fnOf "doublings" "doublings" (defArgs s_doublings) (defBody s_doublings) (defScope s_doublings) .none kV9 dc9 pm9 an9 cd9 ct9), sl9⟩) (c9 : PySem.W.codeIn K cd9 "doublings" = true) (k9 : PySem.W.keepIn K (.ref f9) = true)
    {f10 : Addr} {od10 an10 : Option Addr} {sl10 : Array (Option Value)} {oc10 kV10 dc10 pm10 cd10 ct10 : Value}
    (a10 : PySem.W.nsIn K mainGlobals "fewest_rounds" = some (some (.ref f10))) (l10 : K.lookup f10 = some ⟨oc10, od10, .func (PySem.W.fnOf "fewest_rounds" "fewest_rounds" (defArgs s_fewest_rounds) (defBody s_fewest_rounds) (defScope s_fewest_rounds) .none kV10 dc10 pm10 an10 cd10 ct10), sl10⟩) (c10 : PySem.W.codeIn K cd10 "fewest_rounds" = true) (k10 : PySem.W.keepIn K (.ref f10) = true)
    {f11 : Addr} {od11 an11 : Option Addr} {sl11 : Array (Option Value)} {oc11 kV11 dc11 pm11 cd11 ct11 : Value}
    (a11 : PySem.W.nsIn K mainGlobals "offsets" = some (some (.ref f11))) (l11 : K.lookup f11 = some ⟨oc11, od11, .func (PySem.W.fnOf "offsets" "offsets" (defArgs s_offsets) (defBody s_offsets) (defScope s_offsets) .none kV11 dc11 pm11 an11 cd11 ct11), sl11⟩) (c11 : PySem.W.codeIn K cd11 "offsets" = true) (k11 : PySem.W.keepIn K (.ref f11) = true)
    {f12 : Addr} {od12 an12 : Option Addr} {sl12 : Array (Option Value)} {oc12 kV12 dc12 pm12 cd12 ct12 : Value}
    (a12 : PySem.W.nsIn K mainGlobals "in_order" = some (some (.ref f12))) (l12 : K.lookup f12 = some ⟨oc12, od12, .func (PySem.W.fnOf "in_order" "in_order" (defArgs s_in_order) (defBody s_in_order) (defScope s_in_order) .none kV12 dc12 pm12 an12 cd12 ct12), sl12⟩) (c12 : PySem.W.codeIn K cd12 "in_order" = true) (k12 : PySem.W.keepIn K (.ref f12) = true)
    {f13 : Addr} {od13 an13 : Option Addr} {sl13 : Array (Option Value)} {oc13 kV13 dc13 pm13 cd13 ct13 : Value}
    (a13 : PySem.W.nsIn K mainGlobals "even_round" = some (some (.ref f13))) (l13 : K.lookup f13 = some ⟨oc13, od13, .func (PySem.W.fnOf "even_round" "even_round" (defArgs s_even_round) (defBody s_even_round) (defScope s_even_round) .none kV13 dc13 pm13 an13 cd13 ct13), sl13⟩) (c13 : PySem.W.codeIn K cd13 "even_round" = true) (k13 : PySem.W.keepIn K (.ref f13) = true)
    {f14 : Addr} {od14 an14 : Option Addr} {sl14 : Array (Option Value)} {oc14 kV14 dc14 pm14 cd14 ct14 : Value}
    (a14 : PySem.W.nsIn K mainGlobals "rounds_plan" = some (some (.ref f14))) (l14 : K.lookup f14 = some ⟨oc14, od14, .func (PySem.W.fnOf "rounds_plan" "rounds_plan" (defArgs s_rounds_plan) (defBody s_rounds_plan) (defScope s_rounds_plan) .none kV14 dc14 pm14 an14 cd14 ct14), sl14⟩) (c14 : PySem.W.codeIn K cd14 "rounds_plan" = true) (k14 : PySem.W.keepIn K (.ref f14) = true)
    {f15 : Addr} {od15 an15 : Option Addr} {sl15 : Array (Option Value)} {oc15 kV15 dc15 pm15 cd15 ct15 : Value}
    (a15 : PySem.W.nsIn K mainGlobals "is_number" = some (some (.ref f15))) (l15 : K.lookup f15 = some ⟨oc15, od15, .func (PySem.W.fnOf "is_number" "is_number" (defArgs s_is_number) (defBody s_is_number) (defScope s_is_number) .none kV15 dc15 pm15 an15 cd15 ct15), sl15⟩) (c15 : PySem.W.codeIn K cd15 "is_number" = true) (k15 : PySem.W.keepIn K (.ref f15) = true)
    {f16 : Addr} {od16 an16 : Option Addr} {sl16 : Array (Option Value)} {oc16 kV16 dc16 pm16 cd16 ct16 : Value}
    (a16 : PySem.W.nsIn K mainGlobals "is_pair" = some (some (.ref f16))) (l16 : K.lookup f16 = some ⟨oc16, od16, .func (PySem.W.fnOf "is_pair" "is_pair" (defArgs s_is_pair) (defBody s_is_pair) (defScope s_is_pair) .none kV16 dc16 pm16 an16 cd16 ct16), sl16⟩) (c16 : PySem.W.codeIn K cd16 "is_pair" = true) (k16 : PySem.W.keepIn K (.ref f16) = true)
    {f17 : Addr} {od17 an17 : Option Addr} {sl17 : Array (Option Value)} {oc17 kV17 dc17 pm17 cd17 ct17 : Value}
    (a17 : PySem.W.nsIn K mainGlobals "is_round" = some (some (.ref f17))) (l17 : K.lookup f17 = some ⟨oc17, od17, .func (PySem.W.fnOf "is_round" "is_round" (defArgs s_is_round) (defBody s_is_round) (defScope s_is_round) .none kV17 dc17 pm17 an17 cd17 ct17), sl17⟩) (c17 : PySem.W.codeIn K cd17 "is_round" = true) (k17 : PySem.W.keepIn K (.ref f17) = true)
    {f18 : Addr} {od18 an18 : Option Addr} {sl18 : Array (Option Value)} {oc18 kV18 dc18 pm18 cd18 ct18 : Value}
    (a18 : PySem.W.nsIn K mainGlobals "shows_rounds" = some (some (.ref f18))) (l18 : K.lookup f18 = some ⟨oc18, od18, .func (PySem.W.fnOf "shows_rounds" "shows_rounds" (defArgs s_shows_rounds) (defBody s_shows_rounds) (defScope s_shows_rounds) .none kV18 dc18 pm18 an18 cd18 ct18), sl18⟩) (c18 : PySem.W.codeIn K cd18 "shows_rounds" = true) (k18 : PySem.W.keepIn K (.ref f18) = true)
    {f19 : Addr} {od19 an19 : Option Addr} {sl19 : Array (Option Value)} {oc19 kV19 dc19 pm19 cd19 ct19 : Value}
    (a19 : PySem.W.nsIn K mainGlobals "_law_take" = some (some (.ref f19))) (l19 : K.lookup f19 = some ⟨oc19, od19, .func (PySem.W.fnOf "_law_take" "_law_take" (defArgs s_law_take) (defBody s_law_take) (defScope s_law_take) .none kV19 dc19 pm19 an19 cd19 ct19), sl19⟩) (c19 : PySem.W.codeIn K cd19 "_law_take" = true) (k19 : PySem.W.keepIn K (.ref f19) = true)
    {f20 : Addr} {od20 an20 : Option Addr} {sl20 : Array (Option Value)} {oc20 kV20 dc20 pm20 cd20 ct20 : Value}
    (a20 : PySem.W.nsIn K mainGlobals "_law_drawn_rounds" = some (some (.ref f20))) (l20 : K.lookup f20 = some ⟨oc20, od20, .func (PySem.W.fnOf "_law_drawn_rounds" "_law_drawn_rounds" (defArgs s_law_drawn_rounds) (defBody s_law_drawn_rounds) (defScope s_law_drawn_rounds) .none kV20 dc20 pm20 an20 cd20 ct20), sl20⟩) (c20 : PySem.W.codeIn K cd20 "_law_drawn_rounds" = true) (k20 : PySem.W.keepIn K (.ref f20) = true)
    {f21 : Addr} {od21 an21 : Option Addr} {sl21 : Array (Option Value)} {oc21 kV21 dc21 pm21 cd21 ct21 : Value}
    (a21 : PySem.W.nsIn K mainGlobals "_law_right" = some (some (.ref f21))) (l21 : K.lookup f21 = some ⟨oc21, od21, .func (PySem.W.fnOf "_law_right" "_law_right" (defArgs s_law_right) (defBody s_law_right) (defScope s_law_right) .none kV21 dc21 pm21 an21 cd21 ct21), sl21⟩) (c21 : PySem.W.codeIn K cd21 "_law_right" = true) (k21 : PySem.W.keepIn K (.ref f21) = true)
    (z_abs : PySem.W.nsIn K mainGlobals "abs" = some none)
    (z_all : PySem.W.nsIn K mainGlobals "all" = some none)
    (z_any : PySem.W.nsIn K mainGlobals "any" = some none)
    (z_bool : PySem.W.nsIn K mainGlobals "bool" = some none)
    (z_int : PySem.W.nsIn K mainGlobals "int" = some none)
    (z_isinstance : PySem.W.nsIn K mainGlobals "isinstance" = some none)
    (z_len : PySem.W.nsIn K mainGlobals "len" = some none)
    (z_list : PySem.W.nsIn K mainGlobals "list" = some none)
    (z_max : PySem.W.nsIn K mainGlobals "max" = some none)
    (z_min : PySem.W.nsIn K mainGlobals "min" = some none)
    (z_range : PySem.W.nsIn K mainGlobals "range" = some none)
    (z_set : PySem.W.nsIn K mainGlobals "set" = some none)
    (z_sorted : PySem.W.nsIn K mainGlobals "sorted" = some none)
    (z_tuple : PySem.W.nsIn K mainGlobals "tuple" = some none)
    : ∃ fd : FuncData, (∀ (s : Shared) (v : Value), BindsTo s fd ⟨[v], []⟩ [("_law_script", v)]) ∧ ∀ base : Heap, K.In base → base.Ns mainGlobals mg → FnOk l.prog w K mg base CX0 11 fa fd ["_law_script"] (spF K 1 m_law) := by
  have e := hfa.symm.trans (PySem.W.mg_of X G a0)
  cases e
  have T : Txt mg := ⟨PySem.W.mg_none_of X G z_abs, PySem.W.mg_none_of X G z_all, PySem.W.mg_none_of X G z_any, PySem.W.mg_none_of X G z_bool, PySem.W.mg_none_of X G z_int, PySem.W.mg_none_of X G z_isinstance, PySem.W.mg_none_of X G z_len, PySem.W.mg_none_of X G z_list, PySem.W.mg_none_of X G z_max, PySem.W.mg_none_of X G z_min, PySem.W.mg_none_of X G z_range, PySem.W.mg_none_of X G z_set, PySem.W.mg_none_of X G z_sorted, PySem.W.mg_none_of X G z_tuple⟩
  let D_law : Df K mg "law" "law" s_law ["_law_script"] := ⟨_, _, fun_mk (st := s_law) l0 c0 k0, PySem.W.mg_of X G a0, (fun_mk (st := s_law) l0 c0 k0).binds (ps := ["_law_script"]) fun _ _ _ _ _ _ us hl => match us, hl with | [_], _ => rfl⟩
  have D_law_box : Df K mg "_law_box" "_law_box" s_law_box ["_law_script", "_law_k"] := ⟨_, _, fun_mk (st := s_law_box) l1 c1 k1, PySem.W.mg_of X G a1, (fun_mk (st := s_law_box) l1 c1 k1).binds (ps := ["_law_script", "_law_k"]) fun _ _ _ _ _ _ us hl => match us, hl with | [_, _], _ => rfl⟩
  have D_joined : Df K mg "joined" "joined" s_joined ["had", "others"] := ⟨_, _, fun_mk (st := s_joined) l2 c2 k2, PySem.W.mg_of X G a2, (fun_mk (st := s_joined) l2 c2 k2).binds (ps := ["had", "others"]) fun _ _ _ _ _ _ us hl => match us, hl with | [_, _], _ => rfl⟩
  have D_known_by : Df K mg "known_by" "known_by" s_known_by ["people", "way", "plan"] := ⟨_, _, fun_mk (st := s_known_by) l3 c3 k3, PySem.W.mg_of X G a3, (fun_mk (st := s_known_by) l3 c3 k3).binds (ps := ["people", "way", "plan"]) fun _ _ _ _ _ _ us hl => match us, hl with | [_, _, _], _ => rfl⟩
  have D_pairs_of : Df K mg "pairs_of" "pairs_of" s_pairs_of ["members"] := ⟨_, _, fun_mk (st := s_pairs_of) l4 c4 k4, PySem.W.mg_of X G a4, (fun_mk (st := s_pairs_of) l4 c4 k4).binds (ps := ["members"]) fun _ _ _ _ _ _ us hl => match us, hl with | [_], _ => rfl⟩
  have D_has_both : Df K mg "has_both" "has_both" s_has_both ["seen", "pair"] := ⟨_, _, fun_mk (st := s_has_both) l5 c5 k5, PySem.W.mg_of X G a5, (fun_mk (st := s_has_both) l5 c5 k5).binds (ps := ["seen", "pair"]) fun _ _ _ _ _ _ us hl => match us, hl with | [_, _], _ => rfl⟩
  have D_unknown_pairs : Df K mg "unknown_pairs" "unknown_pairs" s_unknown_pairs ["people", "way", "plan"] := ⟨_, _, fun_mk (st := s_unknown_pairs) l6 c6 k6, PySem.W.mg_of X G a6, (fun_mk (st := s_unknown_pairs) l6 c6 k6).binds (ps := ["people", "way", "plan"]) fun _ _ _ _ _ _ us hl => match us, hl with | [_, _, _], _ => rfl⟩
  have D_against : Df K mg "against" "against" s_against ["people", "way", "plan", "goal"] := ⟨_, _, fun_mk (st := s_against) l7 c7 k7, PySem.W.mg_of X G a7, (fun_mk (st := s_against) l7 c7 k7).binds (ps := ["people", "way", "plan", "goal"]) fun _ _ _ _ _ _ us hl => match us, hl with | [_, _, _, _], _ => rfl⟩
  have D_reaches : Df K mg "reaches" "reaches" s_reaches ["people", "way", "plan", "goal"] := ⟨_, _, fun_mk (st := s_reaches) l8 c8 k8, PySem.W.mg_of X G a8, (fun_mk (st := s_reaches) l8 c8 k8).binds (ps := ["people", "way", "plan", "goal"]) fun _ _ _ _ _ _ us hl => match us, hl with | [_, _, _, _], _ => rfl⟩
  have D_doublings : Df K mg "doublings" "doublings" s_doublings ["people"] := ⟨_, _, fun_mk (st := s_doublings) l9 c9 k9, PySem.W.mg_of X G a9, (fun_mk (st := s_doublings) l9 c9 k9).binds (ps := ["people"]) fun _ _ _ _ _ _ us hl => match us, hl with | [_], _ => rfl⟩
  have D_fewest_rounds : Df K mg "fewest_rounds" "fewest_rounds" s_fewest_rounds ["people"] := ⟨_, _, fun_mk (st := s_fewest_rounds) l10 c10 k10, PySem.W.mg_of X G a10, (fun_mk (st := s_fewest_rounds) l10 c10 k10).binds (ps := ["people"]) fun _ _ _ _ _ _ us hl => match us, hl with | [_], _ => rfl⟩
  have D_offsets : Df K mg "offsets" "offsets" s_offsets ["many"] := ⟨_, _, fun_mk (st := s_offsets) l11 c11 k11, PySem.W.mg_of X G a11, (fun_mk (st := s_offsets) l11 c11 k11).binds (ps := ["many"]) fun _ _ _ _ _ _ us hl => match us, hl with | [_], _ => rfl⟩
  have D_in_order : Df K mg "in_order" "in_order" s_in_order ["pair"] := ⟨_, _, fun_mk (st := s_in_order) l12 c12 k12, PySem.W.mg_of X G a12, (fun_mk (st := s_in_order) l12 c12 k12).binds (ps := ["pair"]) fun _ _ _ _ _ _ us hl => match us, hl with | [_], _ => rfl⟩
  have D_even_round : Df K mg "even_round" "even_round" s_even_round ["people", "offset"] := ⟨_, _, fun_mk (st := s_even_round) l13 c13 k13, PySem.W.mg_of X G a13, (fun_mk (st := s_even_round) l13 c13 k13).binds (ps := ["people", "offset"]) fun _ _ _ _ _ _ us hl => match us, hl with | [_, _], _ => rfl⟩
  have D_rounds_plan : Df K mg "rounds_plan" "rounds_plan" s_rounds_plan ["people"] := ⟨_, _, fun_mk (st := s_rounds_plan) l14 c14 k14, PySem.W.mg_of X G a14, (fun_mk (st := s_rounds_plan) l14 c14 k14).binds (ps := ["people"]) fun _ _ _ _ _ _ us hl => match us, hl with | [_], _ => rfl⟩
  have D_is_number : Df K mg "is_number" "is_number" s_is_number ["thing"] := ⟨_, _, fun_mk (st := s_is_number) l15 c15 k15, PySem.W.mg_of X G a15, (fun_mk (st := s_is_number) l15 c15 k15).binds (ps := ["thing"]) fun _ _ _ _ _ _ us hl => match us, hl with | [_], _ => rfl⟩
  have D_is_pair : Df K mg "is_pair" "is_pair" s_is_pair ["people", "thing"] := ⟨_, _, fun_mk (st := s_is_pair) l16 c16 k16, PySem.W.mg_of X G a16, (fun_mk (st := s_is_pair) l16 c16 k16).binds (ps := ["people", "thing"]) fun _ _ _ _ _ _ us hl => match us, hl with | [_, _], _ => rfl⟩
  have D_is_round : Df K mg "is_round" "is_round" s_is_round ["people", "thing"] := ⟨_, _, fun_mk (st := s_is_round) l17 c17 k17, PySem.W.mg_of X G a17, (fun_mk (st := s_is_round) l17 c17 k17).binds (ps := ["people", "thing"]) fun _ _ _ _ _ _ us hl => match us, hl with | [_, _], _ => rfl⟩
  have D_shows_rounds : Df K mg "shows_rounds" "shows_rounds" s_shows_rounds ["people", "thing"] := ⟨_, _, fun_mk (st := s_shows_rounds) l18 c18 k18, PySem.W.mg_of X G a18, (fun_mk (st := s_shows_rounds) l18 c18 k18).binds (ps := ["people", "thing"]) fun _ _ _ _ _ _ us hl => match us, hl with | [_, _], _ => rfl⟩
  have D_law_take : Df K mg "_law_take" "_law_take" s_law_take ["_law_box_here", "_law_span"] := ⟨_, _, fun_mk (st := s_law_take) l19 c19 k19, PySem.W.mg_of X G a19, (fun_mk (st := s_law_take) l19 c19 k19).binds (ps := ["_law_box_here", "_law_span"]) fun _ _ _ _ _ _ us hl => match us, hl with | [_, _], _ => rfl⟩
  have D_law_drawn_rounds : Df K mg "_law_drawn_rounds" "_law_drawn_rounds" s_law_drawn_rounds ["_law_box_here", "_law_crowd", "_law_many"] := ⟨_, _, fun_mk (st := s_law_drawn_rounds) l20 c20 k20, PySem.W.mg_of X G a20, (fun_mk (st := s_law_drawn_rounds) l20 c20 k20).binds (ps := ["_law_box_here", "_law_crowd", "_law_many"]) fun _ _ _ _ _ _ us hl => match us, hl with | [_, _, _], _ => rfl⟩
  have D_law_right : Df K mg "_law_right" "_law_right" s_law_right ["_law_box_here"] := ⟨_, _, fun_mk (st := s_law_right) l21 c21 k21, PySem.W.mg_of X G a21, (fun_mk (st := s_law_right) l21 c21 k21).binds (ps := ["_law_box_here"]) fun _ _ _ _ _ _ us hl => match us, hl with | [_], _ => rfl⟩
  exact ⟨PySem.W.fnOf "law" "law" (defArgs s_law) (defBody s_law) (defScope s_law) .none kV0 dc0 pm0 an0 cd0 ct0, fun s v => .of_eq rfl, fun base _ _ => ok_law D_law D_law_box D_joined D_known_by D_pairs_of D_has_both D_unknown_pairs D_against D_reaches D_doublings D_fewest_rounds D_offsets D_in_order D_even_round D_rounds_plan D_is_number D_is_pair D_is_round D_shows_rounds D_law_take D_law_drawn_rounds D_law_right T⟩
theorem walk {l : PySem.W.OpenLaw} {q : Program} {loose : List Str} {XP : (Str → Option Value) → Heap → Prop} {YP : World → Heap → Prop} {d : DefRec} {K : Params → PySem.W.Frag} (hn : l.most = some 63) (hdf : d.params.defaults = [])
    (hY : ∀ (w : World) (h : Heap), YP w h → (K w.params).In h)
    (F : ∀ (w : World) (mg : Str → Option Value) (fa : Addr) (h : Heap), (K w.params).In h → h.Ns mainGlobals mg → mg d.name = some (.ref fa) →
      ∃ fd : FuncData, (∀ (s : Shared) (u : Value), BindsTo s fd ⟨[u], []⟩ [("_law_script", u)]) ∧ ∀ base : Heap, (K w.params).In base → base.Ns mainGlobals mg → FnOk l.prog w (K w.params) mg base CX0 11 fa fd ["_law_script"] (spF (K w.params) 1 m_law)) :
    PySem.W.WalkO q loose XP YP l.row.toRowW d [] (fun f vs => PySem.call f vs) :=
  L2.walk_of (n := 63) (k := 11) (x := "_law_script") (CX := fun _ => CX0) (sp := fun w => spF (K w.params) 1 m_law) hn (by decide) hdf ⟨rfl, by decide, by decide⟩ hY F (fun _ _ a ns hl _ hS => law_end (law_true ns hl) hS) fun _ _ _ _ _ z => z
end P
open PySem PySem.W PyProof.Rows in
set_option maxRecDepth 100000 in
set_option maxHeartbeats 0 in
theorem PySem.Challenge.cw_hiddenforks_k76_whole_rounds_holds : PySem.Challenge.rw_hiddenforks_k76_whole_rounds.Holds := by
  w_on; o_law; k_head; (case hw => w_witness2)
  k_fill
  refine P.walk (l := PySem.Challenge.rw_hiddenforks_k76_whole_rounds) rfl rfl (fun w h Y => PySem.W.kIn_of Y) ?F
  case F =>
    intro w mg fa h KX G hmg
    refine' P.all_mk KX G hmg ?a0 ?l0 ?c0 ?k0 ?a1 ?l1 ?c1 ?k1 ?a2 ?l2 ?c2 ?k2 ?a3 ?l3 ?c3 ?k3 ?a4 ?l4 ?c4 ?k4 ?a5 ?l5 ?c5 ?k5 ?a6 ?l6 ?c6 ?k6 ?a7 ?l7 ?c7 ?k7 ?a8 ?l8 ?c8 ?k8 ?a9 ?l9 ?c9 ?k9 ?a10 ?l10 ?c10 ?k10 ?a11 ?l11 ?c11 ?k11 ?a12 ?l12 ?c12 ?k12 ?a13 ?l13 ?c13 ?k13 ?a14 ?l14 ?c14 ?k14 ?a15 ?l15 ?c15 ?k15 ?a16 ?l16 ?c16 ?k16 ?a17 ?l17 ?c17 ?k17 ?a18 ?l18 ?c18 ?k18 ?a19 ?l19 ?c19 ?k19 ?a20 ?l20 ?c20 ?k20 ?a21 ?l21 ?c21 ?k21 ?z_abs ?z_all ?z_any ?z_bool ?z_int ?z_isinstance ?z_len ?z_list ?z_max ?z_min ?z_range ?z_set ?z_sorted ?z_tuple
    (case a0 => k_is)
    (case l0 => k_is)
    (case c0 => k_is)
    (case k0 => k_is)
    (case a1 => k_is)
    (case l1 => k_is)
    (case c1 => k_is)
    (case k1 => k_is)
    (case a2 => k_is)
    (case l2 => k_is)
    (case c2 => k_is)
    (case k2 => k_is)
    (case a3 => k_is)
    (case l3 => k_is)
    (case c3 => k_is)
    (case k3 => k_is)
    (case a4 => k_is)
    (case l4 => k_is)
    (case c4 => k_is)
    (case k4 => k_is)
    (case a5 => k_is)
    (case l5 => k_is)
    (case c5 => k_is)
    (case k5 => k_is)
    (case a6 => k_is)
    (case l6 => k_is)
    (case c6 => k_is)
    (case k6 => k_is)
    (case a7 => k_is)
    (case l7 => k_is)
    (case c7 => k_is)
    (case k7 => k_is)
    (case a8 => k_is)
    (case l8 => k_is)
    (case c8 => k_is)
    (case k8 => k_is)
    (case a9 => k_is)
    (case l9 => k_is)
    (case c9 => k_is)
    (case k9 => k_is)
    (case a10 => k_is)
    (case l10 => k_is)
    (case c10 => k_is)
    (case k10 => k_is)
    (case a11 => k_is)
    (case l11 => k_is)
    (case c11 => k_is)
    (case k11 => k_is)
    (case a12 => k_is)
    (case l12 => k_is)
    (case c12 => k_is)
    (case k12 => k_is)
    (case a13 => k_is)
    (case l13 => k_is)
    (case c13 => k_is)
    (case k13 => k_is)
    (case a14 => k_is)
    (case l14 => k_is)
    (case c14 => k_is)
    (case k14 => k_is)
    (case a15 => k_is)
    (case l15 => k_is)
    (case c15 => k_is)
    (case k15 => k_is)
    (case a16 => k_is)
    (case l16 => k_is)
    (case c16 => k_is)
    (case k16 => k_is)
    (case a17 => k_is)
    (case l17 => k_is)
    (case c17 => k_is)
    (case k17 => k_is)
    (case a18 => k_is)
    (case l18 => k_is)
    (case c18 => k_is)
    (case k18 => k_is)
    (case a19 => k_is)
    (case l19 => k_is)
    (case c19 => k_is)
    (case k19 => k_is)
    (case a20 => k_is)
    (case l20 => k_is)
    (case c20 => k_is)
    (case k20 => k_is)
    (case a21 => k_is)
    (case l21 => k_is)
    (case c21 => k_is)
    (case k21 => k_is)
    (case z_abs => k_is)
    (case z_all => k_is)
    (case z_any => k_is)
    (case z_bool => k_is)
    (case z_int => k_is)
    (case z_isinstance => k_is)
    (case z_len => k_is)
    (case z_list => k_is)
    (case z_max => k_is)
    (case z_min => k_is)
    (case z_range => k_is)
    (case z_set => k_is)
    (case z_sorted => k_is)
    (case z_tuple => k_is)
