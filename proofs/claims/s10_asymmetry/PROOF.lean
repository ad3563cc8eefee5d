import PyProof.Rows.All
import Wide.All
import OpenK.AllK
import Wide.FinOn
import Open.SpecLaws
import KE.OsHead
import KE.OsGo
import HandS.ForSpec
import HandS.Comp
import HandS.Iter
import HandS.Walk
import HandS.Evl
import HandS.Wide
import HandS.SortInts
import HandS.Lambda
import HandS.Nested
import HandS.SortKw
import KE.SortKeyHeap
import KE.KNest
import HandS.EndTab
import HandS.Spec
import PySem.Challenge.RW_lightcurves_s10_asymmetry
set_option Elab.async false
set_option linter.all false
set_option maxRecDepth 100000
set_option maxHeartbeats 2000000
/-! general words over the layer: walks by values, comprehensions, callees -/
namespace Lb
open PySem PySem.Spec PyProof.Rows L2 Evl

/-! ### what is walked: n turns, Yx i x H what the i-th item is, H the heap at the turn -/
def IterV (wi : TI) (σ : L2.St) (H : Hp) (n : Nat) (Yx : Nat → V → Hp → Prop) : Prop :=
  ∀ H1, Ex H H1 → ∀ R : It → Hp → Prop, (∀ (J : It) (G : Hp → Prop) (Y : Nat → Hp → V → Hp → Prop) (H2 : Hp), Ex H1 H2 → Walk J n G Y → (∀ H3, Ex H2 H3 → G H3) →
    (∀ i x H3 H4, i < n → Ex H2 H3 → Y i H3 x H4 → Ex H3 H4 ∧ Yx i x H4) → R J H2) → wi σ H1 R
theorem IterV.len {wi : TI} {σ : L2.St} {H : Hp} {n m : Nat} {Yx : Nat → V → Hp → Prop} (h : IterV wi σ H n Yx) (e : n = m) : IterV wi σ H m Yx := e ▸ h
section
variable {K : PySem.W.Frag} {σ : L2.St} {H : Hp} {tl ta tb te : TE}
theorem it_list {a : Addr} {xs : List V} (h : Ev tl σ H (.ref a)) (hx : SqL K H a xs) : IterV (iList K tl) σ H xs.length (fun i x _ => xs[i]? = some x) := fun H1 e R r =>
  h H1 e _ fun H2 e2 => ⟨a, rfl, ⟨xs, ex_l (e.trans e2) hx⟩, r _ _ _ H2 e2 (walk_list (K := K) (a := a) (xs := xs)) (fun H3 e3 => ex_l ((e.trans e2).trans e3) hx)
    (fun i x H3 H4 _ _ y => ⟨by rw [y.1]; exact Ex.refl _, y.2⟩)⟩
theorem it_new {xs : List V} (h : EvL tl σ H xs) : IterV (iList K tl) σ H xs.length (fun i x _ => xs[i]? = some x) := fun H1 e R r =>
  h H1 e _ fun a H2 _ e2 ha => ⟨a, rfl, ⟨xs, sq_of ha⟩, r _ _ _ H2 e2 (walk_list (K := K) (a := a) (xs := xs)) (fun H3 e3 => sq_of (e3 a _ ha))
    (fun i x H3 H4 _ _ y => ⟨by rw [y.1]; exact Ex.refl _, y.2⟩)⟩
theorem it_rng1 {ta : TA} {n : Int} (h : EvA ta σ H [.int n]) (h0 : 0 ≤ n) (h1 : n ≤ 1000000) : IterV (iRng1 ta) σ H n.toNat (fun i x _ => x = .int (i : Int)) := fun H1 e R r =>
  h H1 e _ fun H2 e2 => ⟨n, rfl, by omega, by omega, r _ _ _ H2 e2 (walk_range (lo := 0) (n := n.toNat)) (fun _ _ => trivial)
    (fun i x H3 H4 _ _ y => ⟨by rw [y.1]; exact Ex.refl _, y.2.trans (congrArg V.int (Int.zero_add (i : Int)))⟩)⟩
theorem it_rng2 {ta : TA} {lo n : Int} (h : EvA ta σ H [.int lo, .int n]) (h0 : 0 ≤ lo ∧ lo ≤ 1000000 ∧ -1000000 ≤ n ∧ n ≤ 1000000) : IterV (iRng2 ta) σ H (n - lo).toNat (fun i x _ => x = .int (lo + (i : Int))) := fun H1 e R r =>
  h H1 e _ fun H2 e2 => ⟨lo, n, rfl, ⟨by omega, by omega, by omega, by omega⟩, r _ _ _ H2 e2 (walk_range (lo := lo) (n := (n - lo).toNat)) (fun _ _ => trivial)
    (fun i x H3 H4 _ _ y => ⟨by rw [y.1]; exact Ex.refl _, y.2⟩)⟩
theorem it_rng3 {ta : TA} {i j c : Int} {n : Nat} (h : EvA ta σ H [.int i, .int j, .int c]) (hc : RgC i j c n) : IterV (iRng3 ta) σ H n (fun k x _ => x = .int (i + (k : Int) * c)) := fun H1 e R r =>
  h H1 e _ fun H2 e2 => ⟨i, j, c, n, rfl, hc, r _ _ _ H2 e2 (walk_rangeC (lo := i) (c := c) (n := n)) (fun _ _ => trivial)
    (fun i x H3 H4 _ _ y => ⟨by rw [y.1]; exact Ex.refl _, y.2⟩)⟩
/-- zip of two lists that stand -/
theorem it_zip {ta : TA} {a b : Addr} {xs ys : List V} (h : EvA ta σ H [.ref a, .ref b]) (hx : SqL K H a xs) (hy : SqL K H b ys) :
    IterV (iZip K ta) σ H (min xs.length ys.length) (fun i x H4 => ∃ T u v, x = .ref T ∧ H4 T = some (.tup [u, v]) ∧ xs[i]? = some u ∧ ys[i]? = some v) := fun H1 e R r =>
  h H1 e _ fun H2 e2 => ⟨a, b, xs, ys, rfl, ex_l (e.trans e2) hx, ex_l (e.trans e2) hy, r _ _ _ H2 e2 (walk_zip (K := K) (a := a) (b := b) (xs := xs) (ys := ys) rfl)
    (fun H3 e3 => ⟨ex_l ((e.trans e2).trans e3) hx, ex_l ((e.trans e2).trans e3) hy⟩)
    (fun i x H3 H4 _ _ y => by
      obtain ⟨T, u, v, h1, h2, h3, h4, h5⟩ := y
      subst h3
      exact ⟨Ex.new h2, T, u, v, h1, upd_same, h4, h5⟩)⟩

/-- enumerate of a list that stands -/
theorem it_enum {ta : TA} {a : Addr} {xs : List V} (h : EvA ta σ H [.ref a]) (hx : SqL K H a xs) :
    IterV (iEnum K ta) σ H xs.length (fun i x H4 => ∃ T u, x = .ref T ∧ H4 T = some (.tup [.int (i : Int), u]) ∧ xs[i]? = some u) := fun H1 e R r =>
  h H1 e _ fun H2 e2 => ⟨a, xs, rfl, ex_l (e.trans e2) hx, r _ _ _ H2 e2 (walk_enum (K := K) (a := a) (xs := xs)) (fun H3 e3 => ex_l ((e.trans e2).trans e3) hx)
    (fun i x H3 H4 _ _ y => by
      obtain ⟨T, u, v, h1, h2, h3, h4, h5⟩ := y
      subst h3
      cases h4
      exact ⟨Ex.new h2, T, v, h1, upd_same, h5⟩)⟩

/-! ### comprehensions -/
theorem et_yes : EvT tYes σ H true := fun H1 _ Q q => q H1 (Ex.refl H1)
/-- a turn's target takes the item: then the element can be asked at the slots that it leaves -/
def Takes1 (g : TG) (x : V) (σ0 : L2.St) (vs : List Nat) (H2 : Hp) (P : L2.St → Prop) : Prop := ∀ Q : L2.St → Hp → Prop, (∀ σ2, wipe σ2 vs = wipe σ0 vs → P σ2 → Q σ2 H2) → g x (wipe σ0 vs) H2 Q
theorem lc_f {wi : TI} {n : Nat} {Yx : Nat → V → Hp → Prop} {g : TG} {tt : TT} {vs : List Nat} (hw : IterV wi σ H n Yx) (hn : n ≤ 40000) (f : Nat → Bool) (v : Nat → V)
    (hs : ∀ (i : Nat) (x : V) (H2 : Hp), i < n → Ex H H2 → Yx i x H2 → Takes1 g x σ vs H2 fun σ2 => EvT tt σ2 H2 (f i) ∧ (f i = true → Ev te σ2 H2 (v i))) :
    EvL (tLc wi g tt te vs) σ H (given n f v) := fun H0 e Q q => hw H0 e _ fun J G Y H1 e1 w hG hY Dl hD =>
  lc_it w (Cw H1 f v Dl) ⟨hD, Ex.new hD, upd_same⟩ (fun i H' hi p => hG H' p.2.1) (fun i x H' H2 hi p y => by
    obtain ⟨e2, yx⟩ := hY i x H' H2 hi p.2.1 y
    have p2 : Cw H1 f v Dl i H2 := ⟨p.1, p.2.1.trans e2, e2 _ _ p.2.2⟩
    refine hs i x H2 hi ((e.trans e1).trans p2.2.1) yx _ fun σ2 hw2 hh => ⟨hw2, ?_⟩
    obtain ⟨p1, pe, p3⟩ := p2
    refine hh.1 H2 (Ex.refl H2) _ fun H3 e3 => ?_
    cases hf : f i with
    | true =>
      show te σ2 H3 fun y H4 => ∃ acc, H4 Dl = some (.lst acc) ∧ acc.length < sizeLine ∧ Cw H1 f v Dl (i + 1) (upd H4 Dl (.lst (acc ++ [y])))
      refine hh.2 hf H3 e3 _ fun H4 e4 => ⟨given i f v, e4 Dl _ (e3 Dl _ p3), sz_lt (by have := given_len i f v; omega), p1, Ex.mut ((pe.trans e3).trans e4) p1, ?_⟩
      rw [given_yes hf]
      exact upd_same
    | false =>
      show Cw H1 f v Dl (i + 1) H3
      refine ⟨p1, pe.trans e3, ?_⟩
      rw [given_no hf]
      exact e3 Dl _ p3) (fun H' p => q Dl H' (fresh_back e1 p.1) (e1.trans p.2.1) p.2.2)
theorem given_all (n : Nat) (v : Nat → V) : given n (fun _ => true) v = (List.range n).map v := by
  unfold given
  rw [List.filter_eq_self.mpr (fun _ _ => rfl)]
theorem lc_v {wi : TI} {n : Nat} {Yx : Nat → V → Hp → Prop} {g : TG} {vs : List Nat} (hw : IterV wi σ H n Yx) (hn : n ≤ 40000) (v : Nat → V)
    (hs : ∀ (i : Nat) (x : V) (H2 : Hp), i < n → Ex H H2 → Yx i x H2 → Takes1 g x σ vs H2 fun σ2 => Ev te σ2 H2 (v i)) :
    EvL (tLc wi g tYes te vs) σ H ((List.range n).map v) := by
  have h := lc_f (te := te) (tt := tYes) (g := g) (vs := vs) hw hn (fun _ => true) v (fun i x H2 hi e y Q q => hs i x H2 hi e y Q fun σ2 h1 h2 => q σ2 h1 ⟨et_yes, fun _ => h2⟩)
  rw [given_all] at h
  exact h
/-- the same told by a list -/
theorem lc_m {α : Type} {wi : TI} {Yx : Nat → V → Hp → Prop} {g : TG} {vs : List Nat} {l : List α} (F : α → V) (hw : IterV wi σ H l.length Yx) (hn : l.length ≤ 40000)
    (hs : ∀ (i : Nat) (y : α) (x : V) (H2 : Hp), l[i]? = some y → Ex H H2 → Yx i x H2 → Takes1 g x σ vs H2 fun σ2 => Ev te σ2 H2 (F y)) :
    EvL (tLc wi g tYes te vs) σ H (l.map F) := by
  have h := lc_v (te := te) (g := g) (vs := vs) hw hn (fun i => match l[i]? with | some y => F y | none => .non) (fun i x H2 hi e y => by
    have e1 : l[i]? = some l[i] := List.getElem?_eq_getElem hi
    rw [e1]
    exact hs i _ x H2 e1 e y)
  have e : (List.range l.length).map (fun i => match l[i]? with | some y => F y | none => .non) = l.map F := by
    apply List.ext_getElem?
    intro i
    rw [List.getElem?_map, List.getElem?_map]
    by_cases hi : i < l.length
    · rw [List.getElem?_range hi, List.getElem?_eq_getElem hi]
      simp [List.getElem?_eq_getElem hi]
    · rw [List.getElem?_eq_none (by simpa using hi), List.getElem?_eq_none (by simpa using hi)]
      rfl
  rw [e] at h
  exact h
/-- a name as the target -/
theorem takes_name {x : V} {j : Nat} {vs : List Nat} {H2 : Hp} {P : L2.St → Prop} (hw : wipe ((wipe σ vs).set j (some x)) vs = wipe σ vs) (h : P ((wipe σ vs).set j (some x))) : Takes1 (gName j) x σ vs H2 P := fun Q q => q _ hw h
/-- two names, from a tuple -/
theorem takes_pair {T : Addr} {u v : V} {i j : Nat} {vs : List Nat} {H2 : Hp} {P : L2.St → Prop} (ht : H2 T = some (.tup [u, v]))
    (hw : wipe (((wipe σ vs).set i (some u)).set j (some v)) vs = wipe σ vs) (h : P (((wipe σ vs).set i (some u)).set j (some v))) : Takes1 (gTup K 2 (gCons (gName i) (gCons (gName j) gNil))) (.ref T) σ vs H2 P := fun Q q =>
  ⟨T, [u, v], rfl, st_of ht, rfl, u, [v], rfl, v, [], rfl, rfl, q _ hw h⟩

/-! ### lists of lists -/
def Rows (H : Hp) (p : Addr) (rs : List (List V)) : Prop := ∃ as : List Addr, H p = some (.lst (as.map V.ref)) ∧ as.length = rs.length ∧ ∀ (i : Nat) a r, as[i]? = some a → rs[i]? = some r → H a = some (.lst r)
theorem Rows.ex {H H' : Hp} {p : Addr} {rs : List (List V)} (h : Rows H p rs) (e : Ex H H') : Rows H' p rs := by
  obtain ⟨as, h1, h2, h3⟩ := h
  exact ⟨as, e _ _ h1, h2, fun i a r ha hr => e _ _ (h3 i a r ha hr)⟩
def EvR (te : TE) (σ : L2.St) (H : Hp) (rs : List (List V)) : Prop := ∀ H1, Ex H H1 → ∀ Q : VK, (∀ p H2, H1 p = none → Ex H1 H2 → Rows H2 p rs → Q (.ref p) H2) → te σ H1 Q
theorem lc_rows {wi : TI} {n : Nat} {Yx : Nat → V → Hp → Prop} {g : TG} {vs : List Nat} (hw : IterV wi σ H n Yx) (hn : n ≤ 40000) (r : Nat → List V)
    (hs : ∀ (i : Nat) (x : V) (H2 : Hp), i < n → Ex H H2 → Yx i x H2 → Takes1 g x σ vs H2 fun σ2 => EvL te σ2 H2 (r i)) :
    EvR (tLc wi g tYes te vs) σ H ((List.range n).map r) := fun H0 e Q q => hw H0 e _ fun J G Y H1 e1 w hG hY Dl hD =>
  lc_it w (fun i H' => H1 Dl = none ∧ Ex H1 H' ∧ ∃ as : List Addr, H' Dl = some (.lst (as.map V.ref)) ∧ as.length = i ∧ ∀ (j : Nat) a, as[j]? = some a → H' a = some (.lst (r j)) ∧ a ≠ Dl)
    ⟨hD, Ex.new hD, [], upd_same, rfl, fun j a h => by simp at h⟩ (fun i H' hi p => hG H' p.2.1) (fun i x H' H2 hi p y => by
    obtain ⟨e2, yx⟩ := hY i x H' H2 hi p.2.1 y
    obtain ⟨p1, pe, as, p3, p4, p5⟩ := p
    refine hs i x H2 hi ((e.trans e1).trans (pe.trans e2)) yx _ fun σ2 hw2 hh => ⟨hw2, ?_⟩
    show te σ2 H2 fun y H4 => ∃ acc, H4 Dl = some (.lst acc) ∧ acc.length < sizeLine ∧ _
    refine hh H2 (Ex.refl H2) _ fun c H4 hc e4 h4 => ?_
    have dD : Dl ≠ c := ne_of_none (e2 _ _ p3) hc
    refine ⟨as.map V.ref, e4 _ _ (e2 _ _ p3), sz_lt (by rw [List.length_map, p4]; omega), p1, Ex.mut ((pe.trans e2).trans e4) p1, as ++ [c], ?_, by rw [List.length_append, p4]; rfl, ?_⟩
    · rw [upd_same, List.map_append]
      rfl
    · intro j a hj
      by_cases hjl : j < as.length
      · rw [List.getElem?_append_left hjl] at hj
        obtain ⟨h1, h2⟩ := p5 j a hj
        exact ⟨by rw [upd_ne h2]; exact e4 _ _ (e2 _ _ h1), h2⟩
      · rw [List.getElem?_append_right (by omega)] at hj
        by_cases hj0 : j - as.length = 0
        · rw [hj0] at hj
          have ea : c = a := Option.some.inj hj
          have ej : j = i := by omega
          subst ea
          subst ej
          exact ⟨by rw [upd_ne dD.symm]; exact h4, dD.symm⟩
        · rw [List.getElem?_eq_none (by simp; omega)] at hj
          cases hj)
    (fun H' p => by
      obtain ⟨p1, pe, as, p3, p4, p5⟩ := p
      refine q Dl H' (fresh_back e1 p1) (e1.trans pe) ⟨as, p3, by rw [p4, List.length_map, List.length_range], fun j a l ha hl => ?_⟩
      obtain ⟨h1, _⟩ := p5 j a ha
      rw [List.getElem?_map] at hl
      by_cases hj : j < n
      · rw [List.getElem?_range hj] at hl
        have el : r j = l := Option.some.inj hl
        rw [← el]
        exact h1
      · rw [List.getElem?_eq_none (by simpa using hj)] at hl
        cases hl)

/-! ### calls -/
/-- a built-in of one argument that is a new list -/
theorem ev_cb1 {r : List V → Hp → VK → Prop} {xs : List V} {z : V} (h : EvL te σ H xs) (hr : ∀ p H1, H1 p = some (.lst xs) → Ex H H1 → RC r [.ref p] H1 z) : Ev (tCB r (tCons te tNil)) σ H z := fun H1 e Q q =>
  h H1 e _ fun p H2 _ e2 hp => hr p H2 hp (e.trans e2) H2 (Ex.refl H2) Q fun H3 e3 => q H3 (e2.trans e3)
theorem el_cb1 {r : List V → Hp → VK → Prop} {xs ys : List V} (h : EvL te σ H xs) (hr : ∀ p H1, H1 p = some (.lst xs) → Ex H H1 → RCL r [.ref p] H1 ys) : EvL (tCB r (tCons te tNil)) σ H ys := fun H1 e Q q =>
  h H1 e _ fun p H2 _ e2 hp => hr p H2 hp (e.trans e2) H2 (Ex.refl H2) Q fun p3 H3 h3 e3 hp3 => q p3 H3 (fresh_back e2 h3) (e2.trans e3) hp3
/-- a def of one argument that is a new list -/
theorem ev_call1 {sp : Sp} {E : XK} {xs : List V} {z : V} (h : EvL te σ H xs) (hs : ∀ p H1, H1 p = some (.lst xs) → Ex H H1 → SpV sp [.ref p] H1 z) : Ev (tCall sp [] E (tCons te tNil)) σ H z := fun H1 e Q q =>
  h H1 e _ fun p H2 _ e2 hp => hs p H2 hp (e.trans e2) H2 (Ex.refl H2) Q (fun H3 e3 => q H3 (e2.trans e3)) E
theorem el_cat {xs ys : List V} (h1 : EvL ta σ H xs) (h2 : EvL tb σ H ys) (hl : xs.length + ys.length ≤ 100000) : EvL (tOp rCat ta tb) σ H (xs ++ ys) := fun H1 e Q q =>
  h1 H1 e _ fun p H2 hp e2 h2' => h2 H2 (e.trans e2) _ fun b H3 hb e3 h3 =>
    ⟨p, b, xs, ys, rfl, rfl, e3 _ _ h2', h3, sz_of hl, fun c hc => q c _ (fresh_back (e2.trans e3) hc) ((e2.trans e3).trans (Ex.new hc)) upd_same⟩
/-- [..] + xs, xs a list that stands -/
theorem el_catV {xs ys : List V} {b : Addr} (h1 : EvL ta σ H xs) (h2 : Ev tb σ H (.ref b)) (hb : H b = some (.lst ys)) (hl : xs.length + ys.length ≤ 100000) : EvL (tOp rCat ta tb) σ H (xs ++ ys) := fun H1 e Q q =>
  h1 H1 e _ fun p H2 hp e2 h2' => h2 H2 (e.trans e2) _ fun H3 e3 =>
    ⟨p, b, xs, ys, rfl, rfl, e3 _ _ h2', ((e.trans e2).trans e3) _ _ hb, sz_of hl, fun c hc => q c _ (fresh_back (e2.trans e3) hc) ((e2.trans e3).trans (Ex.new hc)) upd_same⟩
theorem rc_abs {i : Int} : RC (fun xs H Q => ∃ i, xs = [.int i] ∧ Q (.int (if i < 0 then -i else i)) H) [.int i] H (.int (if i < 0 then -i else i)) := fun H1 _ _ q => ⟨i, rfl, q H1 (Ex.refl H1)⟩
theorem rc_sum {a : Addr} {ns : List Int} (h : SqL K H a (ns.map V.int)) : RC (rSum K) [.ref a] H (.int ns.sum) := fun H1 e _ q => ⟨a, ns, rfl, ex_l e h, q H1 (Ex.refl H1)⟩
theorem rc_all {a : Addr} {bs : List Bool} (h : SqL K H a (bs.map V.bl)) : RC (rAll K) [.ref a] H (.bl (bs.all id)) := fun H1 e _ q => ⟨a, bs, rfl, ex_l e h, q H1 (Ex.refl H1)⟩
theorem rc_any {a : Addr} {bs : List Bool} (h : SqL K H a (bs.map V.bl)) : RC (rAny K) [.ref a] H (.bl (bs.any id)) := fun H1 e _ q => ⟨a, bs, rfl, ex_l e h, q H1 (Ex.refl H1)⟩
theorem sorted_one {a b : List Int} (p : a.Perm b) (ha : a.Pairwise (· ≤ ·)) (hb : b.Pairwise (· ≤ ·)) : a = b := p.eq_of_pairwise (fun _ _ _ _ h1 h2 => Int.le_antisymm h1 h2) ha hb
theorem ms_perm (ns : List Int) : (ns.mergeSort fun a b => decide (a ≤ b)).Perm ns := List.mergeSort_perm ns _
theorem ms_up (ns : List Int) : (ns.mergeSort fun a b => decide (a ≤ b)).Pairwise (· ≤ ·) :=
  (List.pairwise_mergeSort (le := fun a b => decide (a ≤ b)) (fun a b c h1 h2 => decide_eq_true (Int.le_trans (of_decide_eq_true h1) (of_decide_eq_true h2)))
    (fun a b => by
      rw [Bool.or_eq_true, decide_eq_true_iff, decide_eq_true_iff]
      exact Int.le_total a b) ns).imp fun h => of_decide_eq_true h
theorem rcl_sorted {a : Addr} {ns : List Int} (h : SqL K H a (ns.map V.int)) : RCL (rSortedI K) [.ref a] H ((ns.mergeSort fun a b => decide (a ≤ b)).map V.int) := fun H1 e Q q =>
  ⟨a, ns, rfl, ex_l e h, fun ns' p hp hup hn => by
    have e2 : ns' = ns.mergeSort fun a b => decide (a ≤ b) := sorted_one (hp.trans (ms_perm ns).symm) hup (ms_up ns)
    rw [e2]
    exact q p _ hn (Ex.new hn) upd_same⟩

def SpR (sp : Sp) (vs : List V) (H : Hp) (rs : List (List V)) : Prop := ∀ H1, Ex H H1 → ∀ Q : VK, (∀ p H2, H1 p = none → Ex H1 H2 → Rows H2 p rs → Q (.ref p) H2) → ∀ E : XK, sp vs H1 Q E
theorem er_call {sp : Sp} {vs : List V} {rs : List (List V)} {E : XK} {ta : TA} (h : EvA ta σ H vs) (hs : SpR sp vs H rs) : EvR (tCall sp [] E ta) σ H rs := fun H1 e Q q =>
  h H1 e _ fun H2 e2 => by
    rw [List.append_nil]
    exact hs H2 (e.trans e2) Q (fun p H3 hp e3 h3 => q p H3 (fresh_back e2 hp) (e2.trans e3) h3) E
/-! ### callees -/
structure Cal (P : Program) (w : World) (K : PySem.W.Frag) (mg : Str → Option Value) (base : Heap) (x : Str) (k : Nat) (ps : List Str) (sp : Sp) : Prop where
  ex : ∃ (f : Addr) (fd : FuncData), FnOk P w K mg base CX0 k f fd ps sp ∧ mg x = some (.ref f) ∧ PySem.W.keepIn K (.ref f) = true ∧ Binds K fd ps []
theorem cal_of {P : Program} {w : World} {K : PySem.W.Frag} {mg : Str → Option Value} {base : Heap} {x qual : Str} {st : Stmt} {f : Addr} {fd : FuncData} {k : Nat} {ps : List Str} {sp : Sp} (F : Fun K x qual st f fd)
    (G : FnOk P w K mg base CX0 k f fd ps sp) (g : mg x = some (.ref f)) (b : Binds K fd ps []) : Cal P w K mg base x k ps sp := ⟨f, fd, G, g, F.kp, b⟩
end

/-! ### statements -/
section
variable {K : PySem.W.Frag} {σ : L2.St} {H : Hp} {ta te : TE} {D : Ends} {tz : TS}
/-- xs.extend(a new list) -/
theorem s_ext {l : Addr} {xs ys : List V} (hl : H l = some (.lst xs)) (ha : Ev ta σ H (.ref l)) (h : EvL te σ H ys) (hz : xs.length + ys.length ≤ 100000) (k : ∀ H1, Ex H H1 → D.nx σ (upd H1 l (.lst (xs ++ ys)))) :
    tDrop (tBM K "list" rExtend ta (tCons te tNil)) D σ H := ha H (Ex.refl H) _ fun H1 e1 =>
  ⟨Or.inl ⟨rfl, xs, sq_of (e1 l _ hl)⟩, h H1 e1 _ fun b H2 hb e2 h2 => ⟨l, b, xs, ys, rfl, rfl, e2 l _ (e1 l _ hl), h2, sz_of hz, k H2 (e1.trans e2)⟩⟩
theorem q_ext {l : Addr} {xs ys : List V} (hl : H l = some (.lst xs)) (ha : Ev ta σ H (.ref l)) (h : EvL te σ H ys) (hz : xs.length + ys.length ≤ 100000) (k : ∀ H1, Ex H H1 → tz D σ (upd H1 l (.lst (xs ++ ys)))) :
    tSeq (tDrop (tBM K "list" rExtend ta (tCons te tNil))) tz D σ H := s_ext (D := { D with nx := tz D }) hl ha h hz k
theorem s_asgR {i : Nat} {rs : List (List V)} {g : TG} (h : EvR te σ H rs) (k : ∀ p H1, H p = none → Ex H H1 → Rows H1 p rs → D.nx (σ.set i (some (.ref p))) H1) : tAsg te (gName i) D σ H := h H (Ex.refl H) _ fun p H1 hp e h1 => k p H1 hp e h1
theorem q_asgR {i : Nat} {rs : List (List V)} (h : EvR te σ H rs) (k : ∀ p H1, H p = none → Ex H H1 → Rows H1 p rs → tz D (σ.set i (some (.ref p))) H1) : tSeq (tAsg te (gName i)) tz D σ H := s_asgR (g := gName i) (D := { D with nx := tz D }) h k
theorem s_retR {rs : List (List V)} (h : EvR te σ H rs) (k : ∀ p H1, H p = none → Ex H H1 → Rows H1 p rs → D.rt (.ref p) H1) : tRet te D σ H := h H (Ex.refl H) _ k
end
end Lb

set_option Elab.async false
set_option linter.all false
set_option maxRecDepth 100000
set_option maxHeartbeats 4000000
/-! pairs, a sort by a lambda, the table of code objects -/
namespace Lt
open PySem PySem.Spec PyProof.Rows L2 LamX Evl Lb

/-! ### the lambda called: pair[0] -/
section
variable {prog : Program} {w : World} {A : Around} {s : Shared}
theorem lam_turn {f c' t : Addr} {q : Str} {params : Arguments} {body : Expr} {scope : Scope} {pm ctv : Value} {its : List Value} {k : Int} {tk0 : Tok} {p1 p2 p3 : Pos} {j : Nat}
    (hroom : A.depth < recursionLimit) (lim : s.heap.NoLimit) (hf : s.heap.get? f = some (PySem.W.kla_obj "<lambda>" q params body scope [] pm c' ctv)) (hc : s.heap.CodeRec (.ref c') q)
    (hk : scope.kind = .function) (hco : scope.isCoroutine = false) (hgen : scope.isGenerator = false) (hcell : ∀ y ∈ scope.names, y.2 ≠ .cell) (hp : scope.names.lookup (Str.ofString "pair") = some NameKind.local)
    (hbind : bindArgs (PySem.W.kla_fn "<lambda>" q params body scope [] pm (.ref c') ctv) ⟨[.ref t], []⟩ = pure [(Str.ofString "pair", Value.ref t)])
    (hb : body = .Subscript (.Name "pair" p1) (.Constant (.int 0) j p2) p3) (ht : IsTup s.heap t its.toArray) (hl : 0 < its.length ∧ its.length < 100) (h0 : its[0]? = some (.int k tk0)) :
    wpAny (model prog w) A (call (.ref f) [.ref t]) (PySem.W.KeyPure (.int k) s) (fun _ _ => False) s := by
  have rc : codeAny (model prog w) A (.call (.ref f) ⟨[.ref t], []⟩) (fun r s' => ∃ v, r = .ok (.ret v) ∧ PySem.W.KeyPure (.int k) s v s') s := by
    refine PySem.W.kla_callFunE hroom hf rfl hco hgen rfl hc ?_
    rw [hbind]
    refine wpAny_pure (wpAny_newFunctionEnv hcell (fun y hy => ?_) (fun h₁ hns hsb => ⟨lim.fresh _ hsb, ?_⟩) hk)
    · rw [List.mem_singleton] at hy
      subst hy
      exact hp
    · show codeAny _ _ (.expr body (PySem.W.envX q scope s.heap.objs.size f (.ref c') [])) _ _
      have kp : ∀ b o, s.heap.get? b = some o → h₁.get? b = some o := fun b o e => hsb.extBut b o (Nat.ne_of_lt (Heap.lt_size e)) (Heap.get?_push_of_some _ e)
      have ht1 : IsTup h₁ t its.toArray := by
        obtain ⟨o, e, r⟩ := ht
        exact ⟨o, kp _ _ e, r⟩
      subst hb
      refine PySem.W.kla_codeExpr (Subscript_ (wpAny_Name (wpAny_loadName_local (v := .ref t) hk hp hns rfl (wpAny_Constant_int ?_)) (by decide)))
      refine item_tupleL (l := its) (j := 0) (x := .int k tk0) ht1 (by decide) (by decide) ?_ h0 ?_
      · have e : (0 : Int) < (its.length : Int) := by omega
        unfold seqIndex?
        simp only [if_neg (show ¬ (0 : Int) < 0 by decide), Int.le_refl, decide_true, Bool.true_and]
        rw [if_pos (decide_eq_true e)]
        rfl
      · exact ⟨_, rfl, h₁, _, rfl, kp, Reads.int k tk0⟩
  refine wpAny_call (codeAny_mono rc fun r s' hq => ?_)
  obtain ⟨v, rfl, hv⟩ := hq
  exact hv
end
/-! ### lists of pairs -/
/-- the value x is the pair e -/
def PairAt (H : Hp) (x : V) (e : Int × Int) : Prop := ∃ t, x = .ref t ∧ H t = some (.tup [.int e.1, .int e.2])
def Pairs (H : Hp) (p : Addr) (l : List (Int × Int)) : Prop := ∃ xs : List V, H p = some (.lst xs) ∧ PySem.W.EachIs (PairAt H) xs l
theorem PairAt.ex {H H' : Hp} {x : V} {e : Int × Int} (h : PairAt H x e) (k : ExtN H H') : PairAt H' x e := by
  obtain ⟨t, h1, h2⟩ := h
  exact ⟨t, h1, k _ _ h2 fun ps z => by cases z⟩
theorem ext_of {H H' : Hp} (e : Ex H H') : ExtN H H' := fun b o h _ => e b o h
theorem Pairs.exN {H H' : Hp} {p : Addr} {l : List (Int × Int)} (h : Pairs H p l) (k : ExtN H H') : Pairs H' p l := by
  obtain ⟨xs, h1, h2⟩ := h
  exact ⟨xs, k _ _ h1 fun ps z => (by cases z), h2.mono fun x e q => q.ex k⟩
theorem Pairs.ex {H H' : Hp} {p : Addr} {l : List (Int × Int)} (h : Pairs H p l) (k : Ex H H') : Pairs H' p l := h.exN (ext_of k)
theorem Tabs.exS {T : List (Addr × Str)} {H H' : Hp} (t : Tabs T H) (e : Ex H H') : Tabs T H' := t.ext e
def byFst (l : List (Int × Int)) : List (Int × Int) := l.mergeSort fun a b => decide (a.1 ≤ b.1)
/-- sorted(e, key=lambda pair: pair[0]), e a list of pairs -/
def tSortLam (T : List (Addr × Str)) (te : TE) : TE := fun σ H Q => te σ H fun v H1 => ∃ (a : Addr) (l : List (Int × Int)), v = .ref a ∧ Pairs H1 a l ∧ l.length ≤ 100000 ∧ Tabs T H1 ∧
  ∀ p H2, ExtN H1 H2 → Tabs T H2 → Pairs H2 p (byFst l) → Q (.ref p) H2
theorem each_vals {R : V → Int × Int → Prop} {R' : Value → Int × Int → Prop} (h : ∀ x u e, RelV x u → R x e → R' u e) : ∀ {xs : List V} {us : List Value} {l : List (Int × Int)}, Vals xs us → PySem.W.EachIs R xs l → PySem.W.EachIs R' us l
  | _, _, _, .nil, .nil => .nil
  | _, _, _, .cons r q, .cons a b => .cons (h _ _ _ r a) (each_vals h q b)
theorem each_back {H : Hp} : ∀ {us : List Value} {l : List (Int × Int)}, PySem.W.EachIs (fun (u : Value) e => ∃ t, u = .ref t ∧ H t = some (.tup [.int e.1, .int e.2])) us l → PySem.W.EachIs (PairAt H) (us.map backV) l
  | _, _, .nil => .nil
  | _, _, .cons ⟨t, h1, h2⟩ b => .cons ⟨t, by rw [h1]; rfl, h2⟩ (each_back b)
theorem each_refs {H : Hp} : ∀ {us : List Value} {l : List (Int × Int)}, PySem.W.EachIs (fun (u : Value) e => ∃ t, u = .ref t ∧ H t = some (.tup [.int e.1, .int e.2])) us l → ∀ u ∈ us, ∃ a, u = Value.ref a
  | _, _, .nil => fun u h => by cases h
  | _, _, .cons ⟨t, h1, h2⟩ b => fun u h => by
    rcases List.mem_cons.mp h with z | z
    · exact ⟨t, by rw [z, h1]⟩
    · exact each_refs b u z
section
variable {X : Cx}
theorem pe_sortLam {T : List (Addr × Str)} {c P : Addr} {e : Expr} {te : TE} {params : Arguments} {body : Expr} {scope : Scope} {p lpos kpos pos p1 p2 p3 : Pos} {j : Nat}
    (hg : Gl X (Str.ofString "sorted")) (hm : X.mg (Str.ofString "sorted") = none) (TB : TabB X.base X.mg c P) (hcode : X.env.code = .ref c) (hmT : (P, X.env.qual ++ "<lambda>") ∈ T) (hu : ∀ p ∈ T, p.1 = P → p.2 = X.env.qual ++ "<lambda>")
    (hr : Room 1 X.A) (hk : scope.kind = .function) (hco : scope.isCoroutine = false) (hgen : scope.isGenerator = false) (hnames : scope.names = [(Str.ofString "pair", NameKind.local)]) (hdef : defaultsOf params X.env = ([], []))
    (hbind : ∀ (q : Str) (pm cv ctv v : Value), bindArgs (PySem.W.kla_fn "<lambda>" q params body scope [] pm cv ctv) ⟨[v], []⟩ = pure [(Str.ofString "pair", v)])
    (hb : body = .Subscript (.Name (Str.ofString "pair") p1) (.Constant (.int 0) j p2) p3) (he : PE X e te)
    (hs : starEach [e] X.env = (false, eval e X.env) :: starEach [] X.env := by rfl)
    (hs2 : backTo pos (starEach [e] X.env) = (false, eval e X.env) :: backTo pos (starEach [] X.env) := by rfl) (hs3 : (backTo pos (starEach [e] X.env)).any (·.1) = false := by rfl) :
    PE X (.Call (.Name (Str.ofString "sorted") p) [e] [⟨some (Str.ofString "key"), .Lambda params body scope lpos, kpos⟩] pos) (tSortLam T te) := by
  refine ⟨fun pins s σ H Q I h => ?_⟩
  refine wpAny_Call_Name_kw (ld_blt (u := .builtin "sorted") I hg hm rfl ?_)
  have ha := pa_cons (es := []) he pa_nil hs
  let Q1 : List V → Hp → Prop := fun vs H1 => match vs with
    | [v] => ∃ (a : Addr) (l : List (Int × Int)), v = .ref a ∧ Pairs H1 a l ∧ l.length ≤ 100000 ∧ Tabs T H1 ∧ ∀ p H2, ExtN H1 H2 → Tabs T H2 → Pairs H2 p (byFst l) → Q (.ref p) H2
    | _ => False
  refine PyProof.Rows.callWith_kw (thn (ha.run pos pins s σ H Q1 I h) fun us s1 ⟨vs, H1, I1, r1, q1⟩ => ?_) hs2 hs3
  have ncl : cloFrom X.env.cells scope.names [] = [] := by
    rw [hnames]
    rfl
  match vs, q1 with
  | [v], q1 =>
    obtain ⟨a, l, rfl, hP, hl, hT, q⟩ := q1
    cases r1 with
    | cons ra rn =>
      cases rn
      cases ra
      refine kwAll_cons (lam_make2 I1 TB hcode hmT hu hT hdef (fun y hy e => ?_) fun f c' pm ctv H2 s2 I2 eN T2 hf hfn hfr hcod => kwAll_nil ?_)
      · rw [hnames, List.mem_singleton] at hy
        subst hy
        cases e
      · rw [ncl] at hf
        show wpAny (model X.prog X.w) X.A (call (.builtin "sorted") [.ref a] [(Str.ofString "key", .ref f)]) (EP X pins σ Q) X.xe s2
        obtain ⟨xs, hx, hE⟩ := hP.exN eN
        obtain ⟨its, n, rv, ho, hz⟩ := I2.lst hx
        have hE2 := each_vals (R' := fun (u : Value) e => ∃ t, u = .ref t ∧ H2 t = some (.tup [.int e.1, .int e.2])) (fun x u e r z => by
          obtain ⟨t, rfl, z2⟩ := z
          exact ⟨t, r, z2⟩) rv hE
        have hZ : sizeLine = 16777216 := by decide
        obtain ⟨⟨oc, vv, tq, hoc, hdc, hvc⟩, _, _⟩ := I2.hok c' _ hcod
        refine PySem.W.sorted_key_data (b := false) (fun e : Int × Int => .int e.1) (l := a) (f := .ref f) ⟨_, ho, rfl, n, rfl⟩ hE2 (PySem.W.AllAlike.of fun _ _ => by simp [PySem.W.alike]) ?_ (by rw [hZ]; omega) (fun x _ => ?_) (ksk_s1 _ _) (fun _ => ksk_l1 _ _) (fun _ => ksk_t1 _ _)
          (fun v e hv _ h tk kp => ?_) fun out ep h' tk kp hn hD hlen eo => ?_
        · exact PySem.W.Sortable.others fun b => ⟨fun z => (by cases z), fun xs z => (by cases z)⟩
        · have hun := hr.un
          show X.A.units + 2 + 0 < cLine
          omega
        · obtain ⟨t, rfl, ht⟩ := hv
          obtain ⟨_, its2, r2, htu⟩ := I2.hok t _ ht
          obtain ⟨u1, u2, rfl, ⟨t1, ri⟩, rj⟩ := vals2 r2
          have hd1 := hr.dp
          exact lam_turn (s := { s2 with heap := h, toks := tk }) (its := [u1, u2]) (tk0 := t1) (show X.A.depth < recursionLimit by omega) (I2.nolimit.keeps kp) (kp _ _ hf) ⟨c', oc, vv, tq, rfl, kp _ _ hoc, hdc, hvc⟩ hk hco hgen (by rw [hnames]; simp) (by rw [hnames]; rfl) (hbind _ _ _ _ _) hb
            (htu.keeps kp) ⟨by show 0 < 2; decide, by show 2 < 100; decide⟩ (by rw [ri]; rfl)
        · rw [PySem.W.dataLe_int (fun e : Int × Int => e.1)] at eo
          have h3 := each_refs eo
          have np : H2 (s2.heap.objs.size + 1) = none := I2.hok.fresh (Nat.le_succ _)
          have e23 : Ex H2 (upd H2 (s2.heap.objs.size + 1) (.lst (out.map backV))) := Ex.new np
          have hlo : (out.map backV).length ≤ sizeLine := by
            rw [List.length_map, hlen, hZ]
            omega
          refine ⟨.ref (s2.heap.objs.size + 1), upd H2 (s2.heap.objs.size + 1) (.lst (out.map backV)), I2.laid (t' := tk) kp (Nat.le_succ _) ⟨hlo, out, ep, vals_back h3, hD⟩, rfl, q _ _ (eN.trans (ext_of e23)) (T2.ext e23) ⟨_, upd_same, ?_⟩⟩
          exact (each_back eo).mono fun x e z => z.ex (ext_of e23)
  | [], q1 => exact False.elim q1
  | _ :: _ :: _, q1 => exact False.elim q1
end

/-! ### words for pairs -/
theorem each_get {H : Hp} : ∀ {xs : List V} {l : List (Int × Int)}, PySem.W.EachIs (PairAt H) xs l → ∀ (i : Nat) x e, xs[i]? = some x → l[i]? = some e → PairAt H x e
  | _, _, .nil => fun i x e h _ => by simp at h
  | _, _, .cons a b => fun i x e h1 h2 => by
    cases i with
    | zero =>
      simp at h1 h2
      rw [← h1, ← h2]
      exact a
    | succ i =>
      simp at h1 h2
      exact each_get b i x e h1 h2
def EvP (te : TE) (σ : L2.St) (H : Hp) (l : List (Int × Int)) : Prop := ∀ H1, Ex H H1 → ∀ Q : VK, (∀ p H2, H1 p = none → Ex H1 H2 → Pairs H2 p l → Q (.ref p) H2) → te σ H1 Q
section
variable {K : PySem.W.Frag} {σ : L2.St} {H : Hp} {te tl : TE} {D : Ends} {tz : TS}
theorem lc_prs {wi : TI} {n : Nat} {Yx : Nat → V → Hp → Prop} {g : TG} {vs : List Nat} (hw : IterV wi σ H n Yx) (hn : n ≤ 40000) (r : Nat → Int × Int)
    (hs : ∀ (i : Nat) (x : V) (H2 : Hp), i < n → Ex H H2 → Yx i x H2 → Takes1 g x σ vs H2 fun σ2 => EvU te σ2 H2 [.int (r i).1, .int (r i).2]) :
    EvP (tLc wi g tYes te vs) σ H ((List.range n).map r) := fun H0 e Q q => hw H0 e _ fun J G Y H1 e1 w hG hY Dl hD =>
  lc_it w (fun i H' => H1 Dl = none ∧ Ex H1 H' ∧ ∃ xs : List V, H' Dl = some (.lst xs) ∧ xs.length = i ∧ PySem.W.EachIs (fun x (e : Int × Int) => ∃ t, x = .ref t ∧ t ≠ Dl ∧ H' t = some (.tup [.int e.1, .int e.2])) xs ((List.range i).map r))
    ⟨hD, Ex.new hD, [], upd_same, rfl, .nil⟩ (fun i H' hi p => hG H' p.2.1) (fun i x H' H2 hi p y => by
    obtain ⟨e2, yx⟩ := hY i x H' H2 hi p.2.1 y
    obtain ⟨p1, pe, xs, p3, p4, p5⟩ := p
    refine hs i x H2 hi ((e.trans e1).trans (pe.trans e2)) yx _ fun σ2 hw2 hh => ⟨hw2, ?_⟩
    show te σ2 H2 fun y H4 => ∃ acc, H4 Dl = some (.lst acc) ∧ acc.length < sizeLine ∧ _
    refine hh H2 (Ex.refl H2) _ fun c H4 hc e4 h4 => ?_
    have dD : Dl ≠ c := ne_of_none (e2 _ _ p3) hc
    refine ⟨xs, e4 _ _ (e2 _ _ p3), sz_lt (by omega), p1, Ex.mut ((pe.trans e2).trans e4) p1, xs ++ [.ref c], upd_same, by rw [List.length_append, p4]; rfl, ?_⟩
    rw [List.range_succ, List.map_append]
    refine PySem.W.each_snoc ⟨c, rfl, dD.symm, by rw [upd_ne dD.symm]; exact h4⟩ (p5.mono fun x e z => ?_)
    obtain ⟨t, z1, z2, z3⟩ := z
    exact ⟨t, z1, z2, by rw [upd_ne z2]; exact e4 _ _ (e2 _ _ z3)⟩)
    (fun H' p => by
      obtain ⟨p1, pe, xs, p3, p4, p5⟩ := p
      refine q Dl H' (fresh_back e1 p1) (e1.trans pe) ⟨xs, p3, p5.mono fun x e z => ?_⟩
      obtain ⟨t, z1, _, z3⟩ := z
      exact ⟨t, z1, z3⟩)
theorem q_asgP {i : Nat} {l : List (Int × Int)} (h : EvP te σ H l) (k : ∀ p H1, H p = none → Ex H H1 → Pairs H1 p l → tz D (σ.set i (some (.ref p))) H1) : tSeq (tAsg te (gName i)) tz D σ H := h H (Ex.refl H) _ k
/-- x = f(..), told by f's promise itself -/
theorem q_asgF {i : Nat} {sp : Sp} {E : XK} {ta : TA} {vs : List V} (h : EvA ta σ H vs) (k : ∀ H1, Ex H H1 → sp vs H1 (fun v H2 => tz D (σ.set i (some v)) H2) E) : tSeq (tAsg (tCall sp [] E ta) (gName i)) tz D σ H := h H (Ex.refl H) _ fun H1 e => by
  rw [List.append_nil]
  exact k H1 e
/-- x = f(v, g(..)), told by both promises -/
theorem q_asg2 {i : Nat} {sp sp2 : Sp} {E E2 : XK} {ta : TE} {ta2 : TA} {v1 : V} {vs2 : List V} (h1 : Ev ta σ H v1) (h2 : EvA ta2 σ H vs2) (k : ∀ H1, Ex H H1 → sp2 vs2 H1 (fun x H2 => sp [v1, x] H2 (fun v H3 => tz D (σ.set i (some v)) H3) E) E2) :
    tSeq (tAsg (tCall sp [] E (tCons ta (tCons (tCall sp2 [] E2 ta2) tNil))) (gName i)) tz D σ H := h1 H (Ex.refl H) _ fun H1 e1 => h2 H1 e1 _ fun H2 e2 => by
  rw [List.append_nil]
  exact k H2 (e1.trans e2)
/-- a walk over a list of pairs -/
theorem it_prs {p : Addr} {l : List (Int × Int)} (h : Ev tl σ H (.ref p)) (hP : Pairs H p l) : IterV (iList K tl) σ H l.length (fun i x H4 => ∀ e, l[i]? = some e → ∀ H0, Ex H H0 → PairAt H0 x e) := by
  obtain ⟨xs, h1, h2⟩ := hP
  have t := it_list (K := K) (σ := σ) (tl := tl) h (sq_of h1)
  rw [h2.length] at t
  intro H1 e R r
  refine t H1 e R fun J G Y H2 e2 w hG hY => r J G Y H2 e2 w hG fun i x H3 H4 hi e3 y => ?_
  obtain ⟨e4, hx⟩ := hY i x H3 H4 hi e3 y
  exact ⟨e4, fun e5 he H0 e0 => (each_get h2 i x e5 hx he).ex (ext_of e0)⟩
/-- pair[0], pair[1] -/
theorem rv_fst {x : V} {e : Int × Int} (h : PairAt H x e) : RV (rIxT K) x (.int 0) H (.int e.1) := by
  obtain ⟨t, rfl, ht⟩ := h
  exact rv_ixT (st_of ht) rfl
theorem rv_snd {x : V} {e : Int × Int} (h : PairAt H x e) : RV (rIxT K) x (.int 1) H (.int e.2) := by
  obtain ⟨t, rfl, ht⟩ := h
  exact rv_ixT (st_of ht) rfl
theorem ev_lenP {p : Addr} {l : List (Int × Int)} (ha : Ev te σ H (.ref p)) (h : Pairs H p l) : Ev (tCB (rLenS K) (tCons te tNil)) σ H (.int (l.length : Int)) := by
  obtain ⟨xs, h1, h2⟩ := h
  have z := ev_len (K := K) ha (sq_of h1)
  rw [h2.length] at z
  exact z
end
/-- a def whose code object is told -/
theorem Fun_okC {P : Program} {w : World} {K : PySem.W.Frag} {mg : Str → Option Value} {base : Heap} {x qual : Str} {st : Stmt} {f c : Addr} {fd : FuncData} {N ps : List Str} {k : Nat} {sp : Sp} (F : Fun K x qual st f fd) (hc : fd.code = .ref c) (S : FnScope N ps (defScope st))
    (len : ∀ vs H Q E, sp vs H Q E → vs.length = ps.length)
    (hbody : ∀ (A : Around) (outer : List Env) (s : Shared) (H : Hp) (vs : List V) (Q : VK) (E : XK), Room k (A.deeper (envOfC qual (defScope st) s.heap.objs.size f (.ref c))) → sp vs H Q E →
      ∃ t, PSs (cxOf CX0 P w K mg base N qual (defScope st) f (.ref c) A outer s H E).nox (defBody st) t ∧ t { nx := fun _ H' => Q .non H', rt := Q } (start N vs) H) : FnOk P w K mg base CX0 (k + 1) f fd ps sp := by
  obtain ⟨oc, od, kV, doc, pm, an, cdv, ct, osl, e, lk, hcd⟩ := F.ex
  subst e
  have e2 : cdv = .ref c := hc
  subst e2
  refine fn_of lk hcd S len fun A outer s H vs Q E hr hsp => ?_
  obtain ⟨t, h, q⟩ := hbody A outer s H vs Q E hr hsp
  exact ⟨t, PSs.nox h, q⟩
/-! ### the end of a row whose program makes one lambda -/
section
variable {K : PySem.W.Frag} {H H' : Hp}
mutual
theorem dw_up (e : Ex H H') {v : V} {d : PySem.W.WData} (x : Dw K H v d) : Dw K H' v d := match x with
  | .non => .non
  | .bl b => .bl b
  | .int i => .int i
  | .str s => .str s
  | .byt b => .byt b
  | .lst hs ha => .lst (ex_l e hs) (dwa_up e ha)
  | .tup hs ha => .tup (ex_t e hs) (dwa_up e ha)
theorem dwa_up (e : Ex H H') {vs : List V} {ds : List PySem.W.WData} (x : DwAll K H vs ds) : DwAll K H' vs ds := match x with
  | .nil => .nil
  | .cons a b => .cons (dw_up e a) (dwa_up e b)
end
end
open PySem.W (WData Codec OpenSpec WellAll ReadsW)
theorem tab_call {P : Program} {w : World} {K : PySem.W.Frag} {mg mb : Str → Option Value} {k : Nat} {fa c T : Addr} {fd : FuncData} {ps : List Str} {sp : Sp} {s₁ : Shared} {vals : List Value} {ds : List WData} {R : PySem.W.WRecords} {cl : Str → Option Addr} {d0 : WData}
    (KX : K.In s₁.heap) (tg : s₁.heap.Ns mainGlobals mg) (tb : s₁.heap.Ns builtinsNs mb) (tbb : ∀ x : Str, x ≠ "__name__" → mb x = bootBuiltins x) (tl : s₁.heap.NoLimit) (hg0 : s₁.gens = #[])
    (hT : s₁.heap.get? T = some { cls := .none, data := .fields #[] }) (nT : K.lookup T = none) (C : PySem.W.CodeHd s₁.heap c T)
    (tm : ∃ (bm : Addr) (ob : Obj), mg "__builtins__" = some (.ref bm) ∧ bm ≠ builtinsNs ∧ s₁.heap.get? bm = some ob ∧ ob.cls = .type "module" ∧ ob.dict = some builtinsNs ∧ ob.data = .plain)
    (hwl : WellAll w.params s₁.heap vals ds) (hpl : plWs ds = true) (hwt : ∀ d ∈ ds, d.weight ≤ 1048576) (hr : Room k callerA)
    (F : ∀ base : Heap, K.In base → base.Ns mainGlobals mg → TabB base mg c T → FnOk P w K mg base CX0 k fa fd ps sp) (hbind : ∀ (s : Shared) (us : List Value), us.length = ps.length → BindsTo s fd ⟨us, []⟩ (ps.zip us)) (hlen : ds.length = ps.length)
    (hsp : ∀ (H : Hp) (xs : List V), H T = some (.tbl #[]) → DwAll K H xs ds → sp xs H (fun v H' => Dw K H' v d0) fun _ _ _ => False) :
    codeAny (model P w) callerA (.call (.ref fa) ⟨vals, []⟩) (fun r s' => ∃ u as, r = .ok (.ret u) ∧ ReadsW R cl s'.heap u d0 as ∧ OldK s₁.heap s'.heap ∧ s'.os = s₁.os ∧ AllBare s'.gens) s₁ := by
  obtain ⟨A, hA, ar⟩ := area_all ds vals hwl hpl hwt
  have isA : ∀ b u, argH K s₁.heap A b = some u → K.lookup b = none ∧ ∃ (o : Obj) (v : HO) (xs : Array Value) (n : Nat), u = .frz o v ∧ s₁.heap.get? b = some o ∧ o.data = .seq xs n := fun b u q => by
    obtain ⟨h1, vs, _, _, ⟨e, z⟩ | ⟨e, z⟩⟩ := argH_is ar q
    · exact ⟨h1, _, _, _, _, z, e, rfl⟩
    · exact ⟨h1, _, _, _, _, z, e, rfl⟩
  have hT0 : argH K s₁.heap A T = none := by
    cases q : argH K s₁.heap A T with
    | none => rfl
    | some u =>
      obtain ⟨_, o, v, xs, n, _, e, hd⟩ := isA T u q
      rw [hT] at e
      cases e
      cases hd
  obtain ⟨H, hH⟩ : ∃ H : Hp, H = upd (argH K s₁.heap A) T (.tbl #[]) := ⟨_, rfl⟩
  have eX : Ex (argH K s₁.heap A) H := by
    rw [hH]
    exact Ex.new hT0
  have hTH : H T = some (.tbl #[]) := by
    rw [hH]
    exact upd_same
  have back : ∀ b u, b ≠ T → H b = some u → argH K s₁.heap A b = some u := fun b u hb q => by
    rw [hH, upd_ne hb] at q
    exact q
  have hok : HOk P w H s₁.heap := fun b u q => by
    by_cases hb : b = T
    · subst hb
      rw [hTH] at q
      cases q
      exact hT
    · exact (argH_ok ar b u (back b u hb q)).stay (fun _ _ _ z => z) (fun d z => eX _ _ z) fun d xs z => eX _ _ z
  have hS : DwAll K H (vals.map toV) ds := dwa_up eX (dw_all KX ar ds vals hwl hpl hA)
  have hV := vals_toV hA
  have off : ∀ {b : Addr} {o : Obj}, s₁.heap.get? b = some o → (∀ vs n, o.data ≠ .seq vs n) → b ≠ T → H b = none := fun {b o} e h1 hb => by
    cases q : H b with
    | none => rfl
    | some u =>
      obtain ⟨_, o2, v, xs, n, _, e2, hd⟩ := isA b u (back b u hb q)
      rw [e] at e2
      cases e2
      exact absurd hd (h1 xs n)
  have neT : ∀ {b : Addr} {o : Obj}, s₁.heap.get? b = some o → o.data ≠ .fields #[] → b ≠ T := fun {b o} e h1 z => by
    rw [z, hT] at e
    cases e
    exact h1 rfl
  have atB : ∀ {b : Addr} {o : Obj}, s₁.heap.get? b = some o → H b = none → (hidT s₁.heap H).get? b = some o := fun e n => hidT_get e n
  have nsB : ∀ {b : Addr} {m : Str → Option Value}, s₁.heap.Ns b m → (hidT s₁.heap H).Ns b m := fun {b m} ⟨o, es, ep, e, d, r⟩ =>
    ⟨o, es, ep, atB e (off e (fun vs n z => by rw [d] at z; cases z) (neT e fun z => by rw [d] at z; cases z)), d, r⟩
  have hKb : K.In (hidT s₁.heap H) := fun b o e => by
    refine atB (KX b o e) ?_
    cases q : H b with
    | none => rfl
    | some u =>
      by_cases hb : b = T
      · rw [hb, nT] at e
        cases e
      · rw [(isA b u (back b u hb q)).1] at e
        cases e
  obtain ⟨bm, ob, b1, b2, b3, b4, b5, b6⟩ := tm
  have gNe : bm ≠ mainGlobals := fun z => by
    obtain ⟨o, es, ep, e, hd, _⟩ := tg
    rw [z, e] at b3
    cases b3
    rw [hd] at b6
    cases b6
  have TB : TabB (hidT s₁.heap H) mg c T := by
    refine ⟨?_, ?_, fun z => ?_⟩
    · obtain ⟨o, us, f1, f2, f3, f4, f5, f6, f7, e1, r1, r2, r3, r⟩ := C
      refine ⟨o, us, f1, f2, f3, f4, f5, f6, f7, atB e1 (off e1 (fun vs n z => ?_) (neT e1 fun z => ?_)), r1, r2, r3, r⟩
      · rw [r2] at z
        cases z
      · rw [r2] at z
        cases z
        simp at r3
    · have nbT : bm ≠ T := neT b3 fun z => by
        rw [b6] at z
        cases z
      refine ⟨bm, ob, b1, b2, gNe, nbT, atB b3 (off b3 (fun vs n z => ?_) nbT), b4, b5, b6⟩
      rw [b6] at z
      cases z
    · obtain ⟨o, es, ep, e, hd, _⟩ := tg
      rw [z, hT] at e
      cases e
      cases hd
  have hM : L2.Mod K mg (hidT s₁.heap H) := ⟨hKb, nsB tg, ⟨mb, nsB tb, tbb⟩, by
    obtain ⟨mc, h1, h2⟩ := tl
    exact ⟨mc, nsB h1, h2⟩⟩
  have e0 : Env0 P w K mg (hidT s₁.heap H) callerA [] s₁ H := { frames := rfl, mod := hM, bs := fun b o e => of_hidT e, bsz := Nat.le_of_eq (hidT_size _ _), funs := trivial, frf := fun b hb => absurd (show b ∈ ([] : List Addr) from hb) (by simp), hok := hok, bare := .of_eq hg0 }
  have hl : vals.length = ps.length := (wellAll_len hwl).trans hlen
  have go := (F _ hKb (nsB tg) TB).run callerA [] s₁ H ⟨vals, []⟩ vals (vals.map toV) _ _ hr e0 (hbind s₁ vals hl) hV (hsp H _ hTH hS)
  refine codeAny_mono go fun r s' x => ?_
  cases r with
  | error e => exact False.elim x
  | ok fl =>
    cases fl with
    | next => exact False.elim x
    | brk => exact False.elim x
    | cont => exact False.elim x
    | ret u =>
      obtain ⟨v, H2, os, bare, un, hok2, rv, qd⟩ := x
      have kept : ∀ b o, b ≠ T → s₁.heap.get? b = some o → s'.heap.get? b = some o := fun b o hb e => by
        cases q2 : H b with
        | none => exact un.keep b o e q2 (fun z => absurd (show b ∈ ([] : List Addr) from z) (by simp)) (by simp)
        | some u2 =>
          obtain ⟨_, o3, v3, xs, n, z, e3, _⟩ := isA b u2 (back b u2 hb q2)
          rw [z] at q2
          rw [e] at e3
          cases e3
          exact (hok2 b _ (un.frzs b o v3 q2)).1
      obtain ⟨more, hmore⟩ := un.tbls T #[] hTH
      have hT2 : s'.heap.get? T = some { cls := .none, data := .fields more } := by
        have z := hok2 T _ hmore
        rw [Array.empty_append] at z
        exact z
      have KX2 : K.In s'.heap := fun b o e => by
        by_cases hb : b = T
        · rw [hb, nT] at e
          cases e
        · exact kept b o hb (KX b o e)
      obtain ⟨as, hrd⟩ := Dw.reads (R := R) (cl := cl) hok2 KX2 d0 v u qd rv
      refine ⟨u, as, rfl, hrd, ⟨fun b o e => ?_, fun b o e => ?_⟩, os, bare⟩
      · by_cases hb : b = T
        · subst hb
          rw [hT] at e
          cases e
          exact .inr (.inl ⟨(C.tab hT).isCodeTable, rfl, #[], more, rfl, by rw [Array.empty_append]; exact hT2⟩)
        · exact .inl (kept b o hb e)
      · by_cases hb : b = T
        · rw [hb]
          exact ⟨_, hT2⟩
        · exact ⟨o, kept b o hb e⟩
/-- the goal of a row's head, from the promise of its def; x: the def that makes the lambda -/
theorem walk_tab {r : OpenSpec} {k : Nat} {q : Program} {loose : List Str} {XP : (Str → Option Value) → Heap → Prop} {YP : World → Heap → Prop} {d : DefRec} {K : Params → PySem.W.Frag} {ps : List Str} {sp : PySem.W.Frag → Addr → Sp} {x : Str}
    (hwell : r.wellSaid = true) (hdf : d.params.defaults = []) (hlen : r.args.length = ps.length) (hr : Room k callerA) (hY : ∀ (w : World) (h : Heap), YP w h → (K w.params).In h)
    (hx : ((recsOf q).find? fun e => e.name == x).isSome = true)
    (F : ∀ (w : World) (mg : Str → Option Value) (fa : Addr) (h : Heap), YP w h → (K w.params).In h → h.Ns mainGlobals mg → mg d.name = some (.ref fa) →
      ∃ (c T : Addr) (fd : FuncData), PySem.W.tabIn (K w.params) x = some (c, T) ∧ (K w.params).lookup T = none ∧ (∀ (s : Shared) (us : List Value), us.length = ps.length → BindsTo s fd ⟨us, []⟩ (ps.zip us)) ∧
        ∀ base : Heap, (K w.params).In base → base.Ns mainGlobals mg → TabB base mg c T → FnOk r.prog w (K w.params) mg base CX0 k fa fd ps (sp (K w.params) T))
    (hsp : ∀ (K : PySem.W.Frag) (T : Addr) (H : Hp) (xs : List V) (a : Codec.denoteAll r.args), H T = some (.tbl #[]) → Codec.withinAll r.args a = true → Codec.app r.args r.asked a = true → DwAll K H xs (Codec.encAll r.args a) →
      sp K T xs H (fun v H' => Dw K H' v (r.ret.enc (Codec.app r.args r.f a))) fun _ _ _ => False) :
    PySem.W.WalkOS q loose XP YP r d [] (fun f vs => PySem.call f vs) := by
  intro w sA sB mg mb G Y fa ob pm cdv doc dV kV g1 g2 g3 g4 hmg g5 args vals as hpre hlay g6 hwl g7
  obtain ⟨av, ea, hask⟩ := PySem.W.os_pre_some hpre
  obtain ⟨ec, hwi⟩ := Codec.encAll_of_decAll r.args args av ea
  subst ec
  have KX := hY w _ Y
  obtain ⟨dx, hdx⟩ := Option.isSome_iff_exists.mp hx
  obtain ⟨c, T, fd, ht, nT, hb, hF⟩ := F w mg fa _ Y KX G.T.g hmg
  obtain ⟨hC, hT⟩ := PySem.W.tab_of G.T KX hdx ht
  have hl : (Codec.encAll r.args av).length = ps.length := (encAll_len _ _).trans hlen
  have go := tab_call (R := []) (cl := classAt sA.heap) (d0 := r.ret.enc (Codec.app r.args r.f av)) KX G.T.g G.T.b G.T.builtins G.T.nolimit g5 hT nT hC G.T.bmain hwl (pl_encAll _ _) (layable_weight hlay) hr hF hb hl
    fun H xs hO hS => hsp _ T H xs av hO hwi hask hS
  refine PySem.W.enter_call (codeAny_mono go fun res sC hq => ?_)
  obtain ⟨u, bs, rfl, z1, z2, z3, z4⟩ := hq
  refine ⟨.inl ⟨u, _, bs, rfl, fun _ => rfl, z1, ?_, fun z => ?_⟩, z2, z3, z4⟩
  · exact (OpenSpec.post_iff hwell hwi _ _).mpr rfl
  · exact Bool.noConfusion (show false = true from z)
end Lt

set_option Elab.async false
set_option linter.all false
set_option maxRecDepth 100000
set_option maxHeartbeats 4000000
/-! the pairs of a list that a test takes -/
namespace Lt
open PySem PySem.Spec PyProof.Rows L2 LamX Evl Lb
theorem given_cons (n : Nat) (f : Nat → Bool) (v : Nat → V) : given (n + 1) f v = (if f 0 = true then [v 0] else []) ++ given n (fun i => f (i + 1)) (fun i => v (i + 1)) := by
  unfold given
  rw [List.range_succ_eq_map, List.filter_cons, List.filter_map]
  by_cases h : f 0 = true
  · rw [if_pos h, if_pos h, List.map_cons, List.map_map]
    rfl
  · rw [if_neg h, if_neg h, List.map_map]
    rfl
theorem each_given {R : V → Int × Int → Prop} (p : Int × Int → Bool) (d : Int × Int) : ∀ {xs : List V} {l : List (Int × Int)}, PySem.W.EachIs R xs l → PySem.W.EachIs R (given l.length (fun i => p (l.getD i d)) (fun i => xs.getD i .non)) (l.filter p)
  | _, _, .nil => .nil
  | _, _, .cons (a := x) (b := e) (as := xs) (bs := l) a b => by
    have ih := each_given p d b
    rw [List.length_cons, given_cons]
    by_cases h : p e = true
    · rw [List.filter_cons_of_pos h]
      have h2 : p ((e :: l).getD 0 d) = true := h
      rw [if_pos h2]
      exact .cons a ih
    · rw [List.filter_cons_of_neg h]
      have h2 : ¬ p ((e :: l).getD 0 d) = true := h
      rw [if_neg h2]
      exact ih
section
variable {K : PySem.W.Frag} {σ : L2.St} {H : Hp} {te tl : TE}
theorem ep_of {ys : List V} {l : List (Int × Int)} (h : EvL te σ H ys) (hE : PySem.W.EachIs (PairAt H) ys l) : EvP te σ H l := fun H1 e Q q =>
  h H1 e Q fun p H2 hp e2 h2 => q p H2 hp e2 ⟨ys, h2, hE.mono fun x u z => z.ex (ext_of (e.trans e2))⟩
/-- [pair for pair in pairs if test] -/
theorem lc_psel {a : Addr} {l : List (Int × Int)} {j : Nat} {t : TT} {vs : List Nat} (p : Int × Int → Bool) (h : Ev tl σ H (.ref a)) (hP : Pairs H a l) (hn : l.length ≤ 40000) (hw : ∀ x, wipe ((wipe σ vs).set j (some x)) vs = wipe σ vs)
    (ht : ∀ (x : V) (e : Int × Int) H1, Ex H H1 → e ∈ l → PairAt H1 x e → EvT t ((wipe σ vs).set j (some x)) H1 (p e)) (he : ∀ (x : V) H1, Ev te ((wipe σ vs).set j (some x)) H1 x) : EvP (tLc (iList K tl) (gName j) t te vs) σ H (l.filter p) := by
  obtain ⟨xs, h1, h2⟩ := hP
  have hl : xs.length = l.length := h2.length
  refine ep_of (el_lcL (xs := xs) (fun i => p (l.getD i (0, 0))) (fun i => xs.getD i .non) h (sq_of h1) (by omega) hw (fun i x H1 e hi => ?_) fun i x H1 e hi _ => ?_) ?_
  · have hil : i < l.length := by
      have z := (List.getElem?_eq_some_iff.mp hi).1
      omega
    have hle : l[i]? = some l[i] := List.getElem?_eq_getElem hil
    rw [List.getD_eq_getElem?_getD, hle]
    exact ht x l[i] H1 e (List.getElem_mem hil) ((each_get h2 i x _ hi hle).ex (ext_of e))
  · rw [List.getD_eq_getElem?_getD, hi]
    exact he x H1
  · rw [hl]
    exact each_given p (0, 0) h2
end
end Lt

set_option linter.all false
/-! the mathematics: tables -/
namespace Lm
def sgn (n : Int) : Int := if 2147483648 ≤ n then n - 4294967296 else n
def uns (n : Int) : Int := if n < 0 then n + 4294967296 else n
def absI (i : Int) : Int := if i < 0 then -i else i
def sizeOk (k n : Int) : Bool := if k < 1 ∨ k > 32 then false else decide (1 ≤ n / k) && decide (n / k ≤ 64)
def magsOk (ns : List Int) : Bool := ns.all fun n => decide (absI (sgn n) < 100000)
def refusal (k : Int) (ns : List Int) : Int := if sizeOk k ns.length = false then -2 else if magsOk ns = false then -3 else 0
def rowsOf (k : Nat) (xs : List Int) : List (List Int) := (List.range (xs.length / k)).map fun i => (xs.drop (i * k)).take k
def column (s : Nat) (rows : List (List Int)) : List Int := rows.map fun r => r.getD s 0
def scatterI (xs : List Int) : Int := 256 * ((xs.length : Int) * (xs.map fun x => x * x).sum - xs.sum ^ 2) / ((xs.length : Int) * (xs.length : Int))
theorem sgn_nat {x : Int} (h0 : 0 ≤ x) : Sh70.signed32 x.toNat = sgn x := by
  unfold Sh70.signed32 sgn
  by_cases h : 2147483648 ≤ x
  · rw [if_neg (by omega), if_pos h]; omega
  · rw [if_pos (by omega), if_neg h]; omega
theorem signed_eq {ns : List Int} (h : ∀ x ∈ ns, 0 ≤ x ∧ x ≤ 4294967295) : Sh70.signedWords (Sh70Neutral.toNats ns) = ns.map sgn := by
  unfold Sh70.signedWords Sh70Neutral.toNats
  rw [List.map_map]
  exact List.map_congr_left fun x hx => sgn_nat (h x hx).1
theorem toNats_len (ns : List Int) : (Sh70Neutral.toNats ns).length = ns.length := by
  unfold Sh70Neutral.toNats
  rw [List.length_map]
theorem size_eq {k : Int} {n : Nat} (hk : 0 ≤ k) : Sh70.isTableSize k.toNat (n / k.toNat) = sizeOk k n := by
  obtain ⟨m, rfl⟩ := Int.eq_ofNat_of_zero_le hk
  rw [Int.toNat_natCast]
  unfold Sh70.isTableSize Sh70.isBetween sizeOk
  by_cases h : (m : Int) < 1 ∨ (m : Int) > 32
  · rw [if_pos h]
    have : ¬ (1 ≤ m ∧ m ≤ 32) := by omega
    rcases Nat.lt_or_ge m 1 with q | q
    · simp [show ¬ 1 ≤ m by omega]
    · simp [show ¬ m ≤ 32 by omega]
  · rw [if_neg h]
    have h1 : 1 ≤ m := by omega
    have h2 : m ≤ 32 := by omega
    have e : ((n : Int) / (m : Int)) = ((n / m : Nat) : Int) := by rw [Int.natCast_ediv]
    rw [e]
    simp only [h1, h2, decide_true, Bool.true_and]
    congr 1 <;> apply decide_eq_decide.mpr <;> omega
theorem mags_eq (xs : List Int) : Sh70.areValidMagnitudes (xs.map sgn) = magsOk xs := by
  unfold Sh70.areValidMagnitudes magsOk
  rw [List.all_map]
  congr 1
  funext x
  show decide ((sgn x).natAbs < 100000) = decide (absI (sgn x) < 100000)
  apply decide_eq_decide.mpr
  unfold absI
  split <;> omega
/-- in a table that is of the form: what is asked of its length -/
theorem asked_len {k : Int} {ns : List Int} (hs : sizeOk k ns.length = true) (hk : 0 ≤ k)
    (ha : (if (Sh70.isTableSize (k.toNat) (((Sh70Neutral.toNats ns).length / k.toNat))) = true then ns.length == (k.toNat * ((Sh70Neutral.toNats ns).length / k.toNat)) else ((ns.isEmpty) || (ns.length == (k.toNat * ((Sh70Neutral.toNats ns).length / k.toNat))))) = true) :
    ns.length = k.toNat * (ns.length / k.toNat) := by
  rw [toNats_len, size_eq hk, hs] at ha
  simpa using ha
/-- .. of extinctions, corrected_magnitudes, scatters: their requests are asked alike -/
theorem asked_table {k : Int} {ns : List Int} (hs : sizeOk k ns.length = true) (hk : 0 ≤ k) (ha : PySh70.scatters_asked k ns = true) : ns.length = k.toNat * (ns.length / k.toNat) := by
  have h1 : (Sh70Neutral.asked1 [[2, k], ns] && decide ((Sh70Neutral.f [[2, k], ns]).length < 1000000)) = true := ha
  rw [Bool.and_eq_true] at h1
  have h2 : (Sh70Neutral.fits k 32 && (Sh70Neutral.allFit ns 32 && (if (Sh70.isTableSize (k.toNat) (((Sh70Neutral.toNats ns).length / k.toNat))) = true then ns.length == (k.toNat * ((Sh70Neutral.toNats ns).length / k.toNat)) else ((ns.isEmpty) || (ns.length == (k.toNat * ((Sh70Neutral.toNats ns).length / k.toNat))))))) = true := h1.1
  rw [Bool.and_eq_true, Bool.and_eq_true] at h2
  exact asked_len hs hk h2.2.2
/-- .. of extinctions, corrected_magnitudes, scatters: their requests are asked alike -/
theorem asked_table1 {k : Int} {ns : List Int} (hs : sizeOk k ns.length = true) (hk : 0 ≤ k) (ha : PySh70.extinctions_asked k ns = true) : ns.length = k.toNat * (ns.length / k.toNat) := by
  have h1 : (Sh70Neutral.asked1 [[0, k], ns] && decide ((Sh70Neutral.f [[0, k], ns]).length < 1000000)) = true := ha
  rw [Bool.and_eq_true] at h1
  have h2 : (Sh70Neutral.fits k 32 && (Sh70Neutral.allFit ns 32 && (if (Sh70.isTableSize (k.toNat) (((Sh70Neutral.toNats ns).length / k.toNat))) = true then ns.length == (k.toNat * ((Sh70Neutral.toNats ns).length / k.toNat)) else ((ns.isEmpty) || (ns.length == (k.toNat * ((Sh70Neutral.toNats ns).length / k.toNat))))))) = true := h1.1
  rw [Bool.and_eq_true, Bool.and_eq_true] at h2
  exact asked_len hs hk h2.2.2
/-- .. of extinctions, corrected_magnitudes, scatters: their requests are asked alike -/
theorem asked_table2 {k : Int} {ns : List Int} (hs : sizeOk k ns.length = true) (hk : 0 ≤ k) (ha : PySh70.corrected_magnitudes_asked k ns = true) : ns.length = k.toNat * (ns.length / k.toNat) := by
  have h1 : (Sh70Neutral.asked1 [[1, k], ns] && decide ((Sh70Neutral.f [[1, k], ns]).length < 1000000)) = true := ha
  rw [Bool.and_eq_true] at h1
  have h2 : (Sh70Neutral.fits k 32 && (Sh70Neutral.allFit ns 32 && (if (Sh70.isTableSize (k.toNat) (((Sh70Neutral.toNats ns).length / k.toNat))) = true then ns.length == (k.toNat * ((Sh70Neutral.toNats ns).length / k.toNat)) else ((ns.isEmpty) || (ns.length == (k.toNat * ((Sh70Neutral.toNats ns).length / k.toNat))))))) = true := h1.1
  rw [Bool.and_eq_true, Bool.and_eq_true] at h2
  exact asked_len hs hk h2.2.2
theorem size_bounds {k : Int} {n : Nat} (hs : sizeOk k n = true) : 1 ≤ k ∧ k ≤ 32 ∧ 1 ≤ n / k.toNat ∧ n / k.toNat ≤ 64 := by
  unfold sizeOk at hs
  by_cases h : k < 1 ∨ k > 32
  · rw [if_pos h] at hs; cases hs
  · rw [if_neg h] at hs
    obtain ⟨m, rfl⟩ := Int.eq_ofNat_of_zero_le (show 0 ≤ k by omega)
    have e : ((n : Int) / (m : Int)) = ((n / m : Nat) : Int) := by rw [Int.natCast_ediv]
    rw [e, Bool.and_eq_true, decide_eq_true_iff, decide_eq_true_iff] at hs
    rw [Int.toNat_natCast]
    omega
theorem refusal_size {k : Int} {ns : List Int} (h : sizeOk k ns.length = false) : refusal k ns = -2 := if_pos h
theorem refusal_mags {k : Int} {ns : List Int} (h : sizeOk k ns.length = true) (h2 : magsOk ns = false) : refusal k ns = -3 := by
  unfold refusal
  rw [if_neg (by rw [h]; decide), if_pos h2]
theorem refusal_ok {k : Int} {ns : List Int} (h : sizeOk k ns.length = true) (h2 : magsOk ns = true) : refusal k ns = 0 := by
  unfold refusal
  rw [if_neg (by rw [h]; decide), if_neg (by rw [h2]; decide)]
theorem refusal_zero {k : Int} {ns : List Int} (h : refusal k ns = 0) : sizeOk k ns.length = true ∧ magsOk ns = true := by
  cases h1 : sizeOk k ns.length with
  | false => rw [refusal_size h1] at h; cases h
  | true =>
    cases h2 : magsOk ns with
    | false => rw [refusal_mags h1 h2] at h; cases h
    | true => exact ⟨rfl, rfl⟩
theorem refusal_cases (k : Int) (ns : List Int) : (sizeOk k ns.length = false ∧ refusal k ns = -2) ∨ (sizeOk k ns.length = true ∧ magsOk ns = false ∧ refusal k ns = -3) ∨ (sizeOk k ns.length = true ∧ magsOk ns = true ∧ refusal k ns = 0) := by
  cases h1 : sizeOk k ns.length with
  | false => exact .inl ⟨rfl, refusal_size h1⟩
  | true =>
    cases h2 : magsOk ns with
    | false => exact .inr (.inl ⟨rfl, rfl, refusal_mags h1 h2⟩)
    | true => exact .inr (.inr ⟨rfl, rfl, refusal_ok h1 h2⟩)
theorem rows_len (k : Nat) (xs : List Int) : (rowsOf k xs).length = xs.length / k := by
  unfold rowsOf
  rw [List.length_map, List.length_range]
theorem row_is (k : Nat) (xs : List Int) (i : Nat) : Sh70.imageRow k xs i = (xs.drop (i * k)).take k := rfl
theorem row_len {k : Nat} {xs : List Int} (hl : xs.length = k * (xs.length / k)) {r : List Int} (h : r ∈ rowsOf k xs) : r.length = k := by
  unfold rowsOf at h
  obtain ⟨i, hi, rfl⟩ := List.mem_map.mp h
  rw [List.mem_range] at hi
  rw [List.length_take, List.length_drop]
  have h1 : (i + 1) * k ≤ (xs.length / k) * k := Nat.mul_le_mul_right k hi
  rw [Nat.mul_comm (xs.length / k) k, ← hl, Nat.add_mul, Nat.one_mul] at h1
  omega
theorem row_at {k : Nat} {xs : List Int} {i s : Nat} (hs : s < k) : ((xs.drop (i * k)).take k).getD s 0 = Sh70.intAt xs (i * k + s) := by
  unfold Sh70.intAt
  rw [List.getD_eq_getElem?_getD, List.getD_eq_getElem?_getD, List.getElem?_take_of_lt hs, List.getElem?_drop]
theorem column_is {k : Nat} {xs : List Int} {s : Nat} (hs : s < k) : Sh70.starColumn k xs s = column s (rowsOf k xs) := by
  unfold Sh70.starColumn column rowsOf
  rw [List.map_map]
  exact List.map_congr_left fun i _ => (row_at hs).symm
theorem abs_small {x : Int} (h : decide (absI x < 100000) = true) : -100000 < x ∧ x < 100000 := by
  have h := of_decide_eq_true h
  unfold absI at h
  split at h <;> omega
theorem mags_small {ns : List Int} (h : magsOk ns = true) : ∀ x ∈ ns.map sgn, -100000 < x ∧ x < 100000 := by
  intro x hx
  obtain ⟨n, hn, rfl⟩ := List.mem_map.mp hx
  exact abs_small (List.all_eq_true.mp h n hn)
theorem row_mem {k : Nat} {xs r : List Int} (h : r ∈ rowsOf k xs) : ∀ x ∈ r, x ∈ xs := by
  unfold rowsOf at h
  obtain ⟨i, _, rfl⟩ := List.mem_map.mp h
  exact fun x hx => List.mem_of_mem_drop (List.mem_of_mem_take hx)
theorem column_small {ns : List Int} {k s : Nat} (h : magsOk ns = true) (hs : s < k) (hl : (ns.map sgn).length = k * ((ns.map sgn).length / k)) : ∀ x ∈ column s (rowsOf k (ns.map sgn)), -100000 < x ∧ x < 100000 := by
  intro x hx
  unfold column at hx
  obtain ⟨r, hr, rfl⟩ := List.mem_map.mp hx
  have e := row_len hl hr
  have hsr : s < r.length := by omega
  refine mags_small h _ (row_mem hr _ ?_)
  rw [List.getD_eq_getElem?_getD, List.getElem?_eq_getElem hsr]
  exact List.getElem_mem hsr
theorem column_len (s : Nat) (rows : List (List Int)) : (column s rows).length = rows.length := List.length_map ..
theorem sum_is (l : List Int) : Sh70.sum l = l.sum := rfl
/-! ### a scatter is not negative -/
theorem dev (y : Int) : ∀ xs : List Int, 0 ≤ (xs.length : Int) * y ^ 2 - 2 * y * xs.sum + (xs.map fun x => x * x).sum
  | [] => by simp
  | x :: r => by
    have ih := dev y r
    have sq : 0 ≤ (y - x) * (y - x) := by
      rcases Int.le_total 0 (y - x) with h | h
      · exact Int.mul_nonneg h h
      · have := Int.mul_nonneg (show 0 ≤ -(y - x) by omega) (show 0 ≤ -(y - x) by omega)
        rwa [Int.neg_mul_neg] at this
    rw [List.map_cons, List.sum_cons, List.sum_cons, List.length_cons]
    have e : ((r.length + 1 : Nat) : Int) * y ^ 2 - 2 * y * (x + r.sum) + (x * x + (r.map fun x => x * x).sum) = ((r.length : Int) * y ^ 2 - 2 * y * r.sum + (r.map fun x => x * x).sum) + (y - x) * (y - x) := by
      rw [Int.natCast_add, Int.pow_succ, Int.pow_succ, Int.pow_zero]
      grind
    rw [e]
    omega
theorem spread_nonneg : ∀ xs : List Int, 0 ≤ (xs.length : Int) * (xs.map fun x => x * x).sum - xs.sum ^ 2
  | [] => by simp
  | x :: r => by
    have ih := spread_nonneg r
    have d := dev x r
    rw [List.map_cons, List.sum_cons, List.sum_cons, List.length_cons]
    have e : ((r.length + 1 : Nat) : Int) * (x * x + (r.map fun x => x * x).sum) - (x + r.sum) ^ 2 = ((r.length : Int) * (r.map fun x => x * x).sum - r.sum ^ 2) + ((r.length : Int) * x ^ 2 - 2 * x * r.sum + (r.map fun x => x * x).sum) := by
      rw [Int.natCast_add]
      simp only [Int.pow_succ, Int.pow_zero]
      grind
    rw [e]
    omega
theorem scatter_nonneg (xs : List Int) : 0 ≤ scatterI xs := by
  unfold scatterI
  refine Int.ediv_nonneg ?_ ?_
  · have := spread_nonneg xs
    omega
  · exact Int.mul_nonneg (by omega) (by omega)
theorem scatter_is {xs : List Int} (h : 0 < xs.length) : ((Sh70.scatter xs : Nat) : Int) = scatterI xs := by
  have h0 := scatter_nonneg xs
  have e : Sh70.scatter xs = (scatterI xs).toNat := by
    unfold Sh70.scatter scatterI
    dsimp only
    rw [if_neg (by omega), sum_is, sum_is]
    simp only [Int.pow_succ, Int.pow_zero, Int.one_mul]
  rw [e]
  omega
/-- the answer to a table, told by what it is refused for -/
theorem two_case (l : List Int) : Sh70Neutral.toInts (l.map Int.toNat) = l.map fun x => (x.toNat : Int) := by
  unfold Sh70Neutral.toInts
  rw [List.map_map]
  rfl
theorem spec_scatters {k : Int} {ns : List Int} (hk : 0 ≤ k) (hn : ∀ x ∈ ns, 0 ≤ x ∧ x ≤ 4294967295) :
    PySh70.scatters k ns = if refusal k ns = 0 then 0 :: (List.range k.toNat).map (fun s => scatterI (column s (rowsOf k.toNat (ns.map sgn)))) else [refusal k ns] := by
  show Sh70Neutral.flatten (Sh70.answer (if (Sh70.isTableSize k.toNat ((Sh70Neutral.toNats ns).length / k.toNat)) = true then .scatters k.toNat (Sh70.signedWords (Sh70Neutral.toNats ns)) else .invalid)) = _
  rw [toNats_len, size_eq hk, signed_eq hn]
  rcases refusal_cases k ns with ⟨h1, h2⟩ | ⟨h1, h2, h3⟩ | ⟨h1, h2, h3⟩
  · rw [h1, h2]; rfl
  · rw [h1, h3, if_pos rfl]
    show Sh70Neutral.flatten (if Sh70.areValidMagnitudes (ns.map sgn) = false then Sh70.errorAnswer (-3) else _) = _
    rw [mags_eq, if_pos h2]; rfl
  · rw [h1, h3, if_pos rfl, if_pos rfl]
    show Sh70Neutral.flatten (if Sh70.areValidMagnitudes (ns.map sgn) = false then Sh70.errorAnswer (-3) else _) = _
    rw [mags_eq, if_neg (by rw [h2]; decide)]
    show 0 :: Sh70Neutral.toInts ((List.range k.toNat).map fun star => Sh70.scatter (Sh70.starColumn k.toNat (ns.map sgn) star)) = _
    unfold Sh70Neutral.toInts
    rw [List.map_map]
    congr 1
    refine List.map_congr_left fun s hs => ?_
    rw [List.mem_range] at hs
    show ((Sh70.scatter (Sh70.starColumn k.toNat (ns.map sgn) s) : Nat) : Int) = _
    rw [column_is hs]
    refine scatter_is ?_
    rw [column_len, rows_len, List.length_map]
    have := size_bounds h1
    omega
/-! ### medians, extinctions -/
theorem med_mem {xs : List Int} (h : 0 < xs.length) : Sh70.median xs ∈ xs := by
  unfold Sh70.median Sh70.intAt
  have hl : (xs.mergeSort fun a b => decide (a ≤ b)).length = xs.length := List.length_mergeSort xs
  have hi : (xs.length - 1) / 2 < (xs.mergeSort fun a b => decide (a ≤ b)).length := by
    rw [hl]
    omega
  rw [List.getD_eq_getElem?_getD, List.getElem?_eq_getElem hi]
  exact (List.mergeSort_perm xs _).mem_iff.mp (List.getElem_mem hi)
theorem word_uns {z : Int} (h : -4294967296 ≤ z ∧ z < 4294967296) : ((Sh70.word32 z : Nat) : Int) = uns z := by
  unfold Sh70.word32 uns
  split <;> omega
theorem ints_words {l : List Int} (h : ∀ z ∈ l, -4294967296 ≤ z ∧ z < 4294967296) : Sh70Neutral.toInts (l.map Sh70.word32) = l.map uns := by
  unfold Sh70Neutral.toInts
  rw [List.map_map]
  exact List.map_congr_left fun z hz => word_uns (h z hz)
def medians (k : Nat) (rows : List (List Int)) : List Int := (List.range k).map fun s => Sh70.median (column s rows)
def extOf (r ms : List Int) : Int := Sh70.median ((r.zip ms).map fun p => p.1 - p.2)
theorem medians_len (k : Nat) (rows : List (List Int)) : (medians k rows).length = k := by
  unfold medians
  rw [List.length_map, List.length_range]
theorem medians_is {k : Nat} {xs : List Int} : Sh70.starMedians k xs = medians k (rowsOf k xs) := by
  unfold Sh70.starMedians medians
  refine List.map_congr_left fun s hs => ?_
  rw [List.mem_range] at hs
  rw [column_is hs]
theorem exts_is {k : Nat} {xs : List Int} : Sh70.extinctions k xs = (rowsOf k xs).map fun r => extOf r (medians k (rowsOf k xs)) := by
  show ((List.range (xs.length / k)).map fun image => Sh70.median (((Sh70.imageRow k xs image).zip (Sh70.starMedians k xs)).map fun pair => pair.1 - pair.2)) = _
  rw [medians_is]
  conv => rhs; arg 2; unfold rowsOf
  rw [List.map_map]
  rfl
theorem medians_small {ns : List Int} {k : Nat} (h : magsOk ns = true) (hl : (ns.map sgn).length = k * ((ns.map sgn).length / k)) (h0 : 0 < (ns.map sgn).length / k) : ∀ z ∈ medians k (rowsOf k (ns.map sgn)), -100000 < z ∧ z < 100000 := by
  intro z hz
  unfold medians at hz
  obtain ⟨s, hs, rfl⟩ := List.mem_map.mp hz
  rw [List.mem_range] at hs
  refine column_small h hs hl _ (med_mem ?_)
  rw [column_len, rows_len]
  exact h0
theorem ext_small {ns r : List Int} {k : Nat} (h : magsOk ns = true) (hl : (ns.map sgn).length = k * ((ns.map sgn).length / k)) (h0 : 0 < (ns.map sgn).length / k) (hk : 0 < k) (hr : r ∈ rowsOf k (ns.map sgn)) :
    -200000 < extOf r (medians k (rowsOf k (ns.map sgn))) ∧ extOf r (medians k (rowsOf k (ns.map sgn))) < 200000 := by
  have hm := med_mem (xs := (r.zip (medians k (rowsOf k (ns.map sgn)))).map fun p => p.1 - p.2) (by
    rw [List.length_map, List.length_zip, medians_len, row_len hl hr]
    omega)
  have e : extOf r (medians k (rowsOf k (ns.map sgn))) = Sh70.median ((r.zip (medians k (rowsOf k (ns.map sgn)))).map fun p => p.1 - p.2) := rfl
  rw [e]
  obtain ⟨p, hp, hpe⟩ := List.mem_map.mp hm
  have h1 := mags_small h p.1 (row_mem hr _ (List.of_mem_zip hp).1)
  have h2 := medians_small h hl h0 p.2 (List.of_mem_zip hp).2
  rw [← hpe]
  omega
def ansExt (k : Nat) (ns : List Int) : List Int := 0 :: (k : Int) :: (medians k (rowsOf k (ns.map sgn))).map uns ++ [((rowsOf k (ns.map sgn)).length : Int)] ++ (rowsOf k (ns.map sgn)).map fun r => uns (extOf r (medians k (rowsOf k (ns.map sgn))))
theorem spec_extinctions {k : Int} {ns : List Int} (hk : 0 ≤ k) (hn : ∀ x ∈ ns, 0 ≤ x ∧ x ≤ 4294967295) (hd : sizeOk k ns.length = true → ns.length = k.toNat * (ns.length / k.toNat)) :
    PySh70.extinctions k ns = if refusal k ns = 0 then ansExt k.toNat ns else [refusal k ns] := by
  show Sh70Neutral.flatten (Sh70.answer (if (Sh70.isTableSize k.toNat ((Sh70Neutral.toNats ns).length / k.toNat)) = true then .extinctions k.toNat (Sh70.signedWords (Sh70Neutral.toNats ns)) else .invalid)) = _
  rw [toNats_len, size_eq hk, signed_eq hn]
  rcases refusal_cases k ns with ⟨h1, h2⟩ | ⟨h1, h2, h3⟩ | ⟨h1, h2, h3⟩
  · rw [h1, h2]; rfl
  · rw [h1, h3, if_pos rfl]
    show Sh70Neutral.flatten (if Sh70.areValidMagnitudes (ns.map sgn) = false then Sh70.errorAnswer (-3) else _) = _
    rw [mags_eq, if_pos h2]; rfl
  · rw [h1, h3, if_pos rfl, if_pos rfl]
    show Sh70Neutral.flatten (if Sh70.areValidMagnitudes (ns.map sgn) = false then Sh70.errorAnswer (-3) else _) = _
    rw [mags_eq, if_neg (by rw [h2]; decide)]
    have hb := size_bounds h1
    have hl : (ns.map sgn).length = k.toNat * ((ns.map sgn).length / k.toNat) := by
      rw [List.length_map]
      exact hd h1
    have h0 : 0 < (ns.map sgn).length / k.toNat := by
      rw [List.length_map]
      omega
    show 0 :: ((((Sh70.starMedians k.toNat (ns.map sgn)).map Sh70.word32).length : Int) :: Sh70Neutral.toInts ((Sh70.starMedians k.toNat (ns.map sgn)).map Sh70.word32) ++ ((((Sh70.extinctions k.toNat (ns.map sgn)).map Sh70.word32).length : Int) :: Sh70Neutral.toInts ((Sh70.extinctions k.toNat (ns.map sgn)).map Sh70.word32) ++ [])) = _
    rw [medians_is, exts_is, ints_words, ints_words, List.length_map, List.length_map, List.length_map, medians_len, List.map_map, List.append_nil]
    · unfold ansExt
      simp only [List.cons_append, List.append_assoc, List.nil_append, List.singleton_append]
      rfl
    · intro z hz
      obtain ⟨r, hr, rfl⟩ := List.mem_map.mp hz
      have := ext_small h2 hl h0 (by omega) hr
      omega
    · intro z hz
      have := medians_small h2 hl h0 z hz
      omega
/-! ### corrected magnitudes -/
theorem flatMap_same {α β : Type} {f g : α → List β} : ∀ {l : List α}, (∀ a ∈ l, f a = g a) → l.flatMap f = l.flatMap g
  | [], _ => rfl
  | a :: l, h => by
    rw [List.flatMap_cons, List.flatMap_cons, h a (List.mem_cons_self ..), flatMap_same fun b hb => h b (List.mem_cons_of_mem _ hb)]
theorem range_rows (m k : Nat) {α : Type} (f : Nat → α) : (List.range (m * k)).map f = (List.range m).flatMap fun i => (List.range k).map fun j => f (i * k + j) := by
  induction m with
  | zero => simp
  | succ m ih =>
    rw [Nat.add_mul, Nat.one_mul, List.range_add, List.map_append, ih, List.range_succ, List.flatMap_append, List.map_map]
    simp only [List.flatMap_cons, List.flatMap_nil, List.append_nil]
    rfl
theorem row_range {k i : Nat} {xs : List Int} (h : (i + 1) * k ≤ xs.length) : (xs.drop (i * k)).take k = (List.range k).map fun j => Sh70.intAt xs (i * k + j) := by
  rw [Nat.add_mul, Nat.one_mul] at h
  apply List.ext_getElem?
  intro j
  by_cases hj : j < k
  · rw [List.getElem?_take_of_lt hj, List.getElem?_drop, List.getElem?_map, List.getElem?_range hj]
    unfold Sh70.intAt
    have h2 : i * k + j < xs.length := by omega
    rw [List.getElem?_eq_getElem h2]
    show some _ = some (xs.getD (i * k + j) 0)
    rw [List.getD_eq_getElem?_getD, List.getElem?_eq_getElem h2]
    rfl
  · rw [List.getElem?_eq_none (by simp; omega), List.getElem?_eq_none (by simp; omega)]
def corrOf (k : Nat) (xs : List Int) : List Int := (rowsOf k xs).flatMap fun r => r.map fun x => x - extOf r (medians k (rowsOf k xs))
theorem corr_is {k : Nat} {xs : List Int} (hk : 0 < k) (hl : xs.length = k * (xs.length / k)) : Sh70.corrected k xs = corrOf k xs := by
  show ((List.range xs.length).map fun i => Sh70.intAt xs i - Sh70.intAt (Sh70.extinctions k xs) (i / k)) = _
  rw [exts_is]
  have e : xs.length = (xs.length / k) * k := by rw [Nat.mul_comm]; exact hl
  conv => lhs; arg 2; rw [e]
  rw [range_rows]
  unfold corrOf
  conv => rhs; arg 2; unfold rowsOf
  rw [List.flatMap_map]
  refine flatMap_same fun i hi => ?_
  rw [List.mem_range] at hi
  have h3 : (i + 1) * k ≤ (xs.length / k) * k := Nat.mul_le_mul_right k hi
  rw [← e] at h3
  have er : (xs.drop (i * k)).take k = (List.range k).map fun j => Sh70.intAt xs (i * k + j) := row_range h3
  conv => rhs; arg 2; rw [er]
  rw [List.map_map]
  refine List.map_congr_left fun j hj => ?_
  rw [List.mem_range] at hj
  have ed : (i * k + j) / k = i := by
    rw [Nat.mul_comm, Nat.mul_add_div hk, Nat.div_eq_of_lt hj, Nat.add_zero]
  show _ - Sh70.intAt _ ((i * k + j) / k) = _ - _
  rw [ed]
  congr 1
  unfold Sh70.intAt
  rw [List.getD_eq_getElem?_getD, List.getElem?_map]
  have hr : (rowsOf k xs)[i]? = some ((xs.drop (i * k)).take k) := by
    unfold rowsOf
    rw [List.getElem?_map, List.getElem?_range hi]
    rfl
  rw [hr]
  rfl
theorem spec_corrected {k : Int} {ns : List Int} (hk : 0 ≤ k) (hn : ∀ x ∈ ns, 0 ≤ x ∧ x ≤ 4294967295) (hd : sizeOk k ns.length = true → ns.length = k.toNat * (ns.length / k.toNat)) :
    PySh70.corrected_magnitudes k ns = if refusal k ns = 0 then 0 :: (corrOf k.toNat (ns.map sgn)).map uns else [refusal k ns] := by
  show Sh70Neutral.flatten (Sh70.answer (if (Sh70.isTableSize k.toNat ((Sh70Neutral.toNats ns).length / k.toNat)) = true then .corrected k.toNat (Sh70.signedWords (Sh70Neutral.toNats ns)) else .invalid)) = _
  rw [toNats_len, size_eq hk, signed_eq hn]
  rcases refusal_cases k ns with ⟨h1, h2⟩ | ⟨h1, h2, h3⟩ | ⟨h1, h2, h3⟩
  · rw [h1, h2]; rfl
  · rw [h1, h3, if_pos rfl]
    show Sh70Neutral.flatten (if Sh70.areValidMagnitudes (ns.map sgn) = false then Sh70.errorAnswer (-3) else _) = _
    rw [mags_eq, if_pos h2]; rfl
  · rw [h1, h3, if_pos rfl, if_pos rfl]
    show Sh70Neutral.flatten (if Sh70.areValidMagnitudes (ns.map sgn) = false then Sh70.errorAnswer (-3) else _) = _
    rw [mags_eq, if_neg (by rw [h2]; decide)]
    have hb := size_bounds h1
    have hl : (ns.map sgn).length = k.toNat * ((ns.map sgn).length / k.toNat) := by
      rw [List.length_map]
      exact hd h1
    have h0 : 0 < (ns.map sgn).length / k.toNat := by
      rw [List.length_map]
      omega
    show 0 :: Sh70Neutral.toInts ((Sh70.corrected k.toNat (ns.map sgn)).map Sh70.word32) = _
    rw [corr_is (by omega) hl, ints_words]
    intro z hz
    unfold corrOf at hz
    obtain ⟨r, hr, hz⟩ := List.mem_flatMap.mp hz
    obtain ⟨x, hx, rfl⟩ := List.mem_map.mp hz
    have h4 := ext_small h2 hl h0 (by omega) hr
    have h5 := mags_small h2 x (row_mem hr x hx)
    omega
/-! ### differential magnitudes -/
def wOk (ws : List Int) : Bool := ws.all fun w => decide (w ≤ 65535)
def others (s : Nat) (ws : List Int) : List Int := ws.set s 0
def wsum (s : Nat) (ws r : List Int) : Int := (((others s ws).zip r).map fun p => p.1 * p.2).sum
def rdiv (a b : Int) : Int := (2 * a + b) / (2 * b)
def dmag (s : Nat) (ws r : List Int) : Int := if (others s ws).sum = 0 then 0 else r.getD s 0 - rdiv (wsum s ws r) (others s ws).sum
theorem filt_all : ∀ (l : List Nat) (n m : Nat), m < n → ((l.zipIdx n).filter fun e => e.2 != m) = l.zipIdx n
  | [], _, _, _ => rfl
  | a :: l, n, m, h => by
    rw [List.zipIdx_cons, List.filter_cons, if_pos (by simp; omega), filt_all l (n + 1) m (by omega)]
theorem filt_set (f : Nat × Nat → Int) (h0 : ∀ i, f (0, i) = 0) : ∀ (l : List Nat) (n s : Nat), (((l.zipIdx n).filter fun e => e.2 != n + s).map f).sum = (((l.set s 0).zipIdx n).map f).sum
  | [], _, _ => rfl
  | a :: l, n, 0 => by
    rw [List.zipIdx_cons, List.filter_cons, if_neg (by simp), Nat.add_zero, filt_all l (n + 1) n (by omega), List.set_cons_zero, List.zipIdx_cons, List.map_cons, List.sum_cons, h0, Int.zero_add]
  | a :: l, n, s + 1 => by
    have ih := filt_set f h0 l (n + 1) s
    rw [show n + 1 + s = n + (s + 1) by omega] at ih
    rw [List.zipIdx_cons, List.filter_cons, if_pos (by simp), List.set_cons_succ, List.zipIdx_cons, List.map_cons, List.map_cons, List.sum_cons, List.sum_cons, ih]
theorem idx_fst : ∀ (l : List Nat) (n : Nat), ((l.zipIdx n).map fun e => (e.1 : Int)).sum = (l.map fun x : Nat => (x : Int)).sum
  | [], _ => rfl
  | a :: l, n => by
    rw [List.zipIdx_cons, List.map_cons, List.map_cons, List.sum_cons, List.sum_cons, idx_fst l (n + 1)]
theorem idx_zip : ∀ (l : List Nat) (n : Nat) (r : List Int), n + l.length ≤ r.length → ((l.zipIdx n).map fun e => (e.1 : Int) * Sh70.intAt r e.2).sum = (((l.map fun x : Nat => (x : Int)).zip (r.drop n)).map fun p => p.1 * p.2).sum
  | [], _, _, _ => rfl
  | a :: l, n, r, h => by
    rw [List.length_cons] at h
    have hn : n < r.length := by omega
    rw [List.zipIdx_cons, List.map_cons, List.map_cons, List.sum_cons, idx_zip l (n + 1) r (by omega), List.drop_eq_getElem_cons hn, List.zip_cons_cons, List.map_cons, List.sum_cons]
    congr 2
    unfold Sh70.intAt
    rw [List.getD_eq_getElem?_getD, List.getElem?_eq_getElem hn]
    rfl
theorem nat_sum : ∀ l : List Nat, ((l.sum : Nat) : Int) = (l.map fun x : Nat => (x : Int)).sum
  | [] => rfl
  | a :: l => by
    rw [List.sum_cons, List.map_cons, List.sum_cons, Int.natCast_add, nat_sum l]
theorem back_nats {ws : List Int} (h : ∀ x ∈ ws, 0 ≤ x) : (Sh70Neutral.toNats ws).map (fun x : Nat => (x : Int)) = ws := by
  unfold Sh70Neutral.toNats
  rw [List.map_map]
  conv => rhs; rw [← List.map_id ws]
  refine List.map_congr_left fun x hx => ?_
  have := h x hx
  show ((x.toNat : Nat) : Int) = x
  omega
theorem back_set {ws : List Int} (h : ∀ x ∈ ws, 0 ≤ x) (s : Nat) : ((Sh70Neutral.toNats ws).set s 0).map (fun x : Nat => (x : Int)) = others s ws := by
  rw [List.map_set, back_nats h]
  rfl
theorem differential_is {ws r : List Int} (h : ∀ x ∈ ws, 0 ≤ x) (hl : ws.length = r.length) (s : Nat) : Sh70.differential (Sh70Neutral.toNats ws) s r = dmag s ws r := by
  have e1 : (((((Sh70Neutral.toNats ws).zipIdx.filter fun entry => entry.2 != s).map fun entry => entry.1).sum : Nat) : Int) = (others s ws).sum := by
    rw [nat_sum, List.map_map]
    have h1 := filt_set (fun e => (e.1 : Int)) (fun _ => rfl) (Sh70Neutral.toNats ws) 0 s
    rw [Nat.zero_add, idx_fst, back_set h] at h1
    exact h1
  have e2 : (((Sh70Neutral.toNats ws).zipIdx.filter fun entry => entry.2 != s).map fun entry => (entry.1 : Int) * Sh70.intAt r entry.2).sum = wsum s ws r := by
    have h1 := filt_set (fun e => (e.1 : Int) * Sh70.intAt r e.2) (fun i => by show ((0 : Nat) : Int) * _ = 0; rw [Int.natCast_zero, Int.zero_mul]) (Sh70Neutral.toNats ws) 0 s
    rw [Nat.zero_add, idx_zip _ 0 r (by rw [List.length_set, toNats_len]; omega), back_set h, List.drop_zero] at h1
    exact h1
  unfold Sh70.differential dmag
  dsimp only
  rw [sum_is, e2]
  by_cases z : (others s ws).sum = 0
  · rw [if_pos z, if_pos (by omega)]
  · rw [if_neg z, if_neg (by omega)]
    unfold Sh70.roundDiv rdiv Sh70.intAt
    rw [e1]
theorem w_eq {ws : List Int} (h : ∀ x ∈ ws, 0 ≤ x) : ((Sh70Neutral.toNats ws).all fun weight => decide (weight < 65536)) = wOk ws := by
  unfold Sh70Neutral.toNats wOk
  rw [List.all_map, Bool.eq_iff_iff, List.all_eq_true, List.all_eq_true]
  constructor
  · intro g x hx
    have h1 := g x hx
    have h2 := h x hx
    have h1 : x.toNat < 65536 := of_decide_eq_true h1
    exact decide_eq_true (by omega)
  · intro g x hx
    have h1 := of_decide_eq_true (g x hx)
    have h2 := h x hx
    exact decide_eq_true (by show x.toNat < 65536; omega)
theorem sum_bounds {b : Int} : ∀ {l : List Int}, (∀ x ∈ l, 0 ≤ x ∧ x ≤ b) → 0 ≤ l.sum ∧ l.sum ≤ (l.length : Int) * b
  | [], _ => by simp
  | x :: r, h => by
    have ih := sum_bounds fun y hy => h y (List.mem_cons_of_mem _ hy)
    have hx := h x (List.mem_cons_self ..)
    rw [List.sum_cons, List.length_cons, Int.natCast_add, Int.add_mul]
    omega
theorem others_in {s : Nat} {ws : List Int} (h : ∀ x ∈ ws, 0 ≤ x) (hw : wOk ws = true) : ∀ x ∈ others s ws, 0 ≤ x ∧ x ≤ 65535 := by
  intro x hx
  rcases List.mem_or_eq_of_mem_set hx with z | z
  · exact ⟨h x z, of_decide_eq_true (List.all_eq_true.mp hw x z)⟩
  · omega
theorem prod_bounds : ∀ {l r : List Int}, (∀ x ∈ l, 0 ≤ x) → (∀ y ∈ r, -100000 < y ∧ y < 100000) → -(100000 * l.sum) ≤ ((l.zip r).map fun p => p.1 * p.2).sum ∧ ((l.zip r).map fun p => p.1 * p.2).sum ≤ 100000 * l.sum
  | [], _, _, _ => by simp
  | x :: l, [], h, _ => by
    have : 0 ≤ (x :: l).sum := by
      have g : ∀ (l : List Int), (∀ x ∈ l, 0 ≤ x) → 0 ≤ l.sum := by
        intro l
        induction l with
        | nil => intro _; simp
        | cons a l ih => intro h; rw [List.sum_cons]; have := h a (List.mem_cons_self ..); have := ih fun y hy => h y (List.mem_cons_of_mem _ hy); omega
      exact g _ h
    rw [List.zip_nil_right, List.map_nil, List.sum_nil]
    omega
  | x :: l, y :: r, h, g => by
    have ih := prod_bounds (l := l) (r := r) (fun z hz => h z (List.mem_cons_of_mem _ hz)) (fun z hz => g z (List.mem_cons_of_mem _ hz))
    have hx := h x (List.mem_cons_self ..)
    have hy := g y (List.mem_cons_self ..)
    have h1 : x * y ≤ x * 100000 := Int.mul_le_mul_of_nonneg_left (by omega) hx
    have h2 : x * (-100000) ≤ x * y := Int.mul_le_mul_of_nonneg_left (by omega) hx
    rw [List.zip_cons_cons, List.map_cons, List.sum_cons, List.sum_cons]
    show _ ≤ x * y + _ ∧ x * y + _ ≤ _
    omega
theorem rdiv_bounds {a b : Int} (hb : 0 < b) (h1 : -(100000 * b) ≤ a) (h2 : a ≤ 100000 * b) : -100001 ≤ rdiv a b ∧ rdiv a b ≤ 100001 := by
  unfold rdiv
  constructor
  · refine (Int.le_ediv_iff_mul_le (by omega)).mpr ?_
    omega
  · refine Int.ediv_le_of_le_mul (by omega) ?_
    omega
theorem dmag_small {s : Nat} {ws r : List Int} (h : ∀ x ∈ ws, 0 ≤ x) (hw : wOk ws = true) (hr : ∀ y ∈ r, -100000 < y ∧ y < 100000) (hs : s < r.length) : -300000 ≤ dmag s ws r ∧ dmag s ws r ≤ 300000 := by
  unfold dmag
  by_cases z : (others s ws).sum = 0
  · rw [if_pos z]; omega
  · rw [if_neg z]
    have h1 := sum_bounds (others_in (s := s) h hw)
    have h2 := prod_bounds (l := others s ws) (r := r) (fun x hx => (others_in h hw x hx).1) hr
    have h3 := rdiv_bounds (a := wsum s ws r) (b := (others s ws).sum) (by omega) h2.1 h2.2
    have h4 := hr (r.getD s 0) (by
      rw [List.getD_eq_getElem?_getD, List.getElem?_eq_getElem hs]
      exact List.getElem_mem hs)
    omega
def ref4 (k star : Int) (ws ns : List Int) : Int := if wOk ws = false then -2 else if refusal k ns = 0 then (if k ≤ star then -4 else 0) else refusal k ns
theorem asked4 {k star : Int} {ws ns : List Int} (hs : sizeOk k ns.length = true) (hk : 0 ≤ k) (ha : PySh70.differential_magnitudes_asked k star ws ns = true) : ws.length = k.toNat ∧ ns.length = k.toNat * (ns.length / k.toNat) := by
  have h1 : (Sh70Neutral.asked1 [[3, k, star], ws, ns] && decide ((Sh70Neutral.f [[3, k, star], ws, ns]).length < 1000000)) = true := ha
  rw [Bool.and_eq_true] at h1
  have h2 : (Sh70Neutral.fits k 32 && (Sh70Neutral.fits star 32 && (Sh70Neutral.allFit ws 32 && (Sh70Neutral.allFit ns 32 && (if (Sh70.isTableSize (k.toNat) (((Sh70Neutral.toNats ns).length / k.toNat))) = true then ws.length == (k.toNat) && ns.length == (k.toNat * ((Sh70Neutral.toNats ns).length / k.toNat)) else ((ws.isEmpty && ns.isEmpty) || (ws.length == (k.toNat) && ns.length == (k.toNat * ((Sh70Neutral.toNats ns).length / k.toNat))))))))) = true := h1.1
  rw [Bool.and_eq_true, Bool.and_eq_true, Bool.and_eq_true, Bool.and_eq_true] at h2
  have h3 := h2.2.2.2.2
  rw [toNats_len, size_eq hk, hs] at h3
  simpa using h3
theorem spec_differential {k star : Int} {ws ns : List Int} (hk : 0 ≤ k) (hst : 0 ≤ star) (hw : ∀ x ∈ ws, 0 ≤ x ∧ x ≤ 4294967295) (hn : ∀ x ∈ ns, 0 ≤ x ∧ x ≤ 4294967295) (hd : sizeOk k ns.length = true → ws.length = k.toNat ∧ ns.length = k.toNat * (ns.length / k.toNat)) :
    PySh70.differential_magnitudes k star ws ns = if ref4 k star ws ns = 0 then 0 :: (rowsOf k.toNat (ns.map sgn)).map (fun r => uns (dmag star.toNat ws r)) else [ref4 k star ws ns] := by
  show Sh70Neutral.flatten (Sh70.answer (if (Sh70.isTableSize k.toNat ((Sh70Neutral.toNats ns).length / k.toNat)) = true then .differential star.toNat k.toNat (Sh70Neutral.toNats ws) (Sh70.signedWords (Sh70Neutral.toNats ns)) else .invalid)) = _
  rw [toNats_len, size_eq hk, signed_eq hn]
  have hw0 : ∀ x ∈ ws, 0 ≤ x := fun x hx => (hw x hx).1
  unfold ref4
  rcases refusal_cases k ns with ⟨h1, h2⟩ | ⟨h1, h2, h3⟩ | ⟨h1, h2, h3⟩
  · rw [h1, h2]
    cases wOk ws <;> rfl
  · rw [h1, h3, if_pos rfl]
    show Sh70Neutral.flatten (if ((Sh70Neutral.toNats ws).all fun weight => decide (weight < 65536)) = false then Sh70.errorAnswer (-2) else if Sh70.areValidMagnitudes (ns.map sgn) = false then Sh70.errorAnswer (-3) else _) = _
    rw [w_eq hw0, mags_eq, if_pos h2]
    cases wOk ws <;> rfl
  · rw [h1, h3, if_pos rfl]
    show Sh70Neutral.flatten (if ((Sh70Neutral.toNats ws).all fun weight => decide (weight < 65536)) = false then Sh70.errorAnswer (-2) else if Sh70.areValidMagnitudes (ns.map sgn) = false then Sh70.errorAnswer (-3) else if k.toNat ≤ star.toNat then Sh70.errorAnswer (-4) else _) = _
    rw [w_eq hw0, mags_eq, if_neg (show ¬ magsOk ns = false by rw [h2]; decide)]
    cases e : wOk ws with
    | false => rfl
    | true =>
      rw [if_neg (by decide), if_pos rfl]
      by_cases hs : k ≤ star
      · rw [if_pos (by omega), if_pos hs, if_neg (by decide)]
        rfl
      · rw [if_neg (by omega), if_neg hs, if_neg (show ¬ (true = false) by decide), if_pos rfl]
        obtain ⟨hd1, hd2⟩ := hd h1
        have hl : (ns.map sgn).length = k.toNat * ((ns.map sgn).length / k.toNat) := by
          rw [List.length_map]
          exact hd2
        show 0 :: Sh70Neutral.toInts ((List.range ((ns.map sgn).length / k.toNat)).map fun image => Sh70.word32 (Sh70.differential (Sh70Neutral.toNats ws) star.toNat (Sh70.imageRow k.toNat (ns.map sgn) image))) = _
        unfold Sh70Neutral.toInts
        conv => rhs; arg 2; arg 2; unfold rowsOf
        rw [List.map_map, List.map_map]
        congr 1
        refine List.map_congr_left fun i hi => ?_
        rw [List.mem_range] at hi
        have hr : (((ns.map sgn).drop (i * k.toNat)).take k.toNat) ∈ rowsOf k.toNat (ns.map sgn) := by
          unfold rowsOf
          exact List.mem_map.mpr ⟨i, List.mem_range.mpr hi, rfl⟩
        have hrl := row_len hl hr
        show ((Sh70.word32 (Sh70.differential (Sh70Neutral.toNats ws) star.toNat (((ns.map sgn).drop (i * k.toNat)).take k.toNat)) : Nat) : Int) = uns (dmag star.toNat ws (((ns.map sgn).drop (i * k.toNat)).take k.toNat))
        rw [differential_is hw0 (by omega)]
        have hb := dmag_small (s := star.toNat) hw0 e (fun y hy => mags_small h2 y (row_mem hr y hy)) (by omega)
        exact word_uns (by omega)
def spread (xs : List Int) : Int := (xs.length : Int) * (xs.map fun x => x * x).sum - xs.sum ^ 2
end Lm

set_option Elab.async false
set_option linter.all false
set_option maxRecDepth 100000
namespace Lm
/-! ### variable stars -/
def facOk (f : Int) : Bool := decide (f ≤ 65535)
def scList (k : Nat) (rows : List (List Int)) : List Int := (List.range k).map fun s => scatterI (column s rows)
def limOf (f m : Int) : Int := f * (if m > 1 then m else 1)
def varOf (f : Int) (k : Nat) (rows : List (List Int)) : List Nat := (List.range k).filter fun s => decide ((scList k rows).getD s 0 > limOf f (Sh70.median (scList k rows)))
def ansVar (k f : Int) (ns : List Int) : List Int :=
  if facOk f = false then [-2] else if refusal k ns = 0 then ((varOf f k.toNat (rowsOf k.toNat (ns.map sgn))).length : Int) :: (varOf f k.toNat (rowsOf k.toNat (ns.map sgn))).map (fun s : Nat => (s : Int)) else [refusal k ns]
theorem scList_len (k : Nat) (rows : List (List Int)) : (scList k rows).length = k := by
  unfold scList
  rw [List.length_map, List.length_range]
theorem max_if (m : Int) : max 1 m = if m > 1 then m else 1 := by
  split <;> omega
theorem fac_eq {f : Int} (h : 0 ≤ f) : decide (f.toNat ≤ 65535) = facOk f := by
  unfold facOk
  exact decide_eq_decide.mpr (by omega)
theorem asked_var {k f : Int} {ns : List Int} (hf : facOk f = true) (h0 : 0 ≤ f) (hs : sizeOk k ns.length = true) (hk : 0 ≤ k) (ha : PySh70.variable_stars_asked k f ns = true) : ns.length = k.toNat * (ns.length / k.toNat) := by
  have h1 : (Sh70Neutral.asked1 [[4, k, f], ns] && decide ((Sh70Neutral.f [[4, k, f], ns]).length < 1000000)) = true := ha
  rw [Bool.and_eq_true] at h1
  have h2 : (Sh70Neutral.fits k 32 && (Sh70Neutral.fits f 32 && (Sh70Neutral.allFit ns 32 && (if (Sh70.isTableSize (k.toNat) (((Sh70Neutral.toNats ns).length / k.toNat)) && decide (f.toNat ≤ 65535)) = true then ns.length == (k.toNat * ((Sh70Neutral.toNats ns).length / k.toNat)) else ((ns.isEmpty) || (ns.length == (k.toNat * ((Sh70Neutral.toNats ns).length / k.toNat)))))))) = true := h1.1
  rw [Bool.and_eq_true, Bool.and_eq_true, Bool.and_eq_true] at h2
  have h3 := h2.2.2.2
  rw [toNats_len, size_eq hk, hs, fac_eq h0, hf] at h3
  simpa using h3
theorem spec_variable {k f : Int} {ns : List Int} (hk : 0 ≤ k) (hf : 0 ≤ f) (hn : ∀ x ∈ ns, 0 ≤ x ∧ x ≤ 4294967295) (hd : facOk f = true → sizeOk k ns.length = true → ns.length = k.toNat * (ns.length / k.toNat)) :
    PySh70.variable_stars k f ns = ansVar k f ns := by
  show Sh70Neutral.flatten (Sh70.answer (if (Sh70.isTableSize k.toNat ((Sh70Neutral.toNats ns).length / k.toNat) && decide (f.toNat ≤ 65535)) = true then .variableStars f.toNat k.toNat (Sh70.signedWords (Sh70Neutral.toNats ns)) else .invalid)) = _
  rw [toNats_len, size_eq hk, signed_eq hn, fac_eq hf]
  unfold ansVar
  cases e : facOk f with
  | false =>
    rw [Bool.and_false, if_neg (by decide), if_pos rfl]
    rfl
  | true =>
    rw [Bool.and_true, if_neg (show ¬ (true = false) by decide)]
    rcases refusal_cases k ns with ⟨h1, h2⟩ | ⟨h1, h2, h3⟩ | ⟨h1, h2, h3⟩
    · rw [h1, h2]; rfl
    · rw [h1, h3, if_pos rfl]
      show Sh70Neutral.flatten (if Sh70.areValidMagnitudes (ns.map sgn) = false then Sh70.errorAnswer (-3) else _) = _
      rw [mags_eq, if_pos h2]; rfl
    · rw [h1, h3, if_pos rfl, if_pos rfl]
      show Sh70Neutral.flatten (if Sh70.areValidMagnitudes (ns.map sgn) = false then Sh70.errorAnswer (-3) else _) = _
      rw [mags_eq, if_neg (by rw [h2]; decide)]
      have hsz := size_bounds h1
      have hsc : ((List.range k.toNat).map fun star => ((Sh70.scatter (Sh70.starColumn k.toNat (ns.map sgn) star) : Nat) : Int)) = scList k.toNat (rowsOf k.toNat (ns.map sgn)) := by
        unfold scList
        refine List.map_congr_left fun s hs => ?_
        rw [List.mem_range] at hs
        rw [column_is hs]
        refine scatter_is ?_
        rw [column_len, rows_len, List.length_map]
        omega
      have hv : Sh70.variableStars f.toNat k.toNat (ns.map sgn) = varOf f k.toNat (rowsOf k.toNat (ns.map sgn)) := by
        show ((List.range k.toNat).filter fun star => decide ((f.toNat : Int) * max 1 (Sh70.median ((List.range k.toNat).map fun star => ((Sh70.scatter (Sh70.starColumn k.toNat (ns.map sgn) star) : Nat) : Int))) < Sh70.intAt ((List.range k.toNat).map fun star => ((Sh70.scatter (Sh70.starColumn k.toNat (ns.map sgn) star) : Nat) : Int)) star)) = _
        rw [hsc]
        unfold varOf limOf
        rw [max_if, Int.toNat_of_nonneg hf]
        rfl
      show ((Sh70.variableStars f.toNat k.toNat (ns.map sgn)).length : Int) :: Sh70Neutral.toInts (Sh70.variableStars f.toNat k.toNat (ns.map sgn)) = _
      rw [hv]
      rfl
/-! ### series -/
def perOk (p : Int) : Bool := decide (1 ≤ p) && decide (p ≤ 16777216)
def serRef (n : Nat) (ns : List Int) : Int := if (n : Int) > 1024 then -2 else if magsOk ns = false then -3 else 0
def phaseI (p t : Int) : Int := 65536 * (t % p) / p
def prs (p : Int) (ts ns : List Int) : List (Int × Int) := (ts.zip ns).map fun e => (phaseI p e.1, sgn e.2)
def byPh (l : List (Int × Int)) : List (Int × Int) := l.mergeSort fun a b => decide (a.1 ≤ b.1)
def serOf (p : Int) (ts ns : List Int) : List (Int × Int) := byPh (prs p ts ns)
def upP (e : Nat × Int) : Int × Int := ((e.1 : Int), e.2)
theorem phase_nat {p t : Int} (hp : 0 ≤ p) (ht : 0 ≤ t) : ((Sh70.phase p.toNat t.toNat : Nat) : Int) = phaseI p t := by
  unfold Sh70.phase phaseI
  rw [Int.natCast_ediv, Int.natCast_mul, Int.natCast_emod, Int.toNat_of_nonneg hp, Int.toNat_of_nonneg ht]
  rfl
theorem phase_in {p t : Int} (hp : 0 < p) : 0 ≤ phaseI p t ∧ phaseI p t < 65536 := by
  have h1 := Int.emod_nonneg t (by omega : p ≠ 0)
  have h2 := Int.emod_lt_of_pos t hp
  unfold phaseI
  exact ⟨Int.ediv_nonneg (by omega) (by omega), Int.ediv_lt_of_lt_mul hp (by omega)⟩
theorem prs_nat {p : Int} {ts ns : List Int} (hp : 0 ≤ p) (ht : ∀ t ∈ ts, 0 ≤ t) :
    (((Sh70Neutral.toNats ts).zip (ns.map sgn)).map fun entry => (Sh70.phase p.toNat entry.1, entry.2)).map upP = prs p ts ns := by
  unfold Sh70Neutral.toNats prs
  rw [List.zip_map, List.map_map, List.map_map]
  refine List.map_congr_left fun e he => ?_
  have h := ht e.1 (List.of_mem_zip he).1
  show (((Sh70.phase p.toNat e.1.toNat : Nat) : Int), sgn e.2) = _
  rw [phase_nat hp h]
theorem fold_is {p : Int} {ts ns : List Int} (hp : 0 ≤ p) (ht : ∀ t ∈ ts, 0 ≤ t) : (Sh70.fold p.toNat (Sh70Neutral.toNats ts) (ns.map sgn)).map upP = serOf p ts ns := by
  unfold Sh70.fold serOf byPh
  rw [← prs_nat hp ht]
  refine List.map_mergeSort fun a _ b _ => ?_
  exact decide_eq_decide.mpr (by show a.1 ≤ b.1 ↔ (a.1 : Int) ≤ (b.1 : Int); omega)
theorem prs_len (p : Int) (ts ns : List Int) : (prs p ts ns).length = min ts.length ns.length := by
  unfold prs
  rw [List.length_map, List.length_zip]
theorem ser_len (p : Int) (ts ns : List Int) : (serOf p ts ns).length = min ts.length ns.length := by
  unfold serOf byPh
  rw [List.length_mergeSort, prs_len]
theorem ser_mem {p : Int} {ts ns : List Int} {e : Int × Int} (h : e ∈ serOf p ts ns) : e ∈ prs p ts ns := (List.mergeSort_perm _ _).mem_iff.mp h
theorem ser_in {p : Int} {ts ns : List Int} (hp : 0 < p) (hm : magsOk ns = true) {e : Int × Int} (h : e ∈ serOf p ts ns) : 0 ≤ e.1 ∧ e.1 < 65536 ∧ -100000 < e.2 ∧ e.2 < 100000 := by
  obtain ⟨x, hx, rfl⟩ := List.mem_map.mp (ser_mem h)
  have h1 := phase_in (t := x.1) hp
  have h2 := mags_small hm (sgn x.2) (List.mem_map.mpr ⟨x.2, (List.of_mem_zip hx).2, rfl⟩)
  exact ⟨h1.1, h1.2, h2.1, h2.2⟩
theorem per_eq {p : Int} (h : 0 ≤ p) : Sh70.isPeriod p.toNat = perOk p := by
  unfold Sh70.isPeriod Sh70.isBetween perOk
  have e1 : decide (1 ≤ p.toNat) = decide (1 ≤ p) := decide_eq_decide.mpr (by omega)
  have e2 : decide (p.toNat ≤ 16777216) = decide (p ≤ 16777216) := decide_eq_decide.mpr (by omega)
  rw [e1, e2]
theorem most_eq (n : Nat) : Sh70.isAtMost1024 n = !decide ((n : Int) > 1024) := by
  unfold Sh70.isAtMost1024
  rw [← decide_not]
  exact decide_eq_decide.mpr (by omega)
def ansFold (p : Int) (ts ns : List Int) : List Int :=
  if perOk p = false then [-2] else if serRef ts.length ns = 0 then 0 :: ((serOf p ts ns).length : Int) :: (serOf p ts ns).map Prod.fst ++ [((serOf p ts ns).length : Int)] ++ (serOf p ts ns).map (fun e => uns e.2) else [serRef ts.length ns]
theorem serRef_long {n : Nat} {ns : List Int} (h : decide ((n : Int) > 1024) = true) : serRef n ns = -2 := if_pos (of_decide_eq_true h)
theorem serRef_mags {n : Nat} {ns : List Int} (h : decide ((n : Int) > 1024) = false) (h2 : magsOk ns = false) : serRef n ns = -3 := by
  unfold serRef
  rw [if_neg (of_decide_eq_false h), if_pos h2]
theorem serRef_ok {n : Nat} {ns : List Int} (h : decide ((n : Int) > 1024) = false) (h2 : magsOk ns = true) : serRef n ns = 0 := by
  unfold serRef
  rw [if_neg (of_decide_eq_false h), if_neg (by rw [h2]; decide)]
theorem serRef_zero {n : Nat} {ns : List Int} (h : serRef n ns = 0) : n ≤ 1024 ∧ magsOk ns = true := by
  unfold serRef at h
  split at h
  · exact absurd h (by decide)
  · split at h
    · exact absurd h (by decide)
    · rename_i h1 h2
      exact ⟨by omega, by simpa using h2⟩
theorem serRef_cases (n : Nat) (ns : List Int) : (decide ((n : Int) > 1024) = true ∧ serRef n ns = -2) ∨ (decide ((n : Int) > 1024) = false ∧ magsOk ns = false ∧ serRef n ns = -3) ∨ (decide ((n : Int) > 1024) = false ∧ magsOk ns = true ∧ serRef n ns = 0) := by
  cases h1 : decide ((n : Int) > 1024) with
  | true => exact .inl ⟨rfl, serRef_long h1⟩
  | false => cases h2 : magsOk ns with
    | false => exact .inr (.inl ⟨rfl, rfl, serRef_mags h1 h2⟩)
    | true => exact .inr (.inr ⟨rfl, rfl, serRef_ok h1 h2⟩)
theorem up_fst (F : List (Nat × Int)) : Sh70Neutral.toInts (F.map fun e => e.1) = (F.map upP).map Prod.fst := by
  unfold Sh70Neutral.toInts
  rw [List.map_map, List.map_map]
  rfl
theorem spec_fold {p : Int} {ts ns : List Int} (hp : 0 ≤ p) (ht : ∀ x ∈ ts, 0 ≤ x ∧ x ≤ 4294967295) (hn : ∀ x ∈ ns, 0 ≤ x ∧ x ≤ 4294967295) : PySh70.fold p ts ns = ansFold p ts ns := by
  show Sh70Neutral.flatten (Sh70.answer (if (Sh70.isAtMost1024 ((Sh70Neutral.toNats ts).length) && Sh70.isPeriod p.toNat) = true then .fold p.toNat (Sh70Neutral.toNats ts) (Sh70.signedWords (Sh70Neutral.toNats ns)) else .invalid)) = _
  rw [toNats_len, signed_eq hn, per_eq hp, most_eq]
  unfold ansFold
  have ht0 : ∀ t ∈ ts, 0 ≤ t := fun t h => (ht t h).1
  cases e : perOk p with
  | false =>
    rw [Bool.and_false, if_neg (by decide), if_pos rfl]
    rfl
  | true =>
    rw [Bool.and_true, if_neg (show ¬ (true = false) by decide)]
    have hp1 : 0 < p := by
      unfold perOk at e
      rw [Bool.and_eq_true, decide_eq_true_iff] at e
      omega
    rcases serRef_cases ts.length ns with ⟨h1, h2⟩ | ⟨h1, h2, h3⟩ | ⟨h1, h2, h3⟩
    · rw [h1, h2]; rfl
    · rw [h1, h3, if_pos (show (!false) = true from rfl)]
      show Sh70Neutral.flatten (if Sh70.areValidMagnitudes (ns.map sgn) = false then Sh70.errorAnswer (-3) else _) = _
      rw [mags_eq, if_pos h2]; rfl
    · rw [h1, h3, if_pos (show (!false) = true from rfl), if_pos rfl]
      show Sh70Neutral.flatten (if Sh70.areValidMagnitudes (ns.map sgn) = false then Sh70.errorAnswer (-3) else _) = _
      rw [mags_eq, if_neg (by rw [h2]; decide)]
      have hF := fold_is (ns := ns) hp ht0
      have hw : Sh70Neutral.toInts ((Sh70.fold p.toNat (Sh70Neutral.toNats ts) (ns.map sgn)).map fun e => Sh70.word32 e.2) = (serOf p ts ns).map fun e => uns e.2 := by
        rw [← hF]
        unfold Sh70Neutral.toInts
        rw [List.map_map, List.map_map]
        refine List.map_congr_left fun x hx => ?_
        show ((Sh70.word32 x.2 : Nat) : Int) = uns x.2
        have hm : upP x ∈ serOf p ts ns := by
          rw [← hF]
          exact List.mem_map.mpr ⟨x, hx, rfl⟩
        have hb := ser_in hp1 h2 hm
        have hb3 : -100000 < x.2 := hb.2.2.1
        have hb4 : x.2 < 100000 := hb.2.2.2
        exact word_uns (by omega)
      have hl : ((Sh70.fold p.toNat (Sh70Neutral.toNats ts) (ns.map sgn))).length = (serOf p ts ns).length := by
        rw [← hF, List.length_map]
      show 0 :: ((((Sh70.fold p.toNat (Sh70Neutral.toNats ts) (ns.map sgn)).map fun e => e.1).length : Int) :: Sh70Neutral.toInts ((Sh70.fold p.toNat (Sh70Neutral.toNats ts) (ns.map sgn)).map fun e => e.1) ++
        ((((Sh70.fold p.toNat (Sh70Neutral.toNats ts) (ns.map sgn)).map fun e => Sh70.word32 e.2).length : Int) :: Sh70Neutral.toInts ((Sh70.fold p.toNat (Sh70Neutral.toNats ts) (ns.map sgn)).map fun e => Sh70.word32 e.2) ++ [])) = _
      rw [hw, up_fst, hF, List.length_map, List.length_map, hl]
      simp
end Lm

set_option Elab.async false
set_option linter.all false
set_option maxRecDepth 100000
namespace Lm
/-! ### phase -/
def ansPhase (p t : Int) : List Int := [phaseI (if p > 1 then p else 1) t]
theorem spec_phase {p t : Int} (hp : 0 ≤ p) (ht : 0 ≤ t) : PySh70.phase p t = ansPhase p t := by
  show [((Sh70.phase (max 1 p.toNat) t.toNat : Nat) : Int)] = _
  have e : max 1 p.toNat = (if p > 1 then p else 1).toNat := by
    split <;> omega
  unfold ansPhase
  rw [e, phase_nat (by split <;> omega) ht]
/-! ### the minimum of a parabola -/
def u64 (n : Int) : Int := if n < 0 then n + 18446744073709551616 else n
def distOk (n : Int) : Bool := decide (1 ≤ n) && decide (n ≤ 65536)
def parT (t s a b c : Int) : Int := if a - 2 * b + c ≤ 0 then t else t + rdiv (s * (a - c)) (2 * (a - 2 * b + c))
def ansPar (t s a b c : Int) : List Int := if distOk s = false then [-2] else [0, u64 (parT (sgn t) s (sgn a) (sgn b) (sgn c))]
theorem word_u64 {z : Int} (h : -18446744073709551616 ≤ z ∧ z < 18446744073709551616) : ((Sh70.word64 z : Nat) : Int) = u64 z := by
  unfold Sh70.word64 u64
  split <;> omega
theorem sgn_in {x : Int} (h : 0 ≤ x ∧ x ≤ 4294967295) : -2147483648 ≤ sgn x ∧ sgn x ≤ 2147483647 := by
  unfold sgn
  split <;> omega
theorem int32_is {x : Int} (h : 0 ≤ x) : Sh70Neutral.toInt32 x.toNat = sgn x := by
  unfold Sh70Neutral.toInt32 sgn
  have e : (2 : Nat) ^ 31 = 2147483648 := by decide
  have e2 : (2 : Int) ^ 32 = 4294967296 := by decide
  rw [e, e2]
  split <;> split <;> omega
theorem rdiv_wide {a b : Int} (hb : 0 < b) (h : -562949953421312 ≤ a ∧ a ≤ 562949953421312) : -1125899906842624 ≤ rdiv a b ∧ rdiv a b ≤ 1125899906842624 := by
  unfold rdiv
  exact ⟨Int.le_ediv_of_mul_le (by omega) (by omega), Int.le_of_lt_add_one (Int.ediv_lt_of_lt_mul (by omega) (by omega))⟩
theorem stepped {s x : Int} (h : 0 < s ∧ s ≤ 65536) (hx : -4294967295 ≤ x ∧ x ≤ 4294967295) : -281474976645120 ≤ s * x ∧ s * x ≤ 281474976645120 := by
  have h1 := Int.mul_le_mul_of_nonneg_left hx.1 (show 0 ≤ s by omega)
  have h2 := Int.mul_le_mul_of_nonneg_left hx.2 (show 0 ≤ s by omega)
  omega
theorem parT_in {t s a b c : Int} (hs : 0 < s ∧ s ≤ 65536) (ht : -2147483648 ≤ t ∧ t ≤ 2147483647) (ha : -2147483648 ≤ a ∧ a ≤ 2147483647) (hc : -2147483648 ≤ c ∧ c ≤ 2147483647) :
    -18446744073709551616 ≤ parT t s a b c ∧ parT t s a b c < 18446744073709551616 := by
  unfold parT
  split
  · omega
  · have h1 := stepped (x := a - c) hs (by omega)
    have h2 := rdiv_wide (a := s * (a - c)) (b := 2 * (a - 2 * b + c)) (by omega) (by omega)
    omega
theorem dist_eq {s : Int} (h : 0 ≤ s) : Sh70.isBetween s.toNat 1 65536 = distOk s := by
  unfold Sh70.isBetween distOk
  have e1 : decide (1 ≤ s.toNat) = decide (1 ≤ s) := decide_eq_decide.mpr (by omega)
  have e2 : decide (s.toNat ≤ 65536) = decide (s ≤ 65536) := decide_eq_decide.mpr (by omega)
  rw [e1, e2]
theorem dist_in {s : Int} (h : distOk s = true) : 0 < s ∧ s ≤ 65536 := by
  unfold distOk at h
  rw [Bool.and_eq_true, decide_eq_true_iff, decide_eq_true_iff] at h
  omega
theorem spec_par {t s a b c : Int} (ht : 0 ≤ t ∧ t ≤ 4294967295) (hs : 0 ≤ s ∧ s ≤ 4294967295) (ha : 0 ≤ a ∧ a ≤ 4294967295) (hb : 0 ≤ b ∧ b ≤ 4294967295) (hc : 0 ≤ c ∧ c ≤ 4294967295) : PySh70.parabola_minimum t s a b c = ansPar t s a b c := by
  show Sh70Neutral.flatten (Sh70.answer (if Sh70.isBetween s.toNat 1 65536 = true then .parabolaMinimum (Sh70Neutral.toInt32 t.toNat) (s.toNat : Int) (Sh70Neutral.toInt32 a.toNat) (Sh70Neutral.toInt32 b.toNat) (Sh70Neutral.toInt32 c.toNat) else .invalid)) = _
  rw [dist_eq hs.1, int32_is ht.1, int32_is ha.1, int32_is hb.1, int32_is hc.1, Int.toNat_of_nonneg hs.1]
  unfold ansPar
  cases e : distOk s with
  | false => rfl
  | true =>
    rw [if_pos rfl, if_neg (by decide)]
    show [0, ((Sh70.word64 (parT (sgn t) s (sgn a) (sgn b) (sgn c)) : Nat) : Int)] = _
    rw [word_u64 (parT_in (dist_in e) (sgn_in ht) (sgn_in ha) (sgn_in hc))]
/-! ### the asymmetry about a time -/
def serP (ts ns : List Int) : List (Int × Int) := (ts.zip ns).map fun e => (e.1, sgn e.2)
def near (tol m : Int) (y : Int × Int) : Bool := decide (absI (y.1 - m) ≤ tol)
def diffOf (tol ax : Int) (x : Int × Int) (S : List (Int × Int)) : Int := match S.find? (near tol (2 * ax - x.1)) with
  | none => 0
  | some y => absI (y.2 - x.2)
def earl (ax : Int) (S : List (Int × Int)) : List (Int × Int) := S.filter fun e => decide (e.1 < ax)
def asyOf (tol ax : Int) (S : List (Int × Int)) : Int := ((earl ax S).map fun x => diffOf tol ax x S).sum
def ansAsy (tol ax : Int) (ts ns : List Int) : List Int := if serRef ts.length ns = 0 then [0, asyOf tol ax (serP ts ns)] else [serRef ts.length ns]
theorem serP_len (ts ns : List Int) : (serP ts ns).length = min ts.length ns.length := by
  unfold serP
  rw [List.length_map, List.length_zip]
theorem serP_nat {ts ns : List Int} (ht : ∀ t ∈ ts, 0 ≤ t) : ((Sh70Neutral.toNats ts).zip (ns.map sgn)).map upP = serP ts ns := by
  unfold Sh70Neutral.toNats serP
  rw [List.zip_map, List.map_map]
  refine List.map_congr_left fun e he => ?_
  have h := ht e.1 (List.of_mem_zip he).1
  show ((e.1.toNat : Int), sgn e.2) = _
  rw [Int.toNat_of_nonneg h]
theorem near_nat {tol ax : Int} (h : 0 ≤ tol) (x y : Nat × Int) : decide (((y.1 : Int) - ax - (ax - (x.1 : Int))).natAbs ≤ tol.toNat) = near tol (2 * ax - (upP x).1) (upP y) := by
  unfold near absI upP
  refine decide_eq_decide.mpr ?_
  show ((y.1 : Int) - ax - (ax - (x.1 : Int))).natAbs ≤ tol.toNat ↔ (if (y.1 : Int) - (2 * ax - (x.1 : Int)) < 0 then _ else _) ≤ tol
  split <;> omega
theorem abs_nat (u v : Int) : ((Sh70.absDiff u v : Nat) : Int) = absI (v - u) := by
  unfold Sh70.absDiff absI
  split <;> omega
theorem diff_nat {tol ax : Int} (h : 0 ≤ tol) (x : Nat × Int) (L : List (Nat × Int)) :
    (((match L.find? fun y => decide (((y.1 : Int) - ax - (ax - (x.1 : Int))).natAbs ≤ tol.toNat) with
      | none => 0
      | some y => Sh70.absDiff x.2 y.2) : Nat) : Int) = diffOf tol ax (upP x) (L.map upP) := by
  have e : (fun y : Nat × Int => decide (((y.1 : Int) - ax - (ax - (x.1 : Int))).natAbs ≤ tol.toNat)) = (near tol (2 * ax - (upP x).1)) ∘ upP := funext fun y => near_nat h x y
  unfold diffOf
  rw [e, List.find?_map]
  cases L.find? ((near tol (2 * ax - (upP x).1)) ∘ upP) with
  | none => rfl
  | some y => exact abs_nat _ _
theorem sum_filt {α : Type} (f : α → Nat) (up : α → Int × Int) (p : Int × Int → Bool) (g : Int × Int → Int) (h : ∀ x, ((f x : Nat) : Int) = if p (up x) = true then g (up x) else 0) :
    ∀ L : List α, (((L.map f).sum : Nat) : Int) = (((L.map up).filter p).map g).sum
  | [] => rfl
  | x :: L => by
    have ih := sum_filt f up p g h L
    rw [List.map_cons, List.sum_cons, List.map_cons, Int.natCast_add, ih, h x]
    by_cases hp : p (up x) = true
    · rw [if_pos hp, List.filter_cons_of_pos hp, List.map_cons, List.sum_cons]
    · rw [if_neg hp, List.filter_cons_of_neg hp, Int.zero_add]
theorem asy_nat {tol ax : Int} (h : 0 ≤ tol) (ts : List Nat) (ms : List Int) : ((Sh70.asymmetry ts ms ax tol.toNat : Nat) : Int) = asyOf tol ax ((ts.zip ms).map upP) := by
  unfold Sh70.asymmetry asyOf earl
  refine sum_filt _ upP _ _ (fun x => ?_) (ts.zip ms)
  by_cases hx : (ax : Int) ≤ (x.1 : Int)
  · rw [if_pos hx, if_neg (by
      intro z
      have z2 : (x.1 : Int) < ax := of_decide_eq_true z
      omega)]
    rfl
  · rw [if_neg hx, if_pos (show decide ((upP x).1 < ax) = true from decide_eq_true (show (x.1 : Int) < ax by omega))]
    exact diff_nat h x _
theorem spec_asy {tol ax : Int} {ts ns : List Int} (hl : 0 ≤ tol) (ha : 0 ≤ ax) (ht : ∀ x ∈ ts, 0 ≤ x ∧ x ≤ 4294967295) (hn : ∀ x ∈ ns, 0 ≤ x ∧ x ≤ 4294967295) : PySh70.asymmetry tol ax ts ns = ansAsy tol ax ts ns := by
  show Sh70Neutral.flatten (Sh70.answer (if Sh70.isAtMost1024 ((Sh70Neutral.toNats ts).length) = true then .asymmetry tol.toNat ax.toNat (Sh70Neutral.toNats ts) (Sh70.signedWords (Sh70Neutral.toNats ns)) else .invalid)) = _
  rw [toNats_len, signed_eq hn, most_eq]
  unfold ansAsy
  rcases serRef_cases ts.length ns with ⟨h1, h2⟩ | ⟨h1, h2, h3⟩ | ⟨h1, h2, h3⟩
  · rw [h1, h2]; rfl
  · rw [h1, h3, if_pos (show (!false) = true from rfl)]
    show Sh70Neutral.flatten (if Sh70.areValidMagnitudes (ns.map sgn) = false then Sh70.errorAnswer (-3) else _) = _
    rw [mags_eq, if_pos h2]; rfl
  · rw [h1, h3, if_pos (show (!false) = true from rfl), if_pos rfl]
    show Sh70Neutral.flatten (if Sh70.areValidMagnitudes (ns.map sgn) = false then Sh70.errorAnswer (-3) else _) = _
    rw [mags_eq, if_neg (by rw [h2]; decide)]
    show [0, ((Sh70.asymmetry (Sh70Neutral.toNats ts) (ns.map sgn) (ax.toNat : Int) tol.toNat : Nat) : Int)] = _
    rw [Int.toNat_of_nonneg ha, asy_nat hl, serP_nat fun t h => (ht t h).1]
theorem find_hit {α : Type} {p : α → Bool} {S : List α} {i : Nat} (hi : i < S.length) (h : (S.take i).find? p = none) (hp : p S[i] = true) : S.find? p = some S[i] := by
  conv => lhs; rw [← List.take_append_drop i S, List.drop_eq_getElem_cons hi]
  rw [List.find?_append, h, List.find?_cons_of_pos hp]
  rfl
theorem find_miss {α : Type} {p : α → Bool} {S : List α} {i : Nat} (hi : i < S.length) (h : (S.take i).find? p = none) (hp : p S[i] = false) : (S.take (i + 1)).find? p = none := by
  rw [List.take_succ_eq_append_getElem hi, List.find?_append, h, List.find?_cons_of_neg (by rw [hp]; decide)]
  rfl
theorem diff_hit {tol ax : Int} {x y : Int × Int} {S : List (Int × Int)} (h : S.find? (near tol (2 * ax - x.1)) = some y) : diffOf tol ax x S = absI (y.2 - x.2) := by
  unfold diffOf
  rw [h]
theorem diff_miss {tol ax : Int} {x : Int × Int} {S : List (Int × Int)} (h : S.find? (near tol (2 * ax - x.1)) = none) : diffOf tol ax x S = 0 := by
  unfold diffOf
  rw [h]
theorem serP_range (ts ns : List Int) : (List.range (min ts.length ns.length)).map (fun i => (ts.getD i 0, sgn (ns.getD i 0))) = serP ts ns := by
  apply List.ext_getElem?
  intro i
  unfold serP
  rw [List.getElem?_map, List.getElem?_map]
  by_cases hi : i < min ts.length ns.length
  · have h1 : i < ts.length := by omega
    have h2 : i < ns.length := by omega
    rw [List.getElem?_range hi, List.getElem?_eq_getElem (by rw [List.length_zip]; exact hi), List.getElem_zip]
    show some (ts.getD i 0, sgn (ns.getD i 0)) = some (ts[i], sgn ns[i])
    rw [List.getD_eq_getElem?_getD, List.getD_eq_getElem?_getD, List.getElem?_eq_getElem h1, List.getElem?_eq_getElem h2]
    rfl
  · rw [List.getElem?_eq_none (by simpa using hi), List.getElem?_eq_none (by rw [List.length_zip]; omega)]
    rfl
theorem earl_len (ax : Int) (S : List (Int × Int)) : (earl ax S).length ≤ S.length := List.length_filter_le _ _
end Lm

set_option Elab.async false
set_option linter.all false
set_option maxRecDepth 100000
set_option maxHeartbeats 4000000
namespace Lp
open PySem PySem.Spec PyProof.Rows L2 Evl Lb Lt
open PySem.W (Codec)
def topS (i : Nat) : Stmt := PySem.Challenge.pw_lightcurves_s10_asymmetry.main.body.getD i (.Pass ⟨0, 0, 0, 0⟩)
abbrev s_to_signed : Stmt := topS 3
abbrev s_magnitudes_allowed : Stmt := topS 4
abbrev s_series_refusal : Stmt := topS 5
abbrev s_partner_difference : Stmt := topS 6
abbrev s_asymmetry : Stmt := topS 8
section
variable {P : Program} {w : World} {K : PySem.W.Frag} {mg : Str → Option Value} {base : Heap}
/-! ### to_signed -/
theorem cp31 : CPow 2 31 := ⟨by decide, by decide, by decide⟩
theorem cp32 : CPow 2 32 := ⟨by decide, by decide, by decide⟩
theorem e31 : (2 : Int) ^ (31 : Int).toNat = 2147483648 := by decide
theorem e32 : (2 : Int) ^ (32 : Int).toNat = 4294967296 := by decide
def sp_to_signed : Sp := fun vs H Q _ => ∃ n : Int, vs = [.int n] ∧ RetV (.int (Lm.sgn n)) H Q
theorem sc_to_signed : FnScope ["number"] ["number"] (defScope s_to_signed) := ⟨rfl, rfl, rfl, by decide +kernel, rfl, by decide +kernel, by decide +kernel⟩
theorem ok_to_signed {f : Addr} {fd : FuncData} (F : Fun K "to_signed" "to_signed" s_to_signed f fd) : FnOk P w K mg base CX0 1 f fd ["number"] sp_to_signed := by
  refine F.ok sc_to_signed (fun vs H Q E h => ?_) (fun cdv A outer s H vs Q E hr h => ?_)
  · obtain ⟨n, rfl, _⟩ := h
    rfl
  · obtain ⟨n, rfl, q⟩ := h
    refine ⟨_, pss_cons (ps_if (pt_cmpR op_ge (pv 0) (pe_op op_pow pe_int pe_int) (nomark _)) (pss_one (ps_ret (pe_op op_sub (pv 0) (pe_op op_pow pe_int pe_int)))) pss_nil) (pss_one (ps_ret (pv 0))), ?_⟩
    refine q_when (et_test (ev_op (ev_var (v := .int n) rfl) (ev_op ev_c ev_c (rv_I cp31)) rv_I0)) (fun hb H1 e1 => ?_) (fun hb H1 e1 => ?_)
    · have hb : (2 : Int) ^ (31 : Int).toNat ≤ n := of_decide_eq_true hb
      rw [e31] at hb
      refine s_ret (ev_is (ev_op (ev_var (v := .int n) rfl) (ev_op ev_c ev_c (rv_I cp32)) rv_I0) (?_ : _ = V.int (Lm.sgn n))) fun H2 e2 => q H2 (e1.trans e2)
      rw [e32]
      unfold Lm.sgn
      rw [if_pos hb]
    · have hb : ¬ (2 : Int) ^ (31 : Int).toNat ≤ n := of_decide_eq_false hb
      rw [e31] at hb
      refine s_ret (ev_is (ev_var (v := .int n) rfl) (?_ : _ = V.int (Lm.sgn n))) fun H2 e2 => q H2 (e1.trans e2)
      unfold Lm.sgn
      rw [if_neg hb]

/-! ### magnitudes_allowed -/
def sp_magnitudes_allowed (K : PySem.W.Frag) : Sp := fun vs H Q _ => ∃ (a : Addr) (ns : List Int), vs = [.ref a] ∧ SqL K H a (ns.map V.int) ∧ ns.length ≤ 2200 ∧ RetV (.bl (Lm.magsOk ns)) H Q
theorem sc_magnitudes_allowed : FnScope ["magnitudes", "number"] ["magnitudes"] (defScope s_magnitudes_allowed) := ⟨rfl, rfl, rfl, by decide +kernel, rfl, by decide +kernel, by decide +kernel⟩
theorem ok_magnitudes_allowed {f : Addr} {fd : FuncData} {t1 : Tok} (F : Fun K "magnitudes_allowed" "magnitudes_allowed" s_magnitudes_allowed f fd) (m1 : mg "MAGNITUDE_BOUND" = some (.int 100000 t1)) (ma : mg "all" = none) (mb : mg "abs" = none)
    (c1 : Cal P w K mg base "to_signed" 1 ["number"] sp_to_signed) : FnOk P w K mg base CX0 2 f fd ["magnitudes"] (sp_magnitudes_allowed K) := by
  obtain ⟨f1, fd1, G1, g1, kp1, b1⟩ := c1
  refine F.ok sc_magnitudes_allowed (fun vs H Q E h => ?_) (fun cdv A outer s H vs Q E hr h => ?_)
  · obtain ⟨a, ns, rfl, _⟩ := h
    rfl
  · obtain ⟨a, ns, rfl, hS, hl, q⟩ := h
    have hr1 : Room 1 _ := hr.mono (by decide)
    refine ⟨_, pss_one (ps_ret (pe_callB (cr_all rfl) (by rfl) ma boot_all (pa_cons (pe_lc (own := [("number", 1)]) (g := gName 1) (tt := tYes) rfl sc_magnitudes_allowed.nd (pi_list (pv 0)) (blkOk_by (own := [("number", 1)]) (N := ["magnitudes", "number"]) (sc := defScope s_magnitudes_allowed) (by decide +kernel))
        (fun _ _ _ _ _ => pg_name (i := 1) sc_magnitudes_allowed.nd rfl (Or.inl rfl)) (fun _ _ _ _ _ => pts_nil)
        (fun _ _ _ _ _ => pe_cmpR op_lt (pe_callB call_abs (by rfl) mb boot_abs (pa_cons (pe_call G1 hr1 (by rfl) g1 kp1 b1 .nil pass0 (pa_cons (pv 1) pa_nil)) pa_nil)) (pe_glob (v := .int 100000) (by rfl) m1 ⟨_, rfl⟩) (nomark _))) pa_nil))), ?_⟩
    refine s_ret (ev_is (ev_cb1 (lc_m (l := ns) (fun n => V.bl (decide (Lm.absI (Lm.sgn n) < 100000))) (Yx := fun i x _ => (ns.map V.int)[i]? = some x) ?_ (by omega) ?_) (fun p H1 hp e1 => rc_all (bs := ns.map fun n => decide (Lm.absI (Lm.sgn n) < 100000)) ?_)) (?_ : _ = V.bl (Lm.magsOk ns))) q
    · have h := it_list (K := K) (σ := [some (.ref a), none]) (tl := tVar 0) (ev_var rfl) hS
      rw [List.length_map] at h
      exact h
    · intro i n x H2 hi e hx
      rw [List.getElem?_map, hi] at hx
      cases hx
      refine takes_name rfl ?_
      exact ev_op (ev_cb (ea_cons (ev_call (ea_cons (ev_var (v := .int n) rfl) ea_nil) (fun H1 e1 Q1 q1 E1 => ⟨n, rfl, q1⟩)) ea_nil) rc_abs) ev_c rv_I0
    · rw [List.map_map]
      exact sq_of hp
    · rw [List.all_map]
      rfl

/-! ### series_refusal -/
def sp_series_refusal (K : PySem.W.Frag) : Sp := fun vs H Q _ => ∃ (a b : Addr) (ts ns : List Int), vs = [.ref a, .ref b] ∧ SqL K H a (ts.map V.int) ∧ SqL K H b (ns.map V.int) ∧ ns.length ≤ 2200 ∧ RetV (.int (Lm.serRef ts.length ns)) H Q
theorem sc_series_refusal : FnScope ["times", "magnitudes"] ["times", "magnitudes"] (defScope s_series_refusal) := ⟨rfl, rfl, rfl, by decide +kernel, rfl, by decide +kernel, by decide +kernel⟩
theorem ok_series_refusal {f : Addr} {fd : FuncData} {t1 : Tok} (F : Fun K "series_refusal" "series_refusal" s_series_refusal f fd) (m1 : mg "MOST_TIMES" = some (.int 1024 t1)) (ml : mg "len" = none)
    (c2 : Cal P w K mg base "magnitudes_allowed" 2 ["magnitudes"] (sp_magnitudes_allowed K)) : FnOk P w K mg base CX0 3 f fd ["times", "magnitudes"] (sp_series_refusal K) := by
  obtain ⟨f2, fd2, G2, g2, kp2, b2⟩ := c2
  refine F.ok sc_series_refusal (fun vs H Q E h => ?_) (fun cdv A outer s H vs Q E hr h => ?_)
  · obtain ⟨a, b, ts, ns, rfl, _⟩ := h
    rfl
  · obtain ⟨a, b, ts, ns, rfl, hT, hS, hl, q⟩ := h
    have hr2 : Room 2 _ := hr.mono (by decide)
    refine ⟨_, pss_cons (ps_if (pt_cmpR op_gt (pe_callB call_len_seq (by rfl) ml PySem.boot_len (pa_cons (pv 0) pa_nil)) (pe_glob (v := .int 1024) (by rfl) m1 ⟨_, rfl⟩) (nomark _)) (pss_one (ps_ret (pe_un un_neg pe_int))) pss_nil)
      (pss_cons (ps_if (pt_not (pt_val (pe_call G2 hr2 (by rfl) g2 kp2 b2 .nil pass0 (pa_cons (pv 1) pa_nil)))) (pss_one (ps_ret (pe_un un_neg pe_int))) pss_nil)
      (pss_one (ps_ret pe_int))), ?_⟩
    have len : Ev (tCB (rLenS K) (tCons (tVar 0) tNil)) [some (.ref a), some (.ref b)] H (.int (ts.length : Int)) := by
      have h := ev_len (K := K) (ta := tVar 0) (σ := [some (.ref a), some (.ref b)]) (ev_var rfl) hT
      rw [List.length_map] at h
      exact h
    refine q_when (et_test (ev_op len ev_c rv_I0)) (fun hb H1 e1 => ?_) (fun hb H1 e1 => ?_)
    · refine s_ret (ev_is (ev_un ev_c ru_neg) (?_ : _ = V.int (Lm.serRef ts.length ns))) fun H2 e2 => q H2 (e1.trans e2)
      rw [Lm.serRef_long hb]
    · refine q_when (et_not (et_B (ev_call (z := .bl (Lm.magsOk ns)) (ea_cons (ev_var (v := .ref b) rfl) ea_nil) (fun H2 e2 Q1 q1 E1 => ⟨b, ns, rfl, ex_l (e1.trans e2) hS, hl, q1⟩)))) (fun hb2 H2 e2 => ?_) (fun hb2 H2 e2 => ?_)
      · refine s_ret (ev_is (ev_un ev_c ru_neg) (?_ : _ = V.int (Lm.serRef ts.length ns))) fun H3 e3 => q H3 ((e1.trans e2).trans e3)
        rw [Lm.serRef_mags hb (by cases h : Lm.magsOk ns <;> simp_all)]
      · refine s_ret (ev_is ev_c (?_ : _ = V.int (Lm.serRef ts.length ns))) fun H3 e3 => q H3 ((e1.trans e2).trans e3)
        rw [Lm.serRef_ok hb (by cases h : Lm.magsOk ns <;> simp_all)]

/-! ### partner_difference -/
def sp_partner_difference (K : PySem.W.Frag) : Sp := fun vs H Q _ => ∃ (tol ax : Int) (x : V) (e : Int × Int) (a : Addr) (S : List (Int × Int)), vs = [.int tol, .int ax, x, .ref a] ∧ PairAt H x e ∧ Pairs H a S ∧ S.length ≤ 1100 ∧ RetV (.int (Lm.diffOf tol ax e S)) H Q
theorem sc_partner_difference : FnScope ["tolerance", "axis", "measurement", "series", "mirrored", "time", "magnitude"] ["tolerance", "axis", "measurement", "series"] (defScope s_partner_difference) := ⟨rfl, rfl, rfl, by decide +kernel, rfl, by decide +kernel, by decide +kernel⟩
theorem ok_partner_difference {f : Addr} {fd : FuncData} (F : Fun K "partner_difference" "partner_difference" s_partner_difference f fd) (mb : mg "abs" = none) : FnOk P w K mg base CX0 1 f fd ["tolerance", "axis", "measurement", "series"] (sp_partner_difference K) := by
  refine F.ok sc_partner_difference (fun vs H Q E h => ?_) (fun cdv A outer s H vs Q E hr h => ?_)
  · obtain ⟨tol, ax, x, e, a, S, rfl, _⟩ := h
    rfl
  · obtain ⟨tol, ax, x, e, a, S, rfl, hx, hP, hl, q⟩ := h
    have nd := sc_partner_difference.nd
    refine ⟨_, pss_cons (ps_set (i := 4) nd rfl (.inl rfl) (pe_op op_sub (pe_op op_mul pe_int (pv 1)) (pe_ix ix_tup (pv 2) pe_int (fun _ _ => rfl))))
      (pss_cons (ps_for PassesOwn.never rfl (pi_list (pv 3)) (pg_tup rfl (pgs_cons (pg_name (i := 5) nd rfl (Or.inl rfl)) (pgs_cons (pg_name (i := 6) nd rfl (Or.inl rfl)) pgs_nil)))
        (pss_one (ps_if (pt_cmpR op_le (pe_callB call_abs (by rfl) mb boot_abs (pa_cons (pe_op op_sub (pv 5) (pv 4)) pa_nil)) (pv 0) (nomark _))
          (pss_one (ps_ret (pe_callB call_abs (by rfl) mb boot_abs (pa_cons (pe_op op_sub (pv 6) (pe_ix ix_tup (pv 2) pe_int (fun _ _ => rfl))) pa_nil)))) pss_nil)))
      (pss_one (ps_ret pe_int))), ?_⟩
    refine q_asg (ev_op (ev_op ev_c (ev_var (v := .int ax) rfl) (rv_I (.inl ⟨by decide, by decide⟩))) (ev_op (ev_var (v := x) rfl) ev_c (rv_fst hx)) rv_I0) fun H1 e1 => ?_
    obtain ⟨xs, hxs, hE⟩ := hP
    have hxl : xs.length = S.length := hE.length
    refine q_forL (xs := xs) (ev_var (v := .ref a) rfl) (sq_of (e1 _ _ hxs)) (fun i σ' H' => ∃ v5 v6 : Option V, σ' = [some (.int tol), some (.int ax), some x, some (.ref a), some (.int (2 * ax - e.1)), v5, v6] ∧ Ex H H' ∧ (S.take i).find? (Lm.near tol (2 * ax - e.1)) = none)
      (fun H2 e2 => ⟨none, none, rfl, e1.trans e2, rfl⟩) (fun i σ' H' hi p' => ?_) (fun i y σ' H' hyi p' => ?_) (fun σ' H' p' => ?_)
    · obtain ⟨_, _, _, e2, _⟩ := p'
      exact sq_of (e2 _ _ hxs)
    · obtain ⟨v5, v6, rfl, e2, hf⟩ := p'
      have hi : i < S.length := by
        have z := (List.getElem?_eq_some_iff.mp hyi).1
        omega
      have hSi : S[i]? = some S[i] := List.getElem?_eq_getElem hi
      obtain ⟨T, rfl, hT⟩ := (each_get hE i y _ hyi hSi).ex (ext_of e2)
      refine ⟨T, _, rfl, st_of hT, rfl, _, _, rfl, _, _, rfl, rfl, ?_⟩
      refine s_when (b := Lm.near tol (2 * ax - e.1) S[i]) (et_test (ev_op (ev_cb (ea_cons (ev_op (ev_var (v := .int S[i].1) rfl) (ev_var (v := .int (2 * ax - e.1)) rfl) rv_I0) ea_nil) rc_abs) (ev_var (v := .int tol) rfl) rv_I0)) (fun hb H3 e3 => ?_) (fun hb H3 e3 => ?_)
      · refine s_ret (ev_is (ev_cb (ea_cons (ev_op (ev_var (v := .int S[i].2) rfl) (ev_op (ev_var (v := x) rfl) ev_c (rv_snd (hx.ex (ext_of (e2.trans e3))))) rv_I0) ea_nil) rc_abs) (?_ : _ = V.int (Lm.diffOf tol ax e S))) fun H4 e4 => q H4 ((e2.trans e3).trans e4)
        rw [Lm.diff_hit (Lm.find_hit hi hf hb)]
        rfl
      · exact ⟨_, _, rfl, e2.trans e3, Lm.find_miss hi hf hb⟩
    · obtain ⟨v5, v6, rfl, e2, hf⟩ := p'
      rw [hxl, List.take_length] at hf
      refine s_ret (ev_is ev_c (?_ : _ = V.int (Lm.diffOf tol ax e S))) fun H4 e4 => q H4 (e2.trans e4)
      rw [Lm.diff_miss hf]

/-! ### asymmetry -/
def sp_asymmetry (K : PySem.W.Frag) : Sp := fun vs H Q _ => ∃ (tol ax : Int) (a b : Addr) (ts ns : List Int), vs = [.int tol, .int ax, .ref a, .ref b] ∧ SqL K H a (ts.map V.int) ∧ SqL K H b (ns.map V.int) ∧ ts.length ≤ 1100 ∧ ns.length ≤ 1100 ∧ RetL ((Lm.ansAsy tol ax ts ns).map V.int) H Q
theorem sc_asymmetry : FnScope ["tolerance", "time", "times", "magnitudes", "code", "series", "earlier", "taken", "number", "measurement"] ["tolerance", "time", "times", "magnitudes"] (defScope s_asymmetry) := ⟨rfl, rfl, rfl, by decide +kernel, rfl, by decide +kernel, by decide +kernel⟩
theorem ok_asymmetry {f : Addr} {fd : FuncData} (F : Fun K "asymmetry" "asymmetry" s_asymmetry f fd) (mz : mg "zip" = none) (ms : mg "sum" = none) (c1 : Cal P w K mg base "series_refusal" 3 ["times", "magnitudes"] (sp_series_refusal K)) (c2 : Cal P w K mg base "to_signed" 1 ["number"] sp_to_signed)
    (c3 : Cal P w K mg base "partner_difference" 1 ["tolerance", "axis", "measurement", "series"] (sp_partner_difference K)) : FnOk P w K mg base CX0 4 f fd ["tolerance", "time", "times", "magnitudes"] (sp_asymmetry K) := by
  obtain ⟨f1, fd1, G1, g1, kp1, b1⟩ := c1
  obtain ⟨f2, fd2, G2, g2, kp2, b2⟩ := c2
  obtain ⟨f3, fd3, G3, g3, kp3, b3⟩ := c3
  refine F.ok sc_asymmetry (fun vs H Q E h => ?_) (fun cdv A outer s H vs Q E hr h => ?_)
  · obtain ⟨tol, ax, a, b, ts, ns, rfl, _⟩ := h
    rfl
  · obtain ⟨tol, ax, a, b, ts, ns, rfl, hA, hB, hl1, hl2, q⟩ := h
    have hr1 : Room 1 _ := hr.mono (by decide)
    have hr3 : Room 3 _ := hr.mono (by decide)
    have nd := sc_asymmetry.nd
    refine ⟨_, pss_cons (ps_set (i := 4) nd rfl (.inl rfl) (pe_call G1 hr3 (by rfl) g1 kp1 b1 .nil pass0 (pa_cons (pv 2) (pa_cons (pv 3) pa_nil))))
      (pss_cons (ps_if (pt_cmpR op_ne (pv 4) pe_int (nomark _)) (pss_one (ps_ret (pe_lst (pa_cons (pv 4) pa_nil)))) pss_nil)
      (pss_cons (ps_set (i := 5) nd rfl (.inr rfl) (pe_lc (own := [("taken", 7), ("number", 8)]) (g := gTup K 2 (gCons (gName 7) (gCons (gName 8) gNil))) (tt := tYes) rfl nd (pi_zip (by rfl) mz (pa_cons (pv 2) (pa_cons (pv 3) pa_nil)))
          (blkOk_by (own := [("taken", 7), ("number", 8)]) (N := ["tolerance", "time", "times", "magnitudes", "code", "series", "earlier", "taken", "number", "measurement"]) (sc := defScope s_asymmetry) (by decide +kernel))
          (fun _ _ _ _ _ => pg_tup rfl (pgs_cons (pg_name (i := 7) nd rfl (Or.inl rfl)) (pgs_cons (pg_name (i := 8) nd rfl (Or.inl rfl)) pgs_nil))) (fun _ _ _ _ _ => pts_nil)
          (fun _ _ _ _ _ => pe_tup (pa_cons (pv 7) (pa_cons (pe_call G2 hr1 (by rfl) g2 kp2 b2 .nil pass0 (pa_cons (pv 8) pa_nil)) pa_nil)))))
      (pss_cons (ps_setLc (i := 6) (own := [("measurement", 9)]) (g := gName 9) rfl nd rfl rfl (sw_true rfl rfl rfl (by decide +kernel)) (pi_list (pv 5))
          (blkOk_by (own := [("measurement", 9)]) (N := ["tolerance", "time", "times", "magnitudes", "code", "series", "earlier", "taken", "number", "measurement"]) (sc := defScope s_asymmetry) (by decide +kernel))
          (fun _ _ _ _ _ => pg_name (i := 9) nd rfl (Or.inl rfl)) (fun _ _ _ _ _ => pts_one (pt_cmpR op_lt (pe_ix (show IxR _ (rIxT K) from ix_tup) (pv 9) pe_int (fun _ _ => rfl)) (pv 1) (nomark _))) (fun _ _ _ _ _ => pv 9))
      (pss_one (ps_ret (pe_lst (pa_cons pe_int (pa_cons (pe_callB (cr_sum rfl) (by rfl) ms boot_sum (pa_cons (pe_lc (own := [("measurement", 9)]) (g := gName 9) (tt := tYes) rfl nd (pi_list (pv 6))
          (blkOk_by (own := [("measurement", 9)]) (N := ["tolerance", "time", "times", "magnitudes", "code", "series", "earlier", "taken", "number", "measurement"]) (sc := defScope s_asymmetry) (by decide +kernel))
          (fun _ _ _ _ _ => pg_name (i := 9) nd rfl (Or.inl rfl)) (fun _ _ _ _ _ => pts_nil)
          (fun _ _ _ _ _ => pe_call G3 hr1 (by rfl) g3 kp3 b3 .nil pass0 (pa_cons (pv 0) (pa_cons (pv 1) (pa_cons (pv 9) (pa_cons (pv 5) pa_nil)))))) pa_nil)) pa_nil)))))))), ?_⟩
    refine q_asg (ev_call (z := .int (Lm.serRef ts.length ns)) (ea_cons (ev_var (v := .ref a) rfl) (ea_cons (ev_var (v := .ref b) rfl) ea_nil)) (fun H2 e2 Q1 q1 E1 => ⟨a, b, ts, ns, rfl, ex_l e2 hA, ex_l e2 hB, by omega, q1⟩)) fun H2 e2 => ?_
    refine q_when (et_test (ev_op (ev_var (v := .int (Lm.serRef ts.length ns)) rfl) ev_c (rv_ne rfl))) (fun hb2 H3 e3 => ?_) (fun hb2 H3 e3 => ?_)
    · have hne : Lm.serRef ts.length ns ≠ 0 := by
        intro z
        rw [z] at hb2
        exact absurd hb2 (by decide)
      have e23 := e2.trans e3
      refine s_retL (el_lst (ea_cons (ev_var (v := .int (Lm.serRef ts.length ns)) rfl) ea_nil) (by show 1 ≤ 100000; decide)) fun l H4 hp e4 h4 => q l H4 (fresh_back e23 hp) (e23.trans e4) ?_
      rw [h4]
      unfold Lm.ansAsy
      rw [if_neg hne]
      rfl
    have hz : Lm.serRef ts.length ns = 0 := by
      have hb : (!decide (V.int (Lm.serRef ts.length ns) = V.int 0)) = false := hb2
      rw [Bool.not_eq_false', decide_eq_true_iff] at hb
      exact V.int.inj hb
    have hans : Lm.ansAsy tol ax ts ns = [0, Lm.asyOf tol ax (Lm.serP ts ns)] := by
      unfold Lm.ansAsy
      rw [if_pos hz]
    have hsl := Lm.serP_len ts ns
    have e13 := e2.trans e3
    refine q_asgP (l := Lm.serP ts ns) ?_ fun l H4 hl e4 hP => ?_
    · rw [← Lm.serP_range ts ns]
      refine lc_prs (n := min ts.length ns.length) (it_zip (xs := ts.map V.int) (ys := ns.map V.int) (ea_cons (ev_var (v := .ref a) rfl) (ea_cons (ev_var (v := .ref b) rfl) ea_nil)) (ex_l e13 hA) (ex_l e13 hB) |> fun h => by rw [List.length_map, List.length_map] at h; exact h) (by omega) _ ?_
      intro i x H5 hi e hx
      obtain ⟨T, u, v, rfl, hT2, hu, hv⟩ := hx
      have h1 : i < ts.length := by omega
      have h2 : i < ns.length := by omega
      rw [List.getElem?_map, List.getElem?_eq_getElem h1] at hu
      rw [List.getElem?_map, List.getElem?_eq_getElem h2] at hv
      cases hu
      cases hv
      refine takes_pair hT2 rfl ?_
      rw [List.getD_eq_getElem?_getD, List.getD_eq_getElem?_getD, List.getElem?_eq_getElem h1, List.getElem?_eq_getElem h2]
      exact eu_tup (ea_cons (ev_var (v := .int ts[i]) rfl) (ea_cons (ev_call (ea_cons (ev_var (v := .int ns[i]) rfl) ea_nil) (fun H6 e6 Q1 q1 E1 => ⟨_, rfl, q1⟩)) ea_nil)) (by show 2 ≤ 100000; decide)
    have e14 := e13.trans e4
    generalize Lm.serP ts ns = S at *
    refine q_asgP (l := Lm.earl ax S) (lc_psel (fun e => decide (e.1 < ax)) (ev_var (v := .ref l) rfl) hP (by omega) (fun x => rfl) (fun x e H5 e5 he hx => et_test (ev_op (ev_op (ev_var (v := x) rfl) ev_c (rv_fst hx)) (ev_var (v := .int ax) rfl) rv_I0)) fun x H5 => ev_var rfl) fun l2 H5 hl2 e5 hP2 => ?_
    have hel := Lm.earl_len ax S
    have e15 := e14.trans e5
    refine s_retL (el_lst (ea_cons ev_c (ea_cons (ev_cb1 (lc_m (l := Lm.earl ax S) (fun e => V.int (Lm.diffOf tol ax e S)) (it_prs (ev_var (v := .ref l2) rfl) hP2) (by omega) ?_) (fun p H6 hp e6 => rc_sum (ns := (Lm.earl ax S).map fun e => Lm.diffOf tol ax e S) ?_)) ea_nil)) (by show 2 ≤ 100000; decide)) fun r H6 hr6 e6 h6 => q r H6 (fresh_back e15 hr6) (e15.trans e6) ?_
    · intro i e x H6 hi e6 hx
      have hx6 := hx e hi H6 e6
      exact takes_name rfl (ev_call (ea_cons (ev_var (v := .int tol) rfl) (ea_cons (ev_var (v := .int ax) rfl) (ea_cons (ev_var (v := x) rfl) (ea_cons (ev_var (v := .ref l) rfl) ea_nil)))) (fun H7 e7 Q1 q1 E1 =>
        ⟨tol, ax, x, e, l, S, rfl, hx6.ex (ext_of e7), (hP.ex e5).ex (e6.trans e7), by omega, q1⟩))
    · rw [List.map_map]
      exact sq_of hp
    · rw [h6, hans]
      rfl

end
theorem all_mk {P : Program} {w : World} {K : PySem.W.Frag} {h : Heap} {mg : Str → Option Value} {fa f0 f1 f2 f3 f4 : Addr} (X : K.In h) (G : h.Ns mainGlobals mg) (hfa : mg "asymmetry" = some (.ref fa))
    {od0 an0 od1 an1 od2 an2 od3 an3 od4 an4 : Option Addr} {sl0 sl1 sl2 sl3 sl4 : Array (Option Value)} {oc0 kV0 dc0 pm0 cd0 ct0 oc1 kV1 dc1 pm1 cd1 ct1 oc2 kV2 dc2 pm2 cd2 ct2 oc3 kV3 dc3 pm3 cd3 ct3 oc4 kV4 dc4 pm4 cd4 ct4 : Value} {t_MAGNITUDE_BOUND t_MOST_TIMES : Tok}
    (a0 : PySem.W.nsIn K mainGlobals "to_signed" = some (some (.ref f0))) (l0 : K.lookup f0 = some ⟨oc0, od0, .func (PySem.W.fnOf "to_signed" "to_signed" (defArgs s_to_signed) (defBody s_to_signed) (defScope s_to_signed) .none kV0 dc0 pm0 an0 cd0 ct0), sl0⟩) (c0 : PySem.W.codeIn K cd0 "to_signed" = true) (k0 : PySem.W.keepIn K (.ref f0) = true)
    (a1 : PySem.W.nsIn K mainGlobals "magnitudes_allowed" = some (some (.ref f1))) (l1 : K.lookup f1 = some ⟨oc1, od1, .func (PySem.W.fnOf "magnitudes_allowed" "magnitudes_allowed" (defArgs s_magnitudes_allowed) (defBody s_magnitudes_allowed) (defScope s_magnitudes_allowed) .none kV1 dc1 pm1 an1 cd1 ct1), sl1⟩) (c1 : PySem.W.codeIn K cd1 "magnitudes_allowed" = true) (k1 : PySem.W.keepIn K (.ref f1) = true)
    (a2 : PySem.W.nsIn K mainGlobals "series_refusal" = some (some (.ref f2))) (l2 : K.lookup f2 = some ⟨oc2, od2, .func (PySem.W.fnOf "series_refusal" "series_refusal" (defArgs s_series_refusal) (defBody s_series_refusal) (defScope s_series_refusal) .none kV2 dc2 pm2 an2 cd2 ct2), sl2⟩) (c2 : PySem.W.codeIn K cd2 "series_refusal" = true) (k2 : PySem.W.keepIn K (.ref f2) = true)
    (a3 : PySem.W.nsIn K mainGlobals "partner_difference" = some (some (.ref f3))) (l3 : K.lookup f3 = some ⟨oc3, od3, .func (PySem.W.fnOf "partner_difference" "partner_difference" (defArgs s_partner_difference) (defBody s_partner_difference) (defScope s_partner_difference) .none kV3 dc3 pm3 an3 cd3 ct3), sl3⟩) (c3 : PySem.W.codeIn K cd3 "partner_difference" = true) (k3 : PySem.W.keepIn K (.ref f3) = true)
    (a4 : PySem.W.nsIn K mainGlobals "asymmetry" = some (some (.ref f4))) (l4 : K.lookup f4 = some ⟨oc4, od4, .func (PySem.W.fnOf "asymmetry" "asymmetry" (defArgs s_asymmetry) (defBody s_asymmetry) (defScope s_asymmetry) .none kV4 dc4 pm4 an4 cd4 ct4), sl4⟩) (c4 : PySem.W.codeIn K cd4 "asymmetry" = true) (k4 : PySem.W.keepIn K (.ref f4) = true)
    (v_MAGNITUDE_BOUND : PySem.W.nsIn K mainGlobals "MAGNITUDE_BOUND" = some (some (.int 100000 t_MAGNITUDE_BOUND)))
    (v_MOST_TIMES : PySem.W.nsIn K mainGlobals "MOST_TIMES" = some (some (.int 1024 t_MOST_TIMES)))
    (z_abs : PySem.W.nsIn K mainGlobals "abs" = some none)
    (z_all : PySem.W.nsIn K mainGlobals "all" = some none)
    (z_len : PySem.W.nsIn K mainGlobals "len" = some none)
    (z_sum : PySem.W.nsIn K mainGlobals "sum" = some none)
    (z_zip : PySem.W.nsIn K mainGlobals "zip" = some none)
    : ∃ fd : FuncData, (∀ (s : Shared) (us : List Value), us.length = (["tolerance", "time", "times", "magnitudes"] : List Str).length → BindsTo s fd ⟨us, []⟩ ((["tolerance", "time", "times", "magnitudes"] : List Str).zip us)) ∧ ∀ base : Heap, K.In base → base.Ns mainGlobals mg → FnOk P w K mg base CX0 4 fa fd ["tolerance", "time", "times", "magnitudes"] (sp_asymmetry K) := by
  have e := hfa.symm.trans (PySem.W.mg_of X G a4)
  cases e
  have F0 := fun_mk (st := s_to_signed) l0 c0 k0
  have b0 := F0.binds (ps := ["number"]) fun _ _ _ _ _ _ us hl => match us, hl with | [_], _ => rfl
  have F1 := fun_mk (st := s_magnitudes_allowed) l1 c1 k1
  have b1 := F1.binds (ps := ["magnitudes"]) fun _ _ _ _ _ _ us hl => match us, hl with | [_], _ => rfl
  have F2 := fun_mk (st := s_series_refusal) l2 c2 k2
  have b2 := F2.binds (ps := ["times", "magnitudes"]) fun _ _ _ _ _ _ us hl => match us, hl with | [_, _], _ => rfl
  have F3 := fun_mk (st := s_partner_difference) l3 c3 k3
  have b3 := F3.binds (ps := ["tolerance", "axis", "measurement", "series"]) fun _ _ _ _ _ _ us hl => match us, hl with | [_, _, _, _], _ => rfl
  have F4 := fun_mk (st := s_asymmetry) l4 c4 k4
  refine ⟨PySem.W.fnOf "asymmetry" "asymmetry" (defArgs s_asymmetry) (defBody s_asymmetry) (defScope s_asymmetry) .none kV4 dc4 pm4 an4 cd4 ct4, fun s us hu => match us, hu with | [_, _, _, _], _ => .of_eq rfl, fun base _ _ => ?_⟩
  have C0 : Cal P w K mg base "to_signed" 1 ["number"] sp_to_signed := Lb.cal_of F0 (ok_to_signed F0) (PySem.W.mg_of X G a0) b0
  have C1 : Cal P w K mg base "magnitudes_allowed" 2 ["magnitudes"] (sp_magnitudes_allowed K) := Lb.cal_of F1 (ok_magnitudes_allowed F1 (PySem.W.mg_of X G v_MAGNITUDE_BOUND) (PySem.W.mg_none_of X G z_all) (PySem.W.mg_none_of X G z_abs) C0) (PySem.W.mg_of X G a1) b1
  have C2 : Cal P w K mg base "series_refusal" 3 ["times", "magnitudes"] (sp_series_refusal K) := Lb.cal_of F2 (ok_series_refusal F2 (PySem.W.mg_of X G v_MOST_TIMES) (PySem.W.mg_none_of X G z_len) C1) (PySem.W.mg_of X G a2) b2
  have C3 : Cal P w K mg base "partner_difference" 1 ["tolerance", "axis", "measurement", "series"] (sp_partner_difference K) := Lb.cal_of F3 (ok_partner_difference F3 (PySem.W.mg_none_of X G z_abs)) (PySem.W.mg_of X G a3) b3
  exact ok_asymmetry F4 (PySem.W.mg_none_of X G z_zip) (PySem.W.mg_none_of X G z_sum) C2 C0 C3
end Lp
open PySem PySem.W PyProof.Rows
set_option maxRecDepth 100000 in
set_option maxHeartbeats 0 in
theorem PySem.Challenge.cw_lightcurves_s10_asymmetry_holds : PySem.Challenge.rw_lightcurves_s10_asymmetry.Holds := by
  w_on; k_headS; (case hw => exact ⟨[.int 0, .int 0, .list [], .list []], by decide +kernel, by decide +kernel⟩)
  k_fillS
  refine L2.walk_specK (r := PySem.Challenge.rw_lightcurves_s10_asymmetry) (k := 4) (CX := L2.CX0) (ps := ["tolerance", "time", "times", "magnitudes"]) (sp := fun K => Lp.sp_asymmetry K) (by decide +kernel) rfl rfl ⟨rfl, by decide, by decide⟩ (fun w h Y => PySem.W.kIn_of Y) ?F ?S (fun _ _ _ _ z => z)
  case F =>
    intro w mg fa h Y KX G hmg
    refine' Lp.all_mk KX G hmg ?a0 ?l0 ?c0 ?k0 ?a1 ?l1 ?c1 ?k1 ?a2 ?l2 ?c2 ?k2 ?a3 ?l3 ?c3 ?k3 ?a4 ?l4 ?c4 ?k4 ?v_MAGNITUDE_BOUND ?v_MOST_TIMES ?z_abs ?z_all ?z_len ?z_sum ?z_zip
    (case a0 => k_is); (case l0 => k_is); (case c0 => k_is); (case k0 => k_is)
    (case a1 => k_is); (case l1 => k_is); (case c1 => k_is); (case k1 => k_is)
    (case a2 => k_is); (case l2 => k_is); (case c2 => k_is); (case k2 => k_is)
    (case a3 => k_is); (case l3 => k_is); (case c3 => k_is); (case k3 => k_is)
    (case a4 => k_is); (case l4 => k_is); (case c4 => k_is); (case k4 => k_is)
    (case v_MAGNITUDE_BOUND => k_is); (case v_MOST_TIMES => k_is); (case z_abs => k_is); (case z_all => k_is)
    (case z_len => k_is); (case z_sum => k_is); (case z_zip => k_is)
  case S =>
    intro K H xs a hO hwi hask hx
    cases hx with
    | cons h1 r1 =>
      cases r1 with
      | cons h2 r2 =>
        cases r2 with
        | cons h3 r3 =>
          cases r3 with
          | cons h4 r4 =>
            cases r4
            cases h1
            cases h2
            cases h3 with
            | lst hs ha =>
              cases h4 with
              | lst hs2 ha2 =>
                have e := L2.ints_dw a.2.2.1 _ ha
                have e2 := L2.ints_dw a.2.2.2.1 _ ha2
                subst e e2
                have q : (Codec.inInt 0 4294967295 a.1 && (Codec.inInt 0 4294967295 a.2.1 && ((Codec.inLen 0 1100 a.2.2.1 && a.2.2.1.all (Codec.inInt 0 4294967295)) && ((Codec.inLen 0 1100 a.2.2.2.1 && a.2.2.2.1.all (Codec.inInt 0 4294967295)) && true)))) = true := hwi
                simp only [Bool.and_eq_true] at q
                obtain ⟨q1, q2, ⟨q3, q4⟩, ⟨q5, q6⟩, _⟩ := q
                have h1 := Codec.inInt_iff.mp q1
                have h2 := Codec.inInt_iff.mp q2
                have ht : ∀ x ∈ a.2.2.1, 0 ≤ x ∧ x ≤ 4294967295 := fun x hx => Codec.inInt_iff.mp (List.all_eq_true.mp q4 x hx)
                have hn : ∀ x ∈ a.2.2.2.1, 0 ≤ x ∧ x ≤ 4294967295 := fun x hx => Codec.inInt_iff.mp (List.all_eq_true.mp q6 x hx)
                refine ⟨a.1, a.2.1, _, _, a.2.2.1, a.2.2.2.1, rfl, hs, hs2, (Codec.inNat_iff.mp q3).2, (Codec.inNat_iff.mp q5).2, fun p H2 hp e2 hl => .lst (L2.SqL.of hl) ?_⟩
                show L2.DwAll K H2 _ ((PySh70.asymmetry a.1 a.2.1 a.2.2.1 a.2.2.2.1).map WData.int)
                rw [Lm.spec_asy h1.1 h2.1 ht hn]
                exact L2.dw_ints _
#print axioms PySem.Challenge.cw_lightcurves_s10_asymmetry_holds
