import PyProof.Rows.All
import Wide.All
import OpenK.AllK
import Wide.FinOn
import Open.SpecLaws
import KE.OsHead
import KE.OsGo
import HandS.ForSpec
import HandS.Comp
import HandS.Iter
import HandS.Walk
import HandS.Evl
import HandS.Wide
import HandS.SortInts
import HandS.Lambda
import HandS.Nested
import HandS.SortKw
import KE.SortKeyHeap
import KE.KNest
import HandS.EndTab
import HandS.Spec
import HandS.Deep
import KE.KEqSeq
import PySem.Challenge.RW_lightcurves_s07_search_periods
set_option Elab.async false
set_option linter.all false
set_option maxRecDepth 100000
set_option maxHeartbeats 2000000
/-! general words over the layer: walks by values, comprehensions, callees -/
namespace Lb
open PySem PySem.Spec PyProof.Rows L2 Evl

/-! ### what is walked: n turns, Yx i x H what the i-th item is, H the heap at the turn -/
def IterV (wi : TI) (σ : L2.St) (H : Hp) (n : Nat) (Yx : Nat → V → Hp → Prop) : Prop :=
  ∀ H1, Ex H H1 → ∀ R : It → Hp → Prop, (∀ (J : It) (G : Hp → Prop) (Y : Nat → Hp → V → Hp → Prop) (H2 : Hp), Ex H1 H2 → Walk J n G Y → (∀ H3, Ex H2 H3 → G H3) →
    (∀ i x H3 H4, i < n → Ex H2 H3 → Y i H3 x H4 → Ex H3 H4 ∧ Yx i x H4) → R J H2) → wi σ H1 R
theorem IterV.len {wi : TI} {σ : L2.St} {H : Hp} {n m : Nat} {Yx : Nat → V → Hp → Prop} (h : IterV wi σ H n Yx) (e : n = m) : IterV wi σ H m Yx := e ▸ h
section
variable {K : PySem.W.Frag} {σ : L2.St} {H : Hp} {tl ta tb te : TE}
theorem it_list {a : Addr} {xs : List V} (h : Ev tl σ H (.ref a)) (hx : SqL K H a xs) : IterV (iList K tl) σ H xs.length (fun i x _ => xs[i]? = some x) := fun H1 e R r =>
  h H1 e _ fun H2 e2 => ⟨a, rfl, ⟨xs, ex_l (e.trans e2) hx⟩, r _ _ _ H2 e2 (walk_list (K := K) (a := a) (xs := xs)) (fun H3 e3 => ex_l ((e.trans e2).trans e3) hx)
    (fun i x H3 H4 _ _ y => ⟨by rw [y.1]; exact Ex.refl _, y.2⟩)⟩
theorem it_new {xs : List V} (h : EvL tl σ H xs) : IterV (iList K tl) σ H xs.length (fun i x _ => xs[i]? = some x) := fun H1 e R r =>
  h H1 e _ fun a H2 _ e2 ha => ⟨a, rfl, ⟨xs, sq_of ha⟩, r _ _ _ H2 e2 (walk_list (K := K) (a := a) (xs := xs)) (fun H3 e3 => sq_of (e3 a _ ha))
    (fun i x H3 H4 _ _ y => ⟨by rw [y.1]; exact Ex.refl _, y.2⟩)⟩
theorem it_rng1 {ta : TA} {n : Int} (h : EvA ta σ H [.int n]) (h0 : 0 ≤ n) (h1 : n ≤ 1000000) : IterV (iRng1 ta) σ H n.toNat (fun i x _ => x = .int (i : Int)) := fun H1 e R r =>
  h H1 e _ fun H2 e2 => ⟨n, rfl, by omega, by omega, r _ _ _ H2 e2 (walk_range (lo := 0) (n := n.toNat)) (fun _ _ => trivial)
    (fun i x H3 H4 _ _ y => ⟨by rw [y.1]; exact Ex.refl _, y.2.trans (congrArg V.int (Int.zero_add (i : Int)))⟩)⟩
theorem it_rng2 {ta : TA} {lo n : Int} (h : EvA ta σ H [.int lo, .int n]) (h0 : 0 ≤ lo ∧ lo ≤ 1000000 ∧ -1000000 ≤ n ∧ n ≤ 1000000) : IterV (iRng2 ta) σ H (n - lo).toNat (fun i x _ => x = .int (lo + (i : Int))) := fun H1 e R r =>
  h H1 e _ fun H2 e2 => ⟨lo, n, rfl, ⟨by omega, by omega, by omega, by omega⟩, r _ _ _ H2 e2 (walk_range (lo := lo) (n := (n - lo).toNat)) (fun _ _ => trivial)
    (fun i x H3 H4 _ _ y => ⟨by rw [y.1]; exact Ex.refl _, y.2⟩)⟩
theorem it_rng3 {ta : TA} {i j c : Int} {n : Nat} (h : EvA ta σ H [.int i, .int j, .int c]) (hc : RgC i j c n) : IterV (iRng3 ta) σ H n (fun k x _ => x = .int (i + (k : Int) * c)) := fun H1 e R r =>
  h H1 e _ fun H2 e2 => ⟨i, j, c, n, rfl, hc, r _ _ _ H2 e2 (walk_rangeC (lo := i) (c := c) (n := n)) (fun _ _ => trivial)
    (fun i x H3 H4 _ _ y => ⟨by rw [y.1]; exact Ex.refl _, y.2⟩)⟩
/-- zip of two lists that stand -/
theorem it_zip {ta : TA} {a b : Addr} {xs ys : List V} (h : EvA ta σ H [.ref a, .ref b]) (hx : SqL K H a xs) (hy : SqL K H b ys) :
    IterV (iZip K ta) σ H (min xs.length ys.length) (fun i x H4 => ∃ T u v, x = .ref T ∧ H4 T = some (.tup [u, v]) ∧ xs[i]? = some u ∧ ys[i]? = some v) := fun H1 e R r =>
  h H1 e _ fun H2 e2 => ⟨a, b, xs, ys, rfl, ex_l (e.trans e2) hx, ex_l (e.trans e2) hy, r _ _ _ H2 e2 (walk_zip (K := K) (a := a) (b := b) (xs := xs) (ys := ys) rfl)
    (fun H3 e3 => ⟨ex_l ((e.trans e2).trans e3) hx, ex_l ((e.trans e2).trans e3) hy⟩)
    (fun i x H3 H4 _ _ y => by
      obtain ⟨T, u, v, h1, h2, h3, h4, h5⟩ := y
      subst h3
      exact ⟨Ex.new h2, T, u, v, h1, upd_same, h4, h5⟩)⟩

/-- enumerate of a list that stands -/
theorem it_enum {ta : TA} {a : Addr} {xs : List V} (h : EvA ta σ H [.ref a]) (hx : SqL K H a xs) :
    IterV (iEnum K ta) σ H xs.length (fun i x H4 => ∃ T u, x = .ref T ∧ H4 T = some (.tup [.int (i : Int), u]) ∧ xs[i]? = some u) := fun H1 e R r =>
  h H1 e _ fun H2 e2 => ⟨a, xs, rfl, ex_l (e.trans e2) hx, r _ _ _ H2 e2 (walk_enum (K := K) (a := a) (xs := xs)) (fun H3 e3 => ex_l ((e.trans e2).trans e3) hx)
    (fun i x H3 H4 _ _ y => by
      obtain ⟨T, u, v, h1, h2, h3, h4, h5⟩ := y
      subst h3
      cases h4
      exact ⟨Ex.new h2, T, v, h1, upd_same, h5⟩)⟩

/-! ### comprehensions -/
theorem et_yes : EvT tYes σ H true := fun H1 _ Q q => q H1 (Ex.refl H1)
/-- a turn's target takes the item: then the element can be asked at the slots that it leaves -/
def Takes1 (g : TG) (x : V) (σ0 : L2.St) (vs : List Nat) (H2 : Hp) (P : L2.St → Prop) : Prop := ∀ Q : L2.St → Hp → Prop, (∀ σ2, wipe σ2 vs = wipe σ0 vs → P σ2 → Q σ2 H2) → g x (wipe σ0 vs) H2 Q
theorem lc_f {wi : TI} {n : Nat} {Yx : Nat → V → Hp → Prop} {g : TG} {tt : TT} {vs : List Nat} (hw : IterV wi σ H n Yx) (hn : n ≤ 40000) (f : Nat → Bool) (v : Nat → V)
    (hs : ∀ (i : Nat) (x : V) (H2 : Hp), i < n → Ex H H2 → Yx i x H2 → Takes1 g x σ vs H2 fun σ2 => EvT tt σ2 H2 (f i) ∧ (f i = true → Ev te σ2 H2 (v i))) :
    EvL (tLc wi g tt te vs) σ H (given n f v) := fun H0 e Q q => hw H0 e _ fun J G Y H1 e1 w hG hY Dl hD =>
  lc_it w (Cw H1 f v Dl) ⟨hD, Ex.new hD, upd_same⟩ (fun i H' hi p => hG H' p.2.1) (fun i x H' H2 hi p y => by
    obtain ⟨e2, yx⟩ := hY i x H' H2 hi p.2.1 y
    have p2 : Cw H1 f v Dl i H2 := ⟨p.1, p.2.1.trans e2, e2 _ _ p.2.2⟩
    refine hs i x H2 hi ((e.trans e1).trans p2.2.1) yx _ fun σ2 hw2 hh => ⟨hw2, ?_⟩
    obtain ⟨p1, pe, p3⟩ := p2
    refine hh.1 H2 (Ex.refl H2) _ fun H3 e3 => ?_
    cases hf : f i with
    | true =>
      show te σ2 H3 fun y H4 => ∃ acc, H4 Dl = some (.lst acc) ∧ acc.length < sizeLine ∧ Cw H1 f v Dl (i + 1) (upd H4 Dl (.lst (acc ++ [y])))
      refine hh.2 hf H3 e3 _ fun H4 e4 => ⟨given i f v, e4 Dl _ (e3 Dl _ p3), sz_lt (by have := given_len i f v; omega), p1, Ex.mut ((pe.trans e3).trans e4) p1, ?_⟩
      rw [given_yes hf]
      exact upd_same
    | false =>
      show Cw H1 f v Dl (i + 1) H3
      refine ⟨p1, pe.trans e3, ?_⟩
      rw [given_no hf]
      exact e3 Dl _ p3) (fun H' p => q Dl H' (fresh_back e1 p.1) (e1.trans p.2.1) p.2.2)
theorem given_all (n : Nat) (v : Nat → V) : given n (fun _ => true) v = (List.range n).map v := by
  unfold given
  rw [List.filter_eq_self.mpr (fun _ _ => rfl)]
theorem lc_v {wi : TI} {n : Nat} {Yx : Nat → V → Hp → Prop} {g : TG} {vs : List Nat} (hw : IterV wi σ H n Yx) (hn : n ≤ 40000) (v : Nat → V)
    (hs : ∀ (i : Nat) (x : V) (H2 : Hp), i < n → Ex H H2 → Yx i x H2 → Takes1 g x σ vs H2 fun σ2 => Ev te σ2 H2 (v i)) :
    EvL (tLc wi g tYes te vs) σ H ((List.range n).map v) := by
  have h := lc_f (te := te) (tt := tYes) (g := g) (vs := vs) hw hn (fun _ => true) v (fun i x H2 hi e y Q q => hs i x H2 hi e y Q fun σ2 h1 h2 => q σ2 h1 ⟨et_yes, fun _ => h2⟩)
  rw [given_all] at h
  exact h
/-- the same told by a list -/
theorem lc_m {α : Type} {wi : TI} {Yx : Nat → V → Hp → Prop} {g : TG} {vs : List Nat} {l : List α} (F : α → V) (hw : IterV wi σ H l.length Yx) (hn : l.length ≤ 40000)
    (hs : ∀ (i : Nat) (y : α) (x : V) (H2 : Hp), l[i]? = some y → Ex H H2 → Yx i x H2 → Takes1 g x σ vs H2 fun σ2 => Ev te σ2 H2 (F y)) :
    EvL (tLc wi g tYes te vs) σ H (l.map F) := by
  have h := lc_v (te := te) (g := g) (vs := vs) hw hn (fun i => match l[i]? with | some y => F y | none => .non) (fun i x H2 hi e y => by
    have e1 : l[i]? = some l[i] := List.getElem?_eq_getElem hi
    rw [e1]
    exact hs i _ x H2 e1 e y)
  have e : (List.range l.length).map (fun i => match l[i]? with | some y => F y | none => .non) = l.map F := by
    apply List.ext_getElem?
    intro i
    rw [List.getElem?_map, List.getElem?_map]
    by_cases hi : i < l.length
    · rw [List.getElem?_range hi, List.getElem?_eq_getElem hi]
      simp [List.getElem?_eq_getElem hi]
    · rw [List.getElem?_eq_none (by simpa using hi), List.getElem?_eq_none (by simpa using hi)]
      rfl
  rw [e] at h
  exact h
/-- a name as the target -/
theorem takes_name {x : V} {j : Nat} {vs : List Nat} {H2 : Hp} {P : L2.St → Prop} (hw : wipe ((wipe σ vs).set j (some x)) vs = wipe σ vs) (h : P ((wipe σ vs).set j (some x))) : Takes1 (gName j) x σ vs H2 P := fun Q q => q _ hw h
/-- two names, from a tuple -/
theorem takes_pair {T : Addr} {u v : V} {i j : Nat} {vs : List Nat} {H2 : Hp} {P : L2.St → Prop} (ht : H2 T = some (.tup [u, v]))
    (hw : wipe (((wipe σ vs).set i (some u)).set j (some v)) vs = wipe σ vs) (h : P (((wipe σ vs).set i (some u)).set j (some v))) : Takes1 (gTup K 2 (gCons (gName i) (gCons (gName j) gNil))) (.ref T) σ vs H2 P := fun Q q =>
  ⟨T, [u, v], rfl, st_of ht, rfl, u, [v], rfl, v, [], rfl, rfl, q _ hw h⟩

/-! ### lists of lists -/
def Rows (H : Hp) (p : Addr) (rs : List (List V)) : Prop := ∃ as : List Addr, H p = some (.lst (as.map V.ref)) ∧ as.length = rs.length ∧ ∀ (i : Nat) a r, as[i]? = some a → rs[i]? = some r → H a = some (.lst r)
theorem Rows.ex {H H' : Hp} {p : Addr} {rs : List (List V)} (h : Rows H p rs) (e : Ex H H') : Rows H' p rs := by
  obtain ⟨as, h1, h2, h3⟩ := h
  exact ⟨as, e _ _ h1, h2, fun i a r ha hr => e _ _ (h3 i a r ha hr)⟩
def EvR (te : TE) (σ : L2.St) (H : Hp) (rs : List (List V)) : Prop := ∀ H1, Ex H H1 → ∀ Q : VK, (∀ p H2, H1 p = none → Ex H1 H2 → Rows H2 p rs → Q (.ref p) H2) → te σ H1 Q
theorem lc_rows {wi : TI} {n : Nat} {Yx : Nat → V → Hp → Prop} {g : TG} {vs : List Nat} (hw : IterV wi σ H n Yx) (hn : n ≤ 40000) (r : Nat → List V)
    (hs : ∀ (i : Nat) (x : V) (H2 : Hp), i < n → Ex H H2 → Yx i x H2 → Takes1 g x σ vs H2 fun σ2 => EvL te σ2 H2 (r i)) :
    EvR (tLc wi g tYes te vs) σ H ((List.range n).map r) := fun H0 e Q q => hw H0 e _ fun J G Y H1 e1 w hG hY Dl hD =>
  lc_it w (fun i H' => H1 Dl = none ∧ Ex H1 H' ∧ ∃ as : List Addr, H' Dl = some (.lst (as.map V.ref)) ∧ as.length = i ∧ ∀ (j : Nat) a, as[j]? = some a → H' a = some (.lst (r j)) ∧ a ≠ Dl)
    ⟨hD, Ex.new hD, [], upd_same, rfl, fun j a h => by simp at h⟩ (fun i H' hi p => hG H' p.2.1) (fun i x H' H2 hi p y => by
    obtain ⟨e2, yx⟩ := hY i x H' H2 hi p.2.1 y
    obtain ⟨p1, pe, as, p3, p4, p5⟩ := p
    refine hs i x H2 hi ((e.trans e1).trans (pe.trans e2)) yx _ fun σ2 hw2 hh => ⟨hw2, ?_⟩
    show te σ2 H2 fun y H4 => ∃ acc, H4 Dl = some (.lst acc) ∧ acc.length < sizeLine ∧ _
    refine hh H2 (Ex.refl H2) _ fun c H4 hc e4 h4 => ?_
    have dD : Dl ≠ c := ne_of_none (e2 _ _ p3) hc
    refine ⟨as.map V.ref, e4 _ _ (e2 _ _ p3), sz_lt (by rw [List.length_map, p4]; omega), p1, Ex.mut ((pe.trans e2).trans e4) p1, as ++ [c], ?_, by rw [List.length_append, p4]; rfl, ?_⟩
    · rw [upd_same, List.map_append]
      rfl
    · intro j a hj
      by_cases hjl : j < as.length
      · rw [List.getElem?_append_left hjl] at hj
        obtain ⟨h1, h2⟩ := p5 j a hj
        exact ⟨by rw [upd_ne h2]; exact e4 _ _ (e2 _ _ h1), h2⟩
      · rw [List.getElem?_append_right (by omega)] at hj
        by_cases hj0 : j - as.length = 0
        · rw [hj0] at hj
          have ea : c = a := Option.some.inj hj
          have ej : j = i := by omega
          subst ea
          subst ej
          exact ⟨by rw [upd_ne dD.symm]; exact h4, dD.symm⟩
        · rw [List.getElem?_eq_none (by simp; omega)] at hj
          cases hj)
    (fun H' p => by
      obtain ⟨p1, pe, as, p3, p4, p5⟩ := p
      refine q Dl H' (fresh_back e1 p1) (e1.trans pe) ⟨as, p3, by rw [p4, List.length_map, List.length_range], fun j a l ha hl => ?_⟩
      obtain ⟨h1, _⟩ := p5 j a ha
      rw [List.getElem?_map] at hl
      by_cases hj : j < n
      · rw [List.getElem?_range hj] at hl
        have el : r j = l := Option.some.inj hl
        rw [← el]
        exact h1
      · rw [List.getElem?_eq_none (by simpa using hj)] at hl
        cases hl)

/-! ### calls -/
/-- a built-in of one argument that is a new list -/
theorem ev_cb1 {r : List V → Hp → VK → Prop} {xs : List V} {z : V} (h : EvL te σ H xs) (hr : ∀ p H1, H1 p = some (.lst xs) → Ex H H1 → RC r [.ref p] H1 z) : Ev (tCB r (tCons te tNil)) σ H z := fun H1 e Q q =>
  h H1 e _ fun p H2 _ e2 hp => hr p H2 hp (e.trans e2) H2 (Ex.refl H2) Q fun H3 e3 => q H3 (e2.trans e3)
theorem el_cb1 {r : List V → Hp → VK → Prop} {xs ys : List V} (h : EvL te σ H xs) (hr : ∀ p H1, H1 p = some (.lst xs) → Ex H H1 → RCL r [.ref p] H1 ys) : EvL (tCB r (tCons te tNil)) σ H ys := fun H1 e Q q =>
  h H1 e _ fun p H2 _ e2 hp => hr p H2 hp (e.trans e2) H2 (Ex.refl H2) Q fun p3 H3 h3 e3 hp3 => q p3 H3 (fresh_back e2 h3) (e2.trans e3) hp3
/-- a def of one argument that is a new list -/
theorem ev_call1 {sp : Sp} {E : XK} {xs : List V} {z : V} (h : EvL te σ H xs) (hs : ∀ p H1, H1 p = some (.lst xs) → Ex H H1 → SpV sp [.ref p] H1 z) : Ev (tCall sp [] E (tCons te tNil)) σ H z := fun H1 e Q q =>
  h H1 e _ fun p H2 _ e2 hp => hs p H2 hp (e.trans e2) H2 (Ex.refl H2) Q (fun H3 e3 => q H3 (e2.trans e3)) E
theorem el_cat {xs ys : List V} (h1 : EvL ta σ H xs) (h2 : EvL tb σ H ys) (hl : xs.length + ys.length ≤ 100000) : EvL (tOp rCat ta tb) σ H (xs ++ ys) := fun H1 e Q q =>
  h1 H1 e _ fun p H2 hp e2 h2' => h2 H2 (e.trans e2) _ fun b H3 hb e3 h3 =>
    ⟨p, b, xs, ys, rfl, rfl, e3 _ _ h2', h3, sz_of hl, fun c hc => q c _ (fresh_back (e2.trans e3) hc) ((e2.trans e3).trans (Ex.new hc)) upd_same⟩
/-- [..] + xs, xs a list that stands -/
theorem el_catV {xs ys : List V} {b : Addr} (h1 : EvL ta σ H xs) (h2 : Ev tb σ H (.ref b)) (hb : H b = some (.lst ys)) (hl : xs.length + ys.length ≤ 100000) : EvL (tOp rCat ta tb) σ H (xs ++ ys) := fun H1 e Q q =>
  h1 H1 e _ fun p H2 hp e2 h2' => h2 H2 (e.trans e2) _ fun H3 e3 =>
    ⟨p, b, xs, ys, rfl, rfl, e3 _ _ h2', ((e.trans e2).trans e3) _ _ hb, sz_of hl, fun c hc => q c _ (fresh_back (e2.trans e3) hc) ((e2.trans e3).trans (Ex.new hc)) upd_same⟩
theorem rc_abs {i : Int} : RC (fun xs H Q => ∃ i, xs = [.int i] ∧ Q (.int (if i < 0 then -i else i)) H) [.int i] H (.int (if i < 0 then -i else i)) := fun H1 _ _ q => ⟨i, rfl, q H1 (Ex.refl H1)⟩
theorem rc_sum {a : Addr} {ns : List Int} (h : SqL K H a (ns.map V.int)) : RC (rSum K) [.ref a] H (.int ns.sum) := fun H1 e _ q => ⟨a, ns, rfl, ex_l e h, q H1 (Ex.refl H1)⟩
theorem rc_all {a : Addr} {bs : List Bool} (h : SqL K H a (bs.map V.bl)) : RC (rAll K) [.ref a] H (.bl (bs.all id)) := fun H1 e _ q => ⟨a, bs, rfl, ex_l e h, q H1 (Ex.refl H1)⟩
theorem rc_any {a : Addr} {bs : List Bool} (h : SqL K H a (bs.map V.bl)) : RC (rAny K) [.ref a] H (.bl (bs.any id)) := fun H1 e _ q => ⟨a, bs, rfl, ex_l e h, q H1 (Ex.refl H1)⟩
theorem sorted_one {a b : List Int} (p : a.Perm b) (ha : a.Pairwise (· ≤ ·)) (hb : b.Pairwise (· ≤ ·)) : a = b := p.eq_of_pairwise (fun _ _ _ _ h1 h2 => Int.le_antisymm h1 h2) ha hb
theorem ms_perm (ns : List Int) : (ns.mergeSort fun a b => decide (a ≤ b)).Perm ns := List.mergeSort_perm ns _
theorem ms_up (ns : List Int) : (ns.mergeSort fun a b => decide (a ≤ b)).Pairwise (· ≤ ·) :=
  (List.pairwise_mergeSort (le := fun a b => decide (a ≤ b)) (fun a b c h1 h2 => decide_eq_true (Int.le_trans (of_decide_eq_true h1) (of_decide_eq_true h2)))
    (fun a b => by
      rw [Bool.or_eq_true, decide_eq_true_iff, decide_eq_true_iff]
      exact Int.le_total a b) ns).imp fun h => of_decide_eq_true h
theorem rcl_sorted {a : Addr} {ns : List Int} (h : SqL K H a (ns.map V.int)) : RCL (rSortedI K) [.ref a] H ((ns.mergeSort fun a b => decide (a ≤ b)).map V.int) := fun H1 e Q q =>
  ⟨a, ns, rfl, ex_l e h, fun ns' p hp hup hn => by
    have e2 : ns' = ns.mergeSort fun a b => decide (a ≤ b) := sorted_one (hp.trans (ms_perm ns).symm) hup (ms_up ns)
    rw [e2]
    exact q p _ hn (Ex.new hn) upd_same⟩

def SpR (sp : Sp) (vs : List V) (H : Hp) (rs : List (List V)) : Prop := ∀ H1, Ex H H1 → ∀ Q : VK, (∀ p H2, H1 p = none → Ex H1 H2 → Rows H2 p rs → Q (.ref p) H2) → ∀ E : XK, sp vs H1 Q E
theorem er_call {sp : Sp} {vs : List V} {rs : List (List V)} {E : XK} {ta : TA} (h : EvA ta σ H vs) (hs : SpR sp vs H rs) : EvR (tCall sp [] E ta) σ H rs := fun H1 e Q q =>
  h H1 e _ fun H2 e2 => by
    rw [List.append_nil]
    exact hs H2 (e.trans e2) Q (fun p H3 hp e3 h3 => q p H3 (fresh_back e2 hp) (e2.trans e3) h3) E
/-! ### callees -/
structure Cal (P : Program) (w : World) (K : PySem.W.Frag) (mg : Str → Option Value) (base : Heap) (x : Str) (k : Nat) (ps : List Str) (sp : Sp) : Prop where
  ex : ∃ (f : Addr) (fd : FuncData), FnOk P w K mg base CX0 k f fd ps sp ∧ mg x = some (.ref f) ∧ PySem.W.keepIn K (.ref f) = true ∧ Binds K fd ps []
theorem cal_of {P : Program} {w : World} {K : PySem.W.Frag} {mg : Str → Option Value} {base : Heap} {x qual : Str} {st : Stmt} {f : Addr} {fd : FuncData} {k : Nat} {ps : List Str} {sp : Sp} (F : Fun K x qual st f fd)
    (G : FnOk P w K mg base CX0 k f fd ps sp) (g : mg x = some (.ref f)) (b : Binds K fd ps []) : Cal P w K mg base x k ps sp := ⟨f, fd, G, g, F.kp, b⟩
end

/-! ### statements -/
section
variable {K : PySem.W.Frag} {σ : L2.St} {H : Hp} {ta te : TE} {D : Ends} {tz : TS}
/-- xs.extend(a new list) -/
theorem s_ext {l : Addr} {xs ys : List V} (hl : H l = some (.lst xs)) (ha : Ev ta σ H (.ref l)) (h : EvL te σ H ys) (hz : xs.length + ys.length ≤ 100000) (k : ∀ H1, Ex H H1 → D.nx σ (upd H1 l (.lst (xs ++ ys)))) :
    tDrop (tBM K "list" rExtend ta (tCons te tNil)) D σ H := ha H (Ex.refl H) _ fun H1 e1 =>
  ⟨Or.inl ⟨rfl, xs, sq_of (e1 l _ hl)⟩, h H1 e1 _ fun b H2 hb e2 h2 => ⟨l, b, xs, ys, rfl, rfl, e2 l _ (e1 l _ hl), h2, sz_of hz, k H2 (e1.trans e2)⟩⟩
theorem q_ext {l : Addr} {xs ys : List V} (hl : H l = some (.lst xs)) (ha : Ev ta σ H (.ref l)) (h : EvL te σ H ys) (hz : xs.length + ys.length ≤ 100000) (k : ∀ H1, Ex H H1 → tz D σ (upd H1 l (.lst (xs ++ ys)))) :
    tSeq (tDrop (tBM K "list" rExtend ta (tCons te tNil))) tz D σ H := s_ext (D := { D with nx := tz D }) hl ha h hz k
theorem s_asgR {i : Nat} {rs : List (List V)} {g : TG} (h : EvR te σ H rs) (k : ∀ p H1, H p = none → Ex H H1 → Rows H1 p rs → D.nx (σ.set i (some (.ref p))) H1) : tAsg te (gName i) D σ H := h H (Ex.refl H) _ fun p H1 hp e h1 => k p H1 hp e h1
theorem q_asgR {i : Nat} {rs : List (List V)} (h : EvR te σ H rs) (k : ∀ p H1, H p = none → Ex H H1 → Rows H1 p rs → tz D (σ.set i (some (.ref p))) H1) : tSeq (tAsg te (gName i)) tz D σ H := s_asgR (g := gName i) (D := { D with nx := tz D }) h k
theorem s_retR {rs : List (List V)} (h : EvR te σ H rs) (k : ∀ p H1, H p = none → Ex H H1 → Rows H1 p rs → D.rt (.ref p) H1) : tRet te D σ H := h H (Ex.refl H) _ k
end
end Lb

set_option Elab.async false
set_option linter.all false
set_option maxRecDepth 100000
set_option maxHeartbeats 4000000
/-! pairs, a sort by a lambda, the table of code objects -/
namespace Lt
open PySem PySem.Spec PyProof.Rows L2 LamX Evl Lb

/-! ### the lambda called: pair[0] -/
section
variable {prog : Program} {w : World} {A : Around} {s : Shared}
theorem lam_turn {f c' t : Addr} {q : Str} {params : Arguments} {body : Expr} {scope : Scope} {pm ctv : Value} {its : List Value} {k : Int} {tk0 : Tok} {p1 p2 p3 : Pos} {j : Nat}
    (hroom : A.depth < recursionLimit) (lim : s.heap.NoLimit) (hf : s.heap.get? f = some (PySem.W.kla_obj "<lambda>" q params body scope [] pm c' ctv)) (hc : s.heap.CodeRec (.ref c') q)
    (hk : scope.kind = .function) (hco : scope.isCoroutine = false) (hgen : scope.isGenerator = false) (hcell : ∀ y ∈ scope.names, y.2 ≠ .cell) (hp : scope.names.lookup (Str.ofString "pair") = some NameKind.local)
    (hbind : bindArgs (PySem.W.kla_fn "<lambda>" q params body scope [] pm (.ref c') ctv) ⟨[.ref t], []⟩ = pure [(Str.ofString "pair", Value.ref t)])
    (hb : body = .Subscript (.Name "pair" p1) (.Constant (.int 0) j p2) p3) (ht : IsTup s.heap t its.toArray) (hl : 0 < its.length ∧ its.length < 100) (h0 : its[0]? = some (.int k tk0)) :
    wpAny (model prog w) A (call (.ref f) [.ref t]) (PySem.W.KeyPure (.int k) s) (fun _ _ => False) s := by
  have rc : codeAny (model prog w) A (.call (.ref f) ⟨[.ref t], []⟩) (fun r s' => ∃ v, r = .ok (.ret v) ∧ PySem.W.KeyPure (.int k) s v s') s := by
    refine PySem.W.kla_callFunE hroom hf rfl hco hgen rfl hc ?_
    rw [hbind]
    refine wpAny_pure (wpAny_newFunctionEnv hcell (fun y hy => ?_) (fun h₁ hns hsb => ⟨lim.fresh _ hsb, ?_⟩) hk)
    · rw [List.mem_singleton] at hy
      subst hy
      exact hp
    · show codeAny _ _ (.expr body (PySem.W.envX q scope s.heap.objs.size f (.ref c') [])) _ _
      have kp : ∀ b o, s.heap.get? b = some o → h₁.get? b = some o := fun b o e => hsb.extBut b o (Nat.ne_of_lt (Heap.lt_size e)) (Heap.get?_push_of_some _ e)
      have ht1 : IsTup h₁ t its.toArray := by
        obtain ⟨o, e, r⟩ := ht
        exact ⟨o, kp _ _ e, r⟩
      subst hb
      refine PySem.W.kla_codeExpr (Subscript_ (wpAny_Name (wpAny_loadName_local (v := .ref t) hk hp hns rfl (wpAny_Constant_int ?_)) (by decide)))
      refine item_tupleL (l := its) (j := 0) (x := .int k tk0) ht1 (by decide) (by decide) ?_ h0 ?_
      · have e : (0 : Int) < (its.length : Int) := by omega
        unfold seqIndex?
        simp only [if_neg (show ¬ (0 : Int) < 0 by decide), Int.le_refl, decide_true, Bool.true_and]
        rw [if_pos (decide_eq_true e)]
        rfl
      · exact ⟨_, rfl, h₁, _, rfl, kp, Reads.int k tk0⟩
  refine wpAny_call (codeAny_mono rc fun r s' hq => ?_)
  obtain ⟨v, rfl, hv⟩ := hq
  exact hv
end
/-! ### lists of pairs -/
/-- the value x is the pair e -/
def PairAt (H : Hp) (x : V) (e : Int × Int) : Prop := ∃ t, x = .ref t ∧ H t = some (.tup [.int e.1, .int e.2])
def Pairs (H : Hp) (p : Addr) (l : List (Int × Int)) : Prop := ∃ xs : List V, H p = some (.lst xs) ∧ PySem.W.EachIs (PairAt H) xs l
theorem PairAt.ex {H H' : Hp} {x : V} {e : Int × Int} (h : PairAt H x e) (k : ExtN H H') : PairAt H' x e := by
  obtain ⟨t, h1, h2⟩ := h
  exact ⟨t, h1, k _ _ h2 fun ps z => by cases z⟩
theorem ext_of {H H' : Hp} (e : Ex H H') : ExtN H H' := fun b o h _ => e b o h
theorem Pairs.exN {H H' : Hp} {p : Addr} {l : List (Int × Int)} (h : Pairs H p l) (k : ExtN H H') : Pairs H' p l := by
  obtain ⟨xs, h1, h2⟩ := h
  exact ⟨xs, k _ _ h1 fun ps z => (by cases z), h2.mono fun x e q => q.ex k⟩
theorem Pairs.ex {H H' : Hp} {p : Addr} {l : List (Int × Int)} (h : Pairs H p l) (k : Ex H H') : Pairs H' p l := h.exN (ext_of k)
theorem Tabs.exS {T : List (Addr × Str)} {H H' : Hp} (t : Tabs T H) (e : Ex H H') : Tabs T H' := t.ext e
def byFst (l : List (Int × Int)) : List (Int × Int) := l.mergeSort fun a b => decide (a.1 ≤ b.1)
/-- sorted(e, key=lambda pair: pair[0]), e a list of pairs -/
def tSortLam (T : List (Addr × Str)) (te : TE) : TE := fun σ H Q => te σ H fun v H1 => ∃ (a : Addr) (l : List (Int × Int)), v = .ref a ∧ Pairs H1 a l ∧ l.length ≤ 100000 ∧ Tabs T H1 ∧
  ∀ p H2, ExtN H1 H2 → Tabs T H2 → Pairs H2 p (byFst l) → Q (.ref p) H2
theorem each_vals {R : V → Int × Int → Prop} {R' : Value → Int × Int → Prop} (h : ∀ x u e, RelV x u → R x e → R' u e) : ∀ {xs : List V} {us : List Value} {l : List (Int × Int)}, Vals xs us → PySem.W.EachIs R xs l → PySem.W.EachIs R' us l
  | _, _, _, .nil, .nil => .nil
  | _, _, _, .cons r q, .cons a b => .cons (h _ _ _ r a) (each_vals h q b)
theorem each_back {H : Hp} : ∀ {us : List Value} {l : List (Int × Int)}, PySem.W.EachIs (fun (u : Value) e => ∃ t, u = .ref t ∧ H t = some (.tup [.int e.1, .int e.2])) us l → PySem.W.EachIs (PairAt H) (us.map backV) l
  | _, _, .nil => .nil
  | _, _, .cons ⟨t, h1, h2⟩ b => .cons ⟨t, by rw [h1]; rfl, h2⟩ (each_back b)
theorem each_refs {H : Hp} : ∀ {us : List Value} {l : List (Int × Int)}, PySem.W.EachIs (fun (u : Value) e => ∃ t, u = .ref t ∧ H t = some (.tup [.int e.1, .int e.2])) us l → ∀ u ∈ us, ∃ a, u = Value.ref a
  | _, _, .nil => fun u h => by cases h
  | _, _, .cons ⟨t, h1, h2⟩ b => fun u h => by
    rcases List.mem_cons.mp h with z | z
    · exact ⟨t, by rw [z, h1]⟩
    · exact each_refs b u z
section
variable {X : Cx}
theorem pe_sortLam {T : List (Addr × Str)} {c P : Addr} {e : Expr} {te : TE} {params : Arguments} {body : Expr} {scope : Scope} {p lpos kpos pos p1 p2 p3 : Pos} {j : Nat}
    (hg : Gl X (Str.ofString "sorted")) (hm : X.mg (Str.ofString "sorted") = none) (TB : TabB X.base X.mg c P) (hcode : X.env.code = .ref c) (hmT : (P, X.env.qual ++ "<lambda>") ∈ T) (hu : ∀ p ∈ T, p.1 = P → p.2 = X.env.qual ++ "<lambda>")
    (hr : Room 1 X.A) (hk : scope.kind = .function) (hco : scope.isCoroutine = false) (hgen : scope.isGenerator = false) (hnames : scope.names = [(Str.ofString "pair", NameKind.local)]) (hdef : defaultsOf params X.env = ([], []))
    (hbind : ∀ (q : Str) (pm cv ctv v : Value), bindArgs (PySem.W.kla_fn "<lambda>" q params body scope [] pm cv ctv) ⟨[v], []⟩ = pure [(Str.ofString "pair", v)])
    (hb : body = .Subscript (.Name (Str.ofString "pair") p1) (.Constant (.int 0) j p2) p3) (he : PE X e te)
    (hs : starEach [e] X.env = (false, eval e X.env) :: starEach [] X.env := by rfl)
    (hs2 : backTo pos (starEach [e] X.env) = (false, eval e X.env) :: backTo pos (starEach [] X.env) := by rfl) (hs3 : (backTo pos (starEach [e] X.env)).any (·.1) = false := by rfl) :
    PE X (.Call (.Name (Str.ofString "sorted") p) [e] [⟨some (Str.ofString "key"), .Lambda params body scope lpos, kpos⟩] pos) (tSortLam T te) := by
  refine ⟨fun pins s σ H Q I h => ?_⟩
  refine wpAny_Call_Name_kw (ld_blt (u := .builtin "sorted") I hg hm rfl ?_)
  have ha := pa_cons (es := []) he pa_nil hs
  let Q1 : List V → Hp → Prop := fun vs H1 => match vs with
    | [v] => ∃ (a : Addr) (l : List (Int × Int)), v = .ref a ∧ Pairs H1 a l ∧ l.length ≤ 100000 ∧ Tabs T H1 ∧ ∀ p H2, ExtN H1 H2 → Tabs T H2 → Pairs H2 p (byFst l) → Q (.ref p) H2
    | _ => False
  refine PyProof.Rows.callWith_kw (thn (ha.run pos pins s σ H Q1 I h) fun us s1 ⟨vs, H1, I1, r1, q1⟩ => ?_) hs2 hs3
  have ncl : cloFrom X.env.cells scope.names [] = [] := by
    rw [hnames]
    rfl
  match vs, q1 with
  | [v], q1 =>
    obtain ⟨a, l, rfl, hP, hl, hT, q⟩ := q1
    cases r1 with
    | cons ra rn =>
      cases rn
      cases ra
      refine kwAll_cons (lam_make2 I1 TB hcode hmT hu hT hdef (fun y hy e => ?_) fun f c' pm ctv H2 s2 I2 eN T2 hf hfn hfr hcod => kwAll_nil ?_)
      · rw [hnames, List.mem_singleton] at hy
        subst hy
        cases e
      · rw [ncl] at hf
        show wpAny (model X.prog X.w) X.A (call (.builtin "sorted") [.ref a] [(Str.ofString "key", .ref f)]) (EP X pins σ Q) X.xe s2
        obtain ⟨xs, hx, hE⟩ := hP.exN eN
        obtain ⟨its, n, rv, ho, hz⟩ := I2.lst hx
        have hE2 := each_vals (R' := fun (u : Value) e => ∃ t, u = .ref t ∧ H2 t = some (.tup [.int e.1, .int e.2])) (fun x u e r z => by
          obtain ⟨t, rfl, z2⟩ := z
          exact ⟨t, r, z2⟩) rv hE
        have hZ : sizeLine = 16777216 := by decide
        obtain ⟨⟨oc, vv, tq, hoc, hdc, hvc⟩, _, _⟩ := I2.hok c' _ hcod
        refine PySem.W.sorted_key_data (b := false) (fun e : Int × Int => .int e.1) (l := a) (f := .ref f) ⟨_, ho, rfl, n, rfl⟩ hE2 (PySem.W.AllAlike.of fun _ _ => by simp [PySem.W.alike]) ?_ (by rw [hZ]; omega) (fun x _ => ?_) (ksk_s1 _ _) (fun _ => ksk_l1 _ _) (fun _ => ksk_t1 _ _)
          (fun v e hv _ h tk kp => ?_) fun out ep h' tk kp hn hD hlen eo => ?_
        · exact PySem.W.Sortable.others fun b => ⟨fun z => (by cases z), fun xs z => (by cases z)⟩
        · have hun := hr.un
          show X.A.units + 2 + 0 < cLine
          omega
        · obtain ⟨t, rfl, ht⟩ := hv
          obtain ⟨_, its2, r2, htu⟩ := I2.hok t _ ht
          obtain ⟨u1, u2, rfl, ⟨t1, ri⟩, rj⟩ := vals2 r2
          have hd1 := hr.dp
          exact lam_turn (s := { s2 with heap := h, toks := tk }) (its := [u1, u2]) (tk0 := t1) (show X.A.depth < recursionLimit by omega) (I2.nolimit.keeps kp) (kp _ _ hf) ⟨c', oc, vv, tq, rfl, kp _ _ hoc, hdc, hvc⟩ hk hco hgen (by rw [hnames]; simp) (by rw [hnames]; rfl) (hbind _ _ _ _ _) hb
            (htu.keeps kp) ⟨by show 0 < 2; decide, by show 2 < 100; decide⟩ (by rw [ri]; rfl)
        · rw [PySem.W.dataLe_int (fun e : Int × Int => e.1)] at eo
          have h3 := each_refs eo
          have np : H2 (s2.heap.objs.size + 1) = none := I2.hok.fresh (Nat.le_succ _)
          have e23 : Ex H2 (upd H2 (s2.heap.objs.size + 1) (.lst (out.map backV))) := Ex.new np
          have hlo : (out.map backV).length ≤ sizeLine := by
            rw [List.length_map, hlen, hZ]
            omega
          refine ⟨.ref (s2.heap.objs.size + 1), upd H2 (s2.heap.objs.size + 1) (.lst (out.map backV)), I2.laid (t' := tk) kp (Nat.le_succ _) ⟨hlo, out, ep, vals_back h3, hD⟩, rfl, q _ _ (eN.trans (ext_of e23)) (T2.ext e23) ⟨_, upd_same, ?_⟩⟩
          exact (each_back eo).mono fun x e z => z.ex (ext_of e23)
  | [], q1 => exact False.elim q1
  | _ :: _ :: _, q1 => exact False.elim q1
end

/-! ### words for pairs -/
theorem each_get {H : Hp} : ∀ {xs : List V} {l : List (Int × Int)}, PySem.W.EachIs (PairAt H) xs l → ∀ (i : Nat) x e, xs[i]? = some x → l[i]? = some e → PairAt H x e
  | _, _, .nil => fun i x e h _ => by simp at h
  | _, _, .cons a b => fun i x e h1 h2 => by
    cases i with
    | zero =>
      simp at h1 h2
      rw [← h1, ← h2]
      exact a
    | succ i =>
      simp at h1 h2
      exact each_get b i x e h1 h2
def EvP (te : TE) (σ : L2.St) (H : Hp) (l : List (Int × Int)) : Prop := ∀ H1, Ex H H1 → ∀ Q : VK, (∀ p H2, H1 p = none → Ex H1 H2 → Pairs H2 p l → Q (.ref p) H2) → te σ H1 Q
section
variable {K : PySem.W.Frag} {σ : L2.St} {H : Hp} {te tl : TE} {D : Ends} {tz : TS}
theorem lc_prs {wi : TI} {n : Nat} {Yx : Nat → V → Hp → Prop} {g : TG} {vs : List Nat} (hw : IterV wi σ H n Yx) (hn : n ≤ 40000) (r : Nat → Int × Int)
    (hs : ∀ (i : Nat) (x : V) (H2 : Hp), i < n → Ex H H2 → Yx i x H2 → Takes1 g x σ vs H2 fun σ2 => EvU te σ2 H2 [.int (r i).1, .int (r i).2]) :
    EvP (tLc wi g tYes te vs) σ H ((List.range n).map r) := fun H0 e Q q => hw H0 e _ fun J G Y H1 e1 w hG hY Dl hD =>
  lc_it w (fun i H' => H1 Dl = none ∧ Ex H1 H' ∧ ∃ xs : List V, H' Dl = some (.lst xs) ∧ xs.length = i ∧ PySem.W.EachIs (fun x (e : Int × Int) => ∃ t, x = .ref t ∧ t ≠ Dl ∧ H' t = some (.tup [.int e.1, .int e.2])) xs ((List.range i).map r))
    ⟨hD, Ex.new hD, [], upd_same, rfl, .nil⟩ (fun i H' hi p => hG H' p.2.1) (fun i x H' H2 hi p y => by
    obtain ⟨e2, yx⟩ := hY i x H' H2 hi p.2.1 y
    obtain ⟨p1, pe, xs, p3, p4, p5⟩ := p
    refine hs i x H2 hi ((e.trans e1).trans (pe.trans e2)) yx _ fun σ2 hw2 hh => ⟨hw2, ?_⟩
    show te σ2 H2 fun y H4 => ∃ acc, H4 Dl = some (.lst acc) ∧ acc.length < sizeLine ∧ _
    refine hh H2 (Ex.refl H2) _ fun c H4 hc e4 h4 => ?_
    have dD : Dl ≠ c := ne_of_none (e2 _ _ p3) hc
    refine ⟨xs, e4 _ _ (e2 _ _ p3), sz_lt (by omega), p1, Ex.mut ((pe.trans e2).trans e4) p1, xs ++ [.ref c], upd_same, by rw [List.length_append, p4]; rfl, ?_⟩
    rw [List.range_succ, List.map_append]
    refine PySem.W.each_snoc ⟨c, rfl, dD.symm, by rw [upd_ne dD.symm]; exact h4⟩ (p5.mono fun x e z => ?_)
    obtain ⟨t, z1, z2, z3⟩ := z
    exact ⟨t, z1, z2, by rw [upd_ne z2]; exact e4 _ _ (e2 _ _ z3)⟩)
    (fun H' p => by
      obtain ⟨p1, pe, xs, p3, p4, p5⟩ := p
      refine q Dl H' (fresh_back e1 p1) (e1.trans pe) ⟨xs, p3, p5.mono fun x e z => ?_⟩
      obtain ⟨t, z1, _, z3⟩ := z
      exact ⟨t, z1, z3⟩)
theorem q_asgP {i : Nat} {l : List (Int × Int)} (h : EvP te σ H l) (k : ∀ p H1, H p = none → Ex H H1 → Pairs H1 p l → tz D (σ.set i (some (.ref p))) H1) : tSeq (tAsg te (gName i)) tz D σ H := h H (Ex.refl H) _ k
/-- x = f(..), told by f's promise itself -/
theorem q_asgF {i : Nat} {sp : Sp} {E : XK} {ta : TA} {vs : List V} (h : EvA ta σ H vs) (k : ∀ H1, Ex H H1 → sp vs H1 (fun v H2 => tz D (σ.set i (some v)) H2) E) : tSeq (tAsg (tCall sp [] E ta) (gName i)) tz D σ H := h H (Ex.refl H) _ fun H1 e => by
  rw [List.append_nil]
  exact k H1 e
/-- x = f(v, g(..)), told by both promises -/
theorem q_asg2 {i : Nat} {sp sp2 : Sp} {E E2 : XK} {ta : TE} {ta2 : TA} {v1 : V} {vs2 : List V} (h1 : Ev ta σ H v1) (h2 : EvA ta2 σ H vs2) (k : ∀ H1, Ex H H1 → sp2 vs2 H1 (fun x H2 => sp [v1, x] H2 (fun v H3 => tz D (σ.set i (some v)) H3) E) E2) :
    tSeq (tAsg (tCall sp [] E (tCons ta (tCons (tCall sp2 [] E2 ta2) tNil))) (gName i)) tz D σ H := h1 H (Ex.refl H) _ fun H1 e1 => h2 H1 e1 _ fun H2 e2 => by
  rw [List.append_nil]
  exact k H2 (e1.trans e2)
/-- a walk over a list of pairs -/
theorem it_prs {p : Addr} {l : List (Int × Int)} (h : Ev tl σ H (.ref p)) (hP : Pairs H p l) : IterV (iList K tl) σ H l.length (fun i x H4 => ∀ e, l[i]? = some e → ∀ H0, Ex H H0 → PairAt H0 x e) := by
  obtain ⟨xs, h1, h2⟩ := hP
  have t := it_list (K := K) (σ := σ) (tl := tl) h (sq_of h1)
  rw [h2.length] at t
  intro H1 e R r
  refine t H1 e R fun J G Y H2 e2 w hG hY => r J G Y H2 e2 w hG fun i x H3 H4 hi e3 y => ?_
  obtain ⟨e4, hx⟩ := hY i x H3 H4 hi e3 y
  exact ⟨e4, fun e5 he H0 e0 => (each_get h2 i x e5 hx he).ex (ext_of e0)⟩
/-- pair[0], pair[1] -/
theorem rv_fst {x : V} {e : Int × Int} (h : PairAt H x e) : RV (rIxT K) x (.int 0) H (.int e.1) := by
  obtain ⟨t, rfl, ht⟩ := h
  exact rv_ixT (st_of ht) rfl
theorem rv_snd {x : V} {e : Int × Int} (h : PairAt H x e) : RV (rIxT K) x (.int 1) H (.int e.2) := by
  obtain ⟨t, rfl, ht⟩ := h
  exact rv_ixT (st_of ht) rfl
theorem ev_lenP {p : Addr} {l : List (Int × Int)} (ha : Ev te σ H (.ref p)) (h : Pairs H p l) : Ev (tCB (rLenS K) (tCons te tNil)) σ H (.int (l.length : Int)) := by
  obtain ⟨xs, h1, h2⟩ := h
  have z := ev_len (K := K) ha (sq_of h1)
  rw [h2.length] at z
  exact z
end
/-- a def whose code object is told -/
theorem Fun_okC {P : Program} {w : World} {K : PySem.W.Frag} {mg : Str → Option Value} {base : Heap} {x qual : Str} {st : Stmt} {f c : Addr} {fd : FuncData} {N ps : List Str} {k : Nat} {sp : Sp} (F : Fun K x qual st f fd) (hc : fd.code = .ref c) (S : FnScope N ps (defScope st))
    (len : ∀ vs H Q E, sp vs H Q E → vs.length = ps.length)
    (hbody : ∀ (A : Around) (outer : List Env) (s : Shared) (H : Hp) (vs : List V) (Q : VK) (E : XK), Room k (A.deeper (envOfC qual (defScope st) s.heap.objs.size f (.ref c))) → sp vs H Q E →
      ∃ t, PSs (cxOf CX0 P w K mg base N qual (defScope st) f (.ref c) A outer s H E).nox (defBody st) t ∧ t { nx := fun _ H' => Q .non H', rt := Q } (start N vs) H) : FnOk P w K mg base CX0 (k + 1) f fd ps sp := by
  obtain ⟨oc, od, kV, doc, pm, an, cdv, ct, osl, e, lk, hcd⟩ := F.ex
  subst e
  have e2 : cdv = .ref c := hc
  subst e2
  refine fn_of lk hcd S len fun A outer s H vs Q E hr hsp => ?_
  obtain ⟨t, h, q⟩ := hbody A outer s H vs Q E hr hsp
  exact ⟨t, PSs.nox h, q⟩
/-! ### the end of a row whose program makes one lambda -/
section
variable {K : PySem.W.Frag} {H H' : Hp}
mutual
theorem dw_up (e : Ex H H') {v : V} {d : PySem.W.WData} (x : Dw K H v d) : Dw K H' v d := match x with
  | .non => .non
  | .bl b => .bl b
  | .int i => .int i
  | .str s => .str s
  | .byt b => .byt b
  | .lst hs ha => .lst (ex_l e hs) (dwa_up e ha)
  | .tup hs ha => .tup (ex_t e hs) (dwa_up e ha)
theorem dwa_up (e : Ex H H') {vs : List V} {ds : List PySem.W.WData} (x : DwAll K H vs ds) : DwAll K H' vs ds := match x with
  | .nil => .nil
  | .cons a b => .cons (dw_up e a) (dwa_up e b)
end
end
open PySem.W (WData Codec OpenSpec WellAll ReadsW)
theorem tab_call {P : Program} {w : World} {K : PySem.W.Frag} {mg mb : Str → Option Value} {k : Nat} {fa c T : Addr} {fd : FuncData} {ps : List Str} {sp : Sp} {s₁ : Shared} {vals : List Value} {ds : List WData} {R : PySem.W.WRecords} {cl : Str → Option Addr} {d0 : WData}
    (KX : K.In s₁.heap) (tg : s₁.heap.Ns mainGlobals mg) (tb : s₁.heap.Ns builtinsNs mb) (tbb : ∀ x : Str, x ≠ "__name__" → mb x = bootBuiltins x) (tl : s₁.heap.NoLimit) (hg0 : s₁.gens = #[])
    (hT : s₁.heap.get? T = some { cls := .none, data := .fields #[] }) (nT : K.lookup T = none) (C : PySem.W.CodeHd s₁.heap c T)
    (tm : ∃ (bm : Addr) (ob : Obj), mg "__builtins__" = some (.ref bm) ∧ bm ≠ builtinsNs ∧ s₁.heap.get? bm = some ob ∧ ob.cls = .type "module" ∧ ob.dict = some builtinsNs ∧ ob.data = .plain)
    (hwl : WellAll w.params s₁.heap vals ds) (hpl : plWs ds = true) (hwt : ∀ d ∈ ds, d.weight ≤ 1048576) (hr : Room k callerA)
    (F : ∀ base : Heap, K.In base → base.Ns mainGlobals mg → TabB base mg c T → FnOk P w K mg base CX0 k fa fd ps sp) (hbind : ∀ (s : Shared) (us : List Value), us.length = ps.length → BindsTo s fd ⟨us, []⟩ (ps.zip us)) (hlen : ds.length = ps.length)
    (hsp : ∀ (H : Hp) (xs : List V), H T = some (.tbl #[]) → DwAll K H xs ds → sp xs H (fun v H' => Dw K H' v d0) fun _ _ _ => False) :
    codeAny (model P w) callerA (.call (.ref fa) ⟨vals, []⟩) (fun r s' => ∃ u as, r = .ok (.ret u) ∧ ReadsW R cl s'.heap u d0 as ∧ OldK s₁.heap s'.heap ∧ s'.os = s₁.os ∧ AllBare s'.gens) s₁ := by
  obtain ⟨A, hA, ar⟩ := area_all ds vals hwl hpl hwt
  have isA : ∀ b u, argH K s₁.heap A b = some u → K.lookup b = none ∧ ∃ (o : Obj) (v : HO) (xs : Array Value) (n : Nat), u = .frz o v ∧ s₁.heap.get? b = some o ∧ o.data = .seq xs n := fun b u q => by
    obtain ⟨h1, vs, _, _, ⟨e, z⟩ | ⟨e, z⟩⟩ := argH_is ar q
    · exact ⟨h1, _, _, _, _, z, e, rfl⟩
    · exact ⟨h1, _, _, _, _, z, e, rfl⟩
  have hT0 : argH K s₁.heap A T = none := by
    cases q : argH K s₁.heap A T with
    | none => rfl
    | some u =>
      obtain ⟨_, o, v, xs, n, _, e, hd⟩ := isA T u q
      rw [hT] at e
      cases e
      cases hd
  obtain ⟨H, hH⟩ : ∃ H : Hp, H = upd (argH K s₁.heap A) T (.tbl #[]) := ⟨_, rfl⟩
  have eX : Ex (argH K s₁.heap A) H := by
    rw [hH]
    exact Ex.new hT0
  have hTH : H T = some (.tbl #[]) := by
    rw [hH]
    exact upd_same
  have back : ∀ b u, b ≠ T → H b = some u → argH K s₁.heap A b = some u := fun b u hb q => by
    rw [hH, upd_ne hb] at q
    exact q
  have hok : HOk P w H s₁.heap := fun b u q => by
    by_cases hb : b = T
    · subst hb
      rw [hTH] at q
      cases q
      exact hT
    · exact (argH_ok ar b u (back b u hb q)).stay (fun _ _ _ z => z) (fun d z => eX _ _ z) fun d xs z => eX _ _ z
  have hS : DwAll K H (vals.map toV) ds := dwa_up eX (dw_all KX ar ds vals hwl hpl hA)
  have hV := vals_toV hA
  have off : ∀ {b : Addr} {o : Obj}, s₁.heap.get? b = some o → (∀ vs n, o.data ≠ .seq vs n) → b ≠ T → H b = none := fun {b o} e h1 hb => by
    cases q : H b with
    | none => rfl
    | some u =>
      obtain ⟨_, o2, v, xs, n, _, e2, hd⟩ := isA b u (back b u hb q)
      rw [e] at e2
      cases e2
      exact absurd hd (h1 xs n)
  have neT : ∀ {b : Addr} {o : Obj}, s₁.heap.get? b = some o → o.data ≠ .fields #[] → b ≠ T := fun {b o} e h1 z => by
    rw [z, hT] at e
    cases e
    exact h1 rfl
  have atB : ∀ {b : Addr} {o : Obj}, s₁.heap.get? b = some o → H b = none → (hidT s₁.heap H).get? b = some o := fun e n => hidT_get e n
  have nsB : ∀ {b : Addr} {m : Str → Option Value}, s₁.heap.Ns b m → (hidT s₁.heap H).Ns b m := fun {b m} ⟨o, es, ep, e, d, r⟩ =>
    ⟨o, es, ep, atB e (off e (fun vs n z => by rw [d] at z; cases z) (neT e fun z => by rw [d] at z; cases z)), d, r⟩
  have hKb : K.In (hidT s₁.heap H) := fun b o e => by
    refine atB (KX b o e) ?_
    cases q : H b with
    | none => rfl
    | some u =>
      by_cases hb : b = T
      · rw [hb, nT] at e
        cases e
      · rw [(isA b u (back b u hb q)).1] at e
        cases e
  obtain ⟨bm, ob, b1, b2, b3, b4, b5, b6⟩ := tm
  have gNe : bm ≠ mainGlobals := fun z => by
    obtain ⟨o, es, ep, e, hd, _⟩ := tg
    rw [z, e] at b3
    cases b3
    rw [hd] at b6
    cases b6
  have TB : TabB (hidT s₁.heap H) mg c T := by
    refine ⟨?_, ?_, fun z => ?_⟩
    · obtain ⟨o, us, f1, f2, f3, f4, f5, f6, f7, e1, r1, r2, r3, r⟩ := C
      refine ⟨o, us, f1, f2, f3, f4, f5, f6, f7, atB e1 (off e1 (fun vs n z => ?_) (neT e1 fun z => ?_)), r1, r2, r3, r⟩
      · rw [r2] at z
        cases z
      · rw [r2] at z
        cases z
        simp at r3
    · have nbT : bm ≠ T := neT b3 fun z => by
        rw [b6] at z
        cases z
      refine ⟨bm, ob, b1, b2, gNe, nbT, atB b3 (off b3 (fun vs n z => ?_) nbT), b4, b5, b6⟩
      rw [b6] at z
      cases z
    · obtain ⟨o, es, ep, e, hd, _⟩ := tg
      rw [z, hT] at e
      cases e
      cases hd
  have hM : L2.Mod K mg (hidT s₁.heap H) := ⟨hKb, nsB tg, ⟨mb, nsB tb, tbb⟩, by
    obtain ⟨mc, h1, h2⟩ := tl
    exact ⟨mc, nsB h1, h2⟩⟩
  have e0 : Env0 P w K mg (hidT s₁.heap H) callerA [] s₁ H := { frames := rfl, mod := hM, bs := fun b o e => of_hidT e, bsz := Nat.le_of_eq (hidT_size _ _), funs := trivial, frf := fun b hb => absurd (show b ∈ ([] : List Addr) from hb) (by simp), hok := hok, bare := .of_eq hg0 }
  have hl : vals.length = ps.length := (wellAll_len hwl).trans hlen
  have go := (F _ hKb (nsB tg) TB).run callerA [] s₁ H ⟨vals, []⟩ vals (vals.map toV) _ _ hr e0 (hbind s₁ vals hl) hV (hsp H _ hTH hS)
  refine codeAny_mono go fun r s' x => ?_
  cases r with
  | error e => exact False.elim x
  | ok fl =>
    cases fl with
    | next => exact False.elim x
    | brk => exact False.elim x
    | cont => exact False.elim x
    | ret u =>
      obtain ⟨v, H2, os, bare, un, hok2, rv, qd⟩ := x
      have kept : ∀ b o, b ≠ T → s₁.heap.get? b = some o → s'.heap.get? b = some o := fun b o hb e => by
        cases q2 : H b with
        | none => exact un.keep b o e q2 (fun z => absurd (show b ∈ ([] : List Addr) from z) (by simp)) (by simp)
        | some u2 =>
          obtain ⟨_, o3, v3, xs, n, z, e3, _⟩ := isA b u2 (back b u2 hb q2)
          rw [z] at q2
          rw [e] at e3
          cases e3
          exact (hok2 b _ (un.frzs b o v3 q2)).1
      obtain ⟨more, hmore⟩ := un.tbls T #[] hTH
      have hT2 : s'.heap.get? T = some { cls := .none, data := .fields more } := by
        have z := hok2 T _ hmore
        rw [Array.empty_append] at z
        exact z
      have KX2 : K.In s'.heap := fun b o e => by
        by_cases hb : b = T
        · rw [hb, nT] at e
          cases e
        · exact kept b o hb (KX b o e)
      obtain ⟨as, hrd⟩ := Dw.reads (R := R) (cl := cl) hok2 KX2 d0 v u qd rv
      refine ⟨u, as, rfl, hrd, ⟨fun b o e => ?_, fun b o e => ?_⟩, os, bare⟩
      · by_cases hb : b = T
        · subst hb
          rw [hT] at e
          cases e
          exact .inr (.inl ⟨(C.tab hT).isCodeTable, rfl, #[], more, rfl, by rw [Array.empty_append]; exact hT2⟩)
        · exact .inl (kept b o hb e)
      · by_cases hb : b = T
        · rw [hb]
          exact ⟨_, hT2⟩
        · exact ⟨o, kept b o hb e⟩
/-- the goal of a row's head, from the promise of its def; x: the def that makes the lambda -/
theorem walk_tab {r : OpenSpec} {k : Nat} {q : Program} {loose : List Str} {XP : (Str → Option Value) → Heap → Prop} {YP : World → Heap → Prop} {d : DefRec} {K : Params → PySem.W.Frag} {ps : List Str} {sp : PySem.W.Frag → Addr → Sp} {x : Str}
    (hwell : r.wellSaid = true) (hdf : d.params.defaults = []) (hlen : r.args.length = ps.length) (hr : Room k callerA) (hY : ∀ (w : World) (h : Heap), YP w h → (K w.params).In h)
    (hx : ((recsOf q).find? fun e => e.name == x).isSome = true)
    (F : ∀ (w : World) (mg : Str → Option Value) (fa : Addr) (h : Heap), YP w h → (K w.params).In h → h.Ns mainGlobals mg → mg d.name = some (.ref fa) →
      ∃ (c T : Addr) (fd : FuncData), PySem.W.tabIn (K w.params) x = some (c, T) ∧ (K w.params).lookup T = none ∧ (∀ (s : Shared) (us : List Value), us.length = ps.length → BindsTo s fd ⟨us, []⟩ (ps.zip us)) ∧
        ∀ base : Heap, (K w.params).In base → base.Ns mainGlobals mg → TabB base mg c T → FnOk r.prog w (K w.params) mg base CX0 k fa fd ps (sp (K w.params) T))
    (hsp : ∀ (K : PySem.W.Frag) (T : Addr) (H : Hp) (xs : List V) (a : Codec.denoteAll r.args), H T = some (.tbl #[]) → Codec.withinAll r.args a = true → Codec.app r.args r.asked a = true → DwAll K H xs (Codec.encAll r.args a) →
      sp K T xs H (fun v H' => Dw K H' v (r.ret.enc (Codec.app r.args r.f a))) fun _ _ _ => False) :
    PySem.W.WalkOS q loose XP YP r d [] (fun f vs => PySem.call f vs) := by
  intro w sA sB mg mb G Y fa ob pm cdv doc dV kV g1 g2 g3 g4 hmg g5 args vals as hpre hlay g6 hwl g7
  obtain ⟨av, ea, hask⟩ := PySem.W.os_pre_some hpre
  obtain ⟨ec, hwi⟩ := Codec.encAll_of_decAll r.args args av ea
  subst ec
  have KX := hY w _ Y
  obtain ⟨dx, hdx⟩ := Option.isSome_iff_exists.mp hx
  obtain ⟨c, T, fd, ht, nT, hb, hF⟩ := F w mg fa _ Y KX G.T.g hmg
  obtain ⟨hC, hT⟩ := PySem.W.tab_of G.T KX hdx ht
  have hl : (Codec.encAll r.args av).length = ps.length := (encAll_len _ _).trans hlen
  have go := tab_call (R := []) (cl := classAt sA.heap) (d0 := r.ret.enc (Codec.app r.args r.f av)) KX G.T.g G.T.b G.T.builtins G.T.nolimit g5 hT nT hC G.T.bmain hwl (pl_encAll _ _) (layable_weight hlay) hr hF hb hl
    fun H xs hO hS => hsp _ T H xs av hO hwi hask hS
  refine PySem.W.enter_call (codeAny_mono go fun res sC hq => ?_)
  obtain ⟨u, bs, rfl, z1, z2, z3, z4⟩ := hq
  refine ⟨.inl ⟨u, _, bs, rfl, fun _ => rfl, z1, ?_, fun z => ?_⟩, z2, z3, z4⟩
  · exact (OpenSpec.post_iff hwell hwi _ _).mpr rfl
  · exact Bool.noConfusion (show false = true from z)
end Lt

set_option Elab.async false
set_option linter.all false
set_option maxRecDepth 100000
set_option maxHeartbeats 4000000
/-! lists of lists that are filled, chosen, walked; slices; the least of a list and its place -/
namespace Lr
open PySem PySem.Spec PyProof.Rows L2 Evl Lb

/-! ### slices -/
theorem cut_from (xs : List V) (h : 1 ≤ 1) : cutV xs (some 1) none = xs.drop 1 := by
  have e1 : HT.sIx xs.length 0 (some (1 : Int)) = min 1 xs.length := HT.sIx_nat _ _ 1
  have e2 : HT.sIx xs.length xs.length none = xs.length := rfl
  unfold cutV
  rw [e1, e2]
  cases xs with
  | nil => rfl
  | cons x r =>
    have e3 : min 1 (x :: r).length = 1 := by
      rw [List.length_cons]
      omega
    rw [e3]
    exact List.take_of_length_le (by rw [List.length_drop]; omega)
theorem cut_to (xs : List V) : cutV xs none (some 1) = xs.take 1 := by
  have e1 : HT.sIx xs.length xs.length (some (1 : Int)) = min 1 xs.length := HT.sIx_nat _ _ 1
  have e2 : HT.sIx xs.length 0 none = 0 := rfl
  unfold cutV
  rw [e1, e2]
  cases xs with
  | nil => rfl
  | cons x r =>
    have e3 : min 1 (x :: r).length = 1 := by
      rw [List.length_cons]
      omega
    rw [e3]
    rfl

/-! ### the least number of a list, its place -/
section
variable {K : PySem.W.Frag} {σ : L2.St} {H : Hp} {ta te tl : TE}
theorem rc_min {a : Addr} {ns : List Int} {m : Int} (h : SqL K H a (ns.map V.int)) (hm : m ∈ ns) (hle : ∀ y ∈ ns, m ≤ y) : RC (rMin K) [.ref a] H (.int m) := fun H1 e _ q =>
  ⟨a, ns, rfl, ex_l e h, List.length_pos_of_mem hm, fun m2 h1 h2 => by
    have e2 : m2 = m := Int.le_antisymm (h2 m hm) (hle m2 h1)
    rw [e2]
    exact q H1 (Ex.refl H1)⟩
theorem dp_ints {H : Hp} : ∀ ns : List Int, DpAll K H (ns.map V.int) (ns.map PyData.int)
  | [] => .nil
  | n :: r => .cons (.int n) (dp_ints r)
/-- xs.index(e) -/
theorem ev_index {l : Addr} {ns : List Int} {m : Int} {j : Nat} (hl : H l = some (.lst (ns.map V.int))) (ha : Ev ta σ H (.ref l)) (h : Ev te σ H (.int m)) (hj : ns[j]? = some m) (hb : ∀ i z, i < j → ns[i]? = some z → z ≠ m) :
    Ev (tBM K "list" (rIndexD K) ta (tCons te tNil)) σ H (.int (j : Int)) := fun H1 e Q q =>
  ha H1 e _ fun H2 e2 => ⟨Or.inl ⟨rfl, _, sq_of (e2 _ _ (e _ _ hl))⟩, h H2 (e.trans e2) _ fun H3 e3 => by
    have hd : SeqAt.shaped (.int m) = true := by
      first
        | rfl
        | decide
        | simp [SeqAt.shaped, PyData.canLay0, PyData.depth]
    refine ⟨l, .int m, .int m, ns.map PyData.int, j, .int m, rfl, rfl, .lst (sq_of (e3 _ _ (e2 _ _ (e _ _ hl)))) (dp_ints ns), .int m, PySem.W.ke_shaped_ints ns, hd, ?_, ?_, fun i z hi hz => ?_, q H3 (e2.trans e3)⟩
    · rw [List.getElem?_map, hj]
      rfl
    · simp [PyData.eqv]
    · rw [List.getElem?_map] at hz
      cases hn : ns[i]? with
      | none =>
        rw [hn] at hz
        cases hz
      | some y =>
        rw [hn] at hz
        cases hz
        have := hb i y hi hn
        simp [PyData.eqv, this]⟩

/-! ### lists of lists of ints that may be filled -/
/-- at p a list of new lists, each apart from the others; H0: ahead of them -/
def Pots (H0 H : Hp) (p : Addr) (rows : List (List Int)) : Prop := ∃ as : List Addr, H p = some (.lst (as.map V.ref)) ∧ as.length = rows.length ∧ as.Nodup ∧ (∀ a ∈ as, a ≠ p ∧ H0 a = none) ∧ H0 p = none ∧
  ∀ (i : Nat) (a : Addr) (r : List Int), as[i]? = some a → rows[i]? = some r → H a = some (.lst (r.map V.int))
theorem Pots.rows {H0 H : Hp} {p : Addr} {rows : List (List Int)} (h : Pots H0 H p rows) : Rows H p (rows.map fun r => r.map V.int) := by
  obtain ⟨as, h1, h2, _, _, _, h6⟩ := h
  refine ⟨as, h1, by rw [List.length_map]; exact h2, fun i a r ha hr => ?_⟩
  rw [List.getElem?_map] at hr
  cases hz : rows[i]? with
  | none =>
    rw [hz] at hr
    cases hr
  | some z =>
    rw [hz] at hr
    cases hr
    exact h6 i a z ha hz
/-- the place of the j-th one, and what becomes of all when a number is put to it -/
theorem Pots.put {H0 H : Hp} {p : Addr} {rows : List (List Int)} {j : Nat} {r : List Int} (h : Pots H0 H p rows) (hj : rows[j]? = some r) : ∃ a : Addr, H a = some (.lst (r.map V.int)) ∧ H0 a = none ∧ (∃ xs : List V, H p = some (.lst xs) ∧ xs[j]? = some (.ref a)) ∧
    ∀ (H1 : Hp) (x : Int), Ex H H1 → Pots H0 (upd H1 a (.lst (r.map V.int ++ [.int x]))) p (rows.set j (r ++ [x])) := by
  obtain ⟨as, h1, h2, h3, h4, h5, h6⟩ := h
  have hjl : j < rows.length := (List.getElem?_eq_some_iff.mp hj).1
  have hja : j < as.length := by omega
  have ha : as[j]? = some as[j] := List.getElem?_eq_getElem hja
  have hm := h4 as[j] (List.getElem_mem hja)
  refine ⟨as[j], h6 j _ r ha hj, hm.2, ⟨_, h1, by rw [List.getElem?_map, ha]; rfl⟩, fun H1 x e => ⟨as, ?_, by rw [List.length_set]; exact h2, h3, h4, h5, fun i a r2 hi hr2 => ?_⟩⟩
  · rw [upd_ne hm.1.symm]
    exact e _ _ h1
  · by_cases hij : j = i
    · subst hij
      rw [ha] at hi
      cases hi
      rw [List.getElem?_set_self hjl] at hr2
      cases hr2
      rw [upd_same, List.map_append]
      rfl
    · rw [List.getElem?_set_ne hij] at hr2
      have hne : a ≠ as[j] := fun z => by
        subst z
        exact hij ((List.getElem?_inj hja h3).mp (ha.trans hi.symm))
      rw [upd_ne hne]
      exact e _ _ (h6 i a r2 hi hr2)
/-- [[] for ..] -/
theorem lc_pots {H : Hp} {wi : TI} {n : Nat} {Yx : Nat → V → Hp → Prop} {g : TG} {vs : List Nat} (hw : IterV wi σ H n Yx) (hn : n ≤ 40000)
    (hs : ∀ (i : Nat) (x : V) (H2 : Hp), i < n → Ex H H2 → Yx i x H2 → Takes1 g x σ vs H2 fun σ2 => EvL te σ2 H2 []) (Q : VK)
    (q : ∀ p H2, H p = none → Ex H H2 → Pots H H2 p (List.replicate n []) → Q (.ref p) H2) : tLc wi g tYes te vs σ H Q := hw H (Ex.refl H) _ fun J G Y H1 e1 w hG hY Dl hD =>
  lc_it w (fun i H' => H1 Dl = none ∧ Ex H1 H' ∧ ∃ as : List Addr, H' Dl = some (.lst (as.map V.ref)) ∧ as.length = i ∧ as.Nodup ∧ ∀ a ∈ as, a ≠ Dl ∧ H1 a = none ∧ H' a = some (.lst []))
    ⟨hD, Ex.new hD, [], upd_same, rfl, .nil, fun a h => by cases h⟩ (fun i H' hi p => hG H' p.2.1) (fun i x H' H2 hi p y => by
    obtain ⟨e2, yx⟩ := hY i x H' H2 hi p.2.1 y
    obtain ⟨p1, pe, as, p3, p4, p5, p6⟩ := p
    refine hs i x H2 hi (e1.trans (pe.trans e2)) yx _ fun σ2 hw2 hh => ⟨hw2, ?_⟩
    show te σ2 H2 fun y H4 => ∃ acc, H4 Dl = some (.lst acc) ∧ acc.length < sizeLine ∧ _
    refine hh H2 (Ex.refl H2) _ fun c H4 hc e4 h4 => ?_
    have dD : Dl ≠ c := ne_of_none (e2 _ _ p3) hc
    have hc1 : H1 c = none := fresh_back (pe.trans e2) hc
    have hcn : c ∉ as := fun z => by
      have h := e2 _ _ (p6 c z).2.2
      rw [hc] at h
      cases h
    refine ⟨as.map V.ref, e4 _ _ (e2 _ _ p3), sz_lt (by rw [List.length_map, p4]; omega), p1, Ex.mut ((pe.trans e2).trans e4) p1, as ++ [c], ?_, by rw [List.length_append, p4]; rfl, ?_, fun a ha => ?_⟩
    · rw [upd_same, List.map_append]
      rfl
    · rw [List.nodup_append]
      exact ⟨p5, by simp, fun a ha b hb => by
        rw [List.mem_singleton] at hb
        subst hb
        exact fun z => hcn (z ▸ ha)⟩
    · rcases List.mem_append.mp ha with z | z
      · obtain ⟨z1, z2, z3⟩ := p6 a z
        exact ⟨z1, z2, by rw [upd_ne z1]; exact e4 _ _ (e2 _ _ z3)⟩
      · rw [List.mem_singleton] at z
        subst z
        exact ⟨dD.symm, hc1, by rw [upd_ne dD.symm]; exact h4⟩)
    (fun H' p => by
      obtain ⟨p1, pe, as, p3, p4, p5, p6⟩ := p
      refine q Dl H' (fresh_back e1 p1) (e1.trans pe) ⟨as, p3, by rw [p4, List.length_replicate], p5, fun a ha => ⟨(p6 a ha).1, fresh_back e1 (p6 a ha).2.1⟩, fresh_back e1 p1, fun j a r ha hr => ?_⟩
      rw [List.getElem?_replicate] at hr
      split at hr
      · cases hr
        exact (p6 a (List.mem_of_getElem? ha)).2.2
      · cases hr)
theorem q_pots {H : Hp} {D : Ends} {tz : TS} {j : Nat} {wi : TI} {n : Nat} {Yx : Nat → V → Hp → Prop} {g : TG} {vs : List Nat} (hw : IterV wi σ H n Yx) (hn : n ≤ 40000)
    (hs : ∀ (i : Nat) (x : V) (H2 : Hp), i < n → Ex H H2 → Yx i x H2 → Takes1 g x σ vs H2 fun σ2 => EvL te σ2 H2 [])
    (q : ∀ p H2, H p = none → Ex H H2 → Pots H H2 p (List.replicate n []) → tz D (σ.set j (some (.ref p))) H2) : tSeq (tAsg (tLc wi g tYes te vs) (gName j)) tz D σ H := by
  show tLc wi g tYes te vs σ H fun v H1 => tz D (σ.set j (some v)) H1
  exact lc_pots hw hn hs _ q
/-- a walk over a new list of lists -/
theorem it_rowsN {rows : List (List Int)} (h : EvR tl σ H (rows.map fun r => r.map V.int)) :
    IterV (iList K tl) σ H rows.length (fun i x H4 => ∀ r, rows[i]? = some r → ∃ a, x = .ref a ∧ H4 a = some (.lst (r.map V.int))) := fun H1 e R q =>
  h H1 e _ fun p H2 hp e2 hR => by
    obtain ⟨as, h1, h2, h3⟩ := hR
    rw [List.length_map] at h2
    have w := walk_list (K := K) (a := p) (xs := as.map V.ref)
    rw [List.length_map, h2] at w
    refine ⟨p, rfl, ⟨_, sq_of h1⟩, q _ _ _ H2 e2 w (fun H3 e3 => sq_of (e3 _ _ h1)) fun i x H3 H4 hi e3 y => ⟨by rw [y.1]; exact Ex.refl _, fun r hr => ?_⟩⟩
    have hi2 : i < as.length := by omega
    have hx : some (V.ref as[i]) = some x := by
      have z : (as.map V.ref)[i]? = some x := y.2
      rw [List.getElem?_map, List.getElem?_eq_getElem hi2] at z
      exact z
    refine ⟨as[i], (Option.some.inj hx).symm, ?_⟩
    rw [y.1]
    exact e3 _ _ (h3 i _ _ (List.getElem?_eq_getElem hi2) (by rw [List.getElem?_map, hr]; rfl))
/-- some of the lists, by a test: the lists themselves are given -/
theorem lc_sel {wi : TI} {n : Nat} {Yx : Nat → V → Hp → Prop} {g : TG} {tt : TT} {vs : List Nat} (hw : IterV wi σ H n Yx) (hn : n ≤ 40000) (f : Nat → Bool) (r : Nat → List V) (hne : ∀ i, f i = true → r i ≠ [] ∧ ∀ y ∈ r i, ∀ b, y ≠ V.ref b)
    (hs : ∀ (i : Nat) (x : V) (H2 : Hp), i < n → Ex H H2 → Yx i x H2 → (∃ a, x = .ref a ∧ H2 a = some (.lst (r i))) ∧ Takes1 g x σ vs H2 fun σ2 => EvT tt σ2 H2 (f i) ∧ (f i = true → Ev te σ2 H2 x)) :
    EvR (tLc wi g tt te vs) σ H (((List.range n).filter f).map r) := fun H0 e Q q => hw H0 e _ fun J G Y H1 e1 w hG hY Dl hD =>
  lc_it w (fun i H' => H1 Dl = none ∧ Ex H1 H' ∧ ∃ as : List Addr, H' Dl = some (.lst (as.map V.ref)) ∧ as.length = (((List.range i).filter f).map r).length ∧ as.length ≤ i ∧ ∀ (j : Nat) a l, as[j]? = some a → (((List.range i).filter f).map r)[j]? = some l → H' a = some (.lst l) ∧ a ≠ Dl)
    ⟨hD, Ex.new hD, [], upd_same, rfl, Nat.le_refl _, fun j a l h => by simp at h⟩ (fun i H' hi p => hG H' p.2.1) (fun i x H' H2 hi p y => by
    obtain ⟨e2, yx⟩ := hY i x H' H2 hi p.2.1 y
    obtain ⟨p1, pe, as, p3, p4, p45, p5⟩ := p
    obtain ⟨⟨c, rfl, hc⟩, ht⟩ := hs i x H2 hi ((e.trans e1).trans (pe.trans e2)) yx
    have hDc : H2 Dl = some (.lst (as.map V.ref)) := e2 _ _ p3
    refine ht _ fun σ2 hw2 hh => ⟨hw2, ?_⟩
    refine hh.1 H2 (Ex.refl H2) _ fun H3 e3 => ?_
    have eR : (List.range (i + 1)).filter f = (List.range i).filter f ++ if f i = true then [i] else [] := by
      rw [List.range_succ, List.filter_append, List.filter_cons]
      rfl
    cases hf : f i with
    | true =>
      show te σ2 H3 fun y H4 => ∃ acc, H4 Dl = some (.lst acc) ∧ acc.length < sizeLine ∧ _
      refine hh.2 hf H3 e3 _ fun H4 e4 => ?_
      have hcc : H4 c = some (.lst (r i)) := e4 _ _ (e3 _ _ hc)
      have e24 : Ex H' H4 := (e2.trans e3).trans e4
      by_cases hcD : c = Dl
      · have z := e24 _ _ p3
        rw [hcD] at hcc
        rw [hcc] at z
        cases hz : r i with
        | nil => exact absurd hz (hne i hf).1
        | cons y l =>
          rw [hz] at z
          cases as with
          | nil =>
            have z2 := HO.lst.inj (Option.some.inj z)
            cases z2
          | cons b as =>
            have z2 := HO.lst.inj (Option.some.inj z)
            have z3 : y = V.ref b := (List.cons.inj z2).1
            exact absurd z3 ((hne i hf).2 y (by rw [hz]; exact List.mem_cons_self ..) b)
      · refine ⟨as.map V.ref, e24 _ _ p3, sz_lt (by rw [List.length_map]; omega), p1, Ex.mut (pe.trans e24) p1, as ++ [c], ?_, ?_, ?_, ?_⟩
        · rw [upd_same, List.map_append]
          rfl
        · rw [eR, if_pos hf, List.map_append, List.length_append, List.length_append, p4]
          rfl
        · rw [List.length_append]
          show _ + 1 ≤ _
          omega
        · intro j a l ha hl
          rw [eR, if_pos hf, List.map_append] at hl
          by_cases hj : j < as.length
          · rw [List.getElem?_append_left hj] at ha
            rw [List.getElem?_append_left (by omega)] at hl
            obtain ⟨z1, z2⟩ := p5 j a l ha hl
            exact ⟨by rw [upd_ne z2]; exact e24 _ _ z1, z2⟩
          · rw [List.getElem?_append_right (by omega)] at ha
            rw [List.getElem?_append_right (by omega), ← p4] at hl
            by_cases hj0 : j - as.length = 0
            · rw [hj0] at ha hl
              cases ha
              cases hl
              exact ⟨by rw [upd_ne hcD]; exact hcc, hcD⟩
            · rw [List.getElem?_eq_none (by simp; omega)] at ha
              cases ha
    | false =>
      refine ⟨p1, pe.trans (e2.trans e3), as, (e2.trans e3) _ _ p3, ?_, by omega, ?_⟩
      · rw [eR, if_neg (by rw [hf]; decide), List.append_nil]
        exact p4
      · intro j a l ha hl
        rw [eR, if_neg (by rw [hf]; decide), List.append_nil] at hl
        obtain ⟨z1, z2⟩ := p5 j a l ha hl
        exact ⟨(e2.trans e3) _ _ z1, z2⟩)
    (fun H' p => by
      obtain ⟨p1, pe, as, p3, p4, _, p5⟩ := p
      exact q Dl H' (fresh_back e1 p1) (e1.trans pe) ⟨as, p3, p4, fun j a l ha hl => (p5 j a l ha hl).1⟩)
end
end Lr

set_option linter.all false
/-! the mathematics: tables -/
namespace Lm
def sgn (n : Int) : Int := if 2147483648 ≤ n then n - 4294967296 else n
def uns (n : Int) : Int := if n < 0 then n + 4294967296 else n
def absI (i : Int) : Int := if i < 0 then -i else i
def sizeOk (k n : Int) : Bool := if k < 1 ∨ k > 32 then false else decide (1 ≤ n / k) && decide (n / k ≤ 64)
def magsOk (ns : List Int) : Bool := ns.all fun n => decide (absI (sgn n) < 100000)
def refusal (k : Int) (ns : List Int) : Int := if sizeOk k ns.length = false then -2 else if magsOk ns = false then -3 else 0
def rowsOf (k : Nat) (xs : List Int) : List (List Int) := (List.range (xs.length / k)).map fun i => (xs.drop (i * k)).take k
def column (s : Nat) (rows : List (List Int)) : List Int := rows.map fun r => r.getD s 0
def scatterI (xs : List Int) : Int := 256 * ((xs.length : Int) * (xs.map fun x => x * x).sum - xs.sum ^ 2) / ((xs.length : Int) * (xs.length : Int))
theorem sgn_nat {x : Int} (h0 : 0 ≤ x) : Sh70.signed32 x.toNat = sgn x := by
  unfold Sh70.signed32 sgn
  by_cases h : 2147483648 ≤ x
  · rw [if_neg (by omega), if_pos h]; omega
  · rw [if_pos (by omega), if_neg h]; omega
theorem signed_eq {ns : List Int} (h : ∀ x ∈ ns, 0 ≤ x ∧ x ≤ 4294967295) : Sh70.signedWords (Sh70Neutral.toNats ns) = ns.map sgn := by
  unfold Sh70.signedWords Sh70Neutral.toNats
  rw [List.map_map]
  exact List.map_congr_left fun x hx => sgn_nat (h x hx).1
theorem toNats_len (ns : List Int) : (Sh70Neutral.toNats ns).length = ns.length := by
  unfold Sh70Neutral.toNats
  rw [List.length_map]
theorem size_eq {k : Int} {n : Nat} (hk : 0 ≤ k) : Sh70.isTableSize k.toNat (n / k.toNat) = sizeOk k n := by
  obtain ⟨m, rfl⟩ := Int.eq_ofNat_of_zero_le hk
  rw [Int.toNat_natCast]
  unfold Sh70.isTableSize Sh70.isBetween sizeOk
  by_cases h : (m : Int) < 1 ∨ (m : Int) > 32
  · rw [if_pos h]
    have : ¬ (1 ≤ m ∧ m ≤ 32) := by omega
    rcases Nat.lt_or_ge m 1 with q | q
    · simp [show ¬ 1 ≤ m by omega]
    · simp [show ¬ m ≤ 32 by omega]
  · rw [if_neg h]
    have h1 : 1 ≤ m := by omega
    have h2 : m ≤ 32 := by omega
    have e : ((n : Int) / (m : Int)) = ((n / m : Nat) : Int) := by rw [Int.natCast_ediv]
    rw [e]
    simp only [h1, h2, decide_true, Bool.true_and]
    congr 1 <;> apply decide_eq_decide.mpr <;> omega
theorem mags_eq (xs : List Int) : Sh70.areValidMagnitudes (xs.map sgn) = magsOk xs := by
  unfold Sh70.areValidMagnitudes magsOk
  rw [List.all_map]
  congr 1
  funext x
  show decide ((sgn x).natAbs < 100000) = decide (absI (sgn x) < 100000)
  apply decide_eq_decide.mpr
  unfold absI
  split <;> omega
/-- in a table that is of the form: what is asked of its length -/
theorem asked_len {k : Int} {ns : List Int} (hs : sizeOk k ns.length = true) (hk : 0 ≤ k)
    (ha : (if (Sh70.isTableSize (k.toNat) (((Sh70Neutral.toNats ns).length / k.toNat))) = true then ns.length == (k.toNat * ((Sh70Neutral.toNats ns).length / k.toNat)) else ((ns.isEmpty) || (ns.length == (k.toNat * ((Sh70Neutral.toNats ns).length / k.toNat))))) = true) :
    ns.length = k.toNat * (ns.length / k.toNat) := by
  rw [toNats_len, size_eq hk, hs] at ha
  simpa using ha
/-- .. of extinctions, corrected_magnitudes, scatters: their requests are asked alike -/
theorem asked_table {k : Int} {ns : List Int} (hs : sizeOk k ns.length = true) (hk : 0 ≤ k) (ha : PySh70.scatters_asked k ns = true) : ns.length = k.toNat * (ns.length / k.toNat) := by
  have h1 : (Sh70Neutral.asked1 [[2, k], ns] && decide ((Sh70Neutral.f [[2, k], ns]).length < 1000000)) = true := ha
  rw [Bool.and_eq_true] at h1
  have h2 : (Sh70Neutral.fits k 32 && (Sh70Neutral.allFit ns 32 && (if (Sh70.isTableSize (k.toNat) (((Sh70Neutral.toNats ns).length / k.toNat))) = true then ns.length == (k.toNat * ((Sh70Neutral.toNats ns).length / k.toNat)) else ((ns.isEmpty) || (ns.length == (k.toNat * ((Sh70Neutral.toNats ns).length / k.toNat))))))) = true := h1.1
  rw [Bool.and_eq_true, Bool.and_eq_true] at h2
  exact asked_len hs hk h2.2.2
/-- .. of extinctions, corrected_magnitudes, scatters: their requests are asked alike -/
theorem asked_table1 {k : Int} {ns : List Int} (hs : sizeOk k ns.length = true) (hk : 0 ≤ k) (ha : PySh70.extinctions_asked k ns = true) : ns.length = k.toNat * (ns.length / k.toNat) := by
  have h1 : (Sh70Neutral.asked1 [[0, k], ns] && decide ((Sh70Neutral.f [[0, k], ns]).length < 1000000)) = true := ha
  rw [Bool.and_eq_true] at h1
  have h2 : (Sh70Neutral.fits k 32 && (Sh70Neutral.allFit ns 32 && (if (Sh70.isTableSize (k.toNat) (((Sh70Neutral.toNats ns).length / k.toNat))) = true then ns.length == (k.toNat * ((Sh70Neutral.toNats ns).length / k.toNat)) else ((ns.isEmpty) || (ns.length == (k.toNat * ((Sh70Neutral.toNats ns).length / k.toNat))))))) = true := h1.1
  rw [Bool.and_eq_true, Bool.and_eq_true] at h2
  exact asked_len hs hk h2.2.2
/-- .. of extinctions, corrected_magnitudes, scatters: their requests are asked alike -/
theorem asked_table2 {k : Int} {ns : List Int} (hs : sizeOk k ns.length = true) (hk : 0 ≤ k) (ha : PySh70.corrected_magnitudes_asked k ns = true) : ns.length = k.toNat * (ns.length / k.toNat) := by
  have h1 : (Sh70Neutral.asked1 [[1, k], ns] && decide ((Sh70Neutral.f [[1, k], ns]).length < 1000000)) = true := ha
  rw [Bool.and_eq_true] at h1
  have h2 : (Sh70Neutral.fits k 32 && (Sh70Neutral.allFit ns 32 && (if (Sh70.isTableSize (k.toNat) (((Sh70Neutral.toNats ns).length / k.toNat))) = true then ns.length == (k.toNat * ((Sh70Neutral.toNats ns).length / k.toNat)) else ((ns.isEmpty) || (ns.length == (k.toNat * ((Sh70Neutral.toNats ns).length / k.toNat))))))) = true := h1.1
  rw [Bool.and_eq_true, Bool.and_eq_true] at h2
  exact asked_len hs hk h2.2.2
theorem size_bounds {k : Int} {n : Nat} (hs : sizeOk k n = true) : 1 ≤ k ∧ k ≤ 32 ∧ 1 ≤ n / k.toNat ∧ n / k.toNat ≤ 64 := by
  unfold sizeOk at hs
  by_cases h : k < 1 ∨ k > 32
  · rw [if_pos h] at hs; cases hs
  · rw [if_neg h] at hs
    obtain ⟨m, rfl⟩ := Int.eq_ofNat_of_zero_le (show 0 ≤ k by omega)
    have e : ((n : Int) / (m : Int)) = ((n / m : Nat) : Int) := by rw [Int.natCast_ediv]
    rw [e, Bool.and_eq_true, decide_eq_true_iff, decide_eq_true_iff] at hs
    rw [Int.toNat_natCast]
    omega
theorem refusal_size {k : Int} {ns : List Int} (h : sizeOk k ns.length = false) : refusal k ns = -2 := if_pos h
theorem refusal_mags {k : Int} {ns : List Int} (h : sizeOk k ns.length = true) (h2 : magsOk ns = false) : refusal k ns = -3 := by
  unfold refusal
  rw [if_neg (by rw [h]; decide), if_pos h2]
theorem refusal_ok {k : Int} {ns : List Int} (h : sizeOk k ns.length = true) (h2 : magsOk ns = true) : refusal k ns = 0 := by
  unfold refusal
  rw [if_neg (by rw [h]; decide), if_neg (by rw [h2]; decide)]
theorem refusal_zero {k : Int} {ns : List Int} (h : refusal k ns = 0) : sizeOk k ns.length = true ∧ magsOk ns = true := by
  cases h1 : sizeOk k ns.length with
  | false => rw [refusal_size h1] at h; cases h
  | true =>
    cases h2 : magsOk ns with
    | false => rw [refusal_mags h1 h2] at h; cases h
    | true => exact ⟨rfl, rfl⟩
theorem refusal_cases (k : Int) (ns : List Int) : (sizeOk k ns.length = false ∧ refusal k ns = -2) ∨ (sizeOk k ns.length = true ∧ magsOk ns = false ∧ refusal k ns = -3) ∨ (sizeOk k ns.length = true ∧ magsOk ns = true ∧ refusal k ns = 0) := by
  cases h1 : sizeOk k ns.length with
  | false => exact .inl ⟨rfl, refusal_size h1⟩
  | true =>
    cases h2 : magsOk ns with
    | false => exact .inr (.inl ⟨rfl, rfl, refusal_mags h1 h2⟩)
    | true => exact .inr (.inr ⟨rfl, rfl, refusal_ok h1 h2⟩)
theorem rows_len (k : Nat) (xs : List Int) : (rowsOf k xs).length = xs.length / k := by
  unfold rowsOf
  rw [List.length_map, List.length_range]
theorem row_is (k : Nat) (xs : List Int) (i : Nat) : Sh70.imageRow k xs i = (xs.drop (i * k)).take k := rfl
theorem row_len {k : Nat} {xs : List Int} (hl : xs.length = k * (xs.length / k)) {r : List Int} (h : r ∈ rowsOf k xs) : r.length = k := by
  unfold rowsOf at h
  obtain ⟨i, hi, rfl⟩ := List.mem_map.mp h
  rw [List.mem_range] at hi
  rw [List.length_take, List.length_drop]
  have h1 : (i + 1) * k ≤ (xs.length / k) * k := Nat.mul_le_mul_right k hi
  rw [Nat.mul_comm (xs.length / k) k, ← hl, Nat.add_mul, Nat.one_mul] at h1
  omega
theorem row_at {k : Nat} {xs : List Int} {i s : Nat} (hs : s < k) : ((xs.drop (i * k)).take k).getD s 0 = Sh70.intAt xs (i * k + s) := by
  unfold Sh70.intAt
  rw [List.getD_eq_getElem?_getD, List.getD_eq_getElem?_getD, List.getElem?_take_of_lt hs, List.getElem?_drop]
theorem column_is {k : Nat} {xs : List Int} {s : Nat} (hs : s < k) : Sh70.starColumn k xs s = column s (rowsOf k xs) := by
  unfold Sh70.starColumn column rowsOf
  rw [List.map_map]
  exact List.map_congr_left fun i _ => (row_at hs).symm
theorem abs_small {x : Int} (h : decide (absI x < 100000) = true) : -100000 < x ∧ x < 100000 := by
  have h := of_decide_eq_true h
  unfold absI at h
  split at h <;> omega
theorem mags_small {ns : List Int} (h : magsOk ns = true) : ∀ x ∈ ns.map sgn, -100000 < x ∧ x < 100000 := by
  intro x hx
  obtain ⟨n, hn, rfl⟩ := List.mem_map.mp hx
  exact abs_small (List.all_eq_true.mp h n hn)
theorem row_mem {k : Nat} {xs r : List Int} (h : r ∈ rowsOf k xs) : ∀ x ∈ r, x ∈ xs := by
  unfold rowsOf at h
  obtain ⟨i, _, rfl⟩ := List.mem_map.mp h
  exact fun x hx => List.mem_of_mem_drop (List.mem_of_mem_take hx)
theorem column_small {ns : List Int} {k s : Nat} (h : magsOk ns = true) (hs : s < k) (hl : (ns.map sgn).length = k * ((ns.map sgn).length / k)) : ∀ x ∈ column s (rowsOf k (ns.map sgn)), -100000 < x ∧ x < 100000 := by
  intro x hx
  unfold column at hx
  obtain ⟨r, hr, rfl⟩ := List.mem_map.mp hx
  have e := row_len hl hr
  have hsr : s < r.length := by omega
  refine mags_small h _ (row_mem hr _ ?_)
  rw [List.getD_eq_getElem?_getD, List.getElem?_eq_getElem hsr]
  exact List.getElem_mem hsr
theorem column_len (s : Nat) (rows : List (List Int)) : (column s rows).length = rows.length := List.length_map ..
theorem sum_is (l : List Int) : Sh70.sum l = l.sum := rfl
/-! ### a scatter is not negative -/
theorem dev (y : Int) : ∀ xs : List Int, 0 ≤ (xs.length : Int) * y ^ 2 - 2 * y * xs.sum + (xs.map fun x => x * x).sum
  | [] => by simp
  | x :: r => by
    have ih := dev y r
    have sq : 0 ≤ (y - x) * (y - x) := by
      rcases Int.le_total 0 (y - x) with h | h
      · exact Int.mul_nonneg h h
      · have := Int.mul_nonneg (show 0 ≤ -(y - x) by omega) (show 0 ≤ -(y - x) by omega)
        rwa [Int.neg_mul_neg] at this
    rw [List.map_cons, List.sum_cons, List.sum_cons, List.length_cons]
    have e : ((r.length + 1 : Nat) : Int) * y ^ 2 - 2 * y * (x + r.sum) + (x * x + (r.map fun x => x * x).sum) = ((r.length : Int) * y ^ 2 - 2 * y * r.sum + (r.map fun x => x * x).sum) + (y - x) * (y - x) := by
      rw [Int.natCast_add, Int.pow_succ, Int.pow_succ, Int.pow_zero]
      grind
    rw [e]
    omega
theorem spread_nonneg : ∀ xs : List Int, 0 ≤ (xs.length : Int) * (xs.map fun x => x * x).sum - xs.sum ^ 2
  | [] => by simp
  | x :: r => by
    have ih := spread_nonneg r
    have d := dev x r
    rw [List.map_cons, List.sum_cons, List.sum_cons, List.length_cons]
    have e : ((r.length + 1 : Nat) : Int) * (x * x + (r.map fun x => x * x).sum) - (x + r.sum) ^ 2 = ((r.length : Int) * (r.map fun x => x * x).sum - r.sum ^ 2) + ((r.length : Int) * x ^ 2 - 2 * x * r.sum + (r.map fun x => x * x).sum) := by
      rw [Int.natCast_add]
      simp only [Int.pow_succ, Int.pow_zero]
      grind
    rw [e]
    omega
theorem scatter_nonneg (xs : List Int) : 0 ≤ scatterI xs := by
  unfold scatterI
  refine Int.ediv_nonneg ?_ ?_
  · have := spread_nonneg xs
    omega
  · exact Int.mul_nonneg (by omega) (by omega)
theorem scatter_is {xs : List Int} (h : 0 < xs.length) : ((Sh70.scatter xs : Nat) : Int) = scatterI xs := by
  have h0 := scatter_nonneg xs
  have e : Sh70.scatter xs = (scatterI xs).toNat := by
    unfold Sh70.scatter scatterI
    dsimp only
    rw [if_neg (by omega), sum_is, sum_is]
    simp only [Int.pow_succ, Int.pow_zero, Int.one_mul]
  rw [e]
  omega
/-- the answer to a table, told by what it is refused for -/
theorem two_case (l : List Int) : Sh70Neutral.toInts (l.map Int.toNat) = l.map fun x => (x.toNat : Int) := by
  unfold Sh70Neutral.toInts
  rw [List.map_map]
  rfl
theorem spec_scatters {k : Int} {ns : List Int} (hk : 0 ≤ k) (hn : ∀ x ∈ ns, 0 ≤ x ∧ x ≤ 4294967295) :
    PySh70.scatters k ns = if refusal k ns = 0 then 0 :: (List.range k.toNat).map (fun s => scatterI (column s (rowsOf k.toNat (ns.map sgn)))) else [refusal k ns] := by
  show Sh70Neutral.flatten (Sh70.answer (if (Sh70.isTableSize k.toNat ((Sh70Neutral.toNats ns).length / k.toNat)) = true then .scatters k.toNat (Sh70.signedWords (Sh70Neutral.toNats ns)) else .invalid)) = _
  rw [toNats_len, size_eq hk, signed_eq hn]
  rcases refusal_cases k ns with ⟨h1, h2⟩ | ⟨h1, h2, h3⟩ | ⟨h1, h2, h3⟩
  · rw [h1, h2]; rfl
  · rw [h1, h3, if_pos rfl]
    show Sh70Neutral.flatten (if Sh70.areValidMagnitudes (ns.map sgn) = false then Sh70.errorAnswer (-3) else _) = _
    rw [mags_eq, if_pos h2]; rfl
  · rw [h1, h3, if_pos rfl, if_pos rfl]
    show Sh70Neutral.flatten (if Sh70.areValidMagnitudes (ns.map sgn) = false then Sh70.errorAnswer (-3) else _) = _
    rw [mags_eq, if_neg (by rw [h2]; decide)]
    show 0 :: Sh70Neutral.toInts ((List.range k.toNat).map fun star => Sh70.scatter (Sh70.starColumn k.toNat (ns.map sgn) star)) = _
    unfold Sh70Neutral.toInts
    rw [List.map_map]
    congr 1
    refine List.map_congr_left fun s hs => ?_
    rw [List.mem_range] at hs
    show ((Sh70.scatter (Sh70.starColumn k.toNat (ns.map sgn) s) : Nat) : Int) = _
    rw [column_is hs]
    refine scatter_is ?_
    rw [column_len, rows_len, List.length_map]
    have := size_bounds h1
    omega
/-! ### medians, extinctions -/
theorem med_mem {xs : List Int} (h : 0 < xs.length) : Sh70.median xs ∈ xs := by
  unfold Sh70.median Sh70.intAt
  have hl : (xs.mergeSort fun a b => decide (a ≤ b)).length = xs.length := List.length_mergeSort xs
  have hi : (xs.length - 1) / 2 < (xs.mergeSort fun a b => decide (a ≤ b)).length := by
    rw [hl]
    omega
  rw [List.getD_eq_getElem?_getD, List.getElem?_eq_getElem hi]
  exact (List.mergeSort_perm xs _).mem_iff.mp (List.getElem_mem hi)
theorem word_uns {z : Int} (h : -4294967296 ≤ z ∧ z < 4294967296) : ((Sh70.word32 z : Nat) : Int) = uns z := by
  unfold Sh70.word32 uns
  split <;> omega
theorem ints_words {l : List Int} (h : ∀ z ∈ l, -4294967296 ≤ z ∧ z < 4294967296) : Sh70Neutral.toInts (l.map Sh70.word32) = l.map uns := by
  unfold Sh70Neutral.toInts
  rw [List.map_map]
  exact List.map_congr_left fun z hz => word_uns (h z hz)
def medians (k : Nat) (rows : List (List Int)) : List Int := (List.range k).map fun s => Sh70.median (column s rows)
def extOf (r ms : List Int) : Int := Sh70.median ((r.zip ms).map fun p => p.1 - p.2)
theorem medians_len (k : Nat) (rows : List (List Int)) : (medians k rows).length = k := by
  unfold medians
  rw [List.length_map, List.length_range]
theorem medians_is {k : Nat} {xs : List Int} : Sh70.starMedians k xs = medians k (rowsOf k xs) := by
  unfold Sh70.starMedians medians
  refine List.map_congr_left fun s hs => ?_
  rw [List.mem_range] at hs
  rw [column_is hs]
theorem exts_is {k : Nat} {xs : List Int} : Sh70.extinctions k xs = (rowsOf k xs).map fun r => extOf r (medians k (rowsOf k xs)) := by
  show ((List.range (xs.length / k)).map fun image => Sh70.median (((Sh70.imageRow k xs image).zip (Sh70.starMedians k xs)).map fun pair => pair.1 - pair.2)) = _
  rw [medians_is]
  conv => rhs; arg 2; unfold rowsOf
  rw [List.map_map]
  rfl
theorem medians_small {ns : List Int} {k : Nat} (h : magsOk ns = true) (hl : (ns.map sgn).length = k * ((ns.map sgn).length / k)) (h0 : 0 < (ns.map sgn).length / k) : ∀ z ∈ medians k (rowsOf k (ns.map sgn)), -100000 < z ∧ z < 100000 := by
  intro z hz
  unfold medians at hz
  obtain ⟨s, hs, rfl⟩ := List.mem_map.mp hz
  rw [List.mem_range] at hs
  refine column_small h hs hl _ (med_mem ?_)
  rw [column_len, rows_len]
  exact h0
theorem ext_small {ns r : List Int} {k : Nat} (h : magsOk ns = true) (hl : (ns.map sgn).length = k * ((ns.map sgn).length / k)) (h0 : 0 < (ns.map sgn).length / k) (hk : 0 < k) (hr : r ∈ rowsOf k (ns.map sgn)) :
    -200000 < extOf r (medians k (rowsOf k (ns.map sgn))) ∧ extOf r (medians k (rowsOf k (ns.map sgn))) < 200000 := by
  have hm := med_mem (xs := (r.zip (medians k (rowsOf k (ns.map sgn)))).map fun p => p.1 - p.2) (by
    rw [List.length_map, List.length_zip, medians_len, row_len hl hr]
    omega)
  have e : extOf r (medians k (rowsOf k (ns.map sgn))) = Sh70.median ((r.zip (medians k (rowsOf k (ns.map sgn)))).map fun p => p.1 - p.2) := rfl
  rw [e]
  obtain ⟨p, hp, hpe⟩ := List.mem_map.mp hm
  have h1 := mags_small h p.1 (row_mem hr _ (List.of_mem_zip hp).1)
  have h2 := medians_small h hl h0 p.2 (List.of_mem_zip hp).2
  rw [← hpe]
  omega
def ansExt (k : Nat) (ns : List Int) : List Int := 0 :: (k : Int) :: (medians k (rowsOf k (ns.map sgn))).map uns ++ [((rowsOf k (ns.map sgn)).length : Int)] ++ (rowsOf k (ns.map sgn)).map fun r => uns (extOf r (medians k (rowsOf k (ns.map sgn))))
theorem spec_extinctions {k : Int} {ns : List Int} (hk : 0 ≤ k) (hn : ∀ x ∈ ns, 0 ≤ x ∧ x ≤ 4294967295) (hd : sizeOk k ns.length = true → ns.length = k.toNat * (ns.length / k.toNat)) :
    PySh70.extinctions k ns = if refusal k ns = 0 then ansExt k.toNat ns else [refusal k ns] := by
  show Sh70Neutral.flatten (Sh70.answer (if (Sh70.isTableSize k.toNat ((Sh70Neutral.toNats ns).length / k.toNat)) = true then .extinctions k.toNat (Sh70.signedWords (Sh70Neutral.toNats ns)) else .invalid)) = _
  rw [toNats_len, size_eq hk, signed_eq hn]
  rcases refusal_cases k ns with ⟨h1, h2⟩ | ⟨h1, h2, h3⟩ | ⟨h1, h2, h3⟩
  · rw [h1, h2]; rfl
  · rw [h1, h3, if_pos rfl]
    show Sh70Neutral.flatten (if Sh70.areValidMagnitudes (ns.map sgn) = false then Sh70.errorAnswer (-3) else _) = _
    rw [mags_eq, if_pos h2]; rfl
  · rw [h1, h3, if_pos rfl, if_pos rfl]
    show Sh70Neutral.flatten (if Sh70.areValidMagnitudes (ns.map sgn) = false then Sh70.errorAnswer (-3) else _) = _
    rw [mags_eq, if_neg (by rw [h2]; decide)]
    have hb := size_bounds h1
    have hl : (ns.map sgn).length = k.toNat * ((ns.map sgn).length / k.toNat) := by
      rw [List.length_map]
      exact hd h1
    have h0 : 0 < (ns.map sgn).length / k.toNat := by
      rw [List.length_map]
      omega
    show 0 :: ((((Sh70.starMedians k.toNat (ns.map sgn)).map Sh70.word32).length : Int) :: Sh70Neutral.toInts ((Sh70.starMedians k.toNat (ns.map sgn)).map Sh70.word32) ++ ((((Sh70.extinctions k.toNat (ns.map sgn)).map Sh70.word32).length : Int) :: Sh70Neutral.toInts ((Sh70.extinctions k.toNat (ns.map sgn)).map Sh70.word32) ++ [])) = _
    rw [medians_is, exts_is, ints_words, ints_words, List.length_map, List.length_map, List.length_map, medians_len, List.map_map, List.append_nil]
    · unfold ansExt
      simp only [List.cons_append, List.append_assoc, List.nil_append, List.singleton_append]
      rfl
    · intro z hz
      obtain ⟨r, hr, rfl⟩ := List.mem_map.mp hz
      have := ext_small h2 hl h0 (by omega) hr
      omega
    · intro z hz
      have := medians_small h2 hl h0 z hz
      omega
/-! ### corrected magnitudes -/
theorem flatMap_same {α β : Type} {f g : α → List β} : ∀ {l : List α}, (∀ a ∈ l, f a = g a) → l.flatMap f = l.flatMap g
  | [], _ => rfl
  | a :: l, h => by
    rw [List.flatMap_cons, List.flatMap_cons, h a (List.mem_cons_self ..), flatMap_same fun b hb => h b (List.mem_cons_of_mem _ hb)]
theorem range_rows (m k : Nat) {α : Type} (f : Nat → α) : (List.range (m * k)).map f = (List.range m).flatMap fun i => (List.range k).map fun j => f (i * k + j) := by
  induction m with
  | zero => simp
  | succ m ih =>
    rw [Nat.add_mul, Nat.one_mul, List.range_add, List.map_append, ih, List.range_succ, List.flatMap_append, List.map_map]
    simp only [List.flatMap_cons, List.flatMap_nil, List.append_nil]
    rfl
theorem row_range {k i : Nat} {xs : List Int} (h : (i + 1) * k ≤ xs.length) : (xs.drop (i * k)).take k = (List.range k).map fun j => Sh70.intAt xs (i * k + j) := by
  rw [Nat.add_mul, Nat.one_mul] at h
  apply List.ext_getElem?
  intro j
  by_cases hj : j < k
  · rw [List.getElem?_take_of_lt hj, List.getElem?_drop, List.getElem?_map, List.getElem?_range hj]
    unfold Sh70.intAt
    have h2 : i * k + j < xs.length := by omega
    rw [List.getElem?_eq_getElem h2]
    show some _ = some (xs.getD (i * k + j) 0)
    rw [List.getD_eq_getElem?_getD, List.getElem?_eq_getElem h2]
    rfl
  · rw [List.getElem?_eq_none (by simp; omega), List.getElem?_eq_none (by simp; omega)]
def corrOf (k : Nat) (xs : List Int) : List Int := (rowsOf k xs).flatMap fun r => r.map fun x => x - extOf r (medians k (rowsOf k xs))
theorem corr_is {k : Nat} {xs : List Int} (hk : 0 < k) (hl : xs.length = k * (xs.length / k)) : Sh70.corrected k xs = corrOf k xs := by
  show ((List.range xs.length).map fun i => Sh70.intAt xs i - Sh70.intAt (Sh70.extinctions k xs) (i / k)) = _
  rw [exts_is]
  have e : xs.length = (xs.length / k) * k := by rw [Nat.mul_comm]; exact hl
  conv => lhs; arg 2; rw [e]
  rw [range_rows]
  unfold corrOf
  conv => rhs; arg 2; unfold rowsOf
  rw [List.flatMap_map]
  refine flatMap_same fun i hi => ?_
  rw [List.mem_range] at hi
  have h3 : (i + 1) * k ≤ (xs.length / k) * k := Nat.mul_le_mul_right k hi
  rw [← e] at h3
  have er : (xs.drop (i * k)).take k = (List.range k).map fun j => Sh70.intAt xs (i * k + j) := row_range h3
  conv => rhs; arg 2; rw [er]
  rw [List.map_map]
  refine List.map_congr_left fun j hj => ?_
  rw [List.mem_range] at hj
  have ed : (i * k + j) / k = i := by
    rw [Nat.mul_comm, Nat.mul_add_div hk, Nat.div_eq_of_lt hj, Nat.add_zero]
  show _ - Sh70.intAt _ ((i * k + j) / k) = _ - _
  rw [ed]
  congr 1
  unfold Sh70.intAt
  rw [List.getD_eq_getElem?_getD, List.getElem?_map]
  have hr : (rowsOf k xs)[i]? = some ((xs.drop (i * k)).take k) := by
    unfold rowsOf
    rw [List.getElem?_map, List.getElem?_range hi]
    rfl
  rw [hr]
  rfl
theorem spec_corrected {k : Int} {ns : List Int} (hk : 0 ≤ k) (hn : ∀ x ∈ ns, 0 ≤ x ∧ x ≤ 4294967295) (hd : sizeOk k ns.length = true → ns.length = k.toNat * (ns.length / k.toNat)) :
    PySh70.corrected_magnitudes k ns = if refusal k ns = 0 then 0 :: (corrOf k.toNat (ns.map sgn)).map uns else [refusal k ns] := by
  show Sh70Neutral.flatten (Sh70.answer (if (Sh70.isTableSize k.toNat ((Sh70Neutral.toNats ns).length / k.toNat)) = true then .corrected k.toNat (Sh70.signedWords (Sh70Neutral.toNats ns)) else .invalid)) = _
  rw [toNats_len, size_eq hk, signed_eq hn]
  rcases refusal_cases k ns with ⟨h1, h2⟩ | ⟨h1, h2, h3⟩ | ⟨h1, h2, h3⟩
  · rw [h1, h2]; rfl
  · rw [h1, h3, if_pos rfl]
    show Sh70Neutral.flatten (if Sh70.areValidMagnitudes (ns.map sgn) = false then Sh70.errorAnswer (-3) else _) = _
    rw [mags_eq, if_pos h2]; rfl
  · rw [h1, h3, if_pos rfl, if_pos rfl]
    show Sh70Neutral.flatten (if Sh70.areValidMagnitudes (ns.map sgn) = false then Sh70.errorAnswer (-3) else _) = _
    rw [mags_eq, if_neg (by rw [h2]; decide)]
    have hb := size_bounds h1
    have hl : (ns.map sgn).length = k.toNat * ((ns.map sgn).length / k.toNat) := by
      rw [List.length_map]
      exact hd h1
    have h0 : 0 < (ns.map sgn).length / k.toNat := by
      rw [List.length_map]
      omega
    show 0 :: Sh70Neutral.toInts ((Sh70.corrected k.toNat (ns.map sgn)).map Sh70.word32) = _
    rw [corr_is (by omega) hl, ints_words]
    intro z hz
    unfold corrOf at hz
    obtain ⟨r, hr, hz⟩ := List.mem_flatMap.mp hz
    obtain ⟨x, hx, rfl⟩ := List.mem_map.mp hz
    have h4 := ext_small h2 hl h0 (by omega) hr
    have h5 := mags_small h2 x (row_mem hr x hx)
    omega
/-! ### differential magnitudes -/
def wOk (ws : List Int) : Bool := ws.all fun w => decide (w ≤ 65535)
def others (s : Nat) (ws : List Int) : List Int := ws.set s 0
def wsum (s : Nat) (ws r : List Int) : Int := (((others s ws).zip r).map fun p => p.1 * p.2).sum
def rdiv (a b : Int) : Int := (2 * a + b) / (2 * b)
def dmag (s : Nat) (ws r : List Int) : Int := if (others s ws).sum = 0 then 0 else r.getD s 0 - rdiv (wsum s ws r) (others s ws).sum
theorem filt_all : ∀ (l : List Nat) (n m : Nat), m < n → ((l.zipIdx n).filter fun e => e.2 != m) = l.zipIdx n
  | [], _, _, _ => rfl
  | a :: l, n, m, h => by
    rw [List.zipIdx_cons, List.filter_cons, if_pos (by simp; omega), filt_all l (n + 1) m (by omega)]
theorem filt_set (f : Nat × Nat → Int) (h0 : ∀ i, f (0, i) = 0) : ∀ (l : List Nat) (n s : Nat), (((l.zipIdx n).filter fun e => e.2 != n + s).map f).sum = (((l.set s 0).zipIdx n).map f).sum
  | [], _, _ => rfl
  | a :: l, n, 0 => by
    rw [List.zipIdx_cons, List.filter_cons, if_neg (by simp), Nat.add_zero, filt_all l (n + 1) n (by omega), List.set_cons_zero, List.zipIdx_cons, List.map_cons, List.sum_cons, h0, Int.zero_add]
  | a :: l, n, s + 1 => by
    have ih := filt_set f h0 l (n + 1) s
    rw [show n + 1 + s = n + (s + 1) by omega] at ih
    rw [List.zipIdx_cons, List.filter_cons, if_pos (by simp), List.set_cons_succ, List.zipIdx_cons, List.map_cons, List.map_cons, List.sum_cons, List.sum_cons, ih]
theorem idx_fst : ∀ (l : List Nat) (n : Nat), ((l.zipIdx n).map fun e => (e.1 : Int)).sum = (l.map fun x : Nat => (x : Int)).sum
  | [], _ => rfl
  | a :: l, n => by
    rw [List.zipIdx_cons, List.map_cons, List.map_cons, List.sum_cons, List.sum_cons, idx_fst l (n + 1)]
theorem idx_zip : ∀ (l : List Nat) (n : Nat) (r : List Int), n + l.length ≤ r.length → ((l.zipIdx n).map fun e => (e.1 : Int) * Sh70.intAt r e.2).sum = (((l.map fun x : Nat => (x : Int)).zip (r.drop n)).map fun p => p.1 * p.2).sum
  | [], _, _, _ => rfl
  | a :: l, n, r, h => by
    rw [List.length_cons] at h
    have hn : n < r.length := by omega
    rw [List.zipIdx_cons, List.map_cons, List.map_cons, List.sum_cons, idx_zip l (n + 1) r (by omega), List.drop_eq_getElem_cons hn, List.zip_cons_cons, List.map_cons, List.sum_cons]
    congr 2
    unfold Sh70.intAt
    rw [List.getD_eq_getElem?_getD, List.getElem?_eq_getElem hn]
    rfl
theorem nat_sum : ∀ l : List Nat, ((l.sum : Nat) : Int) = (l.map fun x : Nat => (x : Int)).sum
  | [] => rfl
  | a :: l => by
    rw [List.sum_cons, List.map_cons, List.sum_cons, Int.natCast_add, nat_sum l]
theorem back_nats {ws : List Int} (h : ∀ x ∈ ws, 0 ≤ x) : (Sh70Neutral.toNats ws).map (fun x : Nat => (x : Int)) = ws := by
  unfold Sh70Neutral.toNats
  rw [List.map_map]
  conv => rhs; rw [← List.map_id ws]
  refine List.map_congr_left fun x hx => ?_
  have := h x hx
  show ((x.toNat : Nat) : Int) = x
  omega
theorem back_set {ws : List Int} (h : ∀ x ∈ ws, 0 ≤ x) (s : Nat) : ((Sh70Neutral.toNats ws).set s 0).map (fun x : Nat => (x : Int)) = others s ws := by
  rw [List.map_set, back_nats h]
  rfl
theorem differential_is {ws r : List Int} (h : ∀ x ∈ ws, 0 ≤ x) (hl : ws.length = r.length) (s : Nat) : Sh70.differential (Sh70Neutral.toNats ws) s r = dmag s ws r := by
  have e1 : (((((Sh70Neutral.toNats ws).zipIdx.filter fun entry => entry.2 != s).map fun entry => entry.1).sum : Nat) : Int) = (others s ws).sum := by
    rw [nat_sum, List.map_map]
    have h1 := filt_set (fun e => (e.1 : Int)) (fun _ => rfl) (Sh70Neutral.toNats ws) 0 s
    rw [Nat.zero_add, idx_fst, back_set h] at h1
    exact h1
  have e2 : (((Sh70Neutral.toNats ws).zipIdx.filter fun entry => entry.2 != s).map fun entry => (entry.1 : Int) * Sh70.intAt r entry.2).sum = wsum s ws r := by
    have h1 := filt_set (fun e => (e.1 : Int) * Sh70.intAt r e.2) (fun i => by show ((0 : Nat) : Int) * _ = 0; rw [Int.natCast_zero, Int.zero_mul]) (Sh70Neutral.toNats ws) 0 s
    rw [Nat.zero_add, idx_zip _ 0 r (by rw [List.length_set, toNats_len]; omega), back_set h, List.drop_zero] at h1
    exact h1
  unfold Sh70.differential dmag
  dsimp only
  rw [sum_is, e2]
  by_cases z : (others s ws).sum = 0
  · rw [if_pos z, if_pos (by omega)]
  · rw [if_neg z, if_neg (by omega)]
    unfold Sh70.roundDiv rdiv Sh70.intAt
    rw [e1]
theorem w_eq {ws : List Int} (h : ∀ x ∈ ws, 0 ≤ x) : ((Sh70Neutral.toNats ws).all fun weight => decide (weight < 65536)) = wOk ws := by
  unfold Sh70Neutral.toNats wOk
  rw [List.all_map, Bool.eq_iff_iff, List.all_eq_true, List.all_eq_true]
  constructor
  · intro g x hx
    have h1 := g x hx
    have h2 := h x hx
    have h1 : x.toNat < 65536 := of_decide_eq_true h1
    exact decide_eq_true (by omega)
  · intro g x hx
    have h1 := of_decide_eq_true (g x hx)
    have h2 := h x hx
    exact decide_eq_true (by show x.toNat < 65536; omega)
theorem sum_bounds {b : Int} : ∀ {l : List Int}, (∀ x ∈ l, 0 ≤ x ∧ x ≤ b) → 0 ≤ l.sum ∧ l.sum ≤ (l.length : Int) * b
  | [], _ => by simp
  | x :: r, h => by
    have ih := sum_bounds fun y hy => h y (List.mem_cons_of_mem _ hy)
    have hx := h x (List.mem_cons_self ..)
    rw [List.sum_cons, List.length_cons, Int.natCast_add, Int.add_mul]
    omega
theorem others_in {s : Nat} {ws : List Int} (h : ∀ x ∈ ws, 0 ≤ x) (hw : wOk ws = true) : ∀ x ∈ others s ws, 0 ≤ x ∧ x ≤ 65535 := by
  intro x hx
  rcases List.mem_or_eq_of_mem_set hx with z | z
  · exact ⟨h x z, of_decide_eq_true (List.all_eq_true.mp hw x z)⟩
  · omega
theorem prod_bounds : ∀ {l r : List Int}, (∀ x ∈ l, 0 ≤ x) → (∀ y ∈ r, -100000 < y ∧ y < 100000) → -(100000 * l.sum) ≤ ((l.zip r).map fun p => p.1 * p.2).sum ∧ ((l.zip r).map fun p => p.1 * p.2).sum ≤ 100000 * l.sum
  | [], _, _, _ => by simp
  | x :: l, [], h, _ => by
    have : 0 ≤ (x :: l).sum := by
      have g : ∀ (l : List Int), (∀ x ∈ l, 0 ≤ x) → 0 ≤ l.sum := by
        intro l
        induction l with
        | nil => intro _; simp
        | cons a l ih => intro h; rw [List.sum_cons]; have := h a (List.mem_cons_self ..); have := ih fun y hy => h y (List.mem_cons_of_mem _ hy); omega
      exact g _ h
    rw [List.zip_nil_right, List.map_nil, List.sum_nil]
    omega
  | x :: l, y :: r, h, g => by
    have ih := prod_bounds (l := l) (r := r) (fun z hz => h z (List.mem_cons_of_mem _ hz)) (fun z hz => g z (List.mem_cons_of_mem _ hz))
    have hx := h x (List.mem_cons_self ..)
    have hy := g y (List.mem_cons_self ..)
    have h1 : x * y ≤ x * 100000 := Int.mul_le_mul_of_nonneg_left (by omega) hx
    have h2 : x * (-100000) ≤ x * y := Int.mul_le_mul_of_nonneg_left (by omega) hx
    rw [List.zip_cons_cons, List.map_cons, List.sum_cons, List.sum_cons]
    show _ ≤ x * y + _ ∧ x * y + _ ≤ _
    omega
theorem rdiv_bounds {a b : Int} (hb : 0 < b) (h1 : -(100000 * b) ≤ a) (h2 : a ≤ 100000 * b) : -100001 ≤ rdiv a b ∧ rdiv a b ≤ 100001 := by
  unfold rdiv
  constructor
  · refine (Int.le_ediv_iff_mul_le (by omega)).mpr ?_
    omega
  · refine Int.ediv_le_of_le_mul (by omega) ?_
    omega
theorem dmag_small {s : Nat} {ws r : List Int} (h : ∀ x ∈ ws, 0 ≤ x) (hw : wOk ws = true) (hr : ∀ y ∈ r, -100000 < y ∧ y < 100000) (hs : s < r.length) : -300000 ≤ dmag s ws r ∧ dmag s ws r ≤ 300000 := by
  unfold dmag
  by_cases z : (others s ws).sum = 0
  · rw [if_pos z]; omega
  · rw [if_neg z]
    have h1 := sum_bounds (others_in (s := s) h hw)
    have h2 := prod_bounds (l := others s ws) (r := r) (fun x hx => (others_in h hw x hx).1) hr
    have h3 := rdiv_bounds (a := wsum s ws r) (b := (others s ws).sum) (by omega) h2.1 h2.2
    have h4 := hr (r.getD s 0) (by
      rw [List.getD_eq_getElem?_getD, List.getElem?_eq_getElem hs]
      exact List.getElem_mem hs)
    omega
def ref4 (k star : Int) (ws ns : List Int) : Int := if wOk ws = false then -2 else if refusal k ns = 0 then (if k ≤ star then -4 else 0) else refusal k ns
theorem asked4 {k star : Int} {ws ns : List Int} (hs : sizeOk k ns.length = true) (hk : 0 ≤ k) (ha : PySh70.differential_magnitudes_asked k star ws ns = true) : ws.length = k.toNat ∧ ns.length = k.toNat * (ns.length / k.toNat) := by
  have h1 : (Sh70Neutral.asked1 [[3, k, star], ws, ns] && decide ((Sh70Neutral.f [[3, k, star], ws, ns]).length < 1000000)) = true := ha
  rw [Bool.and_eq_true] at h1
  have h2 : (Sh70Neutral.fits k 32 && (Sh70Neutral.fits star 32 && (Sh70Neutral.allFit ws 32 && (Sh70Neutral.allFit ns 32 && (if (Sh70.isTableSize (k.toNat) (((Sh70Neutral.toNats ns).length / k.toNat))) = true then ws.length == (k.toNat) && ns.length == (k.toNat * ((Sh70Neutral.toNats ns).length / k.toNat)) else ((ws.isEmpty && ns.isEmpty) || (ws.length == (k.toNat) && ns.length == (k.toNat * ((Sh70Neutral.toNats ns).length / k.toNat))))))))) = true := h1.1
  rw [Bool.and_eq_true, Bool.and_eq_true, Bool.and_eq_true, Bool.and_eq_true] at h2
  have h3 := h2.2.2.2.2
  rw [toNats_len, size_eq hk, hs] at h3
  simpa using h3
theorem spec_differential {k star : Int} {ws ns : List Int} (hk : 0 ≤ k) (hst : 0 ≤ star) (hw : ∀ x ∈ ws, 0 ≤ x ∧ x ≤ 4294967295) (hn : ∀ x ∈ ns, 0 ≤ x ∧ x ≤ 4294967295) (hd : sizeOk k ns.length = true → ws.length = k.toNat ∧ ns.length = k.toNat * (ns.length / k.toNat)) :
    PySh70.differential_magnitudes k star ws ns = if ref4 k star ws ns = 0 then 0 :: (rowsOf k.toNat (ns.map sgn)).map (fun r => uns (dmag star.toNat ws r)) else [ref4 k star ws ns] := by
  show Sh70Neutral.flatten (Sh70.answer (if (Sh70.isTableSize k.toNat ((Sh70Neutral.toNats ns).length / k.toNat)) = true then .differential star.toNat k.toNat (Sh70Neutral.toNats ws) (Sh70.signedWords (Sh70Neutral.toNats ns)) else .invalid)) = _
  rw [toNats_len, size_eq hk, signed_eq hn]
  have hw0 : ∀ x ∈ ws, 0 ≤ x := fun x hx => (hw x hx).1
  unfold ref4
  rcases refusal_cases k ns with ⟨h1, h2⟩ | ⟨h1, h2, h3⟩ | ⟨h1, h2, h3⟩
  · rw [h1, h2]
    cases wOk ws <;> rfl
  · rw [h1, h3, if_pos rfl]
    show Sh70Neutral.flatten (if ((Sh70Neutral.toNats ws).all fun weight => decide (weight < 65536)) = false then Sh70.errorAnswer (-2) else if Sh70.areValidMagnitudes (ns.map sgn) = false then Sh70.errorAnswer (-3) else _) = _
    rw [w_eq hw0, mags_eq, if_pos h2]
    cases wOk ws <;> rfl
  · rw [h1, h3, if_pos rfl]
    show Sh70Neutral.flatten (if ((Sh70Neutral.toNats ws).all fun weight => decide (weight < 65536)) = false then Sh70.errorAnswer (-2) else if Sh70.areValidMagnitudes (ns.map sgn) = false then Sh70.errorAnswer (-3) else if k.toNat ≤ star.toNat then Sh70.errorAnswer (-4) else _) = _
    rw [w_eq hw0, mags_eq, if_neg (show ¬ magsOk ns = false by rw [h2]; decide)]
    cases e : wOk ws with
    | false => rfl
    | true =>
      rw [if_neg (by decide), if_pos rfl]
      by_cases hs : k ≤ star
      · rw [if_pos (by omega), if_pos hs, if_neg (by decide)]
        rfl
      · rw [if_neg (by omega), if_neg hs, if_neg (show ¬ (true = false) by decide), if_pos rfl]
        obtain ⟨hd1, hd2⟩ := hd h1
        have hl : (ns.map sgn).length = k.toNat * ((ns.map sgn).length / k.toNat) := by
          rw [List.length_map]
          exact hd2
        show 0 :: Sh70Neutral.toInts ((List.range ((ns.map sgn).length / k.toNat)).map fun image => Sh70.word32 (Sh70.differential (Sh70Neutral.toNats ws) star.toNat (Sh70.imageRow k.toNat (ns.map sgn) image))) = _
        unfold Sh70Neutral.toInts
        conv => rhs; arg 2; arg 2; unfold rowsOf
        rw [List.map_map, List.map_map]
        congr 1
        refine List.map_congr_left fun i hi => ?_
        rw [List.mem_range] at hi
        have hr : (((ns.map sgn).drop (i * k.toNat)).take k.toNat) ∈ rowsOf k.toNat (ns.map sgn) := by
          unfold rowsOf
          exact List.mem_map.mpr ⟨i, List.mem_range.mpr hi, rfl⟩
        have hrl := row_len hl hr
        show ((Sh70.word32 (Sh70.differential (Sh70Neutral.toNats ws) star.toNat (((ns.map sgn).drop (i * k.toNat)).take k.toNat)) : Nat) : Int) = uns (dmag star.toNat ws (((ns.map sgn).drop (i * k.toNat)).take k.toNat))
        rw [differential_is hw0 (by omega)]
        have hb := dmag_small (s := star.toNat) hw0 e (fun y hy => mags_small h2 y (row_mem hr y hy)) (by omega)
        exact word_uns (by omega)
def spread (xs : List Int) : Int := (xs.length : Int) * (xs.map fun x => x * x).sum - xs.sum ^ 2
end Lm

set_option Elab.async false
set_option linter.all false
set_option maxRecDepth 100000
namespace Lm
/-! ### variable stars -/
def facOk (f : Int) : Bool := decide (f ≤ 65535)
def scList (k : Nat) (rows : List (List Int)) : List Int := (List.range k).map fun s => scatterI (column s rows)
def limOf (f m : Int) : Int := f * (if m > 1 then m else 1)
def varOf (f : Int) (k : Nat) (rows : List (List Int)) : List Nat := (List.range k).filter fun s => decide ((scList k rows).getD s 0 > limOf f (Sh70.median (scList k rows)))
def ansVar (k f : Int) (ns : List Int) : List Int :=
  if facOk f = false then [-2] else if refusal k ns = 0 then ((varOf f k.toNat (rowsOf k.toNat (ns.map sgn))).length : Int) :: (varOf f k.toNat (rowsOf k.toNat (ns.map sgn))).map (fun s : Nat => (s : Int)) else [refusal k ns]
theorem scList_len (k : Nat) (rows : List (List Int)) : (scList k rows).length = k := by
  unfold scList
  rw [List.length_map, List.length_range]
theorem max_if (m : Int) : max 1 m = if m > 1 then m else 1 := by
  split <;> omega
theorem fac_eq {f : Int} (h : 0 ≤ f) : decide (f.toNat ≤ 65535) = facOk f := by
  unfold facOk
  exact decide_eq_decide.mpr (by omega)
theorem asked_var {k f : Int} {ns : List Int} (hf : facOk f = true) (h0 : 0 ≤ f) (hs : sizeOk k ns.length = true) (hk : 0 ≤ k) (ha : PySh70.variable_stars_asked k f ns = true) : ns.length = k.toNat * (ns.length / k.toNat) := by
  have h1 : (Sh70Neutral.asked1 [[4, k, f], ns] && decide ((Sh70Neutral.f [[4, k, f], ns]).length < 1000000)) = true := ha
  rw [Bool.and_eq_true] at h1
  have h2 : (Sh70Neutral.fits k 32 && (Sh70Neutral.fits f 32 && (Sh70Neutral.allFit ns 32 && (if (Sh70.isTableSize (k.toNat) (((Sh70Neutral.toNats ns).length / k.toNat)) && decide (f.toNat ≤ 65535)) = true then ns.length == (k.toNat * ((Sh70Neutral.toNats ns).length / k.toNat)) else ((ns.isEmpty) || (ns.length == (k.toNat * ((Sh70Neutral.toNats ns).length / k.toNat)))))))) = true := h1.1
  rw [Bool.and_eq_true, Bool.and_eq_true, Bool.and_eq_true] at h2
  have h3 := h2.2.2.2
  rw [toNats_len, size_eq hk, hs, fac_eq h0, hf] at h3
  simpa using h3
theorem spec_variable {k f : Int} {ns : List Int} (hk : 0 ≤ k) (hf : 0 ≤ f) (hn : ∀ x ∈ ns, 0 ≤ x ∧ x ≤ 4294967295) (hd : facOk f = true → sizeOk k ns.length = true → ns.length = k.toNat * (ns.length / k.toNat)) :
    PySh70.variable_stars k f ns = ansVar k f ns := by
  show Sh70Neutral.flatten (Sh70.answer (if (Sh70.isTableSize k.toNat ((Sh70Neutral.toNats ns).length / k.toNat) && decide (f.toNat ≤ 65535)) = true then .variableStars f.toNat k.toNat (Sh70.signedWords (Sh70Neutral.toNats ns)) else .invalid)) = _
  rw [toNats_len, size_eq hk, signed_eq hn, fac_eq hf]
  unfold ansVar
  cases e : facOk f with
  | false =>
    rw [Bool.and_false, if_neg (by decide), if_pos rfl]
    rfl
  | true =>
    rw [Bool.and_true, if_neg (show ¬ (true = false) by decide)]
    rcases refusal_cases k ns with ⟨h1, h2⟩ | ⟨h1, h2, h3⟩ | ⟨h1, h2, h3⟩
    · rw [h1, h2]; rfl
    · rw [h1, h3, if_pos rfl]
      show Sh70Neutral.flatten (if Sh70.areValidMagnitudes (ns.map sgn) = false then Sh70.errorAnswer (-3) else _) = _
      rw [mags_eq, if_pos h2]; rfl
    · rw [h1, h3, if_pos rfl, if_pos rfl]
      show Sh70Neutral.flatten (if Sh70.areValidMagnitudes (ns.map sgn) = false then Sh70.errorAnswer (-3) else _) = _
      rw [mags_eq, if_neg (by rw [h2]; decide)]
      have hsz := size_bounds h1
      have hsc : ((List.range k.toNat).map fun star => ((Sh70.scatter (Sh70.starColumn k.toNat (ns.map sgn) star) : Nat) : Int)) = scList k.toNat (rowsOf k.toNat (ns.map sgn)) := by
        unfold scList
        refine List.map_congr_left fun s hs => ?_
        rw [List.mem_range] at hs
        rw [column_is hs]
        refine scatter_is ?_
        rw [column_len, rows_len, List.length_map]
        omega
      have hv : Sh70.variableStars f.toNat k.toNat (ns.map sgn) = varOf f k.toNat (rowsOf k.toNat (ns.map sgn)) := by
        show ((List.range k.toNat).filter fun star => decide ((f.toNat : Int) * max 1 (Sh70.median ((List.range k.toNat).map fun star => ((Sh70.scatter (Sh70.starColumn k.toNat (ns.map sgn) star) : Nat) : Int))) < Sh70.intAt ((List.range k.toNat).map fun star => ((Sh70.scatter (Sh70.starColumn k.toNat (ns.map sgn) star) : Nat) : Int)) star)) = _
        rw [hsc]
        unfold varOf limOf
        rw [max_if, Int.toNat_of_nonneg hf]
        rfl
      show ((Sh70.variableStars f.toNat k.toNat (ns.map sgn)).length : Int) :: Sh70Neutral.toInts (Sh70.variableStars f.toNat k.toNat (ns.map sgn)) = _
      rw [hv]
      rfl
/-! ### series -/
def perOk (p : Int) : Bool := decide (1 ≤ p) && decide (p ≤ 16777216)
def serRef (n : Nat) (ns : List Int) : Int := if (n : Int) > 1024 then -2 else if magsOk ns = false then -3 else 0
def phaseI (p t : Int) : Int := 65536 * (t % p) / p
def prs (p : Int) (ts ns : List Int) : List (Int × Int) := (ts.zip ns).map fun e => (phaseI p e.1, sgn e.2)
def byPh (l : List (Int × Int)) : List (Int × Int) := l.mergeSort fun a b => decide (a.1 ≤ b.1)
def serOf (p : Int) (ts ns : List Int) : List (Int × Int) := byPh (prs p ts ns)
def upP (e : Nat × Int) : Int × Int := ((e.1 : Int), e.2)
theorem phase_nat {p t : Int} (hp : 0 ≤ p) (ht : 0 ≤ t) : ((Sh70.phase p.toNat t.toNat : Nat) : Int) = phaseI p t := by
  unfold Sh70.phase phaseI
  rw [Int.natCast_ediv, Int.natCast_mul, Int.natCast_emod, Int.toNat_of_nonneg hp, Int.toNat_of_nonneg ht]
  rfl
theorem phase_in {p t : Int} (hp : 0 < p) : 0 ≤ phaseI p t ∧ phaseI p t < 65536 := by
  have h1 := Int.emod_nonneg t (by omega : p ≠ 0)
  have h2 := Int.emod_lt_of_pos t hp
  unfold phaseI
  exact ⟨Int.ediv_nonneg (by omega) (by omega), Int.ediv_lt_of_lt_mul hp (by omega)⟩
theorem prs_nat {p : Int} {ts ns : List Int} (hp : 0 ≤ p) (ht : ∀ t ∈ ts, 0 ≤ t) :
    (((Sh70Neutral.toNats ts).zip (ns.map sgn)).map fun entry => (Sh70.phase p.toNat entry.1, entry.2)).map upP = prs p ts ns := by
  unfold Sh70Neutral.toNats prs
  rw [List.zip_map, List.map_map, List.map_map]
  refine List.map_congr_left fun e he => ?_
  have h := ht e.1 (List.of_mem_zip he).1
  show (((Sh70.phase p.toNat e.1.toNat : Nat) : Int), sgn e.2) = _
  rw [phase_nat hp h]
theorem fold_is {p : Int} {ts ns : List Int} (hp : 0 ≤ p) (ht : ∀ t ∈ ts, 0 ≤ t) : (Sh70.fold p.toNat (Sh70Neutral.toNats ts) (ns.map sgn)).map upP = serOf p ts ns := by
  unfold Sh70.fold serOf byPh
  rw [← prs_nat hp ht]
  refine List.map_mergeSort fun a _ b _ => ?_
  exact decide_eq_decide.mpr (by show a.1 ≤ b.1 ↔ (a.1 : Int) ≤ (b.1 : Int); omega)
theorem prs_len (p : Int) (ts ns : List Int) : (prs p ts ns).length = min ts.length ns.length := by
  unfold prs
  rw [List.length_map, List.length_zip]
theorem ser_len (p : Int) (ts ns : List Int) : (serOf p ts ns).length = min ts.length ns.length := by
  unfold serOf byPh
  rw [List.length_mergeSort, prs_len]
theorem ser_mem {p : Int} {ts ns : List Int} {e : Int × Int} (h : e ∈ serOf p ts ns) : e ∈ prs p ts ns := (List.mergeSort_perm _ _).mem_iff.mp h
theorem ser_in {p : Int} {ts ns : List Int} (hp : 0 < p) (hm : magsOk ns = true) {e : Int × Int} (h : e ∈ serOf p ts ns) : 0 ≤ e.1 ∧ e.1 < 65536 ∧ -100000 < e.2 ∧ e.2 < 100000 := by
  obtain ⟨x, hx, rfl⟩ := List.mem_map.mp (ser_mem h)
  have h1 := phase_in (t := x.1) hp
  have h2 := mags_small hm (sgn x.2) (List.mem_map.mpr ⟨x.2, (List.of_mem_zip hx).2, rfl⟩)
  exact ⟨h1.1, h1.2, h2.1, h2.2⟩
theorem per_eq {p : Int} (h : 0 ≤ p) : Sh70.isPeriod p.toNat = perOk p := by
  unfold Sh70.isPeriod Sh70.isBetween perOk
  have e1 : decide (1 ≤ p.toNat) = decide (1 ≤ p) := decide_eq_decide.mpr (by omega)
  have e2 : decide (p.toNat ≤ 16777216) = decide (p ≤ 16777216) := decide_eq_decide.mpr (by omega)
  rw [e1, e2]
theorem most_eq (n : Nat) : Sh70.isAtMost1024 n = !decide ((n : Int) > 1024) := by
  unfold Sh70.isAtMost1024
  rw [← decide_not]
  exact decide_eq_decide.mpr (by omega)
def ansFold (p : Int) (ts ns : List Int) : List Int :=
  if perOk p = false then [-2] else if serRef ts.length ns = 0 then 0 :: ((serOf p ts ns).length : Int) :: (serOf p ts ns).map Prod.fst ++ [((serOf p ts ns).length : Int)] ++ (serOf p ts ns).map (fun e => uns e.2) else [serRef ts.length ns]
theorem serRef_long {n : Nat} {ns : List Int} (h : decide ((n : Int) > 1024) = true) : serRef n ns = -2 := if_pos (of_decide_eq_true h)
theorem serRef_mags {n : Nat} {ns : List Int} (h : decide ((n : Int) > 1024) = false) (h2 : magsOk ns = false) : serRef n ns = -3 := by
  unfold serRef
  rw [if_neg (of_decide_eq_false h), if_pos h2]
theorem serRef_ok {n : Nat} {ns : List Int} (h : decide ((n : Int) > 1024) = false) (h2 : magsOk ns = true) : serRef n ns = 0 := by
  unfold serRef
  rw [if_neg (of_decide_eq_false h), if_neg (by rw [h2]; decide)]
theorem serRef_zero {n : Nat} {ns : List Int} (h : serRef n ns = 0) : n ≤ 1024 ∧ magsOk ns = true := by
  unfold serRef at h
  split at h
  · exact absurd h (by decide)
  · split at h
    · exact absurd h (by decide)
    · rename_i h1 h2
      exact ⟨by omega, by simpa using h2⟩
theorem serRef_cases (n : Nat) (ns : List Int) : (decide ((n : Int) > 1024) = true ∧ serRef n ns = -2) ∨ (decide ((n : Int) > 1024) = false ∧ magsOk ns = false ∧ serRef n ns = -3) ∨ (decide ((n : Int) > 1024) = false ∧ magsOk ns = true ∧ serRef n ns = 0) := by
  cases h1 : decide ((n : Int) > 1024) with
  | true => exact .inl ⟨rfl, serRef_long h1⟩
  | false => cases h2 : magsOk ns with
    | false => exact .inr (.inl ⟨rfl, rfl, serRef_mags h1 h2⟩)
    | true => exact .inr (.inr ⟨rfl, rfl, serRef_ok h1 h2⟩)
theorem up_fst (F : List (Nat × Int)) : Sh70Neutral.toInts (F.map fun e => e.1) = (F.map upP).map Prod.fst := by
  unfold Sh70Neutral.toInts
  rw [List.map_map, List.map_map]
  rfl
theorem spec_fold {p : Int} {ts ns : List Int} (hp : 0 ≤ p) (ht : ∀ x ∈ ts, 0 ≤ x ∧ x ≤ 4294967295) (hn : ∀ x ∈ ns, 0 ≤ x ∧ x ≤ 4294967295) : PySh70.fold p ts ns = ansFold p ts ns := by
  show Sh70Neutral.flatten (Sh70.answer (if (Sh70.isAtMost1024 ((Sh70Neutral.toNats ts).length) && Sh70.isPeriod p.toNat) = true then .fold p.toNat (Sh70Neutral.toNats ts) (Sh70.signedWords (Sh70Neutral.toNats ns)) else .invalid)) = _
  rw [toNats_len, signed_eq hn, per_eq hp, most_eq]
  unfold ansFold
  have ht0 : ∀ t ∈ ts, 0 ≤ t := fun t h => (ht t h).1
  cases e : perOk p with
  | false =>
    rw [Bool.and_false, if_neg (by decide), if_pos rfl]
    rfl
  | true =>
    rw [Bool.and_true, if_neg (show ¬ (true = false) by decide)]
    have hp1 : 0 < p := by
      unfold perOk at e
      rw [Bool.and_eq_true, decide_eq_true_iff] at e
      omega
    rcases serRef_cases ts.length ns with ⟨h1, h2⟩ | ⟨h1, h2, h3⟩ | ⟨h1, h2, h3⟩
    · rw [h1, h2]; rfl
    · rw [h1, h3, if_pos (show (!false) = true from rfl)]
      show Sh70Neutral.flatten (if Sh70.areValidMagnitudes (ns.map sgn) = false then Sh70.errorAnswer (-3) else _) = _
      rw [mags_eq, if_pos h2]; rfl
    · rw [h1, h3, if_pos (show (!false) = true from rfl), if_pos rfl]
      show Sh70Neutral.flatten (if Sh70.areValidMagnitudes (ns.map sgn) = false then Sh70.errorAnswer (-3) else _) = _
      rw [mags_eq, if_neg (by rw [h2]; decide)]
      have hF := fold_is (ns := ns) hp ht0
      have hw : Sh70Neutral.toInts ((Sh70.fold p.toNat (Sh70Neutral.toNats ts) (ns.map sgn)).map fun e => Sh70.word32 e.2) = (serOf p ts ns).map fun e => uns e.2 := by
        rw [← hF]
        unfold Sh70Neutral.toInts
        rw [List.map_map, List.map_map]
        refine List.map_congr_left fun x hx => ?_
        show ((Sh70.word32 x.2 : Nat) : Int) = uns x.2
        have hm : upP x ∈ serOf p ts ns := by
          rw [← hF]
          exact List.mem_map.mpr ⟨x, hx, rfl⟩
        have hb := ser_in hp1 h2 hm
        have hb3 : -100000 < x.2 := hb.2.2.1
        have hb4 : x.2 < 100000 := hb.2.2.2
        exact word_uns (by omega)
      have hl : ((Sh70.fold p.toNat (Sh70Neutral.toNats ts) (ns.map sgn))).length = (serOf p ts ns).length := by
        rw [← hF, List.length_map]
      show 0 :: ((((Sh70.fold p.toNat (Sh70Neutral.toNats ts) (ns.map sgn)).map fun e => e.1).length : Int) :: Sh70Neutral.toInts ((Sh70.fold p.toNat (Sh70Neutral.toNats ts) (ns.map sgn)).map fun e => e.1) ++
        ((((Sh70.fold p.toNat (Sh70Neutral.toNats ts) (ns.map sgn)).map fun e => Sh70.word32 e.2).length : Int) :: Sh70Neutral.toInts ((Sh70.fold p.toNat (Sh70Neutral.toNats ts) (ns.map sgn)).map fun e => Sh70.word32 e.2) ++ [])) = _
      rw [hw, up_fst, hF, List.length_map, List.length_map, hl]
      simp
end Lm

set_option Elab.async false
set_option linter.all false
set_option maxRecDepth 100000
namespace Lm
/-! ### string length -/
def magsOf (S : List (Int × Int)) : List Int := S.map Prod.snd
def folOf (m : List Int) : List Int := m.drop 1 ++ m.take 1
def slenI (S : List (Int × Int)) : Int := (((magsOf S).zip (folOf (magsOf S))).map fun p => absI (p.2 - p.1)).sum
theorem abs_nat (a b : Int) : ((Sh70.absDiff a b : Nat) : Int) = absI (b - a) := by
  unfold Sh70.absDiff absI
  split <;> omega
theorem slen_is : ∀ F : List (Nat × Int), ((Sh70.stringLength F : Nat) : Int) = slenI (F.map upP)
  | [] => rfl
  | f :: r => by
    show (((((f :: r).zip (r ++ [f])).map fun pair => Sh70.absDiff pair.1.2 pair.2.2).sum : Nat) : Int) = _
    have e1 : magsOf ((f :: r).map upP) = (f :: r).map fun e => e.2 := by
      unfold magsOf
      rw [List.map_map]
      rfl
    have e2 : folOf ((f :: r).map fun e => e.2) = (r ++ [f]).map fun e => e.2 := by
      unfold folOf
      rw [List.map_append]
      rfl
    unfold slenI
    rw [e1, e2, nat_sum, List.map_map, List.zip_map, List.map_map]
    congr 1
    refine List.map_congr_left fun p _ => ?_
    exact abs_nat p.1.2 p.2.2
theorem abs_nonneg (i : Int) : 0 ≤ absI i := by
  unfold absI
  split <;> omega
theorem sum_nonneg : ∀ {l : List Int}, (∀ x ∈ l, 0 ≤ x) → 0 ≤ l.sum
  | [], _ => by simp
  | x :: r, h => by
    have := sum_nonneg fun y hy => h y (List.mem_cons_of_mem _ hy)
    have := h x (List.mem_cons_self ..)
    rw [List.sum_cons]
    omega
/-! ### bins -/
def binOk (b : Int) : Bool := decide (1 ≤ b) && decide (b ≤ 64)
def binI (b : Nat) (e : Int × Int) : Int := e.1 * (b : Int) / 65536
def rowOf (b : Nat) (S : List (Int × Int)) (k : Nat) : List Int := (S.filter fun e => decide (binI b e = (k : Int))).map Prod.snd
def binsOf (b : Nat) (S : List (Int × Int)) : List (List Int) := (List.range b).map (rowOf b S)
theorem bins_len (b : Nat) (S : List (Int × Int)) : (binsOf b S).length = b := by
  unfold binsOf
  rw [List.length_map, List.length_range]
theorem bins_at {b k : Nat} {S : List (Int × Int)} (h : k < b) : (binsOf b S)[k]? = some (rowOf b S k) := by
  unfold binsOf
  rw [List.getElem?_map, List.getElem?_range h]
  rfl
theorem bin_in {b : Nat} {e : Int × Int} (h0 : 0 ≤ e.1) (h1 : e.1 < 65536) (hb : 0 < b) : 0 ≤ binI b e ∧ binI b e < (b : Int) := by
  unfold binI
  refine ⟨Int.ediv_nonneg (Int.mul_nonneg h0 (by omega)) (by omega), Int.ediv_lt_of_lt_mul (by omega) ?_⟩
  rw [Int.mul_comm (b : Int) 65536]
  exact Int.mul_lt_mul_of_pos_right h1 (by omega)
theorem row_snoc (b : Nat) (S : List (Int × Int)) (e : Int × Int) (k : Nat) : rowOf b (S ++ [e]) k = if binI b e = (k : Int) then rowOf b S k ++ [e.2] else rowOf b S k := by
  unfold rowOf
  rw [List.filter_append, List.map_append]
  by_cases h : binI b e = (k : Int)
  · rw [if_pos h, List.filter_cons, if_pos (decide_eq_true h)]
    rfl
  · rw [if_neg h, List.filter_cons, if_neg (by rw [decide_eq_false h]; decide)]
    simp
theorem bins_snoc {b j : Nat} {S : List (Int × Int)} {e : Int × Int} (hj : binI b e = (j : Int)) (hb : j < b) : binsOf b (S ++ [e]) = (binsOf b S).set j (rowOf b S j ++ [e.2]) := by
  apply List.ext_getElem?
  intro i
  by_cases hi : i < b
  · rw [bins_at hi, row_snoc, List.getElem?_set]
    by_cases h : j = i
    · subst h
      rw [if_pos hj, if_pos rfl, if_pos (by rw [bins_len]; exact hb)]
    · rw [if_neg (by omega), if_neg h, bins_at hi]
  · rw [List.getElem?_eq_none (by rw [bins_len]; omega), List.getElem?_eq_none (by rw [List.length_set, bins_len]; omega)]
theorem row_mem_of {b k : Nat} {S : List (Int × Int)} {x : Int} (h : x ∈ rowOf b S k) : ∃ e ∈ S, x = e.2 := by
  unfold rowOf at h
  obtain ⟨e, he, rfl⟩ := List.mem_map.mp h
  exact ⟨e, (List.mem_filter.mp he).1, rfl⟩
theorem rowOf_len (b k : Nat) (S : List (Int × Int)) : (rowOf b S k).length ≤ S.length := by
  unfold rowOf
  rw [List.length_map]
  exact List.length_filter_le ..
/-! ### binned scatter -/
def scOf (m : List Int) : Int := spread m / (m.length : Int)
def bscI (b : Nat) (S : List (Int × Int)) : Int := (((binsOf b S).filter fun m => decide ((0 : Int) < (m.length : Int))).map scOf).sum
theorem sum_filter {α : Type} (p : α → Bool) (h : α → Int) : ∀ l : List α, ((l.filter p).map h).sum = (l.map fun x => if p x = true then h x else 0).sum
  | [] => rfl
  | a :: l => by
    rw [List.filter_cons, List.map_cons, List.sum_cons]
    by_cases z : p a = true
    · rw [if_pos z, if_pos z, List.map_cons, List.sum_cons, sum_filter p h l]
    · rw [if_neg z, if_neg z, sum_filter p h l, Int.zero_add]
theorem sc_nonneg (m : List Int) : 0 ≤ scOf m := by
  unfold scOf spread
  exact Int.ediv_nonneg (spread_nonneg m) (by omega)
theorem row_up (b k : Nat) (F : List (Nat × Int)) : (F.filter fun entry => decide (entry.1 * b / 65536 = k)).map (fun entry => entry.2) = rowOf b (F.map upP) k := by
  unfold rowOf
  rw [List.filter_map, List.map_map]
  have e : ((fun e => decide (binI b e = (k : Int))) ∘ upP) = fun entry : Nat × Int => decide (entry.1 * b / 65536 = k) := by
    funext x
    show decide ((x.1 : Int) * (b : Int) / 65536 = (k : Int)) = _
    refine decide_eq_decide.mpr ?_
    have h : (x.1 : Int) * (b : Int) / 65536 = ((x.1 * b / 65536 : Nat) : Int) := by
      rw [Int.natCast_ediv, Int.natCast_mul]
      rfl
    rw [h]
    omega
  rw [e]
  rfl
theorem bsc_is (b : Nat) (F : List (Nat × Int)) : ((Sh70.binnedScatter b F : Nat) : Int) = bscI b (F.map upP) := by
  unfold Sh70.binnedScatter bscI binsOf
  rw [sum_filter, List.map_map, nat_sum, List.map_map]
  congr 1
  refine List.map_congr_left fun k _ => ?_
  show (((let values := (F.filter fun entry => decide (entry.1 * b / 65536 = k)).map fun entry => entry.2
    if values.length = 0 then 0 else ((((values.length : Nat) : Int) * Sh70.sum (values.map fun a => a * a) - Sh70.sum values * Sh70.sum values) / ((values.length : Nat) : Int)).toNat : Nat)) : Int) = if decide ((0 : Int) < ((rowOf b (F.map upP) k).length : Int)) = true then scOf (rowOf b (F.map upP) k) else 0
  rw [row_up]
  generalize rowOf b (F.map upP) k = m
  show ((if m.length = 0 then 0 else (((m.length : Int) * Sh70.sum (m.map fun a => a * a) - Sh70.sum m * Sh70.sum m) / (m.length : Int)).toNat : Nat) : Int) = _
  by_cases h : m.length = 0
  · rw [if_pos h, if_neg (by rw [decide_eq_true_iff]; omega)]
    rfl
  · rw [if_neg h, if_pos (decide_eq_true (by omega)), sum_is, sum_is]
    have e : ((m.length : Int) * (m.map fun a => a * a).sum - m.sum * m.sum) / (m.length : Int) = scOf m := by
      unfold scOf spread
      rw [Int.pow_succ, Int.pow_succ, Int.pow_zero, Int.one_mul]
    rw [e]
    have := sc_nonneg m
    omega
theorem bsc_nonneg (b : Nat) (S : List (Int × Int)) : 0 ≤ bscI b S := by
  unfold bscI
  refine sum_nonneg fun x hx => ?_
  obtain ⟨m, _, rfl⟩ := List.mem_map.mp hx
  exact sc_nonneg m
/-! ### the search -/
def valI (c : Int) (b : Nat) (S : List (Int × Int)) : Int := if c = 0 then slenI S else bscI b S
def valsOf (c : Int) (b : Nat) (first step : Int) (n : Nat) (ts ns : List Int) : List Int := (List.range n).map fun i : Nat => valI c b (serOf (first + step * (i : Int)) ts ns)
def trOk (f s t : Int) : Bool := perOk f && (decide (s ≤ 65536) && (decide (1 ≤ t) && decide (t ≤ 64)))
def serOk (c b f s t : Int) : Bool := !(decide (1 < c) || (!binOk b || !trOk f s t))
def bestIx (vs : List Int) : Nat := Sh70.smallestIndex (vs.map Int.toNat)
def bestK (vs : List Nat) (k : Nat) : Nat := (List.range k).foldl (fun (best : Nat) (i : Nat) => if Sh70.natAt vs i < Sh70.natAt vs best then i else best) 0
theorem bestK_succ (vs : List Nat) (k : Nat) : bestK vs (k + 1) = if Sh70.natAt vs k < Sh70.natAt vs (bestK vs k) then k else bestK vs k := by
  unfold bestK
  rw [List.range_succ, List.foldl_append]
  rfl
theorem best_inv (vs : List Nat) : ∀ k : Nat, bestK vs k < max k 1 ∧ ∀ i, i < k → Sh70.natAt vs (bestK vs k) ≤ Sh70.natAt vs i ∧ (i < bestK vs k → Sh70.natAt vs (bestK vs k) < Sh70.natAt vs i) := by
  intro k
  induction k with
  | zero => exact ⟨by show 0 < 1; decide, fun i h => absurd h (by omega)⟩
  | succ k ih =>
    rw [bestK_succ]
    generalize bestK vs k = best at *
    obtain ⟨h1, h2⟩ := ih
    by_cases h : Sh70.natAt vs k < Sh70.natAt vs best
    · rw [if_pos h]
      refine ⟨by omega, fun i hi => ?_⟩
      by_cases hk : i = k
      · subst hk
        exact ⟨Nat.le_refl _, fun z => absurd z (Nat.lt_irrefl _)⟩
      · have h3 := (h2 i (by omega)).1
        exact ⟨by omega, fun _ => by omega⟩
    · rw [if_neg h]
      refine ⟨by omega, fun i hi => ?_⟩
      by_cases hk : i = k
      · subst hk
        exact ⟨by omega, fun z => by omega⟩
      · exact h2 i (by omega)
theorem best_is {vs : List Int} (h0 : ∀ x ∈ vs, 0 ≤ x) (hl : 0 < vs.length) : bestIx vs < vs.length ∧ ∀ i, i < vs.length → vs.getD (bestIx vs) 0 ≤ vs.getD i 0 ∧ (i < bestIx vs → vs.getD (bestIx vs) 0 < vs.getD i 0) := by
  have h := best_inv (vs.map Int.toNat) (vs.map Int.toNat).length
  have hb : bestIx vs < vs.length := by
    have h1 := h.1
    rw [List.length_map] at h1
    have h2 : bestIx vs < max vs.length 1 := by
      unfold bestIx Sh70.smallestIndex
      rw [List.length_map]
      exact h1
    omega
  have at_ : ∀ i, i < vs.length → ((Sh70.natAt (vs.map Int.toNat) i : Nat) : Int) = vs.getD i 0 := fun i hi => by
    unfold Sh70.natAt
    rw [List.getD_eq_getElem?_getD, List.getD_eq_getElem?_getD, List.getElem?_map, List.getElem?_eq_getElem hi]
    show ((vs[i].toNat : Nat) : Int) = vs[i]
    have := h0 _ (List.getElem_mem hi)
    omega
  refine ⟨hb, fun i hi => ?_⟩
  have h2 := h.2 i (by rw [List.length_map]; exact hi)
  have h3 : Sh70.natAt (vs.map Int.toNat) (bestIx vs) ≤ Sh70.natAt (vs.map Int.toNat) i ∧ (i < bestIx vs → Sh70.natAt (vs.map Int.toNat) (bestIx vs) < Sh70.natAt (vs.map Int.toNat) i) := h2
  rw [← at_ i hi, ← at_ _ hb]
  omega
theorem slen_nonneg (S : List (Int × Int)) : 0 ≤ slenI S := by
  unfold slenI
  refine sum_nonneg fun x hx => ?_
  obtain ⟨p, _, rfl⟩ := List.mem_map.mp hx
  exact abs_nonneg _
theorem val_nonneg (c : Int) (b : Nat) (S : List (Int × Int)) : 0 ≤ valI c b S := by
  unfold valI
  split
  · exact slen_nonneg S
  · exact bsc_nonneg b S
def ansSearch (c b f s t : Int) (ts ns : List Int) : List Int :=
  if serOk c b f s t = false then [-2] else if serRef ts.length ns = 0 then (bestIx (valsOf c b.toNat f s t.toNat ts ns) : Int) :: valsOf c b.toNat f s t.toNat ts ns else [serRef ts.length ns]
theorem bin_eq {b : Int} (h : 0 ≤ b) : Sh70.isBetween b.toNat 1 64 = binOk b := by
  unfold Sh70.isBetween binOk
  have e1 : decide (1 ≤ b.toNat) = decide (1 ≤ b) := decide_eq_decide.mpr (by omega)
  have e2 : decide (b.toNat ≤ 64) = decide (b ≤ 64) := decide_eq_decide.mpr (by omega)
  rw [e1, e2]
theorem vals_is {c f s : Int} {b n : Nat} {ts ns : List Int} (hc : 0 ≤ c) (hf : 0 ≤ f) (hs : 0 ≤ s) (ht : ∀ t ∈ ts, 0 ≤ t) :
    Sh70Neutral.toInts (Sh70.searchPeriods c.toNat b f.toNat s.toNat n (Sh70Neutral.toNats ts) (ns.map sgn)) = valsOf c b f s n ts ns := by
  unfold Sh70.searchPeriods Sh70.trialPeriods Sh70Neutral.toInts valsOf
  rw [List.map_map, List.map_map]
  refine List.map_congr_left fun i _ => ?_
  have e : f.toNat + i * s.toNat = (f + s * (i : Int)).toNat := by
    have h1 : ((f.toNat + i * s.toNat : Nat) : Int) = f + s * (i : Int) := by
      rw [Int.natCast_add, Int.natCast_mul, Int.toNat_of_nonneg hf, Int.toNat_of_nonneg hs, Int.mul_comm]
    omega
  have hp : 0 ≤ f + s * (i : Int) := by
    have := Int.mul_nonneg hs (show (0 : Int) ≤ (i : Int) by omega)
    omega
  show (((if c.toNat = 0 then Sh70.stringLength (Sh70.fold (f.toNat + i * s.toNat) (Sh70Neutral.toNats ts) (ns.map sgn)) else Sh70.binnedScatter b (Sh70.fold (f.toNat + i * s.toNat) (Sh70Neutral.toNats ts) (ns.map sgn)) : Nat)) : Int) = valI c b (serOf (f + s * (i : Int)) ts ns)
  rw [e, ← fold_is hp ht]
  unfold valI
  by_cases h : c = 0
  · rw [if_pos (by omega), if_pos h, slen_is]
  · rw [if_neg (by omega), if_neg h, bsc_is]
theorem spec_search {c b f s t : Int} {ts ns : List Int} (hc : 0 ≤ c) (hb : 0 ≤ b) (hf : 0 ≤ f) (hs : 0 ≤ s) (htr : 0 ≤ t) (ht : ∀ x ∈ ts, 0 ≤ x ∧ x ≤ 4294967295) (hn : ∀ x ∈ ns, 0 ≤ x ∧ x ≤ 4294967295) :
    PySh70.search_periods c b f s t ts ns = ansSearch c b f s t ts ns := by
  show Sh70Neutral.flatten (Sh70.answer (if (Sh70.isAtMost1024 ((Sh70Neutral.toNats ts).length) && (decide (c.toNat ≤ 1) && (Sh70.isBetween b.toNat 1 64 && (Sh70.isPeriod f.toNat && (decide (s.toNat ≤ 65536) && Sh70.isBetween t.toNat 1 64))))) = true then .searchPeriods c.toNat b.toNat f.toNat s.toNat t.toNat (Sh70Neutral.toNats ts) (Sh70.signedWords (Sh70Neutral.toNats ns)) else .invalid)) = _
  have ht0 : ∀ t ∈ ts, 0 ≤ t := fun t h => (ht t h).1
  have ec : decide (c.toNat ≤ 1) = !decide (1 < c) := by
    rw [← decide_not]
    exact decide_eq_decide.mpr (by omega)
  have es : decide (s.toNat ≤ 65536) = decide (s ≤ 65536) := decide_eq_decide.mpr (by omega)
  have eall : (decide (c.toNat ≤ 1) && (Sh70.isBetween b.toNat 1 64 && (Sh70.isPeriod f.toNat && (decide (s.toNat ≤ 65536) && Sh70.isBetween t.toNat 1 64)))) = serOk c b f s t := by
    have et : Sh70.isBetween t.toNat 1 64 = (decide (1 ≤ t) && decide (t ≤ 64)) := bin_eq htr
    rw [ec, es, bin_eq hb, et, per_eq hf]
    unfold serOk trOk
    generalize decide (1 < c) = x1
    generalize binOk b = x2
    generalize perOk f = x3
    generalize decide (s ≤ 65536) = x4
    generalize (decide (1 ≤ t) && decide (t ≤ 64)) = x5
    cases x1 <;> cases x2 <;> cases x3 <;> cases x4 <;> cases x5 <;> rfl
  rw [toNats_len, signed_eq hn, eall, most_eq]
  unfold ansSearch
  cases e : serOk c b f s t with
  | false =>
    rw [Bool.and_false, if_neg (by decide), if_pos rfl]
    rfl
  | true =>
    rw [Bool.and_true, if_neg (show ¬ (true = false) by decide)]
    rcases serRef_cases ts.length ns with ⟨h1, h2⟩ | ⟨h1, h2, h3⟩ | ⟨h1, h2, h3⟩
    · rw [h1, h2]; rfl
    · rw [h1, h3, if_pos (show (!false) = true from rfl)]
      show Sh70Neutral.flatten (if Sh70.areValidMagnitudes (ns.map sgn) = false then Sh70.errorAnswer (-3) else _) = _
      rw [mags_eq, if_pos h2]; rfl
    · rw [h1, h3, if_pos (show (!false) = true from rfl), if_pos rfl]
      show Sh70Neutral.flatten (if Sh70.areValidMagnitudes (ns.map sgn) = false then Sh70.errorAnswer (-3) else _) = _
      rw [mags_eq, if_neg (by rw [h2]; decide)]
      have hv := vals_is (b := b.toNat) (n := t.toNat) (ns := ns) hc hf hs ht0
      have hback : (valsOf c b.toNat f s t.toNat ts ns).map Int.toNat = Sh70.searchPeriods c.toNat b.toNat f.toNat s.toNat t.toNat (Sh70Neutral.toNats ts) (ns.map sgn) := by
        rw [← hv]
        unfold Sh70Neutral.toInts
        rw [List.map_map]
        conv => rhs; rw [← List.map_id (Sh70.searchPeriods c.toNat b.toNat f.toNat s.toNat t.toNat (Sh70Neutral.toNats ts) (ns.map sgn))]
        refine List.map_congr_left fun x _ => ?_
        show ((x : Nat) : Int).toNat = x
        omega
      show ((Sh70.smallestIndex (Sh70.searchPeriods c.toNat b.toNat f.toNat s.toNat t.toNat (Sh70Neutral.toNats ts) (ns.map sgn)) : Nat) : Int) :: Sh70Neutral.toInts (Sh70.searchPeriods c.toNat b.toNat f.toNat s.toNat t.toNat (Sh70Neutral.toNats ts) (ns.map sgn)) = _
      rw [hv, ← hback]
      rfl
end Lm

set_option Elab.async false
set_option linter.all false
set_option maxRecDepth 100000
set_option maxHeartbeats 4000000
namespace Lp
open PySem PySem.Spec PyProof.Rows L2 Evl Lb Lt
open PySem.W (Codec)
def topS (i : Nat) : Stmt := PySem.Challenge.pw_lightcurves_s07_search_periods.main.body.getD i (.Pass ⟨0, 0, 0, 0⟩)
abbrev s_to_signed : Stmt := topS 8
abbrev s_magnitudes_allowed : Stmt := topS 9
abbrev s_period_allowed : Stmt := topS 10
abbrev s_bins_allowed : Stmt := topS 11
abbrev s_trials_allowed : Stmt := topS 12
abbrev s_series_refusal : Stmt := topS 13
abbrev s_spread_of : Stmt := topS 14
abbrev s_time_phase : Stmt := topS 15
abbrev s_folded_series : Stmt := topS 16
abbrev s_string_length : Stmt := topS 17
abbrev s_binned_magnitudes : Stmt := topS 18
abbrev s_binned_scatter : Stmt := topS 19
abbrev s_trial_value : Stmt := topS 20
abbrev s_search_periods : Stmt := topS 22
section
variable {P : Program} {w : World} {K : PySem.W.Frag} {mg : Str → Option Value} {base : Heap}
/-! ### to_signed -/
theorem cp31 : CPow 2 31 := ⟨by decide, by decide, by decide⟩
theorem cp32 : CPow 2 32 := ⟨by decide, by decide, by decide⟩
theorem e31 : (2 : Int) ^ (31 : Int).toNat = 2147483648 := by decide
theorem e32 : (2 : Int) ^ (32 : Int).toNat = 4294967296 := by decide
def sp_to_signed : Sp := fun vs H Q _ => ∃ n : Int, vs = [.int n] ∧ RetV (.int (Lm.sgn n)) H Q
theorem sc_to_signed : FnScope ["number"] ["number"] (defScope s_to_signed) := ⟨rfl, rfl, rfl, by decide +kernel, rfl, by decide +kernel, by decide +kernel⟩
theorem ok_to_signed {f : Addr} {fd : FuncData} (F : Fun K "to_signed" "to_signed" s_to_signed f fd) : FnOk P w K mg base CX0 1 f fd ["number"] sp_to_signed := by
  refine F.ok sc_to_signed (fun vs H Q E h => ?_) (fun cdv A outer s H vs Q E hr h => ?_)
  · obtain ⟨n, rfl, _⟩ := h
    rfl
  · obtain ⟨n, rfl, q⟩ := h
    refine ⟨_, pss_cons (ps_if (pt_cmpR op_ge (pv 0) (pe_op op_pow pe_int pe_int) (nomark _)) (pss_one (ps_ret (pe_op op_sub (pv 0) (pe_op op_pow pe_int pe_int)))) pss_nil) (pss_one (ps_ret (pv 0))), ?_⟩
    refine q_when (et_test (ev_op (ev_var (v := .int n) rfl) (ev_op ev_c ev_c (rv_I cp31)) rv_I0)) (fun hb H1 e1 => ?_) (fun hb H1 e1 => ?_)
    · have hb : (2 : Int) ^ (31 : Int).toNat ≤ n := of_decide_eq_true hb
      rw [e31] at hb
      refine s_ret (ev_is (ev_op (ev_var (v := .int n) rfl) (ev_op ev_c ev_c (rv_I cp32)) rv_I0) (?_ : _ = V.int (Lm.sgn n))) fun H2 e2 => q H2 (e1.trans e2)
      rw [e32]
      unfold Lm.sgn
      rw [if_pos hb]
    · have hb : ¬ (2 : Int) ^ (31 : Int).toNat ≤ n := of_decide_eq_false hb
      rw [e31] at hb
      refine s_ret (ev_is (ev_var (v := .int n) rfl) (?_ : _ = V.int (Lm.sgn n))) fun H2 e2 => q H2 (e1.trans e2)
      unfold Lm.sgn
      rw [if_neg hb]

/-! ### magnitudes_allowed -/
def sp_magnitudes_allowed (K : PySem.W.Frag) : Sp := fun vs H Q _ => ∃ (a : Addr) (ns : List Int), vs = [.ref a] ∧ SqL K H a (ns.map V.int) ∧ ns.length ≤ 2200 ∧ RetV (.bl (Lm.magsOk ns)) H Q
theorem sc_magnitudes_allowed : FnScope ["magnitudes", "number"] ["magnitudes"] (defScope s_magnitudes_allowed) := ⟨rfl, rfl, rfl, by decide +kernel, rfl, by decide +kernel, by decide +kernel⟩
theorem ok_magnitudes_allowed {f : Addr} {fd : FuncData} {t1 : Tok} (F : Fun K "magnitudes_allowed" "magnitudes_allowed" s_magnitudes_allowed f fd) (m1 : mg "MAGNITUDE_BOUND" = some (.int 100000 t1)) (ma : mg "all" = none) (mb : mg "abs" = none)
    (c1 : Cal P w K mg base "to_signed" 1 ["number"] sp_to_signed) : FnOk P w K mg base CX0 2 f fd ["magnitudes"] (sp_magnitudes_allowed K) := by
  obtain ⟨f1, fd1, G1, g1, kp1, b1⟩ := c1
  refine F.ok sc_magnitudes_allowed (fun vs H Q E h => ?_) (fun cdv A outer s H vs Q E hr h => ?_)
  · obtain ⟨a, ns, rfl, _⟩ := h
    rfl
  · obtain ⟨a, ns, rfl, hS, hl, q⟩ := h
    have hr1 : Room 1 _ := hr.mono (by decide)
    refine ⟨_, pss_one (ps_ret (pe_callB (cr_all rfl) (by rfl) ma boot_all (pa_cons (pe_lc (own := [("number", 1)]) (g := gName 1) (tt := tYes) rfl sc_magnitudes_allowed.nd (pi_list (pv 0)) (blkOk_by (own := [("number", 1)]) (N := ["magnitudes", "number"]) (sc := defScope s_magnitudes_allowed) (by decide +kernel))
        (fun _ _ _ _ _ => pg_name (i := 1) sc_magnitudes_allowed.nd rfl (Or.inl rfl)) (fun _ _ _ _ _ => pts_nil)
        (fun _ _ _ _ _ => pe_cmpR op_lt (pe_callB call_abs (by rfl) mb boot_abs (pa_cons (pe_call G1 hr1 (by rfl) g1 kp1 b1 .nil pass0 (pa_cons (pv 1) pa_nil)) pa_nil)) (pe_glob (v := .int 100000) (by rfl) m1 ⟨_, rfl⟩) (nomark _))) pa_nil))), ?_⟩
    refine s_ret (ev_is (ev_cb1 (lc_m (l := ns) (fun n => V.bl (decide (Lm.absI (Lm.sgn n) < 100000))) (Yx := fun i x _ => (ns.map V.int)[i]? = some x) ?_ (by omega) ?_) (fun p H1 hp e1 => rc_all (bs := ns.map fun n => decide (Lm.absI (Lm.sgn n) < 100000)) ?_)) (?_ : _ = V.bl (Lm.magsOk ns))) q
    · have h := it_list (K := K) (σ := [some (.ref a), none]) (tl := tVar 0) (ev_var rfl) hS
      rw [List.length_map] at h
      exact h
    · intro i n x H2 hi e hx
      rw [List.getElem?_map, hi] at hx
      cases hx
      refine takes_name rfl ?_
      exact ev_op (ev_cb (ea_cons (ev_call (ea_cons (ev_var (v := .int n) rfl) ea_nil) (fun H1 e1 Q1 q1 E1 => ⟨n, rfl, q1⟩)) ea_nil) rc_abs) ev_c rv_I0
    · rw [List.map_map]
      exact sq_of hp
    · rw [List.all_map]
      rfl

/-! ### period_allowed -/
def sp_period_allowed : Sp := fun vs H Q _ => ∃ n : Int, vs = [.int n] ∧ RetV (.bl (Lm.perOk n)) H Q
theorem sc_period_allowed : FnScope ["period"] ["period"] (defScope s_period_allowed) := ⟨rfl, rfl, rfl, by decide +kernel, rfl, by decide +kernel, by decide +kernel⟩
theorem ok_period_allowed {f : Addr} {fd : FuncData} {t1 : Tok} (F : Fun K "period_allowed" "period_allowed" s_period_allowed f fd) (m1 : mg "GREATEST_PERIOD" = some (.int 16777216 t1)) : FnOk P w K mg base CX0 1 f fd ["period"] sp_period_allowed := by
  refine F.ok sc_period_allowed (fun vs H Q E h => ?_) (fun cdv A outer s H vs Q E hr h => ?_)
  · obtain ⟨n, rfl, _⟩ := h
    rfl
  · obtain ⟨n, rfl, q⟩ := h
    refine ⟨_, pss_one (ps_ret (pe_and (pe_cmpR op_ge (pv 0) pe_int (nomark _)) (pe_one (pe_cmpR op_le (pv 0) (pe_glob (v := .int 16777216) rfl m1 ⟨_, rfl⟩) (nomark _))))), ?_⟩
    exact s_ret (v := .bl (Lm.perOk n)) (ev_andV (ev_op (ev_var (v := .int n) rfl) ev_c rv_I0) (fun _ => ev_op (ev_var (v := .int n) rfl) ev_c rv_I0)) q

/-! ### bins_allowed -/
def sp_bins_allowed : Sp := fun vs H Q _ => ∃ n : Int, vs = [.int n] ∧ RetV (.bl (Lm.binOk n)) H Q
theorem sc_bins_allowed : FnScope ["bins"] ["bins"] (defScope s_bins_allowed) := ⟨rfl, rfl, rfl, by decide +kernel, rfl, by decide +kernel, by decide +kernel⟩
theorem ok_bins_allowed {f : Addr} {fd : FuncData} {t1 : Tok} (F : Fun K "bins_allowed" "bins_allowed" s_bins_allowed f fd) (m1 : mg "MOST_BINS" = some (.int 64 t1)) : FnOk P w K mg base CX0 1 f fd ["bins"] sp_bins_allowed := by
  refine F.ok sc_bins_allowed (fun vs H Q E h => ?_) (fun cdv A outer s H vs Q E hr h => ?_)
  · obtain ⟨n, rfl, _⟩ := h
    rfl
  · obtain ⟨n, rfl, q⟩ := h
    refine ⟨_, pss_one (ps_ret (pe_and (pe_cmpR op_ge (pv 0) pe_int (nomark _)) (pe_one (pe_cmpR op_le (pv 0) (pe_glob (v := .int 64) rfl m1 ⟨_, rfl⟩) (nomark _))))), ?_⟩
    exact s_ret (v := .bl (Lm.binOk n)) (ev_andV (ev_op (ev_var (v := .int n) rfl) ev_c rv_I0) (fun _ => ev_op (ev_var (v := .int n) rfl) ev_c rv_I0)) q

/-! ### trials_allowed -/
def sp_trials_allowed : Sp := fun vs H Q _ => ∃ f s t : Int, vs = [.int f, .int s, .int t] ∧ RetV (.bl (Lm.trOk f s t)) H Q
theorem sc_trials_allowed : FnScope ["first", "step", "trials"] ["first", "step", "trials"] (defScope s_trials_allowed) := ⟨rfl, rfl, rfl, by decide +kernel, rfl, by decide +kernel, by decide +kernel⟩
theorem ok_trials_allowed {f : Addr} {fd : FuncData} {t1 t2 : Tok} (F : Fun K "trials_allowed" "trials_allowed" s_trials_allowed f fd) (m1 : mg "GREATEST_STEP" = some (.int 65536 t1)) (m2 : mg "MOST_TRIALS" = some (.int 64 t2))
    (c1 : Cal P w K mg base "period_allowed" 1 ["period"] sp_period_allowed) : FnOk P w K mg base CX0 2 f fd ["first", "step", "trials"] sp_trials_allowed := by
  obtain ⟨f1, fd1, G1, g1, kp1, b1⟩ := c1
  refine F.ok sc_trials_allowed (fun vs H Q E h => ?_) (fun cdv A outer s H vs Q E hr h => ?_)
  · obtain ⟨a, b, c, rfl, _⟩ := h
    rfl
  · obtain ⟨a, b, c, rfl, q⟩ := h
    have hr1 : Room 1 _ := hr.mono (by decide)
    refine ⟨_, pss_one (ps_ret (pe_and (pe_call G1 hr1 (by rfl) g1 kp1 b1 .nil pass0 (pa_cons (pv 0) pa_nil)) (pe_and (pe_cmpR op_le (pv 1) (pe_glob (v := .int 65536) rfl m1 ⟨_, rfl⟩) (nomark _))
      (pe_and (pe_cmpR op_ge (pv 2) pe_int (nomark _)) (pe_one (pe_cmpR op_le (pv 2) (pe_glob (v := .int 64) rfl m2 ⟨_, rfl⟩) (nomark _))))))), ?_⟩
    exact s_ret (v := .bl (Lm.trOk a b c)) (ev_andV (a := Lm.perOk a) (ev_call (ea_cons (ev_var (v := .int a) rfl) ea_nil) (fun H1 e1 Q1 q1 E1 => ⟨a, rfl, q1⟩)) (fun _ => ev_andV (ev_op (ev_var (v := .int b) rfl) ev_c rv_I0)
      (fun _ => ev_andV (ev_op (ev_var (v := .int c) rfl) ev_c rv_I0) (fun _ => ev_op (ev_var (v := .int c) rfl) ev_c rv_I0)))) q

/-! ### series_refusal -/
def sp_series_refusal (K : PySem.W.Frag) : Sp := fun vs H Q _ => ∃ (a b : Addr) (ts ns : List Int), vs = [.ref a, .ref b] ∧ SqL K H a (ts.map V.int) ∧ SqL K H b (ns.map V.int) ∧ ns.length ≤ 2200 ∧ RetV (.int (Lm.serRef ts.length ns)) H Q
theorem sc_series_refusal : FnScope ["times", "magnitudes"] ["times", "magnitudes"] (defScope s_series_refusal) := ⟨rfl, rfl, rfl, by decide +kernel, rfl, by decide +kernel, by decide +kernel⟩
theorem ok_series_refusal {f : Addr} {fd : FuncData} {t1 : Tok} (F : Fun K "series_refusal" "series_refusal" s_series_refusal f fd) (m1 : mg "MOST_TIMES" = some (.int 1024 t1)) (ml : mg "len" = none)
    (c2 : Cal P w K mg base "magnitudes_allowed" 2 ["magnitudes"] (sp_magnitudes_allowed K)) : FnOk P w K mg base CX0 3 f fd ["times", "magnitudes"] (sp_series_refusal K) := by
  obtain ⟨f2, fd2, G2, g2, kp2, b2⟩ := c2
  refine F.ok sc_series_refusal (fun vs H Q E h => ?_) (fun cdv A outer s H vs Q E hr h => ?_)
  · obtain ⟨a, b, ts, ns, rfl, _⟩ := h
    rfl
  · obtain ⟨a, b, ts, ns, rfl, hT, hS, hl, q⟩ := h
    have hr2 : Room 2 _ := hr.mono (by decide)
    refine ⟨_, pss_cons (ps_if (pt_cmpR op_gt (pe_callB call_len_seq (by rfl) ml PySem.boot_len (pa_cons (pv 0) pa_nil)) (pe_glob (v := .int 1024) (by rfl) m1 ⟨_, rfl⟩) (nomark _)) (pss_one (ps_ret (pe_un un_neg pe_int))) pss_nil)
      (pss_cons (ps_if (pt_not (pt_val (pe_call G2 hr2 (by rfl) g2 kp2 b2 .nil pass0 (pa_cons (pv 1) pa_nil)))) (pss_one (ps_ret (pe_un un_neg pe_int))) pss_nil)
      (pss_one (ps_ret pe_int))), ?_⟩
    have len : Ev (tCB (rLenS K) (tCons (tVar 0) tNil)) [some (.ref a), some (.ref b)] H (.int (ts.length : Int)) := by
      have h := ev_len (K := K) (ta := tVar 0) (σ := [some (.ref a), some (.ref b)]) (ev_var rfl) hT
      rw [List.length_map] at h
      exact h
    refine q_when (et_test (ev_op len ev_c rv_I0)) (fun hb H1 e1 => ?_) (fun hb H1 e1 => ?_)
    · refine s_ret (ev_is (ev_un ev_c ru_neg) (?_ : _ = V.int (Lm.serRef ts.length ns))) fun H2 e2 => q H2 (e1.trans e2)
      rw [Lm.serRef_long hb]
    · refine q_when (et_not (et_B (ev_call (z := .bl (Lm.magsOk ns)) (ea_cons (ev_var (v := .ref b) rfl) ea_nil) (fun H2 e2 Q1 q1 E1 => ⟨b, ns, rfl, ex_l (e1.trans e2) hS, hl, q1⟩)))) (fun hb2 H2 e2 => ?_) (fun hb2 H2 e2 => ?_)
      · refine s_ret (ev_is (ev_un ev_c ru_neg) (?_ : _ = V.int (Lm.serRef ts.length ns))) fun H3 e3 => q H3 ((e1.trans e2).trans e3)
        rw [Lm.serRef_mags hb (by cases h : Lm.magsOk ns <;> simp_all)]
      · refine s_ret (ev_is ev_c (?_ : _ = V.int (Lm.serRef ts.length ns))) fun H3 e3 => q H3 ((e1.trans e2).trans e3)
        rw [Lm.serRef_ok hb (by cases h : Lm.magsOk ns <;> simp_all)]

/-! ### spread_of -/
def sp_spread_of (K : PySem.W.Frag) : Sp := fun vs H Q _ => ∃ (a : Addr) (xs : List Int), vs = [.ref a] ∧ SqL K H a (xs.map V.int) ∧ xs.length ≤ 1100 ∧ (∀ x ∈ xs, -100000 < x ∧ x < 100000) ∧ RetV (.int (Lm.spread xs)) H Q
theorem sc_spread_of : FnScope ["values", "value"] ["values"] (defScope s_spread_of) := ⟨rfl, rfl, rfl, by decide +kernel, rfl, by decide +kernel, by decide +kernel⟩
theorem sum_small : ∀ (xs : List Int), (∀ x ∈ xs, -100000 < x ∧ x < 100000) → -(100000 * (xs.length : Int)) ≤ xs.sum ∧ xs.sum ≤ 100000 * (xs.length : Int)
  | [], _ => by simp
  | x :: r, h => by
    have ih := sum_small r fun y hy => h y (List.mem_cons_of_mem _ hy)
    have hx := h x (List.mem_cons_self ..)
    rw [List.sum_cons, List.length_cons]
    omega
theorem ok_spread_of {f : Addr} {fd : FuncData} (F : Fun K "spread_of" "spread_of" s_spread_of f fd) (ml : mg "len" = none) (ms : mg "sum" = none) : FnOk P w K mg base CX0 1 f fd ["values"] (sp_spread_of K) := by
  refine F.ok sc_spread_of (fun vs H Q E h => ?_) (fun cdv A outer s H vs Q E hr h => ?_)
  · obtain ⟨a, xs, rfl, _⟩ := h
    rfl
  · obtain ⟨a, xs, rfl, hS, hl, hx, q⟩ := h
    refine ⟨_, pss_one (ps_ret (pe_op op_sub
        (pe_op op_mul (pe_callB call_len_seq (by rfl) ml PySem.boot_len (pa_cons (pv 0) pa_nil)) (pe_callB (cr_sum rfl) (by rfl) ms boot_sum (pa_cons (pe_lc (own := [("value", 1)]) (g := gName 1) (tt := tYes) rfl sc_spread_of.nd (pi_list (pv 0)) (blkOk_by (own := [("value", 1)]) (N := ["values", "value"]) (sc := defScope s_spread_of) (by decide +kernel))
          (fun _ _ _ _ _ => pg_name (i := 1) sc_spread_of.nd rfl (Or.inl rfl)) (fun _ _ _ _ _ => pts_nil) (fun _ _ _ _ _ => pe_op op_mul (pv 1) (pv 1))) pa_nil)))
        (pe_op op_pow (pe_callB (cr_sum rfl) (by rfl) ms boot_sum (pa_cons (pv 0) pa_nil)) pe_int))), ?_⟩
    have len : Ev (tCB (rLenS K) (tCons (tVar 0) tNil)) (start ["values", "value"] [.ref a]) H (.int (xs.length : Int)) := by
      have h := ev_len (K := K) (ta := tVar 0) (σ := start ["values", "value"] [.ref a]) (ev_var rfl) hS
      rw [List.length_map] at h
      exact h
    have hsum := sum_small xs hx
    refine s_ret (v := .int (Lm.spread xs)) (ev_op (ev_op len
      (ev_cb1 (lc_m (l := xs) (fun x => V.int (x * x)) (Yx := fun i x _ => (xs.map V.int)[i]? = some x) ?_ (by omega) ?_) (fun p H2 hp e2 => rc_sum (ns := xs.map fun x => x * x) ?_)) (rv_I (.inl ⟨by omega, by omega⟩)))
      (ev_op (ev_cb (ea_cons (ev_var (v := .ref a) rfl) ea_nil) (rc_sum hS)) ev_c (rv_I ⟨by decide, by decide, by omega⟩)) rv_I0) q
    · have h := it_list (K := K) (σ := start ["values", "value"] [.ref a]) (tl := tVar 0) (ev_var rfl) hS
      rw [List.length_map] at h
      exact h
    · intro i x v H2 hi e hv
      rw [List.getElem?_map, hi] at hv
      cases hv
      have hb := hx x (List.mem_of_getElem? hi)
      refine takes_name rfl ?_
      exact ev_op (ev_var (v := .int x) rfl) (ev_var (v := .int x) rfl) (rv_I (.inl ⟨by omega, by omega⟩))
    · rw [List.map_map]
      exact sq_of hp

/-! ### time_phase -/
def sp_time_phase : Sp := fun vs H Q _ => ∃ p t : Int, vs = [.int p, .int t] ∧ 0 < p ∧ p ≤ 4294967296 ∧ RetV (.int (Lm.phaseI p t)) H Q
theorem sc_time_phase : FnScope ["period", "time"] ["period", "time"] (defScope s_time_phase) := ⟨rfl, rfl, rfl, by decide +kernel, rfl, by decide +kernel, by decide +kernel⟩
theorem ok_time_phase {f : Addr} {fd : FuncData} {t1 : Tok} (F : Fun K "time_phase" "time_phase" s_time_phase f fd) (m1 : mg "PHASES" = some (.int 65536 t1)) : FnOk P w K mg base CX0 1 f fd ["period", "time"] sp_time_phase := by
  refine F.ok sc_time_phase (fun vs H Q E h => ?_) (fun cdv A outer s H vs Q E hr h => ?_)
  · obtain ⟨p, t, rfl, _⟩ := h
    rfl
  · obtain ⟨p, t, rfl, h0, h1, q⟩ := h
    refine ⟨_, pss_one (ps_ret (pe_op op_fdivW (pe_op op_mul (pe_glob (v := .int 65536) rfl m1 ⟨_, rfl⟩) (pe_op op_mod (pv 1) (pv 0))) (pv 0))), ?_⟩
    have h2 : p.natAbs < 2 ^ 40 := by
      have h3 : (2 : Nat) ^ 40 = 1099511627776 := by decide
      omega
    exact s_ret (v := .int (Lm.phaseI p t)) (ev_op (ev_op ev_c (ev_op (ev_var (v := .int t) rfl) (ev_var (v := .int p) rfl) (rv_I h0)) (rv_I (.inl ⟨by decide, by decide⟩))) (ev_var (v := .int p) rfl) (rv_I (wide_div h0 h2 (by decide) (by decide)))) q

/-! ### folded_series -/
def lamT (Tb : Addr) : List (Addr × Str) := [(Tb, (("folded_series" : Str) ++ ".<locals>.") ++ "<lambda>")]
theorem lamT_nil {H : Hp} {Tb : Addr} (h : H Tb = some (.tbl #[])) : LamX.Tabs (lamT Tb) H := fun p hp => by
  have e := List.mem_singleton.mp hp
  subst e
  exact LamX.TabS.nil h
def sp_folded_series (K : PySem.W.Frag) (Tb : Addr) : Sp := fun vs H Q _ => ∃ (p : Int) (a b : Addr) (ts ns : List Int), vs = [.int p, .ref a, .ref b] ∧ SqL K H a (ts.map V.int) ∧ SqL K H b (ns.map V.int) ∧ ts.length ≤ 1100 ∧ ns.length ≤ 1100 ∧ 0 < p ∧ p ≤ 4294967296 ∧ LamX.Tabs (lamT Tb) H ∧
  ∀ q H2, LamX.ExtN H H2 → LamX.Tabs (lamT Tb) H2 → Pairs H2 q (Lm.serOf p ts ns) → Q (.ref q) H2
theorem sc_folded_series : FnScope ["period", "times", "magnitudes", "pairs", "time", "number"] ["period", "times", "magnitudes"] (defScope s_folded_series) := ⟨rfl, rfl, rfl, by decide +kernel, rfl, by decide +kernel, by decide +kernel⟩
theorem prs_range (p : Int) (ts ns : List Int) : (List.range (min ts.length ns.length)).map (fun i => (Lm.phaseI p (ts.getD i 0), Lm.sgn (ns.getD i 0))) = Lm.prs p ts ns := by
  apply List.ext_getElem?
  intro i
  unfold Lm.prs
  rw [List.getElem?_map, List.getElem?_map]
  by_cases hi : i < min ts.length ns.length
  · have h1 : i < ts.length := by omega
    have h2 : i < ns.length := by omega
    rw [List.getElem?_range hi, List.getElem?_eq_getElem (by rw [List.length_zip]; exact hi), List.getElem_zip]
    show some (Lm.phaseI p (ts.getD i 0), Lm.sgn (ns.getD i 0)) = some (Lm.phaseI p ts[i], Lm.sgn ns[i])
    rw [List.getD_eq_getElem?_getD, List.getD_eq_getElem?_getD, List.getElem?_eq_getElem h1, List.getElem?_eq_getElem h2]
    rfl
  · rw [List.getElem?_eq_none (by simpa using hi), List.getElem?_eq_none (by rw [List.length_zip]; omega)]
    rfl
theorem ok_folded_series {f c Tb : Addr} {fd : FuncData} (F : Fun K "folded_series" "folded_series" s_folded_series f fd) (mz : mg "zip" = none) (ms : mg "sorted" = none) (hc : fd.code = .ref c) (TB : LamX.TabB base mg c Tb)
    (c1 : Cal P w K mg base "time_phase" 1 ["period", "time"] sp_time_phase) (c2 : Cal P w K mg base "to_signed" 1 ["number"] sp_to_signed) :
    FnOk P w K mg base CX0 2 f fd ["period", "times", "magnitudes"] (sp_folded_series K Tb) := by
  obtain ⟨f1, fd1, G1, g1, kp1, b1⟩ := c1
  obtain ⟨f2, fd2, G2, g2, kp2, b2⟩ := c2
  refine Fun_okC F hc sc_folded_series (fun vs H Q E h => ?_) (fun A outer s H vs Q E hr h => ?_)
  · obtain ⟨p, a, b, ts, ns, rfl, _⟩ := h
    rfl
  · obtain ⟨p, a, b, ts, ns, rfl, hA, hB, hl1, hl2, hp0, hp1, hT, q⟩ := h
    have hr1 : Room 1 _ := hr.mono (by decide)
    have nd := sc_folded_series.nd
    refine ⟨_, pss_cons (ps_setLc (i := 3) (own := [("time", 4), ("number", 5)]) (g := gTup K 2 (gCons (gName 4) (gCons (gName 5) gNil))) (tt := tYes) rfl nd rfl rfl (sw_true rfl rfl rfl (by decide +kernel)) (pi_zip (by rfl) mz (pa_cons (pv 1) (pa_cons (pv 2) pa_nil)))
          (blkOk_by (own := [("time", 4), ("number", 5)]) (N := ["period", "times", "magnitudes", "pairs", "time", "number"]) (sc := defScope s_folded_series) (by decide +kernel))
          (fun _ _ _ _ _ => pg_tup rfl (pgs_cons (pg_name (i := 4) nd rfl (Or.inl rfl)) (pgs_cons (pg_name (i := 5) nd rfl (Or.inl rfl)) pgs_nil))) (fun _ _ _ _ _ => pts_nil)
          (fun _ _ _ _ _ => pe_tup (pa_cons (pe_call G1 hr1 (by rfl) g1 kp1 b1 .nil pass0 (pa_cons (pv 0) (pa_cons (pv 4) pa_nil))) (pa_cons (pe_call G2 hr1 (by rfl) g2 kp2 b2 .nil pass0 (pa_cons (pv 5) pa_nil)) pa_nil))))
      (pss_one (ps_ret (pe_sortLam (T := lamT Tb) (c := c) (P := Tb) (by rfl) ms TB rfl (List.mem_singleton.mpr rfl) (fun z hz _ => by rw [List.mem_singleton.mp hz]; rfl) hr rfl rfl rfl rfl rfl (fun _ _ _ _ _ => rfl) rfl (pv 3)))), ?_⟩
    refine q_asgP (l := Lm.prs p ts ns) ?_ fun l H1 hl e1 hP => ?_
    · rw [← prs_range p ts ns]
      refine lc_prs (n := min ts.length ns.length) (it_zip (xs := ts.map V.int) (ys := ns.map V.int) (ea_cons (ev_var (v := .ref a) rfl) (ea_cons (ev_var (v := .ref b) rfl) ea_nil)) hA hB |> fun h => by rw [List.length_map, List.length_map] at h; exact h) (by omega) _ ?_
      intro i x H2 hi e hx
      obtain ⟨T, u, v, rfl, hT2, hu, hv⟩ := hx
      have h1 : i < ts.length := by omega
      have h2 : i < ns.length := by omega
      rw [List.getElem?_map, List.getElem?_eq_getElem h1] at hu
      rw [List.getElem?_map, List.getElem?_eq_getElem h2] at hv
      cases hu
      cases hv
      refine takes_pair hT2 rfl ?_
      rw [List.getD_eq_getElem?_getD, List.getD_eq_getElem?_getD, List.getElem?_eq_getElem h1, List.getElem?_eq_getElem h2]
      exact eu_tup (ea_cons (ev_call (ea_cons (ev_var (v := .int p) rfl) (ea_cons (ev_var (v := .int ts[i]) rfl) ea_nil)) (fun H3 e3 Q1 q1 E1 => ⟨p, _, rfl, hp0, hp1, q1⟩))
        (ea_cons (ev_call (ea_cons (ev_var (v := .int ns[i]) rfl) ea_nil) (fun H3 e3 Q1 q1 E1 => ⟨_, rfl, q1⟩)) ea_nil)) (by show 2 ≤ 100000; decide)
    · exact ⟨.ref l, rfl, l, Lm.prs p ts ns, rfl, hP, by rw [Lm.prs_len]; omega, hT.ext e1, fun q2 H2 eN T2 hP2 => q q2 H2 ((ext_of e1).trans eN) T2 hP2⟩

/-! ### string_length -/
def sp_string_length (K : PySem.W.Frag) : Sp := fun vs H Q _ => ∃ (a : Addr) (S : List (Int × Int)), vs = [.ref a] ∧ Pairs H a S ∧ S.length ≤ 1100 ∧ RetV (.int (Lm.slenI S)) H Q
theorem sc_string_length : FnScope ["series", "magnitudes", "following", "pair", "before", "after"] ["series"] (defScope s_string_length) := ⟨rfl, rfl, rfl, by decide +kernel, rfl, by decide +kernel, by decide +kernel⟩
theorem ok_string_length {f : Addr} {fd : FuncData} (F : Fun K "string_length" "string_length" s_string_length f fd) (ms : mg "sum" = none) (mb : mg "abs" = none) (mz : mg "zip" = none) : FnOk P w K mg base CX0 1 f fd ["series"] (sp_string_length K) := by
  refine F.ok sc_string_length (fun vs H Q E h => ?_) (fun cdv A outer s H vs Q E hr h => ?_)
  · obtain ⟨a, S, rfl, _⟩ := h
    rfl
  · obtain ⟨a, S, rfl, hP, hl, q⟩ := h
    have nd := sc_string_length.nd
    refine ⟨_, pss_cons (ps_setLc (i := 1) (own := [("pair", 3)]) (g := gName 3) (tt := tYes) rfl nd rfl rfl (sw_true rfl rfl rfl (by decide +kernel)) (pi_list (pv 0))
          (blkOk_by (own := [("pair", 3)]) (N := ["series", "magnitudes", "following", "pair", "before", "after"]) (sc := defScope s_string_length) (by decide +kernel))
          (fun _ _ _ _ _ => pg_name (i := 3) nd rfl (Or.inl rfl)) (fun _ _ _ _ _ => pts_nil) (fun _ _ _ _ _ => pe_ix (show IxR _ (rIxT K) from ix_tup) (pv 3) pe_int (fun _ _ => rfl)))
      (pss_cons (ps_set (i := 2) nd rfl (.inl rfl) (pe_op op_cat (pe_slice sl_list (pv 1) (po_some pe_int) po_none) (pe_slice sl_list (pv 1) po_none (po_some pe_int))))
      (pss_one (ps_ret (pe_callB (cr_sum rfl) (by rfl) ms boot_sum (pa_cons (pe_lc (own := [("before", 4), ("after", 5)]) (g := gTup K 2 (gCons (gName 4) (gCons (gName 5) gNil))) (tt := tYes) rfl nd (pi_zip (by rfl) mz (pa_cons (pv 1) (pa_cons (pv 2) pa_nil)))
          (blkOk_by (own := [("before", 4), ("after", 5)]) (N := ["series", "magnitudes", "following", "pair", "before", "after"]) (sc := defScope s_string_length) (by decide +kernel))
          (fun _ _ _ _ _ => pg_tup rfl (pgs_cons (pg_name (i := 4) nd rfl (Or.inl rfl)) (pgs_cons (pg_name (i := 5) nd rfl (Or.inl rfl)) pgs_nil))) (fun _ _ _ _ _ => pts_nil)
          (fun _ _ _ _ _ => pe_callB call_abs (by rfl) mb boot_abs (pa_cons (pe_op op_sub (pv 5) (pv 4)) pa_nil))) pa_nil))))), ?_⟩
    refine q_asgL (lc_m (l := S) (fun e => V.int e.2) (it_prs (ev_var (v := .ref a) rfl) hP) (by omega) ?_) fun m H1 hm1 e1 h1 => ?_
    · intro i e x H2 hi e2 hx
      exact takes_name rfl (ev_op (ev_var (v := x) rfl) ev_c (rv_snd (hx e hi H2 e2)))
    have hM : H1 m = some (.lst ((Lm.magsOf S).map V.int)) := by
      rw [h1]
      unfold Lm.magsOf
      rw [List.map_map]
      rfl
    have hml : (Lm.magsOf S).length = S.length := List.length_map ..
    refine q_asgL (xs := (Lm.folOf (Lm.magsOf S)).map V.int) (fun H2 e2 Q2 q2 => ?_) fun n H2 hn2 e2 h2 => ?_
    · refine el_cat (el_sl (K := K) (ev_var (v := .ref m) rfl) (eo_some ev_c) eo_none (sq_of hM)) (el_sl (K := K) (ev_var (v := .ref m) rfl) eo_none (eo_some ev_c) (sq_of hM)) ?_ H2 e2 Q2 (fun p H3 hp e3 h3 => q2 p H3 hp e3 ?_)
      · have z1 := cutV_length ((Lm.magsOf S).map V.int) (some 1) none
        have z2 := cutV_length ((Lm.magsOf S).map V.int) none (some 1)
        rw [List.length_map] at z1 z2
        omega
      · rw [h3, Lr.cut_from _ (Nat.le_refl 1), Lr.cut_to]
        unfold Lm.folOf
        rw [List.map_append, List.map_drop, List.map_take]
    · have e02 := e1.trans e2
      have hfl : (Lm.folOf (Lm.magsOf S)).length ≤ 2 * S.length := by
        unfold Lm.folOf
        rw [List.length_append, List.length_drop, List.length_take]
        omega
      refine s_ret (v := .int (Lm.slenI S)) (ev_cb1 (lc_m (l := (Lm.magsOf S).zip (Lm.folOf (Lm.magsOf S))) (fun p => V.int (Lm.absI (p.2 - p.1))) (it_zip (xs := (Lm.magsOf S).map V.int) (ys := (Lm.folOf (Lm.magsOf S)).map V.int) (ea_cons (ev_var (v := .ref m) rfl) (ea_cons (ev_var (v := .ref n) rfl) ea_nil)) (sq_of (e2 _ _ hM)) (sq_of h2) |> fun h => by rw [List.length_map, List.length_map, ← List.length_zip] at h; exact h) (by rw [List.length_zip]; omega) ?_) (fun p H3 hp e3 => rc_sum (ns := ((Lm.magsOf S).zip (Lm.folOf (Lm.magsOf S))).map fun p => Lm.absI (p.2 - p.1)) ?_)) fun H3 e3 => q H3 (e02.trans e3)
      · intro i y x H3 hi e3 hx
        obtain ⟨T, u, v, rfl, hT2, hu, hv⟩ := hx
        obtain ⟨z1, z2⟩ := List.getElem?_zip_eq_some.mp hi
        rw [List.getElem?_map, z1] at hu
        rw [List.getElem?_map, z2] at hv
        cases hu
        cases hv
        exact takes_pair hT2 rfl (ev_cb (ea_cons (ev_op (ev_var (v := .int y.2) rfl) (ev_var (v := .int y.1) rfl) rv_I0) ea_nil) rc_abs)
      · rw [List.map_map]
        exact sq_of hp

/-! ### lists of lists of ints -/
def RowsI (H : Hp) (p : Addr) (rows : List (List Int)) : Prop := Rows H p (rows.map fun r => r.map V.int)
theorem RowsI.at_ {H : Hp} {p : Addr} {rows : List (List Int)} (h : RowsI H p rows) : ∃ as : List Addr, H p = some (.lst (as.map V.ref)) ∧ as.length = rows.length ∧ ∀ (i : Nat) (a : Addr) (r : List Int), as[i]? = some a → rows[i]? = some r → H a = some (.lst (r.map V.int)) := by
  obtain ⟨as, h1, h2, h3⟩ := h
  refine ⟨as, h1, by rw [h2, List.length_map], fun i a r ha hr => h3 i a _ ha ?_⟩
  rw [List.getElem?_map, hr]
  rfl
theorem RowsI.ex {H H' : Hp} {p : Addr} {rows : List (List Int)} (h : RowsI H p rows) (e : Ex H H') : RowsI H' p rows := Rows.ex h e
/-- what a walk over the images tells -/
theorem it_rows {K : PySem.W.Frag} {σ : L2.St} {H : Hp} {tl : TE} {p : Addr} {rows : List (List Int)} (h : Ev tl σ H (.ref p)) (hR : RowsI H p rows) :
    IterV (iList K tl) σ H rows.length (fun i x H4 => ∀ r, rows[i]? = some r → ∀ H0, Ex H H0 → ∃ a, x = .ref a ∧ H0 a = some (.lst (r.map V.int))) := by
  obtain ⟨as, h1, h2, h3⟩ := hR.at_
  have t := it_list (K := K) (σ := σ) (tl := tl) h (sq_of h1)
  rw [List.length_map, h2] at t
  intro H1 e R r
  refine t H1 e R fun J G Y H2 e2 w hG hY => r J G Y H2 e2 w hG fun i x H3 H4 hi e3 y => ?_
  obtain ⟨e4, hx⟩ := hY i x H3 H4 hi e3 y
  refine ⟨e4, fun row hrow H0 e0 => ?_⟩
  have hi2 : i < as.length := by omega
  rw [List.getElem?_map, List.getElem?_eq_getElem hi2] at hx
  have ex : V.ref as[i] = x := Option.some.inj hx
  exact ⟨as[i], ex.symm, e0 _ _ (h3 i _ row (List.getElem?_eq_getElem hi2) hrow)⟩

/-! ### binned_magnitudes -/
def sp_binned_magnitudes (K : PySem.W.Frag) : Sp := fun vs H Q _ => ∃ (b : Nat) (a : Addr) (S : List (Int × Int)), vs = [.int (b : Int), .ref a] ∧ Pairs H a S ∧ S.length ≤ 1100 ∧ 0 < b ∧ b ≤ 64 ∧ (∀ e ∈ S, 0 ≤ e.1 ∧ e.1 < 65536) ∧
  ∀ p H2, H p = none → Ex H H2 → RowsI H2 p (Lm.binsOf b S) → Q (.ref p) H2
theorem sc_binned_magnitudes : FnScope ["bins", "series", "contents", "pair", "place"] ["bins", "series"] (defScope s_binned_magnitudes) := ⟨rfl, rfl, rfl, by decide +kernel, rfl, by decide +kernel, by decide +kernel⟩
theorem bins_nil (b : Nat) : List.replicate b ([] : List Int) = Lm.binsOf b [] := by
  unfold Lm.binsOf
  apply List.ext_getElem?
  intro i
  rw [List.getElem?_replicate, List.getElem?_map]
  by_cases h : i < b
  · rw [if_pos h, List.getElem?_range h]
    rfl
  · rw [if_neg h, List.getElem?_eq_none (by simpa using h)]
    rfl
theorem ok_binned_magnitudes {f : Addr} {fd : FuncData} {t1 : Tok} (F : Fun K "binned_magnitudes" "binned_magnitudes" s_binned_magnitudes f fd) (m1 : mg "PHASES" = some (.int 65536 t1)) (mr : mg "range" = none) : FnOk P w K mg base CX0 1 f fd ["bins", "series"] (sp_binned_magnitudes K) := by
  refine F.ok sc_binned_magnitudes (fun vs H Q E h => ?_) (fun cdv A outer s H vs Q E hr h => ?_)
  · obtain ⟨b, a, S, rfl, _⟩ := h
    rfl
  · obtain ⟨b, a, S, rfl, hP, hl, hb0, hb1, hph, q⟩ := h
    have nd := sc_binned_magnitudes.nd
    refine ⟨_, pss_cons (ps_setLc (i := 2) (own := [("place", 4)]) (g := gName 4) (tt := tYes) rfl nd rfl rfl (sw_true rfl rfl rfl (by decide +kernel)) (pi_range1 (by rfl) mr (pa_cons (pv 0) pa_nil))
          (blkOk_by (own := [("place", 4)]) (N := ["bins", "series", "contents", "pair", "place"]) (sc := defScope s_binned_magnitudes) (by decide +kernel))
          (fun _ _ _ _ _ => pg_name (i := 4) nd rfl (Or.inl rfl)) (fun _ _ _ _ _ => pts_nil) (fun _ _ _ _ _ => pe_lst pa_nil))
      (pss_cons (ps_for PassesOwn.never rfl (pi_list (pv 1)) (pg_name (i := 3) nd rfl (Or.inl rfl))
        (pss_one (ps_expr (pe_bm PySem.F.plainAttrs_list PySem.F.slot_list_append PySem.F.type_list_append mt_append (pe_ix ix_list (pv 2) (pe_op op_fdiv (pe_op op_mul (pe_ix ix_tup (pv 3) pe_int (fun _ _ => rfl)) (pv 0)) (pe_glob (v := .int 65536) rfl m1 ⟨_, rfl⟩)) (fun _ _ => rfl)) (pa_cons (pe_ix ix_tup (pv 3) pe_int (fun _ _ => rfl)) pa_nil)))))
      (pss_one (ps_ret (pv 2)))), ?_⟩
    obtain ⟨xs, hx, hE⟩ := hP
    have hxl : xs.length = S.length := hE.length
    refine Lr.q_pots (n := b) (it_rng1 (ea_cons (ev_var (v := .int (b : Int)) rfl) ea_nil) (by omega) (by omega)) (by omega) (fun i x H2 hi e hv => takes_name (by subst hv; rfl) (el_lst ea_nil (by show 0 ≤ 100000; decide))) fun c H1 hc e1 hPo => ?_
    rw [bins_nil] at hPo
    refine q_forLn (xs := xs) (ev_var (v := .ref a) rfl) (sq_of (e1 _ _ hx)) (fun i σ' H' => ∃ v3 : Option V, σ' = [some (.int (b : Int)), some (.ref a), some (.ref c), v3, none] ∧ Ex H H' ∧ Lr.Pots H H' c (Lm.binsOf b (S.take i)))
      (fun H2 e2 => ⟨none, rfl, e1.trans e2, by
        obtain ⟨as, z1, z2, z3, z4, z5, z6⟩ := hPo
        exact ⟨as, e2 _ _ z1, z2, z3, z4, z5, fun i a r ha hr => e2 _ _ (z6 i a r ha hr)⟩⟩) (fun i σ' H' hi p' => ?_) (fun i x σ' H' hxi p' => ?_) (fun σ' H' p' => ?_)
    · obtain ⟨v3, _, e, _⟩ := p'
      exact sq_of (e _ _ hx)
    · obtain ⟨v3, rfl, e, hPi⟩ := p'
      have hi : i < S.length := by
        have z := (List.getElem?_eq_some_iff.mp hxi).1
        omega
      have hSi : S[i]? = some S[i] := List.getElem?_eq_getElem hi
      have hpr : PairAt H' x S[i] := (each_get hE i x _ hxi hSi).ex (ext_of e)
      have hph := hph S[i] (List.getElem_mem hi)
      have hbi := Lm.bin_in (b := b) (e := S[i]) hph.1 hph.2 hb0
      obtain ⟨j, hj⟩ := Int.eq_ofNat_of_zero_le hbi.1
      have hjb : j < b := by omega
      obtain ⟨a2, z1, z2, ⟨xs2, z3, z4⟩, z5⟩ := hPi.put (Lm.bins_at hjb)
      have hrl := Lm.rowOf_len b j (S.take i)
      have htl : (S.take i).length ≤ S.length := by
        rw [List.length_take]
        omega
      refine s_app (l := a2) z1 (ev_op (ev_var (v := .ref c) rfl) (ev_is (ev_op (ev_op (ev_op (ev_var (v := x) rfl) ev_c (rv_fst hpr)) (ev_var (v := .int (b : Int)) rfl) (rv_I (.inl ⟨by omega, by omega⟩))) ev_c (rv_I ⟨by decide, by decide⟩)) (show V.int (S[i].1 * (b : Int) / 65536) = V.int (j : Int) from by rw [← hj]; rfl)) (rv_ixL (sq_of z3) (atI_nat z4)))
        (ev_op (ev_var (v := x) rfl) ev_c (rv_snd hpr)) (by rw [List.length_map]; omega) fun H2 e2 => ?_
      refine ⟨some x, rfl, Ex.mut (e.trans e2) z2, ?_⟩
      have z6 := z5 H2 S[i].2 e2
      rw [List.take_succ_eq_append_getElem hi, Lm.bins_snoc hj hjb]
      exact z6
    · obtain ⟨v3, rfl, e, hPi⟩ := p'
      rw [hxl, List.take_length] at hPi
      have hc0 : H c = none := by
        obtain ⟨as, _, _, _, _, z, _⟩ := hPi
        exact z
      have hR : RowsI H' c (Lm.binsOf b S) := hPi.rows
      exact s_ret (ev_var (v := .ref c) rfl) fun H2 e2 => q c H2 hc0 (e.trans e2) (hR.ex e2)

/-! ### binned_scatter -/
def sp_binned_scatter (K : PySem.W.Frag) : Sp := fun vs H Q _ => ∃ (b : Nat) (a : Addr) (S : List (Int × Int)), vs = [.int (b : Int), .ref a] ∧ Pairs H a S ∧ S.length ≤ 1100 ∧ 0 < b ∧ b ≤ 64 ∧ (∀ e ∈ S, 0 ≤ e.1 ∧ e.1 < 65536 ∧ -100000 < e.2 ∧ e.2 < 100000) ∧ RetV (.int (Lm.bscI b S)) H Q
theorem sc_binned_scatter : FnScope ["bins", "series", "filled", "magnitudes"] ["bins", "series"] (defScope s_binned_scatter) := ⟨rfl, rfl, rfl, by decide +kernel, rfl, by decide +kernel, by decide +kernel⟩
theorem ok_binned_scatter {f : Addr} {fd : FuncData} (F : Fun K "binned_scatter" "binned_scatter" s_binned_scatter f fd) (ml : mg "len" = none) (ms : mg "sum" = none)
    (c1 : Cal P w K mg base "binned_magnitudes" 1 ["bins", "series"] (sp_binned_magnitudes K)) (c2 : Cal P w K mg base "spread_of" 1 ["values"] (sp_spread_of K)) : FnOk P w K mg base CX0 2 f fd ["bins", "series"] (sp_binned_scatter K) := by
  obtain ⟨f1, fd1, G1, g1, kp1, b1⟩ := c1
  obtain ⟨f2, fd2, G2, g2, kp2, b2⟩ := c2
  refine F.ok sc_binned_scatter (fun vs H Q E h => ?_) (fun cdv A outer s H vs Q E hr h => ?_)
  · obtain ⟨b, a, S, rfl, _⟩ := h
    rfl
  · obtain ⟨b, a, S, rfl, hP, hl, hb0, hb1, hph, q⟩ := h
    have hr1 : Room 1 _ := hr.mono (by decide)
    have nd := sc_binned_scatter.nd
    refine ⟨_, pss_cons (ps_setLc (i := 2) (own := [("magnitudes", 3)]) (g := gName 3) rfl nd rfl rfl (sw_true rfl rfl rfl (by decide +kernel)) (pi_list (pe_call G1 hr1 (by rfl) g1 kp1 b1 .nil pass0 (pa_cons (pv 0) (pa_cons (pv 1) pa_nil))))
          (blkOk_by (own := [("magnitudes", 3)]) (N := ["bins", "series", "filled", "magnitudes"]) (sc := defScope s_binned_scatter) (by decide +kernel))
          (fun _ _ _ _ _ => pg_name (i := 3) nd rfl (Or.inl rfl)) (fun _ _ _ _ _ => pts_one (pt_cmpR op_gt (pe_callB (show CallR _ (.builtin "len") (rLenS K) from call_len_seq) (by rfl) ml PySem.boot_len (pa_cons (pv 3) pa_nil)) pe_int (nomark _))) (fun _ _ _ _ _ => pv 3))
      (pss_one (ps_ret (pe_callB (cr_sum rfl) (by rfl) ms boot_sum (pa_cons (pe_lc (own := [("magnitudes", 3)]) (g := gName 3) (tt := tYes) rfl nd (pi_list (pv 2))
          (blkOk_by (own := [("magnitudes", 3)]) (N := ["bins", "series", "filled", "magnitudes"]) (sc := defScope s_binned_scatter) (by decide +kernel))
          (fun _ _ _ _ _ => pg_name (i := 3) nd rfl (Or.inl rfl)) (fun _ _ _ _ _ => pts_nil)
          (fun _ _ _ _ _ => pe_op op_fdiv (pe_call G2 hr1 (by rfl) g2 kp2 b2 .nil pass0 (pa_cons (pv 3) pa_nil)) (pe_callB (show CallR _ (.builtin "len") (rLenS K) from call_len_seq) (by rfl) ml PySem.boot_len (pa_cons (pv 3) pa_nil)))) pa_nil)))), ?_⟩
    let fl : List (List Int) := (Lm.binsOf b S).filter fun m => decide ((0 : Int) < (m.length : Int))
    have hrow : ∀ k, k < b → (Lm.binsOf b S)[k]? = some (Lm.rowOf b S k) := fun k hk => Lm.bins_at hk
    have hfl : ((List.range b).filter fun k => decide ((0 : Int) < ((Lm.rowOf b S k).length : Int))).map (fun k => (Lm.rowOf b S k).map V.int) = fl.map fun r => r.map V.int := by
      show _ = ((Lm.binsOf b S).filter _).map _
      unfold Lm.binsOf
      rw [List.filter_map, List.map_map]
      rfl
    have hlb := Lm.bins_len b S
    have lenS : ∀ (σ : L2.St) (a : Addr) (r : List Int) (H : Hp), σ[3]? = some (some (.ref a)) → H a = some (.lst (r.map V.int)) → Ev (tCB (rLenS K) (tCons (tVar 3) tNil)) σ H (.int (r.length : Int)) := fun σ a r H h1 h2 => by
      have z := ev_len (K := K) (ta := tVar 3) (σ := σ) (H := H) (ev_var h1) (sq_of h2)
      rw [List.length_map] at z
      exact z
    refine q_asgR (rs := fl.map fun r => r.map V.int) ?_ fun p H1 hp e1 hR => ?_
    · rw [← hfl]
      refine Lr.lc_sel (n := b) (IterV.len (Lr.it_rowsN (K := K) (rows := Lm.binsOf b S) (er_call (rs := (Lm.binsOf b S).map fun r : List Int => r.map V.int) (ea_cons (ev_var (v := .int (b : Int)) rfl) (ea_cons (ev_var (v := .ref a) rfl) ea_nil)) (fun H1 e1 Q1 q1 E1 =>
        ⟨b, a, S, rfl, hP.ex e1, hl, hb0, hb1, fun e he => ⟨(hph e he).1, (hph e he).2.1⟩, q1⟩))) hlb) (by omega) _ _ (fun i hi => ?_) fun i x H2 hi e hx => ?_
      · refine ⟨fun z => ?_, fun y hy b2 => ?_⟩
        · have z2 := congrArg List.length z
          rw [List.length_map, List.length_nil] at z2
          have z3 := of_decide_eq_true hi
          omega
        · obtain ⟨n, _, rfl⟩ := List.mem_map.mp hy
          exact fun z => by cases z
      · obtain ⟨a2, rfl, ha2⟩ := hx _ (hrow i hi)
        refine ⟨⟨a2, rfl, ha2⟩, takes_name rfl ⟨et_test (ev_op (lenS _ a2 _ H2 rfl ha2) ev_c rv_I0), fun _ => ev_var rfl⟩⟩
    · have hRI : RowsI H1 p fl := hR
      have hfll : fl.length ≤ b := by
        have z := List.length_filter_le (fun m : List Int => decide ((0 : Int) < (m.length : Int))) (Lm.binsOf b S)
        rw [hlb] at z
        exact z
      refine s_ret (v := .int (Lm.bscI b S)) (ev_cb1 (lc_m (l := fl) (fun m => V.int (Lm.scOf m)) (it_rows (ev_var (v := .ref p) rfl) hRI) (by omega) ?_) (fun p2 H2 hp2 e2 => rc_sum (ns := fl.map Lm.scOf) ?_)) fun H2 e2 => q H2 (e1.trans e2)
      · intro i r x H2 hi e2 hx
        obtain ⟨c, rfl, hc⟩ := hx r hi H2 e2
        have hm := List.mem_filter.mp (List.mem_of_getElem? hi)
        have hpos : (0 : Int) < (r.length : Int) := of_decide_eq_true hm.2
        obtain ⟨k, hk, rfl⟩ := List.mem_map.mp (show r ∈ (List.range b).map (Lm.rowOf b S) from hm.1)
        have hrl := Lm.rowOf_len b k S
        refine takes_name rfl (ev_op (ev_call (z := .int (Lm.spread (Lm.rowOf b S k))) (ea_cons (ev_var (v := .ref c) rfl) ea_nil) (fun H3 e3 Q1 q1 E1 => ⟨c, _, rfl, sq_of (e3 _ _ hc), by omega, fun y hy => ?_, q1⟩)) (lenS _ c _ H2 rfl hc) (rv_I ⟨hpos, by omega⟩))
        obtain ⟨e, he, rfl⟩ := Lm.row_mem_of hy
        exact ⟨(hph e he).2.2.1, (hph e he).2.2.2⟩
      · rw [List.map_map]
        exact sq_of hp2

/-! ### trial_value -/
def sp_trial_value (K : PySem.W.Frag) : Sp := fun vs H Q _ => ∃ (c : Int) (b : Nat) (a : Addr) (S : List (Int × Int)), vs = [.int c, .int (b : Int), .ref a] ∧ Pairs H a S ∧ S.length ≤ 1100 ∧ 0 < b ∧ b ≤ 64 ∧ (∀ e ∈ S, 0 ≤ e.1 ∧ e.1 < 65536 ∧ -100000 < e.2 ∧ e.2 < 100000) ∧ RetV (.int (Lm.valI c b S)) H Q
theorem sc_trial_value : FnScope ["criterion", "bins", "series"] ["criterion", "bins", "series"] (defScope s_trial_value) := ⟨rfl, rfl, rfl, by decide +kernel, rfl, by decide +kernel, by decide +kernel⟩
theorem ok_trial_value {f : Addr} {fd : FuncData} (F : Fun K "trial_value" "trial_value" s_trial_value f fd) (c1 : Cal P w K mg base "string_length" 1 ["series"] (sp_string_length K)) (c2 : Cal P w K mg base "binned_scatter" 2 ["bins", "series"] (sp_binned_scatter K)) :
    FnOk P w K mg base CX0 3 f fd ["criterion", "bins", "series"] (sp_trial_value K) := by
  obtain ⟨f1, fd1, G1, g1, kp1, b1⟩ := c1
  obtain ⟨f2, fd2, G2, g2, kp2, b2⟩ := c2
  refine F.ok sc_trial_value (fun vs H Q E h => ?_) (fun cdv A outer s H vs Q E hr h => ?_)
  · obtain ⟨c, b, a, S, rfl, _⟩ := h
    rfl
  · obtain ⟨c, b, a, S, rfl, hP, hl, hb0, hb1, hph, q⟩ := h
    have hr1 : Room 1 _ := hr.mono (by decide)
    have hr2 : Room 2 _ := hr.mono (by decide)
    refine ⟨_, pss_cons (ps_if (pt_cmpR op_eq (pv 0) pe_int (nomark _)) (pss_one (ps_ret (pe_call G1 hr1 (by rfl) g1 kp1 b1 .nil pass0 (pa_cons (pv 2) pa_nil)))) pss_nil)
      (pss_one (ps_ret (pe_call G2 hr2 (by rfl) g2 kp2 b2 .nil pass0 (pa_cons (pv 1) (pa_cons (pv 2) pa_nil))))), ?_⟩
    refine q_when (et_test (ev_op (ev_var (v := .int c) rfl) ev_c (rv_eq rfl))) (fun hb H1 e1 => ?_) (fun hb H1 e1 => ?_)
    · have hz : c = 0 := V.int.inj (of_decide_eq_true hb)
      refine s_ret (v := .int (Lm.valI c b S)) (ev_call (ea_cons (ev_var (v := .ref a) rfl) ea_nil) (fun H2 e2 Q1 q1 E1 => ⟨a, S, rfl, hP.ex (e1.trans e2), hl, fun H3 e3 => ?_⟩)) fun H2 e2 => q H2 (e1.trans e2)
      have z := q1 H3 e3
      unfold Lm.valI at z
      rw [if_pos hz] at z
      exact z
    · have hz : ¬ c = 0 := fun z => of_decide_eq_false hb (congrArg V.int z)
      refine s_ret (v := .int (Lm.valI c b S)) (ev_call (ea_cons (ev_var (v := .int (b : Int)) rfl) (ea_cons (ev_var (v := .ref a) rfl) ea_nil)) (fun H2 e2 Q1 q1 E1 => ⟨b, a, S, rfl, hP.ex (e1.trans e2), hl, hb0, hb1, hph, fun H3 e3 => ?_⟩)) fun H2 e2 => q H2 (e1.trans e2)
      have z := q1 H3 e3
      unfold Lm.valI at z
      rw [if_neg hz] at z
      exact z

/-! ### search_periods -/
def sp_search_periods (K : PySem.W.Frag) (Tb : Addr) : Sp := fun vs H Q _ => ∃ (c b f s t : Int) (a d : Addr) (ts ns : List Int), vs = [.int c, .int b, .int f, .int s, .int t, .ref a, .ref d] ∧ SqL K H a (ts.map V.int) ∧ SqL K H d (ns.map V.int) ∧ ts.length ≤ 1100 ∧ ns.length ≤ 1100 ∧ 0 ≤ s ∧ H Tb = some (.tbl #[]) ∧
  ∀ q H2, H2 q = some (.lst ((Lm.ansSearch c b f s t ts ns).map V.int)) → Q (.ref q) H2
theorem sc_search_periods : FnScope ["criterion", "bins", "first", "step", "trials", "times", "magnitudes", "code", "values", "trial", "series"] ["criterion", "bins", "first", "step", "trials", "times", "magnitudes"] (defScope s_search_periods) := ⟨rfl, rfl, rfl, by decide +kernel, rfl, by decide +kernel, by decide +kernel⟩
theorem ok_search_periods {f Tb : Addr} {fd : FuncData} (F : Fun K "search_periods" "search_periods" s_search_periods f fd) (mr : mg "range" = none) (mm : mg "min" = none) (c1 : Cal P w K mg base "bins_allowed" 1 ["bins"] sp_bins_allowed) (c2 : Cal P w K mg base "trials_allowed" 2 ["first", "step", "trials"] sp_trials_allowed)
    (c3 : Cal P w K mg base "series_refusal" 3 ["times", "magnitudes"] (sp_series_refusal K)) (c4 : Cal P w K mg base "folded_series" 2 ["period", "times", "magnitudes"] (sp_folded_series K Tb)) (c5 : Cal P w K mg base "trial_value" 3 ["criterion", "bins", "series"] (sp_trial_value K)) :
    FnOk P w K mg base CX0 4 f fd ["criterion", "bins", "first", "step", "trials", "times", "magnitudes"] (sp_search_periods K Tb) := by
  obtain ⟨f1, fd1, G1, g1, kp1, b1⟩ := c1
  obtain ⟨f2, fd2, G2, g2, kp2, b2⟩ := c2
  obtain ⟨f3, fd3, G3, g3, kp3, b3⟩ := c3
  obtain ⟨f4, fd4, G4, g4, kp4, b4⟩ := c4
  obtain ⟨f5, fd5, G5, g5, kp5, b5⟩ := c5
  refine F.ok sc_search_periods (fun vs H Q E h => ?_) (fun cdv A outer s H vs Q E hr h => ?_)
  · obtain ⟨c, b, g, s, t, a, d, ts, ns, rfl, _⟩ := h
    rfl
  · obtain ⟨c, b, g, s2, t, a, d, ts, ns, rfl, hA, hB, hl1, hl2, hs0, hT, q⟩ := h
    have hr1 : Room 1 _ := hr.mono (by decide)
    have hr2 : Room 2 _ := hr.mono (by decide)
    have hr3 : Room 3 _ := hr.mono (by decide)
    have hu : (A.deeper (envOfC "search_periods" (defScope s_search_periods) s.heap.objs.size f cdv)).units + 65 < cLine := by
      have z := hr1.un
      omega
    have nd := sc_search_periods.nd
    refine ⟨_, pss_cons (ps_if (PW.pt (pw_or (pt_cmpR op_gt (pv 0) pe_int (nomark _)) (pw_or (pt_not (pt_val (pe_call G1 hr1 (by rfl) g1 kp1 b1 .nil pass0 (pa_cons (pv 1) pa_nil)))) (pw_or1 (pt_not (pt_val (pe_call G2 hr2 (by rfl) g2 kp2 b2 .nil pass0 (pa_cons (pv 2) (pa_cons (pv 3) (pa_cons (pv 4) pa_nil)))))))))) (pss_one (ps_ret (pe_lst (pa_cons (pe_un un_neg pe_int) pa_nil)))) pss_nil)
      (pss_cons (ps_set (i := 7) nd rfl (.inl rfl) (pe_call G3 hr3 (by rfl) g3 kp3 b3 .nil pass0 (pa_cons (pv 5) (pa_cons (pv 6) pa_nil))))
      (pss_cons (ps_if (pt_cmpR op_ne (pv 7) pe_int (nomark _)) (pss_one (ps_ret (pe_lst (pa_cons (pv 7) pa_nil)))) pss_nil)
      (pss_cons (ps_set (i := 8) nd rfl (.inl rfl) (pe_lst pa_nil))
      (pss_cons (ps_for PassesOwn.never rfl (pi_range1 (by rfl) mr (pa_cons (pv 4) pa_nil)) (pg_name (i := 9) nd rfl (Or.inl rfl))
        (pss_cons (ps_set (i := 10) nd rfl (.inl rfl) (pe_call G4 hr2 (by rfl) g4 kp4 b4 .nil pass0 (pa_cons (pe_op op_add (pv 2) (pe_op op_mul (pv 3) (pv 9))) (pa_cons (pv 5) (pa_cons (pv 6) pa_nil)))))
        (pss_one (ps_expr (pe_bm PySem.F.plainAttrs_list PySem.F.slot_list_append PySem.F.type_list_append mt_append (pv 8) (pa_cons (pe_call G5 hr3 (by rfl) g5 kp5 b5 .nil pass0 (pa_cons (pv 0) (pa_cons (pv 1) (pa_cons (pv 10) pa_nil)))) pa_nil))))))
      (pss_one (ps_ret (pe_op op_cat (pe_lst (pa_cons (pe_bm PySem.F.plainAttrs_list PySem.F.slot_list_index PySem.F.type_list_index (mt_indexD hu) (pv 8) (pa_cons (pe_callB (cr_min rfl) (by rfl) mm (by decide +kernel) (pa_cons (pv 8) pa_nil)) pa_nil)) pa_nil)) (pv 8)))))))), ?_⟩
    refine q_when (et_or (et_test (ev_op (ev_var (v := .int c) rfl) ev_c rv_I0)) (fun _ => et_or (et_not (et_B (ev_call (z := .bl (Lm.binOk b)) (ea_cons (ev_var (v := .int b) rfl) ea_nil) (fun H1 e1 Q1 q1 E1 => ⟨b, rfl, q1⟩))))
      (fun _ => et_not (et_B (ev_call (z := .bl (Lm.trOk g s2 t)) (ea_cons (ev_var (v := .int g) rfl) (ea_cons (ev_var (v := .int s2) rfl) (ea_cons (ev_var (v := .int t) rfl) ea_nil))) (fun H1 e1 Q1 q1 E1 => ⟨g, s2, t, rfl, q1⟩)))))) (fun hb H1 e1 => ?_) (fun hb H1 e1 => ?_)
    · have hw : Lm.serOk c b g s2 t = false := by
        unfold Lm.serOk
        have hb2 : (decide (1 < c) || (!Lm.binOk b || !Lm.trOk g s2 t)) = true := hb
        rw [hb2]
        rfl
      refine s_retL (el_lst (ea_cons (ev_un ev_c ru_neg) ea_nil) (by show 1 ≤ 100000; decide)) fun l H3 hp e3 h3 => q l H3 ?_
      rw [h3]
      unfold Lm.ansSearch
      rw [if_pos hw]
      rfl
    have hb2 : (decide (1 < c) || (!Lm.binOk b || !Lm.trOk g s2 t)) = false := hb
    have hw : Lm.serOk c b g s2 t = true := by
      unfold Lm.serOk
      rw [hb2]
      rfl
    have hans : Lm.ansSearch c b g s2 t ts ns = if Lm.serRef ts.length ns = 0 then (Lm.bestIx (Lm.valsOf c b.toNat g s2 t.toNat ts ns) : Int) :: Lm.valsOf c b.toNat g s2 t.toNat ts ns else [Lm.serRef ts.length ns] := by
      unfold Lm.ansSearch
      rw [if_neg (by rw [hw]; decide)]
    have hrng : (1 ≤ b ∧ b ≤ 64) ∧ (1 ≤ g ∧ g ≤ 16777216) ∧ s2 ≤ 65536 ∧ 1 ≤ t ∧ t ≤ 64 := by
      rw [Bool.or_eq_false_iff, Bool.or_eq_false_iff, Bool.not_eq_false', Bool.not_eq_false'] at hb2
      obtain ⟨_, z1, z2⟩ := hb2
      unfold Lm.binOk at z1
      unfold Lm.trOk Lm.perOk at z2
      simp only [Bool.and_eq_true, decide_eq_true_eq] at z1 z2
      exact ⟨z1, z2.1, z2.2.1, z2.2.2⟩
    refine q_asg (ev_call (z := .int (Lm.serRef ts.length ns)) (ea_cons (ev_var (v := .ref a) rfl) (ea_cons (ev_var (v := .ref d) rfl) ea_nil)) (fun H2 e2 Q1 q1 E1 => ⟨a, d, ts, ns, rfl, ex_l (e1.trans e2) hA, ex_l (e1.trans e2) hB, by omega, q1⟩)) fun H2 e2 => ?_
    refine q_when (et_test (ev_op (ev_var (v := .int (Lm.serRef ts.length ns)) rfl) ev_c (rv_ne rfl))) (fun hb3 H3 e3 => ?_) (fun hb3 H3 e3 => ?_)
    · have hne : Lm.serRef ts.length ns ≠ 0 := by
        intro z
        rw [z] at hb3
        exact absurd hb3 (by decide)
      refine s_retL (el_lst (ea_cons (ev_var (v := .int (Lm.serRef ts.length ns)) rfl) ea_nil) (by show 1 ≤ 100000; decide)) fun l H4 hp e4 h4 => q l H4 ?_
      rw [h4, hans, if_neg hne]
      rfl
    have hz : Lm.serRef ts.length ns = 0 := by
      have hb : (!decide (V.int (Lm.serRef ts.length ns) = V.int 0)) = false := hb3
      rw [Bool.not_eq_false', decide_eq_true_iff] at hb
      exact V.int.inj hb
    rw [if_pos hz] at hans
    have hm := (Lm.serRef_zero hz).2
    obtain ⟨bn, rfl⟩ := Int.eq_ofNat_of_zero_le (show 0 ≤ b by omega)
    obtain ⟨tn, rfl⟩ := Int.eq_ofNat_of_zero_le (show 0 ≤ t by omega)
    rw [Int.toNat_natCast, Int.toNat_natCast] at hans
    have e13 := (e1.trans e2).trans e3
    refine q_asgL (el_lst ea_nil (by show 0 ≤ 100000; decide)) fun l H4 hl4 e4 h4 => ?_
    have e14 := e13.trans e4
    let vv : Nat → Int := fun i => Lm.valI c bn (Lm.serOf (g + s2 * (i : Int)) ts ns)
    refine q_forR1 (n := (tn : Int)) (ea_cons (ev_var (v := .int (tn : Int)) rfl) ea_nil) (by omega) (fun i σ' H' => ∃ v9 v10 : Option V, σ' = [some (.int c), some (.int (bn : Int)), some (.int g), some (.int s2), some (.int (tn : Int)), some (.ref a), some (.ref d), some (.int (Lm.serRef ts.length ns)), some (.ref l), v9, v10] ∧
        LamX.ExtN H H' ∧ LamX.Tabs (lamT Tb) H' ∧ H' l = some (.lst (((List.range i).map vv).map V.int)))
      (fun H5 e5 => ⟨none, none, rfl, ext_of (e14.trans e5), (lamT_nil hT).ext (e14.trans e5), e5 _ _ h4⟩) (fun i σ' H' hi p' => ?_) (fun σ' H' p' => ?_)
    · obtain ⟨v9, v10, rfl, eN, T5, hL⟩ := p'
      have hmul : 0 ≤ s2 * (i : Int) := Int.mul_nonneg hs0 (by omega)
      have hmul2 : s2 * (i : Int) ≤ 65536 * 64 := Int.mul_le_mul (by omega) (by omega) (by omega) (by omega)
      have sqN : ∀ {x : Addr} {xs : List V} {H1 H2 : Hp}, LamX.ExtN H1 H2 → SqL K H1 x xs → SqL K H2 x xs := fun {x xs H1 H2} k h => by
        rcases h with h | h
        · rcases h with h | ⟨o, h⟩
          · exact .inl (.inl (k _ _ h fun ps z => by cases z))
          · exact .inl (.inr ⟨o, k _ _ h fun ps z => by cases z⟩)
        · exact .inr h
      refine q_asgF (ea_cons (ev_op (ev_var (v := .int g) rfl) (ev_op (ev_var (v := .int s2) rfl) (ev_var (v := .int (i : Int)) rfl) (rv_I (.inl ⟨by omega, by omega⟩))) rv_I0) (ea_cons (ev_var (v := .ref a) rfl) (ea_cons (ev_var (v := .ref d) rfl) ea_nil))) fun H6 e6 => ?_
      have eN6 := eN.trans (ext_of e6)
      refine ⟨g + s2 * (i : Int), a, d, ts, ns, rfl, sqN eN6 hA, sqN eN6 hB, by omega, by omega, by omega, by omega, T5.ext e6, fun r H7 eN7 T7 hP => ?_⟩
      have hL7 : H7 l = some (.lst (((List.range i).map vv).map V.int)) := eN7 _ _ (e6 _ _ hL) fun ps z => by cases z
      have hsl := Lm.ser_len (g + s2 * (i : Int)) ts ns
      refine s_app (v := .int (vv i)) hL7 (ev_var (v := .ref l) rfl) (ev_call (z := .int (vv i)) (ea_cons (ev_var (v := .int c) rfl) (ea_cons (ev_var (v := .int (bn : Int)) rfl) (ea_cons (ev_var (v := .ref r) rfl) ea_nil))) (fun H8 e8 Q1 q1 E1 =>
        ⟨c, bn, r, _, rfl, hP.ex e8, by omega, by omega, by omega, fun e he => Lm.ser_in (by omega) hm he, q1⟩)) (by rw [List.length_map, List.length_map, List.length_range]; omega) fun H8 e8 => ?_
      have hl0 : ∀ H9 : Hp, LamX.ExtN H7 H9 → LamX.ExtN H (upd H9 l (.lst (((List.range i).map vv).map V.int ++ [.int (vv i)]))) := fun H9 k x o h1 h2 => by
        have hne : x ≠ l := by
          rintro rfl
          have z := fresh_back e13 hl4
          rw [h1] at z
          cases z
        rw [upd_ne hne]
        exact k _ _ (eN7 _ _ (eN6 _ _ h1 h2) h2) h2
      refine ⟨_, _, rfl, hl0 H8 (ext_of e8), ?_, ?_⟩
      · have T8 := T7.ext e8
        intro z hz2
        obtain ⟨ps, k1, k2, k3⟩ := T8 z hz2
        have hzl : z.1 ≠ l := by
          intro w
          rw [w, e8 _ _ hL7] at k1
          cases k1
        refine ⟨ps, by rw [upd_ne hzl]; exact k1, k2, fun pos cv hcv => ?_⟩
        obtain ⟨c0, w1, w2⟩ := k3 pos cv hcv
        have hcl : c0 ≠ l := by
          intro w
          rw [w, e8 _ _ hL7] at w2
          have w3 := Option.some.inj w2
          unfold LamX.CodeO at w3
          cases w3
        exact ⟨c0, w1, by rw [upd_ne hcl]; exact w2⟩
      · rw [upd_same, List.range_succ, List.map_append, List.map_append]
        rfl
    · obtain ⟨v9, v10, rfl, eN, T5, hL⟩ := p'
      rw [Int.toNat_natCast] at hL
      have hvs : (List.range tn).map vv = Lm.valsOf c bn g s2 tn ts ns := rfl
      rw [hvs] at hL
      have hvl : (Lm.valsOf c bn g s2 tn ts ns).length = tn := by
        unfold Lm.valsOf
        rw [List.length_map, List.length_range]
      have hv0 : ∀ x ∈ Lm.valsOf c bn g s2 tn ts ns, 0 ≤ x := fun x hx => by
        obtain ⟨i, _, rfl⟩ := List.mem_map.mp hx
        exact Lm.val_nonneg ..
      obtain ⟨hbi, hbest⟩ := Lm.best_is hv0 (by omega)
      generalize Lm.valsOf c bn g s2 tn ts ns = vs at *
      generalize Lm.bestIx vs = j at *
      have hat : ∀ i, i < vs.length → vs[i]? = some (vs.getD i 0) := fun i hi => by
        rw [List.getD_eq_getElem?_getD, List.getElem?_eq_getElem hi]
        rfl
      refine s_retL (el_catV (el_lst (ea_cons (Lr.ev_index (m := vs.getD j 0) (j := j) hL (ev_var (v := .ref l) rfl) (ev_cb (ea_cons (ev_var (v := .ref l) rfl) ea_nil) (Lr.rc_min (sq_of hL) (List.mem_of_getElem? (hat j hbi)) (fun y hy => ?_))) (hat j hbi) (fun i z hi hz2 => ?_)) ea_nil) (by show 1 ≤ 100000; decide)) (ev_var (v := .ref l) rfl) hL ?_) fun p2 H7 hp2 e7 h7 => q p2 H7 ?_
      · obtain ⟨i, hi, rfl⟩ := List.mem_iff_getElem.mp hy
        have z := (hbest i hi).1
        rw [List.getD_eq_getElem?_getD (i := i), List.getElem?_eq_getElem hi] at z
        exact z
      · have hil : i < vs.length := by omega
        have z2 := (hbest i hil).2 hi
        rw [hat i hil] at hz2
        have z3 := Option.some.inj hz2
        omega
      · show 1 + _ ≤ _
        rw [List.length_map]
        omega
      · rw [h7, hans]
        rfl

end
theorem all_mk {P : Program} {w : World} {K : PySem.W.Frag} {h : Heap} {mg : Str → Option Value} {fa f0 f1 f2 f3 f4 f5 f6 f7 f8 f9 f10 f11 f12 f13 : Addr} (X : K.In h) (G : h.Ns mainGlobals mg) (hfa : mg "search_periods" = some (.ref fa))
    {od0 an0 od1 an1 od2 an2 od3 an3 od4 an4 od5 an5 od6 an6 od7 an7 od8 an8 od9 an9 od10 an10 od11 an11 od12 an12 od13 an13 : Option Addr} {sl0 sl1 sl2 sl3 sl4 sl5 sl6 sl7 sl8 sl9 sl10 sl11 sl12 sl13 : Array (Option Value)} {oc0 kV0 dc0 pm0 cd0 ct0 oc1 kV1 dc1 pm1 cd1 ct1 oc2 kV2 dc2 pm2 cd2 ct2 oc3 kV3 dc3 pm3 cd3 ct3 oc4 kV4 dc4 pm4 cd4 ct4 oc5 kV5 dc5 pm5 cd5 ct5 oc6 kV6 dc6 pm6 cd6 ct6 oc7 kV7 dc7 pm7 cd7 ct7 oc8 kV8 dc8 pm8 cd8 ct8 oc9 kV9 dc9 pm9 cd9 ct9 oc10 kV10 dc10 pm10 cd10 ct10 oc11 kV11 dc11 pm11 cd11 ct11 oc12 kV12 dc12 pm12 cd12 ct12 oc13 kV13 dc13 pm13 cd13 ct13 : Value} {t_GREATEST_PERIOD t_GREATEST_STEP t_MAGNITUDE_BOUND t_MOST_BINS t_MOST_TIMES t_MOST_TRIALS t_PHASES : Tok}
    (a0 : PySem.W.nsIn K mainGlobals "to_signed" = some (some (.ref f0))) (l0 : K.lookup f0 = some ⟨oc0, od0, .func (PySem.W.fnOf "to_signed" "to_signed" (defArgs s_to_signed) (defBody s_to_signed) (defScope s_to_signed) .none kV0 dc0 pm0 an0 cd0 ct0), sl0⟩) (c0 : PySem.W.codeIn K cd0 "to_signed" = true) (k0 : PySem.W.keepIn K (.ref f0) = true)
    (a1 : PySem.W.nsIn K mainGlobals "magnitudes_allowed" = some (some (.ref f1))) (l1 : K.lookup f1 = some ⟨oc1, od1, .func (PySem.W.fnOf "magnitudes_allowed" "magnitudes_allowed" (defArgs s_magnitudes_allowed) (defBody s_magnitudes_allowed) (defScope s_magnitudes_allowed) .none kV1 dc1 pm1 an1 cd1 ct1), sl1⟩) (c1 : PySem.W.codeIn K cd1 "magnitudes_allowed" = true) (k1 : PySem.W.keepIn K (.ref f1) = true)
    (a2 : PySem.W.nsIn K mainGlobals "period_allowed" = some (some (.ref f2))) (l2 : K.lookup f2 = some ⟨oc2, od2, .func (PySem.W.fnOf "period_allowed" "period_allowed" (defArgs s_period_allowed) (defBody s_period_allowed) (defScope s_period_allowed) .none kV2 dc2 pm2 an2 cd2 ct2), sl2⟩) (c2 : PySem.W.codeIn K cd2 "period_allowed" = true) (k2 : PySem.W.keepIn K (.ref f2) = true)
    (a3 : PySem.W.nsIn K mainGlobals "bins_allowed" = some (some (.ref f3))) (l3 : K.lookup f3 = some ⟨oc3, od3, .func (PySem.W.fnOf "bins_allowed" "bins_allowed" (defArgs s_bins_allowed) (defBody s_bins_allowed) (defScope s_bins_allowed) .none kV3 dc3 pm3 an3 cd3 ct3), sl3⟩) (c3 : PySem.W.codeIn K cd3 "bins_allowed" = true) (k3 : PySem.W.keepIn K (.ref f3) = true)
    (a4 : PySem.W.nsIn K mainGlobals "trials_allowed" = some (some (.ref f4))) (l4 : K.lookup f4 = some ⟨oc4, od4, .func (PySem.W.fnOf "trials_allowed" "trials_allowed" (defArgs s_trials_allowed) (defBody s_trials_allowed) (defScope s_trials_allowed) .none kV4 dc4 pm4 an4 cd4 ct4), sl4⟩) (c4 : PySem.W.codeIn K cd4 "trials_allowed" = true) (k4 : PySem.W.keepIn K (.ref f4) = true)
    (a5 : PySem.W.nsIn K mainGlobals "series_refusal" = some (some (.ref f5))) (l5 : K.lookup f5 = some ⟨oc5, od5, .func (PySem.W.fnOf "series_refusal" "series_refusal" (defArgs s_series_refusal) (defBody s_series_refusal) (defScope s_series_refusal) .none kV5 dc5 pm5 an5 cd5 ct5), sl5⟩) (c5 : PySem.W.codeIn K cd5 "series_refusal" = true) (k5 : PySem.W.keepIn K (.ref f5) = true)
    (a6 : PySem.W.nsIn K mainGlobals "spread_of" = some (some (.ref f6))) (l6 : K.lookup f6 = some ⟨oc6, od6, .func (PySem.W.fnOf "spread_of" "spread_of" (defArgs s_spread_of) (defBody s_spread_of) (defScope s_spread_of) .none kV6 dc6 pm6 an6 cd6 ct6), sl6⟩) (c6 : PySem.W.codeIn K cd6 "spread_of" = true) (k6 : PySem.W.keepIn K (.ref f6) = true)
    (a7 : PySem.W.nsIn K mainGlobals "time_phase" = some (some (.ref f7))) (l7 : K.lookup f7 = some ⟨oc7, od7, .func (PySem.W.fnOf "time_phase" "time_phase" (defArgs s_time_phase) (defBody s_time_phase) (defScope s_time_phase) .none kV7 dc7 pm7 an7 cd7 ct7), sl7⟩) (c7 : PySem.W.codeIn K cd7 "time_phase" = true) (k7 : PySem.W.keepIn K (.ref f7) = true)
    (a8 : PySem.W.nsIn K mainGlobals "folded_series" = some (some (.ref f8))) (l8 : K.lookup f8 = some ⟨oc8, od8, .func (PySem.W.fnOf "folded_series" "folded_series" (defArgs s_folded_series) (defBody s_folded_series) (defScope s_folded_series) .none kV8 dc8 pm8 an8 cd8 ct8), sl8⟩) (c8 : PySem.W.codeIn K cd8 "folded_series" = true) (k8 : PySem.W.keepIn K (.ref f8) = true)
    (a9 : PySem.W.nsIn K mainGlobals "string_length" = some (some (.ref f9))) (l9 : K.lookup f9 = some ⟨oc9, od9, .func (PySem.W.fnOf "string_length" "string_length" (defArgs s_string_length) (defBody s_string_length) (defScope s_string_length) .none kV9 dc9 pm9 an9 cd9 ct9), sl9⟩) (c9 : PySem.W.codeIn K cd9 "string_length" = true) (k9 : PySem.W.keepIn K (.ref f9) = true)
    (a10 : PySem.W.nsIn K mainGlobals "binned_magnitudes" = some (some (.ref f10))) (l10 : K.lookup f10 = some ⟨oc10, od10, .func (PySem.W.fnOf "binned_magnitudes" "binned_magnitudes" (defArgs s_binned_magnitudes) (defBody s_binned_magnitudes) (defScope s_binned_magnitudes) .none kV10 dc10 pm10 an10 cd10 ct10), sl10⟩) (c10 : PySem.W.codeIn K cd10 "binned_magnitudes" = true) (k10 : PySem.W.keepIn K (.ref f10) = true)
    (a11 : PySem.W.nsIn K mainGlobals "binned_scatter" = some (some (.ref f11))) (l11 : K.lookup f11 = some ⟨oc11, od11, .func (PySem.W.fnOf "binned_scatter" "binned_scatter" (defArgs s_binned_scatter) (defBody s_binned_scatter) (defScope s_binned_scatter) .none kV11 dc11 pm11 an11 cd11 ct11), sl11⟩) (c11 : PySem.W.codeIn K cd11 "binned_scatter" = true) (k11 : PySem.W.keepIn K (.ref f11) = true)
    (a12 : PySem.W.nsIn K mainGlobals "trial_value" = some (some (.ref f12))) (l12 : K.lookup f12 = some ⟨oc12, od12, .func (PySem.W.fnOf "trial_value" "trial_value" (defArgs s_trial_value) (defBody s_trial_value) (defScope s_trial_value) .none kV12 dc12 pm12 an12 cd12 ct12), sl12⟩) (c12 : PySem.W.codeIn K cd12 "trial_value" = true) (k12 : PySem.W.keepIn K (.ref f12) = true)
    (a13 : PySem.W.nsIn K mainGlobals "search_periods" = some (some (.ref f13))) (l13 : K.lookup f13 = some ⟨oc13, od13, .func (PySem.W.fnOf "search_periods" "search_periods" (defArgs s_search_periods) (defBody s_search_periods) (defScope s_search_periods) .none kV13 dc13 pm13 an13 cd13 ct13), sl13⟩) (c13 : PySem.W.codeIn K cd13 "search_periods" = true) (k13 : PySem.W.keepIn K (.ref f13) = true)
    (v_GREATEST_PERIOD : PySem.W.nsIn K mainGlobals "GREATEST_PERIOD" = some (some (.int 16777216 t_GREATEST_PERIOD)))
    (v_GREATEST_STEP : PySem.W.nsIn K mainGlobals "GREATEST_STEP" = some (some (.int 65536 t_GREATEST_STEP)))
    (v_MAGNITUDE_BOUND : PySem.W.nsIn K mainGlobals "MAGNITUDE_BOUND" = some (some (.int 100000 t_MAGNITUDE_BOUND)))
    (v_MOST_BINS : PySem.W.nsIn K mainGlobals "MOST_BINS" = some (some (.int 64 t_MOST_BINS)))
    (v_MOST_TIMES : PySem.W.nsIn K mainGlobals "MOST_TIMES" = some (some (.int 1024 t_MOST_TIMES)))
    (v_MOST_TRIALS : PySem.W.nsIn K mainGlobals "MOST_TRIALS" = some (some (.int 64 t_MOST_TRIALS)))
    (v_PHASES : PySem.W.nsIn K mainGlobals "PHASES" = some (some (.int 65536 t_PHASES)))
    (z_abs : PySem.W.nsIn K mainGlobals "abs" = some none)
    (z_all : PySem.W.nsIn K mainGlobals "all" = some none)
    (z_len : PySem.W.nsIn K mainGlobals "len" = some none)
    (z_min : PySem.W.nsIn K mainGlobals "min" = some none)
    (z_range : PySem.W.nsIn K mainGlobals "range" = some none)
    (z_sorted : PySem.W.nsIn K mainGlobals "sorted" = some none)
    (z_sum : PySem.W.nsIn K mainGlobals "sum" = some none)
    (z_zip : PySem.W.nsIn K mainGlobals "zip" = some none)
    {c Tb : Addr} {t_oc : Value} {t_od : Option Addr} {t_vs : Array Value} {t_sl : Array (Option Value)}
    (t1 : cd8 = .ref c) (t2 : K.lookup c = some ⟨t_oc, t_od, .fields t_vs, t_sl⟩) (t3 : t_vs[11]? = some (.ref Tb)) (t4 : PySem.W.tabIn K "folded_series" = some (c, Tb)) (t5 : K.lookup Tb = none)
    : ∃ (c Tb : Addr) (fd : FuncData), PySem.W.tabIn K "folded_series" = some (c, Tb) ∧ K.lookup Tb = none ∧ (∀ (s : Shared) (us : List Value), us.length = (["criterion", "bins", "first", "step", "trials", "times", "magnitudes"] : List Str).length → BindsTo s fd ⟨us, []⟩ ((["criterion", "bins", "first", "step", "trials", "times", "magnitudes"] : List Str).zip us)) ∧ ∀ base : Heap, K.In base → base.Ns mainGlobals mg → LamX.TabB base mg c Tb → FnOk P w K mg base CX0 4 fa fd ["criterion", "bins", "first", "step", "trials", "times", "magnitudes"] (sp_search_periods K Tb) := by
  have e := hfa.symm.trans (PySem.W.mg_of X G a13)
  cases e
  have F0 := fun_mk (st := s_to_signed) l0 c0 k0
  have b0 := F0.binds (ps := ["number"]) fun _ _ _ _ _ _ us hl => match us, hl with | [_], _ => rfl
  have F1 := fun_mk (st := s_magnitudes_allowed) l1 c1 k1
  have b1 := F1.binds (ps := ["magnitudes"]) fun _ _ _ _ _ _ us hl => match us, hl with | [_], _ => rfl
  have F2 := fun_mk (st := s_period_allowed) l2 c2 k2
  have b2 := F2.binds (ps := ["period"]) fun _ _ _ _ _ _ us hl => match us, hl with | [_], _ => rfl
  have F3 := fun_mk (st := s_bins_allowed) l3 c3 k3
  have b3 := F3.binds (ps := ["bins"]) fun _ _ _ _ _ _ us hl => match us, hl with | [_], _ => rfl
  have F4 := fun_mk (st := s_trials_allowed) l4 c4 k4
  have b4 := F4.binds (ps := ["first", "step", "trials"]) fun _ _ _ _ _ _ us hl => match us, hl with | [_, _, _], _ => rfl
  have F5 := fun_mk (st := s_series_refusal) l5 c5 k5
  have b5 := F5.binds (ps := ["times", "magnitudes"]) fun _ _ _ _ _ _ us hl => match us, hl with | [_, _], _ => rfl
  have F6 := fun_mk (st := s_spread_of) l6 c6 k6
  have b6 := F6.binds (ps := ["values"]) fun _ _ _ _ _ _ us hl => match us, hl with | [_], _ => rfl
  have F7 := fun_mk (st := s_time_phase) l7 c7 k7
  have b7 := F7.binds (ps := ["period", "time"]) fun _ _ _ _ _ _ us hl => match us, hl with | [_, _], _ => rfl
  have F8 := fun_mk (st := s_folded_series) l8 c8 k8
  have b8 := F8.binds (ps := ["period", "times", "magnitudes"]) fun _ _ _ _ _ _ us hl => match us, hl with | [_, _, _], _ => rfl
  have F9 := fun_mk (st := s_string_length) l9 c9 k9
  have b9 := F9.binds (ps := ["series"]) fun _ _ _ _ _ _ us hl => match us, hl with | [_], _ => rfl
  have F10 := fun_mk (st := s_binned_magnitudes) l10 c10 k10
  have b10 := F10.binds (ps := ["bins", "series"]) fun _ _ _ _ _ _ us hl => match us, hl with | [_, _], _ => rfl
  have F11 := fun_mk (st := s_binned_scatter) l11 c11 k11
  have b11 := F11.binds (ps := ["bins", "series"]) fun _ _ _ _ _ _ us hl => match us, hl with | [_, _], _ => rfl
  have F12 := fun_mk (st := s_trial_value) l12 c12 k12
  have b12 := F12.binds (ps := ["criterion", "bins", "series"]) fun _ _ _ _ _ _ us hl => match us, hl with | [_, _, _], _ => rfl
  have F13 := fun_mk (st := s_search_periods) l13 c13 k13
  refine ⟨c, Tb, PySem.W.fnOf "search_periods" "search_periods" (defArgs s_search_periods) (defBody s_search_periods) (defScope s_search_periods) .none kV13 dc13 pm13 an13 cd13 ct13, t4, t5, fun s us hu => match us, hu with | [_, _, _, _, _, _, _], _ => .of_eq rfl, fun base _ _ TB => ?_⟩
  have C0 : Cal P w K mg base "to_signed" 1 ["number"] sp_to_signed := Lb.cal_of F0 (ok_to_signed F0) (PySem.W.mg_of X G a0) b0
  have C1 : Cal P w K mg base "magnitudes_allowed" 2 ["magnitudes"] (sp_magnitudes_allowed K) := Lb.cal_of F1 (ok_magnitudes_allowed F1 (PySem.W.mg_of X G v_MAGNITUDE_BOUND) (PySem.W.mg_none_of X G z_all) (PySem.W.mg_none_of X G z_abs) C0) (PySem.W.mg_of X G a1) b1
  have C2 : Cal P w K mg base "period_allowed" 1 ["period"] sp_period_allowed := Lb.cal_of F2 (ok_period_allowed F2 (PySem.W.mg_of X G v_GREATEST_PERIOD)) (PySem.W.mg_of X G a2) b2
  have C3 : Cal P w K mg base "bins_allowed" 1 ["bins"] sp_bins_allowed := Lb.cal_of F3 (ok_bins_allowed F3 (PySem.W.mg_of X G v_MOST_BINS)) (PySem.W.mg_of X G a3) b3
  have C4 : Cal P w K mg base "trials_allowed" 2 ["first", "step", "trials"] sp_trials_allowed := Lb.cal_of F4 (ok_trials_allowed F4 (PySem.W.mg_of X G v_GREATEST_STEP) (PySem.W.mg_of X G v_MOST_TRIALS) C2) (PySem.W.mg_of X G a4) b4
  have C5 : Cal P w K mg base "series_refusal" 3 ["times", "magnitudes"] (sp_series_refusal K) := Lb.cal_of F5 (ok_series_refusal F5 (PySem.W.mg_of X G v_MOST_TIMES) (PySem.W.mg_none_of X G z_len) C1) (PySem.W.mg_of X G a5) b5
  have C6 : Cal P w K mg base "spread_of" 1 ["values"] (sp_spread_of K) := Lb.cal_of F6 (ok_spread_of F6 (PySem.W.mg_none_of X G z_len) (PySem.W.mg_none_of X G z_sum)) (PySem.W.mg_of X G a6) b6
  have C7 : Cal P w K mg base "time_phase" 1 ["period", "time"] sp_time_phase := Lb.cal_of F7 (ok_time_phase F7 (PySem.W.mg_of X G v_PHASES)) (PySem.W.mg_of X G a7) b7
  have C8 : Cal P w K mg base "folded_series" 2 ["period", "times", "magnitudes"] (sp_folded_series K Tb) := Lb.cal_of F8 (ok_folded_series F8 (PySem.W.mg_none_of X G z_zip) (PySem.W.mg_none_of X G z_sorted) t1 TB C7 C0) (PySem.W.mg_of X G a8) b8
  have C9 : Cal P w K mg base "string_length" 1 ["series"] (sp_string_length K) := Lb.cal_of F9 (ok_string_length F9 (PySem.W.mg_none_of X G z_sum) (PySem.W.mg_none_of X G z_abs) (PySem.W.mg_none_of X G z_zip)) (PySem.W.mg_of X G a9) b9
  have C10 : Cal P w K mg base "binned_magnitudes" 1 ["bins", "series"] (sp_binned_magnitudes K) := Lb.cal_of F10 (ok_binned_magnitudes F10 (PySem.W.mg_of X G v_PHASES) (PySem.W.mg_none_of X G z_range)) (PySem.W.mg_of X G a10) b10
  have C11 : Cal P w K mg base "binned_scatter" 2 ["bins", "series"] (sp_binned_scatter K) := Lb.cal_of F11 (ok_binned_scatter F11 (PySem.W.mg_none_of X G z_len) (PySem.W.mg_none_of X G z_sum) C10 C6) (PySem.W.mg_of X G a11) b11
  have C12 : Cal P w K mg base "trial_value" 3 ["criterion", "bins", "series"] (sp_trial_value K) := Lb.cal_of F12 (ok_trial_value F12 C9 C11) (PySem.W.mg_of X G a12) b12
  exact ok_search_periods F13 (PySem.W.mg_none_of X G z_range) (PySem.W.mg_none_of X G z_min) C3 C4 C5 C8 C12
end Lp
open PySem PySem.W PyProof.Rows
set_option maxRecDepth 100000 in
set_option maxHeartbeats 0 in
theorem PySem.Challenge.cw_lightcurves_s07_search_periods_holds : PySem.Challenge.rw_lightcurves_s07_search_periods.Holds := by
  w_on; k_headS; (case hw => exact ⟨[.int 0, .int 0, .int 0, .int 0, .int 0, .list [], .list []], by decide +kernel, by decide +kernel⟩)
  k_fillS
  refine Lt.walk_tab (r := PySem.Challenge.rw_lightcurves_s07_search_periods) (k := 4) (ps := ["criterion", "bins", "first", "step", "trials", "times", "magnitudes"]) (sp := fun K Tb => Lp.sp_search_periods K Tb) (x := "folded_series") (by decide +kernel) rfl rfl ⟨rfl, by decide, by decide⟩ (fun w h Y => PySem.W.kIn_of Y) (by decide +kernel) ?F ?S
  case F =>
    intro w mg fa h Y KX G hmg
    refine' Lp.all_mk KX G hmg ?a0 ?l0 ?c0 ?k0 ?a1 ?l1 ?c1 ?k1 ?a2 ?l2 ?c2 ?k2 ?a3 ?l3 ?c3 ?k3 ?a4 ?l4 ?c4 ?k4 ?a5 ?l5 ?c5 ?k5 ?a6 ?l6 ?c6 ?k6 ?a7 ?l7 ?c7 ?k7 ?a8 ?l8 ?c8 ?k8 ?a9 ?l9 ?c9 ?k9 ?a10 ?l10 ?c10 ?k10 ?a11 ?l11 ?c11 ?k11 ?a12 ?l12 ?c12 ?k12 ?a13 ?l13 ?c13 ?k13 ?v_GREATEST_PERIOD ?v_GREATEST_STEP ?v_MAGNITUDE_BOUND ?v_MOST_BINS ?v_MOST_TIMES ?v_MOST_TRIALS ?v_PHASES ?z_abs ?z_all ?z_len ?z_min ?z_range ?z_sorted ?z_sum ?z_zip ?t1 ?t2 ?t3 ?t4 ?t5
    (case a0 => k_is); (case l0 => k_is); (case c0 => k_is); (case k0 => k_is)
    (case a1 => k_is); (case l1 => k_is); (case c1 => k_is); (case k1 => k_is)
    (case a2 => k_is); (case l2 => k_is); (case c2 => k_is); (case k2 => k_is)
    (case a3 => k_is); (case l3 => k_is); (case c3 => k_is); (case k3 => k_is)
    (case a4 => k_is); (case l4 => k_is); (case c4 => k_is); (case k4 => k_is)
    (case a5 => k_is); (case l5 => k_is); (case c5 => k_is); (case k5 => k_is)
    (case a6 => k_is); (case l6 => k_is); (case c6 => k_is); (case k6 => k_is)
    (case a7 => k_is); (case l7 => k_is); (case c7 => k_is); (case k7 => k_is)
    (case a8 => k_is); (case l8 => k_is); (case c8 => k_is); (case k8 => k_is)
    (case a9 => k_is); (case l9 => k_is); (case c9 => k_is); (case k9 => k_is)
    (case a10 => k_is); (case l10 => k_is); (case c10 => k_is); (case k10 => k_is)
    (case a11 => k_is); (case l11 => k_is); (case c11 => k_is); (case k11 => k_is)
    (case a12 => k_is); (case l12 => k_is); (case c12 => k_is); (case k12 => k_is)
    (case a13 => k_is); (case l13 => k_is); (case c13 => k_is); (case k13 => k_is)
    (case v_GREATEST_PERIOD => k_is); (case v_GREATEST_STEP => k_is); (case v_MAGNITUDE_BOUND => k_is); (case v_MOST_BINS => k_is)
    (case v_MOST_TIMES => k_is); (case v_MOST_TRIALS => k_is); (case v_PHASES => k_is); (case z_abs => k_is)
    (case z_all => k_is); (case z_len => k_is); (case z_min => k_is); (case z_range => k_is)
    (case z_sorted => k_is); (case z_sum => k_is); (case z_zip => k_is)
    (case t1 => exact rfl); (case t2 => k_is); (case t3 => exact rfl); (case t4 => kernel_rfl); (case t5 => kernel_rfl)
  case S =>
    intro K Tb H xs a hO hwi hask hx
    cases hx with
    | cons h1 r1 =>
      cases r1 with
      | cons h2 r2 =>
        cases r2 with
        | cons h3 r3 =>
          cases r3 with
          | cons h4 r4 =>
            cases r4 with
            | cons h5 r5 =>
              cases r5 with
              | cons h6 r6 =>
                cases r6 with
                | cons h7 r7 =>
                  cases r7
                  cases h1
                  cases h2
                  cases h3
                  cases h4
                  cases h5
                  cases h6 with
                  | lst hs ha =>
                    cases h7 with
                    | lst hs2 ha2 =>
                      have e := L2.ints_dw a.2.2.2.2.2.1 _ ha
                      have e2 := L2.ints_dw a.2.2.2.2.2.2.1 _ ha2
                      subst e e2
                      have q : (Codec.inInt 0 4294967295 a.1 && (Codec.inInt 0 4294967295 a.2.1 && (Codec.inInt 0 4294967295 a.2.2.1 && (Codec.inInt 0 4294967295 a.2.2.2.1 && (Codec.inInt 0 4294967295 a.2.2.2.2.1 && ((Codec.inLen 0 1100 a.2.2.2.2.2.1 && a.2.2.2.2.2.1.all (Codec.inInt 0 4294967295)) && ((Codec.inLen 0 1100 a.2.2.2.2.2.2.1 && a.2.2.2.2.2.2.1.all (Codec.inInt 0 4294967295)) && true))))))) = true := hwi
                      simp only [Bool.and_eq_true] at q
                      obtain ⟨q1, q2, q3, q4, q5, ⟨q6, q7⟩, ⟨q8, q9⟩, _⟩ := q
                      have h1 := Codec.inInt_iff.mp q1
                      have h2 := Codec.inInt_iff.mp q2
                      have h3 := Codec.inInt_iff.mp q3
                      have h4 := Codec.inInt_iff.mp q4
                      have h5 := Codec.inInt_iff.mp q5
                      have ht : ∀ x ∈ a.2.2.2.2.2.1, 0 ≤ x ∧ x ≤ 4294967295 := fun x hx => Codec.inInt_iff.mp (List.all_eq_true.mp q7 x hx)
                      have hn : ∀ x ∈ a.2.2.2.2.2.2.1, 0 ≤ x ∧ x ≤ 4294967295 := fun x hx => Codec.inInt_iff.mp (List.all_eq_true.mp q9 x hx)
                      refine ⟨a.1, a.2.1, a.2.2.1, a.2.2.2.1, a.2.2.2.2.1, _, _, a.2.2.2.2.2.1, a.2.2.2.2.2.2.1, rfl, hs, hs2, (Codec.inNat_iff.mp q6).2, (Codec.inNat_iff.mp q8).2, h4.1, hO, fun p H2 hp2 => .lst (L2.SqL.of hp2) ?_⟩
                      show L2.DwAll K H2 _ ((PySh70.search_periods a.1 a.2.1 a.2.2.1 a.2.2.2.1 a.2.2.2.2.1 a.2.2.2.2.2.1 a.2.2.2.2.2.2.1).map WData.int)
                      rw [Lm.spec_search h1.1 h2.1 h3.1 h4.1 h5.1 ht hn]
                      exact L2.dw_ints _
#print axioms PySem.Challenge.cw_lightcurves_s07_search_periods_holds
