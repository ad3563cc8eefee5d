import PyProof.Rows.All
import Wide.All
import OpenK.AllK
import Wide.FinOn
import Open.SpecLaws
import KE.OsHead
import KE.OsGo
import HandS.ForSpec
import HandS.Comp
import HandS.Iter
import HandS.Walk
import HandS.Evl
import HandS.Wide
import HandS.SortInts
import PySem.Challenge.RW_lightcurves_s03_scatters
set_option Elab.async false
set_option linter.all false
set_option maxRecDepth 100000
set_option maxHeartbeats 2000000
/-! general words over the layer: walks by values, comprehensions, callees -/
namespace Lb
open PySem PySem.Spec PyProof.Rows L2 Evl

/-! ### what is walked: n turns, Yx i x H what the i-th item is, H the heap at the turn -/
def IterV (wi : TI) (σ : L2.St) (H : Hp) (n : Nat) (Yx : Nat → V → Hp → Prop) : Prop :=
  ∀ H1, Ex H H1 → ∀ R : It → Hp → Prop, (∀ (J : It) (G : Hp → Prop) (Y : Nat → Hp → V → Hp → Prop) (H2 : Hp), Ex H1 H2 → Walk J n G Y → (∀ H3, Ex H2 H3 → G H3) →
    (∀ i x H3 H4, i < n → Ex H2 H3 → Y i H3 x H4 → Ex H3 H4 ∧ Yx i x H4) → R J H2) → wi σ H1 R
theorem IterV.len {wi : TI} {σ : L2.St} {H : Hp} {n m : Nat} {Yx : Nat → V → Hp → Prop} (h : IterV wi σ H n Yx) (e : n = m) : IterV wi σ H m Yx := e ▸ h
section
variable {K : PySem.W.Frag} {σ : L2.St} {H : Hp} {tl ta tb te : TE}
theorem it_list {a : Addr} {xs : List V} (h : Ev tl σ H (.ref a)) (hx : SqL K H a xs) : IterV (iList K tl) σ H xs.length (fun i x _ => xs[i]? = some x) := fun H1 e R r =>
  h H1 e _ fun H2 e2 => ⟨a, rfl, ⟨xs, ex_l (e.trans e2) hx⟩, r _ _ _ H2 e2 (walk_list (K := K) (a := a) (xs := xs)) (fun H3 e3 => ex_l ((e.trans e2).trans e3) hx)
    (fun i x H3 H4 _ _ y => ⟨by rw [y.1]; exact Ex.refl _, y.2⟩)⟩
theorem it_new {xs : List V} (h : EvL tl σ H xs) : IterV (iList K tl) σ H xs.length (fun i x _ => xs[i]? = some x) := fun H1 e R r =>
  h H1 e _ fun a H2 _ e2 ha => ⟨a, rfl, ⟨xs, sq_of ha⟩, r _ _ _ H2 e2 (walk_list (K := K) (a := a) (xs := xs)) (fun H3 e3 => sq_of (e3 a _ ha))
    (fun i x H3 H4 _ _ y => ⟨by rw [y.1]; exact Ex.refl _, y.2⟩)⟩
theorem it_rng1 {ta : TA} {n : Int} (h : EvA ta σ H [.int n]) (h0 : 0 ≤ n) (h1 : n ≤ 1000000) : IterV (iRng1 ta) σ H n.toNat (fun i x _ => x = .int (i : Int)) := fun H1 e R r =>
  h H1 e _ fun H2 e2 => ⟨n, rfl, by omega, by omega, r _ _ _ H2 e2 (walk_range (lo := 0) (n := n.toNat)) (fun _ _ => trivial)
    (fun i x H3 H4 _ _ y => ⟨by rw [y.1]; exact Ex.refl _, y.2.trans (congrArg V.int (Int.zero_add (i : Int)))⟩)⟩
theorem it_rng2 {ta : TA} {lo n : Int} (h : EvA ta σ H [.int lo, .int n]) (h0 : 0 ≤ lo ∧ lo ≤ 1000000 ∧ -1000000 ≤ n ∧ n ≤ 1000000) : IterV (iRng2 ta) σ H (n - lo).toNat (fun i x _ => x = .int (lo + (i : Int))) := fun H1 e R r =>
  h H1 e _ fun H2 e2 => ⟨lo, n, rfl, ⟨by omega, by omega, by omega, by omega⟩, r _ _ _ H2 e2 (walk_range (lo := lo) (n := (n - lo).toNat)) (fun _ _ => trivial)
    (fun i x H3 H4 _ _ y => ⟨by rw [y.1]; exact Ex.refl _, y.2⟩)⟩
theorem it_rng3 {ta : TA} {i j c : Int} {n : Nat} (h : EvA ta σ H [.int i, .int j, .int c]) (hc : RgC i j c n) : IterV (iRng3 ta) σ H n (fun k x _ => x = .int (i + (k : Int) * c)) := fun H1 e R r =>
  h H1 e _ fun H2 e2 => ⟨i, j, c, n, rfl, hc, r _ _ _ H2 e2 (walk_rangeC (lo := i) (c := c) (n := n)) (fun _ _ => trivial)
    (fun i x H3 H4 _ _ y => ⟨by rw [y.1]; exact Ex.refl _, y.2⟩)⟩
/-- zip of two lists that stand -/
theorem it_zip {ta : TA} {a b : Addr} {xs ys : List V} (h : EvA ta σ H [.ref a, .ref b]) (hx : SqL K H a xs) (hy : SqL K H b ys) :
    IterV (iZip K ta) σ H (min xs.length ys.length) (fun i x H4 => ∃ T u v, x = .ref T ∧ H4 T = some (.tup [u, v]) ∧ xs[i]? = some u ∧ ys[i]? = some v) := fun H1 e R r =>
  h H1 e _ fun H2 e2 => ⟨a, b, xs, ys, rfl, ex_l (e.trans e2) hx, ex_l (e.trans e2) hy, r _ _ _ H2 e2 (walk_zip (K := K) (a := a) (b := b) (xs := xs) (ys := ys) rfl)
    (fun H3 e3 => ⟨ex_l ((e.trans e2).trans e3) hx, ex_l ((e.trans e2).trans e3) hy⟩)
    (fun i x H3 H4 _ _ y => by
      obtain ⟨T, u, v, h1, h2, h3, h4, h5⟩ := y
      subst h3
      exact ⟨Ex.new h2, T, u, v, h1, upd_same, h4, h5⟩)⟩

/-- enumerate of a list that stands -/
theorem it_enum {ta : TA} {a : Addr} {xs : List V} (h : EvA ta σ H [.ref a]) (hx : SqL K H a xs) :
    IterV (iEnum K ta) σ H xs.length (fun i x H4 => ∃ T u, x = .ref T ∧ H4 T = some (.tup [.int (i : Int), u]) ∧ xs[i]? = some u) := fun H1 e R r =>
  h H1 e _ fun H2 e2 => ⟨a, xs, rfl, ex_l (e.trans e2) hx, r _ _ _ H2 e2 (walk_enum (K := K) (a := a) (xs := xs)) (fun H3 e3 => ex_l ((e.trans e2).trans e3) hx)
    (fun i x H3 H4 _ _ y => by
      obtain ⟨T, u, v, h1, h2, h3, h4, h5⟩ := y
      subst h3
      cases h4
      exact ⟨Ex.new h2, T, v, h1, upd_same, h5⟩)⟩

/-! ### comprehensions -/
theorem et_yes : EvT tYes σ H true := fun H1 _ Q q => q H1 (Ex.refl H1)
/-- a turn's target takes the item: then the element can be asked at the slots that it leaves -/
def Takes1 (g : TG) (x : V) (σ0 : L2.St) (vs : List Nat) (H2 : Hp) (P : L2.St → Prop) : Prop := ∀ Q : L2.St → Hp → Prop, (∀ σ2, wipe σ2 vs = wipe σ0 vs → P σ2 → Q σ2 H2) → g x (wipe σ0 vs) H2 Q
theorem lc_f {wi : TI} {n : Nat} {Yx : Nat → V → Hp → Prop} {g : TG} {tt : TT} {vs : List Nat} (hw : IterV wi σ H n Yx) (hn : n ≤ 40000) (f : Nat → Bool) (v : Nat → V)
    (hs : ∀ (i : Nat) (x : V) (H2 : Hp), i < n → Ex H H2 → Yx i x H2 → Takes1 g x σ vs H2 fun σ2 => EvT tt σ2 H2 (f i) ∧ (f i = true → Ev te σ2 H2 (v i))) :
    EvL (tLc wi g tt te vs) σ H (given n f v) := fun H0 e Q q => hw H0 e _ fun J G Y H1 e1 w hG hY Dl hD =>
  lc_it w (Cw H1 f v Dl) ⟨hD, Ex.new hD, upd_same⟩ (fun i H' hi p => hG H' p.2.1) (fun i x H' H2 hi p y => by
    obtain ⟨e2, yx⟩ := hY i x H' H2 hi p.2.1 y
    have p2 : Cw H1 f v Dl i H2 := ⟨p.1, p.2.1.trans e2, e2 _ _ p.2.2⟩
    refine hs i x H2 hi ((e.trans e1).trans p2.2.1) yx _ fun σ2 hw2 hh => ⟨hw2, ?_⟩
    obtain ⟨p1, pe, p3⟩ := p2
    refine hh.1 H2 (Ex.refl H2) _ fun H3 e3 => ?_
    cases hf : f i with
    | true =>
      show te σ2 H3 fun y H4 => ∃ acc, H4 Dl = some (.lst acc) ∧ acc.length < sizeLine ∧ Cw H1 f v Dl (i + 1) (upd H4 Dl (.lst (acc ++ [y])))
      refine hh.2 hf H3 e3 _ fun H4 e4 => ⟨given i f v, e4 Dl _ (e3 Dl _ p3), sz_lt (by have := given_len i f v; omega), p1, Ex.mut ((pe.trans e3).trans e4) p1, ?_⟩
      rw [given_yes hf]
      exact upd_same
    | false =>
      show Cw H1 f v Dl (i + 1) H3
      refine ⟨p1, pe.trans e3, ?_⟩
      rw [given_no hf]
      exact e3 Dl _ p3) (fun H' p => q Dl H' (fresh_back e1 p.1) (e1.trans p.2.1) p.2.2)
theorem given_all (n : Nat) (v : Nat → V) : given n (fun _ => true) v = (List.range n).map v := by
  unfold given
  rw [List.filter_eq_self.mpr (fun _ _ => rfl)]
theorem lc_v {wi : TI} {n : Nat} {Yx : Nat → V → Hp → Prop} {g : TG} {vs : List Nat} (hw : IterV wi σ H n Yx) (hn : n ≤ 40000) (v : Nat → V)
    (hs : ∀ (i : Nat) (x : V) (H2 : Hp), i < n → Ex H H2 → Yx i x H2 → Takes1 g x σ vs H2 fun σ2 => Ev te σ2 H2 (v i)) :
    EvL (tLc wi g tYes te vs) σ H ((List.range n).map v) := by
  have h := lc_f (te := te) (tt := tYes) (g := g) (vs := vs) hw hn (fun _ => true) v (fun i x H2 hi e y Q q => hs i x H2 hi e y Q fun σ2 h1 h2 => q σ2 h1 ⟨et_yes, fun _ => h2⟩)
  rw [given_all] at h
  exact h
/-- the same told by a list -/
theorem lc_m {α : Type} {wi : TI} {Yx : Nat → V → Hp → Prop} {g : TG} {vs : List Nat} {l : List α} (F : α → V) (hw : IterV wi σ H l.length Yx) (hn : l.length ≤ 40000)
    (hs : ∀ (i : Nat) (y : α) (x : V) (H2 : Hp), l[i]? = some y → Ex H H2 → Yx i x H2 → Takes1 g x σ vs H2 fun σ2 => Ev te σ2 H2 (F y)) :
    EvL (tLc wi g tYes te vs) σ H (l.map F) := by
  have h := lc_v (te := te) (g := g) (vs := vs) hw hn (fun i => match l[i]? with | some y => F y | none => .non) (fun i x H2 hi e y => by
    have e1 : l[i]? = some l[i] := List.getElem?_eq_getElem hi
    rw [e1]
    exact hs i _ x H2 e1 e y)
  have e : (List.range l.length).map (fun i => match l[i]? with | some y => F y | none => .non) = l.map F := by
    apply List.ext_getElem?
    intro i
    rw [List.getElem?_map, List.getElem?_map]
    by_cases hi : i < l.length
    · rw [List.getElem?_range hi, List.getElem?_eq_getElem hi]
      simp [List.getElem?_eq_getElem hi]
    · rw [List.getElem?_eq_none (by simpa using hi), List.getElem?_eq_none (by simpa using hi)]
      rfl
  rw [e] at h
  exact h
/-- a name as the target -/
theorem takes_name {x : V} {j : Nat} {vs : List Nat} {H2 : Hp} {P : L2.St → Prop} (hw : wipe ((wipe σ vs).set j (some x)) vs = wipe σ vs) (h : P ((wipe σ vs).set j (some x))) : Takes1 (gName j) x σ vs H2 P := fun Q q => q _ hw h
/-- two names, from a tuple -/
theorem takes_pair {T : Addr} {u v : V} {i j : Nat} {vs : List Nat} {H2 : Hp} {P : L2.St → Prop} (ht : H2 T = some (.tup [u, v]))
    (hw : wipe (((wipe σ vs).set i (some u)).set j (some v)) vs = wipe σ vs) (h : P (((wipe σ vs).set i (some u)).set j (some v))) : Takes1 (gTup K 2 (gCons (gName i) (gCons (gName j) gNil))) (.ref T) σ vs H2 P := fun Q q =>
  ⟨T, [u, v], rfl, st_of ht, rfl, u, [v], rfl, v, [], rfl, rfl, q _ hw h⟩

/-! ### lists of lists -/
def Rows (H : Hp) (p : Addr) (rs : List (List V)) : Prop := ∃ as : List Addr, H p = some (.lst (as.map V.ref)) ∧ as.length = rs.length ∧ ∀ (i : Nat) a r, as[i]? = some a → rs[i]? = some r → H a = some (.lst r)
theorem Rows.ex {H H' : Hp} {p : Addr} {rs : List (List V)} (h : Rows H p rs) (e : Ex H H') : Rows H' p rs := by
  obtain ⟨as, h1, h2, h3⟩ := h
  exact ⟨as, e _ _ h1, h2, fun i a r ha hr => e _ _ (h3 i a r ha hr)⟩
def EvR (te : TE) (σ : L2.St) (H : Hp) (rs : List (List V)) : Prop := ∀ H1, Ex H H1 → ∀ Q : VK, (∀ p H2, H1 p = none → Ex H1 H2 → Rows H2 p rs → Q (.ref p) H2) → te σ H1 Q
theorem lc_rows {wi : TI} {n : Nat} {Yx : Nat → V → Hp → Prop} {g : TG} {vs : List Nat} (hw : IterV wi σ H n Yx) (hn : n ≤ 40000) (r : Nat → List V)
    (hs : ∀ (i : Nat) (x : V) (H2 : Hp), i < n → Ex H H2 → Yx i x H2 → Takes1 g x σ vs H2 fun σ2 => EvL te σ2 H2 (r i)) :
    EvR (tLc wi g tYes te vs) σ H ((List.range n).map r) := fun H0 e Q q => hw H0 e _ fun J G Y H1 e1 w hG hY Dl hD =>
  lc_it w (fun i H' => H1 Dl = none ∧ Ex H1 H' ∧ ∃ as : List Addr, H' Dl = some (.lst (as.map V.ref)) ∧ as.length = i ∧ ∀ (j : Nat) a, as[j]? = some a → H' a = some (.lst (r j)) ∧ a ≠ Dl)
    ⟨hD, Ex.new hD, [], upd_same, rfl, fun j a h => by simp at h⟩ (fun i H' hi p => hG H' p.2.1) (fun i x H' H2 hi p y => by
    obtain ⟨e2, yx⟩ := hY i x H' H2 hi p.2.1 y
    obtain ⟨p1, pe, as, p3, p4, p5⟩ := p
    refine hs i x H2 hi ((e.trans e1).trans (pe.trans e2)) yx _ fun σ2 hw2 hh => ⟨hw2, ?_⟩
    show te σ2 H2 fun y H4 => ∃ acc, H4 Dl = some (.lst acc) ∧ acc.length < sizeLine ∧ _
    refine hh H2 (Ex.refl H2) _ fun c H4 hc e4 h4 => ?_
    have dD : Dl ≠ c := ne_of_none (e2 _ _ p3) hc
    refine ⟨as.map V.ref, e4 _ _ (e2 _ _ p3), sz_lt (by rw [List.length_map, p4]; omega), p1, Ex.mut ((pe.trans e2).trans e4) p1, as ++ [c], ?_, by rw [List.length_append, p4]; rfl, ?_⟩
    · rw [upd_same, List.map_append]
      rfl
    · intro j a hj
      by_cases hjl : j < as.length
      · rw [List.getElem?_append_left hjl] at hj
        obtain ⟨h1, h2⟩ := p5 j a hj
        exact ⟨by rw [upd_ne h2]; exact e4 _ _ (e2 _ _ h1), h2⟩
      · rw [List.getElem?_append_right (by omega)] at hj
        by_cases hj0 : j - as.length = 0
        · rw [hj0] at hj
          have ea : c = a := Option.some.inj hj
          have ej : j = i := by omega
          subst ea
          subst ej
          exact ⟨by rw [upd_ne dD.symm]; exact h4, dD.symm⟩
        · rw [List.getElem?_eq_none (by simp; omega)] at hj
          cases hj)
    (fun H' p => by
      obtain ⟨p1, pe, as, p3, p4, p5⟩ := p
      refine q Dl H' (fresh_back e1 p1) (e1.trans pe) ⟨as, p3, by rw [p4, List.length_map, List.length_range], fun j a l ha hl => ?_⟩
      obtain ⟨h1, _⟩ := p5 j a ha
      rw [List.getElem?_map] at hl
      by_cases hj : j < n
      · rw [List.getElem?_range hj] at hl
        have el : r j = l := Option.some.inj hl
        rw [← el]
        exact h1
      · rw [List.getElem?_eq_none (by simpa using hj)] at hl
        cases hl)

/-! ### calls -/
/-- a built-in of one argument that is a new list -/
theorem ev_cb1 {r : List V → Hp → VK → Prop} {xs : List V} {z : V} (h : EvL te σ H xs) (hr : ∀ p H1, H1 p = some (.lst xs) → Ex H H1 → RC r [.ref p] H1 z) : Ev (tCB r (tCons te tNil)) σ H z := fun H1 e Q q =>
  h H1 e _ fun p H2 _ e2 hp => hr p H2 hp (e.trans e2) H2 (Ex.refl H2) Q fun H3 e3 => q H3 (e2.trans e3)
theorem el_cb1 {r : List V → Hp → VK → Prop} {xs ys : List V} (h : EvL te σ H xs) (hr : ∀ p H1, H1 p = some (.lst xs) → Ex H H1 → RCL r [.ref p] H1 ys) : EvL (tCB r (tCons te tNil)) σ H ys := fun H1 e Q q =>
  h H1 e _ fun p H2 _ e2 hp => hr p H2 hp (e.trans e2) H2 (Ex.refl H2) Q fun p3 H3 h3 e3 hp3 => q p3 H3 (fresh_back e2 h3) (e2.trans e3) hp3
/-- a def of one argument that is a new list -/
theorem ev_call1 {sp : Sp} {E : XK} {xs : List V} {z : V} (h : EvL te σ H xs) (hs : ∀ p H1, H1 p = some (.lst xs) → Ex H H1 → SpV sp [.ref p] H1 z) : Ev (tCall sp [] E (tCons te tNil)) σ H z := fun H1 e Q q =>
  h H1 e _ fun p H2 _ e2 hp => hs p H2 hp (e.trans e2) H2 (Ex.refl H2) Q (fun H3 e3 => q H3 (e2.trans e3)) E
theorem el_cat {xs ys : List V} (h1 : EvL ta σ H xs) (h2 : EvL tb σ H ys) (hl : xs.length + ys.length ≤ 100000) : EvL (tOp rCat ta tb) σ H (xs ++ ys) := fun H1 e Q q =>
  h1 H1 e _ fun p H2 hp e2 h2' => h2 H2 (e.trans e2) _ fun b H3 hb e3 h3 =>
    ⟨p, b, xs, ys, rfl, rfl, e3 _ _ h2', h3, sz_of hl, fun c hc => q c _ (fresh_back (e2.trans e3) hc) ((e2.trans e3).trans (Ex.new hc)) upd_same⟩
/-- [..] + xs, xs a list that stands -/
theorem el_catV {xs ys : List V} {b : Addr} (h1 : EvL ta σ H xs) (h2 : Ev tb σ H (.ref b)) (hb : H b = some (.lst ys)) (hl : xs.length + ys.length ≤ 100000) : EvL (tOp rCat ta tb) σ H (xs ++ ys) := fun H1 e Q q =>
  h1 H1 e _ fun p H2 hp e2 h2' => h2 H2 (e.trans e2) _ fun H3 e3 =>
    ⟨p, b, xs, ys, rfl, rfl, e3 _ _ h2', ((e.trans e2).trans e3) _ _ hb, sz_of hl, fun c hc => q c _ (fresh_back (e2.trans e3) hc) ((e2.trans e3).trans (Ex.new hc)) upd_same⟩
theorem rc_abs {i : Int} : RC (fun xs H Q => ∃ i, xs = [.int i] ∧ Q (.int (if i < 0 then -i else i)) H) [.int i] H (.int (if i < 0 then -i else i)) := fun H1 _ _ q => ⟨i, rfl, q H1 (Ex.refl H1)⟩
theorem rc_sum {a : Addr} {ns : List Int} (h : SqL K H a (ns.map V.int)) : RC (rSum K) [.ref a] H (.int ns.sum) := fun H1 e _ q => ⟨a, ns, rfl, ex_l e h, q H1 (Ex.refl H1)⟩
theorem rc_all {a : Addr} {bs : List Bool} (h : SqL K H a (bs.map V.bl)) : RC (rAll K) [.ref a] H (.bl (bs.all id)) := fun H1 e _ q => ⟨a, bs, rfl, ex_l e h, q H1 (Ex.refl H1)⟩
theorem rc_any {a : Addr} {bs : List Bool} (h : SqL K H a (bs.map V.bl)) : RC (rAny K) [.ref a] H (.bl (bs.any id)) := fun H1 e _ q => ⟨a, bs, rfl, ex_l e h, q H1 (Ex.refl H1)⟩
theorem sorted_one {a b : List Int} (p : a.Perm b) (ha : a.Pairwise (· ≤ ·)) (hb : b.Pairwise (· ≤ ·)) : a = b := p.eq_of_pairwise (fun _ _ _ _ h1 h2 => Int.le_antisymm h1 h2) ha hb
theorem ms_perm (ns : List Int) : (ns.mergeSort fun a b => decide (a ≤ b)).Perm ns := List.mergeSort_perm ns _
theorem ms_up (ns : List Int) : (ns.mergeSort fun a b => decide (a ≤ b)).Pairwise (· ≤ ·) :=
  (List.pairwise_mergeSort (le := fun a b => decide (a ≤ b)) (fun a b c h1 h2 => decide_eq_true (Int.le_trans (of_decide_eq_true h1) (of_decide_eq_true h2)))
    (fun a b => by
      rw [Bool.or_eq_true, decide_eq_true_iff, decide_eq_true_iff]
      exact Int.le_total a b) ns).imp fun h => of_decide_eq_true h
theorem rcl_sorted {a : Addr} {ns : List Int} (h : SqL K H a (ns.map V.int)) : RCL (rSortedI K) [.ref a] H ((ns.mergeSort fun a b => decide (a ≤ b)).map V.int) := fun H1 e Q q =>
  ⟨a, ns, rfl, ex_l e h, fun ns' p hp hup hn => by
    have e2 : ns' = ns.mergeSort fun a b => decide (a ≤ b) := sorted_one (hp.trans (ms_perm ns).symm) hup (ms_up ns)
    rw [e2]
    exact q p _ hn (Ex.new hn) upd_same⟩

def SpR (sp : Sp) (vs : List V) (H : Hp) (rs : List (List V)) : Prop := ∀ H1, Ex H H1 → ∀ Q : VK, (∀ p H2, H1 p = none → Ex H1 H2 → Rows H2 p rs → Q (.ref p) H2) → ∀ E : XK, sp vs H1 Q E
theorem er_call {sp : Sp} {vs : List V} {rs : List (List V)} {E : XK} {ta : TA} (h : EvA ta σ H vs) (hs : SpR sp vs H rs) : EvR (tCall sp [] E ta) σ H rs := fun H1 e Q q =>
  h H1 e _ fun H2 e2 => by
    rw [List.append_nil]
    exact hs H2 (e.trans e2) Q (fun p H3 hp e3 h3 => q p H3 (fresh_back e2 hp) (e2.trans e3) h3) E
/-! ### callees -/
structure Cal (P : Program) (w : World) (K : PySem.W.Frag) (mg : Str → Option Value) (base : Heap) (x : Str) (k : Nat) (ps : List Str) (sp : Sp) : Prop where
  ex : ∃ (f : Addr) (fd : FuncData), FnOk P w K mg base CX0 k f fd ps sp ∧ mg x = some (.ref f) ∧ PySem.W.keepIn K (.ref f) = true ∧ Binds K fd ps []
theorem cal_of {P : Program} {w : World} {K : PySem.W.Frag} {mg : Str → Option Value} {base : Heap} {x qual : Str} {st : Stmt} {f : Addr} {fd : FuncData} {k : Nat} {ps : List Str} {sp : Sp} (F : Fun K x qual st f fd)
    (G : FnOk P w K mg base CX0 k f fd ps sp) (g : mg x = some (.ref f)) (b : Binds K fd ps []) : Cal P w K mg base x k ps sp := ⟨f, fd, G, g, F.kp, b⟩
end

/-! ### statements -/
section
variable {K : PySem.W.Frag} {σ : L2.St} {H : Hp} {ta te : TE} {D : Ends} {tz : TS}
/-- xs.extend(a new list) -/
theorem s_ext {l : Addr} {xs ys : List V} (hl : H l = some (.lst xs)) (ha : Ev ta σ H (.ref l)) (h : EvL te σ H ys) (hz : xs.length + ys.length ≤ 100000) (k : ∀ H1, Ex H H1 → D.nx σ (upd H1 l (.lst (xs ++ ys)))) :
    tDrop (tBM K "list" rExtend ta (tCons te tNil)) D σ H := ha H (Ex.refl H) _ fun H1 e1 =>
  ⟨Or.inl ⟨rfl, xs, sq_of (e1 l _ hl)⟩, h H1 e1 _ fun b H2 hb e2 h2 => ⟨l, b, xs, ys, rfl, rfl, e2 l _ (e1 l _ hl), h2, sz_of hz, k H2 (e1.trans e2)⟩⟩
theorem q_ext {l : Addr} {xs ys : List V} (hl : H l = some (.lst xs)) (ha : Ev ta σ H (.ref l)) (h : EvL te σ H ys) (hz : xs.length + ys.length ≤ 100000) (k : ∀ H1, Ex H H1 → tz D σ (upd H1 l (.lst (xs ++ ys)))) :
    tSeq (tDrop (tBM K "list" rExtend ta (tCons te tNil))) tz D σ H := s_ext (D := { D with nx := tz D }) hl ha h hz k
theorem s_asgR {i : Nat} {rs : List (List V)} {g : TG} (h : EvR te σ H rs) (k : ∀ p H1, H p = none → Ex H H1 → Rows H1 p rs → D.nx (σ.set i (some (.ref p))) H1) : tAsg te (gName i) D σ H := h H (Ex.refl H) _ fun p H1 hp e h1 => k p H1 hp e h1
theorem q_asgR {i : Nat} {rs : List (List V)} (h : EvR te σ H rs) (k : ∀ p H1, H p = none → Ex H H1 → Rows H1 p rs → tz D (σ.set i (some (.ref p))) H1) : tSeq (tAsg te (gName i)) tz D σ H := s_asgR (g := gName i) (D := { D with nx := tz D }) h k
theorem s_retR {rs : List (List V)} (h : EvR te σ H rs) (k : ∀ p H1, H p = none → Ex H H1 → Rows H1 p rs → D.rt (.ref p) H1) : tRet te D σ H := h H (Ex.refl H) _ k
end
end Lb

set_option linter.all false
/-! the mathematics: tables -/
namespace Lm
def sgn (n : Int) : Int := if 2147483648 ≤ n then n - 4294967296 else n
def uns (n : Int) : Int := if n < 0 then n + 4294967296 else n
def absI (i : Int) : Int := if i < 0 then -i else i
def sizeOk (k n : Int) : Bool := if k < 1 ∨ k > 32 then false else decide (1 ≤ n / k) && decide (n / k ≤ 64)
def magsOk (ns : List Int) : Bool := ns.all fun n => decide (absI (sgn n) < 100000)
def refusal (k : Int) (ns : List Int) : Int := if sizeOk k ns.length = false then -2 else if magsOk ns = false then -3 else 0
def rowsOf (k : Nat) (xs : List Int) : List (List Int) := (List.range (xs.length / k)).map fun i => (xs.drop (i * k)).take k
def column (s : Nat) (rows : List (List Int)) : List Int := rows.map fun r => r.getD s 0
def scatterI (xs : List Int) : Int := 256 * ((xs.length : Int) * (xs.map fun x => x * x).sum - xs.sum ^ 2) / ((xs.length : Int) * (xs.length : Int))
theorem sgn_nat {x : Int} (h0 : 0 ≤ x) : Sh70.signed32 x.toNat = sgn x := by
  unfold Sh70.signed32 sgn
  by_cases h : 2147483648 ≤ x
  · rw [if_neg (by omega), if_pos h]; omega
  · rw [if_pos (by omega), if_neg h]; omega
theorem signed_eq {ns : List Int} (h : ∀ x ∈ ns, 0 ≤ x ∧ x ≤ 4294967295) : Sh70.signedWords (Sh70Neutral.toNats ns) = ns.map sgn := by
  unfold Sh70.signedWords Sh70Neutral.toNats
  rw [List.map_map]
  exact List.map_congr_left fun x hx => sgn_nat (h x hx).1
theorem toNats_len (ns : List Int) : (Sh70Neutral.toNats ns).length = ns.length := by
  unfold Sh70Neutral.toNats
  rw [List.length_map]
theorem size_eq {k : Int} {n : Nat} (hk : 0 ≤ k) : Sh70.isTableSize k.toNat (n / k.toNat) = sizeOk k n := by
  obtain ⟨m, rfl⟩ := Int.eq_ofNat_of_zero_le hk
  rw [Int.toNat_natCast]
  unfold Sh70.isTableSize Sh70.isBetween sizeOk
  by_cases h : (m : Int) < 1 ∨ (m : Int) > 32
  · rw [if_pos h]
    have : ¬ (1 ≤ m ∧ m ≤ 32) := by omega
    rcases Nat.lt_or_ge m 1 with q | q
    · simp [show ¬ 1 ≤ m by omega]
    · simp [show ¬ m ≤ 32 by omega]
  · rw [if_neg h]
    have h1 : 1 ≤ m := by omega
    have h2 : m ≤ 32 := by omega
    have e : ((n : Int) / (m : Int)) = ((n / m : Nat) : Int) := by rw [Int.natCast_ediv]
    rw [e]
    simp only [h1, h2, decide_true, Bool.true_and]
    congr 1 <;> apply decide_eq_decide.mpr <;> omega
theorem mags_eq (xs : List Int) : Sh70.areValidMagnitudes (xs.map sgn) = magsOk xs := by
  unfold Sh70.areValidMagnitudes magsOk
  rw [List.all_map]
  congr 1
  funext x
  show decide ((sgn x).natAbs < 100000) = decide (absI (sgn x) < 100000)
  apply decide_eq_decide.mpr
  unfold absI
  split <;> omega
/-- in a table that is of the form: what is asked of its length -/
theorem asked_len {k : Int} {ns : List Int} (hs : sizeOk k ns.length = true) (hk : 0 ≤ k)
    (ha : (if (Sh70.isTableSize (k.toNat) (((Sh70Neutral.toNats ns).length / k.toNat))) = true then ns.length == (k.toNat * ((Sh70Neutral.toNats ns).length / k.toNat)) else ((ns.isEmpty) || (ns.length == (k.toNat * ((Sh70Neutral.toNats ns).length / k.toNat))))) = true) :
    ns.length = k.toNat * (ns.length / k.toNat) := by
  rw [toNats_len, size_eq hk, hs] at ha
  simpa using ha
/-- .. of extinctions, corrected_magnitudes, scatters: their requests are asked alike -/
theorem asked_table {k : Int} {ns : List Int} (hs : sizeOk k ns.length = true) (hk : 0 ≤ k) (ha : PySh70.scatters_asked k ns = true) : ns.length = k.toNat * (ns.length / k.toNat) := by
  have h1 : (Sh70Neutral.asked1 [[2, k], ns] && decide ((Sh70Neutral.f [[2, k], ns]).length < 1000000)) = true := ha
  rw [Bool.and_eq_true] at h1
  have h2 : (Sh70Neutral.fits k 32 && (Sh70Neutral.allFit ns 32 && (if (Sh70.isTableSize (k.toNat) (((Sh70Neutral.toNats ns).length / k.toNat))) = true then ns.length == (k.toNat * ((Sh70Neutral.toNats ns).length / k.toNat)) else ((ns.isEmpty) || (ns.length == (k.toNat * ((Sh70Neutral.toNats ns).length / k.toNat))))))) = true := h1.1
  rw [Bool.and_eq_true, Bool.and_eq_true] at h2
  exact asked_len hs hk h2.2.2
/-- .. of extinctions, corrected_magnitudes, scatters: their requests are asked alike -/
theorem asked_table1 {k : Int} {ns : List Int} (hs : sizeOk k ns.length = true) (hk : 0 ≤ k) (ha : PySh70.extinctions_asked k ns = true) : ns.length = k.toNat * (ns.length / k.toNat) := by
  have h1 : (Sh70Neutral.asked1 [[0, k], ns] && decide ((Sh70Neutral.f [[0, k], ns]).length < 1000000)) = true := ha
  rw [Bool.and_eq_true] at h1
  have h2 : (Sh70Neutral.fits k 32 && (Sh70Neutral.allFit ns 32 && (if (Sh70.isTableSize (k.toNat) (((Sh70Neutral.toNats ns).length / k.toNat))) = true then ns.length == (k.toNat * ((Sh70Neutral.toNats ns).length / k.toNat)) else ((ns.isEmpty) || (ns.length == (k.toNat * ((Sh70Neutral.toNats ns).length / k.toNat))))))) = true := h1.1
  rw [Bool.and_eq_true, Bool.and_eq_true] at h2
  exact asked_len hs hk h2.2.2
/-- .. of extinctions, corrected_magnitudes, scatters: their requests are asked alike -/
theorem asked_table2 {k : Int} {ns : List Int} (hs : sizeOk k ns.length = true) (hk : 0 ≤ k) (ha : PySh70.corrected_magnitudes_asked k ns = true) : ns.length = k.toNat * (ns.length / k.toNat) := by
  have h1 : (Sh70Neutral.asked1 [[1, k], ns] && decide ((Sh70Neutral.f [[1, k], ns]).length < 1000000)) = true := ha
  rw [Bool.and_eq_true] at h1
  have h2 : (Sh70Neutral.fits k 32 && (Sh70Neutral.allFit ns 32 && (if (Sh70.isTableSize (k.toNat) (((Sh70Neutral.toNats ns).length / k.toNat))) = true then ns.length == (k.toNat * ((Sh70Neutral.toNats ns).length / k.toNat)) else ((ns.isEmpty) || (ns.length == (k.toNat * ((Sh70Neutral.toNats ns).length / k.toNat))))))) = true := h1.1
  rw [Bool.and_eq_true, Bool.and_eq_true] at h2
  exact asked_len hs hk h2.2.2
theorem size_bounds {k : Int} {n : Nat} (hs : sizeOk k n = true) : 1 ≤ k ∧ k ≤ 32 ∧ 1 ≤ n / k.toNat ∧ n / k.toNat ≤ 64 := by
  unfold sizeOk at hs
  by_cases h : k < 1 ∨ k > 32
  · rw [if_pos h] at hs; cases hs
  · rw [if_neg h] at hs
    obtain ⟨m, rfl⟩ := Int.eq_ofNat_of_zero_le (show 0 ≤ k by omega)
    have e : ((n : Int) / (m : Int)) = ((n / m : Nat) : Int) := by rw [Int.natCast_ediv]
    rw [e, Bool.and_eq_true, decide_eq_true_iff, decide_eq_true_iff] at hs
    rw [Int.toNat_natCast]
    omega
theorem refusal_size {k : Int} {ns : List Int} (h : sizeOk k ns.length = false) : refusal k ns = -2 := if_pos h
theorem refusal_mags {k : Int} {ns : List Int} (h : sizeOk k ns.length = true) (h2 : magsOk ns = false) : refusal k ns = -3 := by
  unfold refusal
  rw [if_neg (by rw [h]; decide), if_pos h2]
theorem refusal_ok {k : Int} {ns : List Int} (h : sizeOk k ns.length = true) (h2 : magsOk ns = true) : refusal k ns = 0 := by
  unfold refusal
  rw [if_neg (by rw [h]; decide), if_neg (by rw [h2]; decide)]
theorem refusal_zero {k : Int} {ns : List Int} (h : refusal k ns = 0) : sizeOk k ns.length = true ∧ magsOk ns = true := by
  cases h1 : sizeOk k ns.length with
  | false => rw [refusal_size h1] at h; cases h
  | true =>
    cases h2 : magsOk ns with
    | false => rw [refusal_mags h1 h2] at h; cases h
    | true => exact ⟨rfl, rfl⟩
theorem refusal_cases (k : Int) (ns : List Int) : (sizeOk k ns.length = false ∧ refusal k ns = -2) ∨ (sizeOk k ns.length = true ∧ magsOk ns = false ∧ refusal k ns = -3) ∨ (sizeOk k ns.length = true ∧ magsOk ns = true ∧ refusal k ns = 0) := by
  cases h1 : sizeOk k ns.length with
  | false => exact .inl ⟨rfl, refusal_size h1⟩
  | true =>
    cases h2 : magsOk ns with
    | false => exact .inr (.inl ⟨rfl, rfl, refusal_mags h1 h2⟩)
    | true => exact .inr (.inr ⟨rfl, rfl, refusal_ok h1 h2⟩)
theorem rows_len (k : Nat) (xs : List Int) : (rowsOf k xs).length = xs.length / k := by
  unfold rowsOf
  rw [List.length_map, List.length_range]
theorem row_is (k : Nat) (xs : List Int) (i : Nat) : Sh70.imageRow k xs i = (xs.drop (i * k)).take k := rfl
theorem row_len {k : Nat} {xs : List Int} (hl : xs.length = k * (xs.length / k)) {r : List Int} (h : r ∈ rowsOf k xs) : r.length = k := by
  unfold rowsOf at h
  obtain ⟨i, hi, rfl⟩ := List.mem_map.mp h
  rw [List.mem_range] at hi
  rw [List.length_take, List.length_drop]
  have h1 : (i + 1) * k ≤ (xs.length / k) * k := Nat.mul_le_mul_right k hi
  rw [Nat.mul_comm (xs.length / k) k, ← hl, Nat.add_mul, Nat.one_mul] at h1
  omega
theorem row_at {k : Nat} {xs : List Int} {i s : Nat} (hs : s < k) : ((xs.drop (i * k)).take k).getD s 0 = Sh70.intAt xs (i * k + s) := by
  unfold Sh70.intAt
  rw [List.getD_eq_getElem?_getD, List.getD_eq_getElem?_getD, List.getElem?_take_of_lt hs, List.getElem?_drop]
theorem column_is {k : Nat} {xs : List Int} {s : Nat} (hs : s < k) : Sh70.starColumn k xs s = column s (rowsOf k xs) := by
  unfold Sh70.starColumn column rowsOf
  rw [List.map_map]
  exact List.map_congr_left fun i _ => (row_at hs).symm
theorem abs_small {x : Int} (h : decide (absI x < 100000) = true) : -100000 < x ∧ x < 100000 := by
  have h := of_decide_eq_true h
  unfold absI at h
  split at h <;> omega
theorem mags_small {ns : List Int} (h : magsOk ns = true) : ∀ x ∈ ns.map sgn, -100000 < x ∧ x < 100000 := by
  intro x hx
  obtain ⟨n, hn, rfl⟩ := List.mem_map.mp hx
  exact abs_small (List.all_eq_true.mp h n hn)
theorem row_mem {k : Nat} {xs r : List Int} (h : r ∈ rowsOf k xs) : ∀ x ∈ r, x ∈ xs := by
  unfold rowsOf at h
  obtain ⟨i, _, rfl⟩ := List.mem_map.mp h
  exact fun x hx => List.mem_of_mem_drop (List.mem_of_mem_take hx)
theorem column_small {ns : List Int} {k s : Nat} (h : magsOk ns = true) (hs : s < k) (hl : (ns.map sgn).length = k * ((ns.map sgn).length / k)) : ∀ x ∈ column s (rowsOf k (ns.map sgn)), -100000 < x ∧ x < 100000 := by
  intro x hx
  unfold column at hx
  obtain ⟨r, hr, rfl⟩ := List.mem_map.mp hx
  have e := row_len hl hr
  have hsr : s < r.length := by omega
  refine mags_small h _ (row_mem hr _ ?_)
  rw [List.getD_eq_getElem?_getD, List.getElem?_eq_getElem hsr]
  exact List.getElem_mem hsr
theorem column_len (s : Nat) (rows : List (List Int)) : (column s rows).length = rows.length := List.length_map ..
theorem sum_is (l : List Int) : Sh70.sum l = l.sum := rfl
/-! ### a scatter is not negative -/
theorem dev (y : Int) : ∀ xs : List Int, 0 ≤ (xs.length : Int) * y ^ 2 - 2 * y * xs.sum + (xs.map fun x => x * x).sum
  | [] => by simp
  | x :: r => by
    have ih := dev y r
    have sq : 0 ≤ (y - x) * (y - x) := by
      rcases Int.le_total 0 (y - x) with h | h
      · exact Int.mul_nonneg h h
      · have := Int.mul_nonneg (show 0 ≤ -(y - x) by omega) (show 0 ≤ -(y - x) by omega)
        rwa [Int.neg_mul_neg] at this
    rw [List.map_cons, List.sum_cons, List.sum_cons, List.length_cons]
    have e : ((r.length + 1 : Nat) : Int) * y ^ 2 - 2 * y * (x + r.sum) + (x * x + (r.map fun x => x * x).sum) = ((r.length : Int) * y ^ 2 - 2 * y * r.sum + (r.map fun x => x * x).sum) + (y - x) * (y - x) := by
      rw [Int.natCast_add, Int.pow_succ, Int.pow_succ, Int.pow_zero]
      grind
    rw [e]
    omega
theorem spread_nonneg : ∀ xs : List Int, 0 ≤ (xs.length : Int) * (xs.map fun x => x * x).sum - xs.sum ^ 2
  | [] => by simp
  | x :: r => by
    have ih := spread_nonneg r
    have d := dev x r
    rw [List.map_cons, List.sum_cons, List.sum_cons, List.length_cons]
    have e : ((r.length + 1 : Nat) : Int) * (x * x + (r.map fun x => x * x).sum) - (x + r.sum) ^ 2 = ((r.length : Int) * (r.map fun x => x * x).sum - r.sum ^ 2) + ((r.length : Int) * x ^ 2 - 2 * x * r.sum + (r.map fun x => x * x).sum) := by
      rw [Int.natCast_add]
      simp only [Int.pow_succ, Int.pow_zero]
      grind
    rw [e]
    omega
theorem scatter_nonneg (xs : List Int) : 0 ≤ scatterI xs := by
  unfold scatterI
  refine Int.ediv_nonneg ?_ ?_
  · have := spread_nonneg xs
    omega
  · exact Int.mul_nonneg (by omega) (by omega)
theorem scatter_is {xs : List Int} (h : 0 < xs.length) : ((Sh70.scatter xs : Nat) : Int) = scatterI xs := by
  have h0 := scatter_nonneg xs
  have e : Sh70.scatter xs = (scatterI xs).toNat := by
    unfold Sh70.scatter scatterI
    dsimp only
    rw [if_neg (by omega), sum_is, sum_is]
    simp only [Int.pow_succ, Int.pow_zero, Int.one_mul]
  rw [e]
  omega
/-- the answer to a table, told by what it is refused for -/
theorem two_case (l : List Int) : Sh70Neutral.toInts (l.map Int.toNat) = l.map fun x => (x.toNat : Int) := by
  unfold Sh70Neutral.toInts
  rw [List.map_map]
  rfl
theorem spec_scatters {k : Int} {ns : List Int} (hk : 0 ≤ k) (hn : ∀ x ∈ ns, 0 ≤ x ∧ x ≤ 4294967295) :
    PySh70.scatters k ns = if refusal k ns = 0 then 0 :: (List.range k.toNat).map (fun s => scatterI (column s (rowsOf k.toNat (ns.map sgn)))) else [refusal k ns] := by
  show Sh70Neutral.flatten (Sh70.answer (if (Sh70.isTableSize k.toNat ((Sh70Neutral.toNats ns).length / k.toNat)) = true then .scatters k.toNat (Sh70.signedWords (Sh70Neutral.toNats ns)) else .invalid)) = _
  rw [toNats_len, size_eq hk, signed_eq hn]
  rcases refusal_cases k ns with ⟨h1, h2⟩ | ⟨h1, h2, h3⟩ | ⟨h1, h2, h3⟩
  · rw [h1, h2]; rfl
  · rw [h1, h3, if_pos rfl]
    show Sh70Neutral.flatten (if Sh70.areValidMagnitudes (ns.map sgn) = false then Sh70.errorAnswer (-3) else _) = _
    rw [mags_eq, if_pos h2]; rfl
  · rw [h1, h3, if_pos rfl, if_pos rfl]
    show Sh70Neutral.flatten (if Sh70.areValidMagnitudes (ns.map sgn) = false then Sh70.errorAnswer (-3) else _) = _
    rw [mags_eq, if_neg (by rw [h2]; decide)]
    show 0 :: Sh70Neutral.toInts ((List.range k.toNat).map fun star => Sh70.scatter (Sh70.starColumn k.toNat (ns.map sgn) star)) = _
    unfold Sh70Neutral.toInts
    rw [List.map_map]
    congr 1
    refine List.map_congr_left fun s hs => ?_
    rw [List.mem_range] at hs
    show ((Sh70.scatter (Sh70.starColumn k.toNat (ns.map sgn) s) : Nat) : Int) = _
    rw [column_is hs]
    refine scatter_is ?_
    rw [column_len, rows_len, List.length_map]
    have := size_bounds h1
    omega
/-! ### medians, extinctions -/
theorem med_mem {xs : List Int} (h : 0 < xs.length) : Sh70.median xs ∈ xs := by
  unfold Sh70.median Sh70.intAt
  have hl : (xs.mergeSort fun a b => decide (a ≤ b)).length = xs.length := List.length_mergeSort xs
  have hi : (xs.length - 1) / 2 < (xs.mergeSort fun a b => decide (a ≤ b)).length := by
    rw [hl]
    omega
  rw [List.getD_eq_getElem?_getD, List.getElem?_eq_getElem hi]
  exact (List.mergeSort_perm xs _).mem_iff.mp (List.getElem_mem hi)
theorem word_uns {z : Int} (h : -4294967296 ≤ z ∧ z < 4294967296) : ((Sh70.word32 z : Nat) : Int) = uns z := by
  unfold Sh70.word32 uns
  split <;> omega
theorem ints_words {l : List Int} (h : ∀ z ∈ l, -4294967296 ≤ z ∧ z < 4294967296) : Sh70Neutral.toInts (l.map Sh70.word32) = l.map uns := by
  unfold Sh70Neutral.toInts
  rw [List.map_map]
  exact List.map_congr_left fun z hz => word_uns (h z hz)
def medians (k : Nat) (rows : List (List Int)) : List Int := (List.range k).map fun s => Sh70.median (column s rows)
def extOf (r ms : List Int) : Int := Sh70.median ((r.zip ms).map fun p => p.1 - p.2)
theorem medians_len (k : Nat) (rows : List (List Int)) : (medians k rows).length = k := by
  unfold medians
  rw [List.length_map, List.length_range]
theorem medians_is {k : Nat} {xs : List Int} : Sh70.starMedians k xs = medians k (rowsOf k xs) := by
  unfold Sh70.starMedians medians
  refine List.map_congr_left fun s hs => ?_
  rw [List.mem_range] at hs
  rw [column_is hs]
theorem exts_is {k : Nat} {xs : List Int} : Sh70.extinctions k xs = (rowsOf k xs).map fun r => extOf r (medians k (rowsOf k xs)) := by
  show ((List.range (xs.length / k)).map fun image => Sh70.median (((Sh70.imageRow k xs image).zip (Sh70.starMedians k xs)).map fun pair => pair.1 - pair.2)) = _
  rw [medians_is]
  conv => rhs; arg 2; unfold rowsOf
  rw [List.map_map]
  rfl
theorem medians_small {ns : List Int} {k : Nat} (h : magsOk ns = true) (hl : (ns.map sgn).length = k * ((ns.map sgn).length / k)) (h0 : 0 < (ns.map sgn).length / k) : ∀ z ∈ medians k (rowsOf k (ns.map sgn)), -100000 < z ∧ z < 100000 := by
  intro z hz
  unfold medians at hz
  obtain ⟨s, hs, rfl⟩ := List.mem_map.mp hz
  rw [List.mem_range] at hs
  refine column_small h hs hl _ (med_mem ?_)
  rw [column_len, rows_len]
  exact h0
theorem ext_small {ns r : List Int} {k : Nat} (h : magsOk ns = true) (hl : (ns.map sgn).length = k * ((ns.map sgn).length / k)) (h0 : 0 < (ns.map sgn).length / k) (hk : 0 < k) (hr : r ∈ rowsOf k (ns.map sgn)) :
    -200000 < extOf r (medians k (rowsOf k (ns.map sgn))) ∧ extOf r (medians k (rowsOf k (ns.map sgn))) < 200000 := by
  have hm := med_mem (xs := (r.zip (medians k (rowsOf k (ns.map sgn)))).map fun p => p.1 - p.2) (by
    rw [List.length_map, List.length_zip, medians_len, row_len hl hr]
    omega)
  have e : extOf r (medians k (rowsOf k (ns.map sgn))) = Sh70.median ((r.zip (medians k (rowsOf k (ns.map sgn)))).map fun p => p.1 - p.2) := rfl
  rw [e]
  obtain ⟨p, hp, hpe⟩ := List.mem_map.mp hm
  have h1 := mags_small h p.1 (row_mem hr _ (List.of_mem_zip hp).1)
  have h2 := medians_small h hl h0 p.2 (List.of_mem_zip hp).2
  rw [← hpe]
  omega
def ansExt (k : Nat) (ns : List Int) : List Int := 0 :: (k : Int) :: (medians k (rowsOf k (ns.map sgn))).map uns ++ [((rowsOf k (ns.map sgn)).length : Int)] ++ (rowsOf k (ns.map sgn)).map fun r => uns (extOf r (medians k (rowsOf k (ns.map sgn))))
theorem spec_extinctions {k : Int} {ns : List Int} (hk : 0 ≤ k) (hn : ∀ x ∈ ns, 0 ≤ x ∧ x ≤ 4294967295) (hd : sizeOk k ns.length = true → ns.length = k.toNat * (ns.length / k.toNat)) :
    PySh70.extinctions k ns = if refusal k ns = 0 then ansExt k.toNat ns else [refusal k ns] := by
  show Sh70Neutral.flatten (Sh70.answer (if (Sh70.isTableSize k.toNat ((Sh70Neutral.toNats ns).length / k.toNat)) = true then .extinctions k.toNat (Sh70.signedWords (Sh70Neutral.toNats ns)) else .invalid)) = _
  rw [toNats_len, size_eq hk, signed_eq hn]
  rcases refusal_cases k ns with ⟨h1, h2⟩ | ⟨h1, h2, h3⟩ | ⟨h1, h2, h3⟩
  · rw [h1, h2]; rfl
  · rw [h1, h3, if_pos rfl]
    show Sh70Neutral.flatten (if Sh70.areValidMagnitudes (ns.map sgn) = false then Sh70.errorAnswer (-3) else _) = _
    rw [mags_eq, if_pos h2]; rfl
  · rw [h1, h3, if_pos rfl, if_pos rfl]
    show Sh70Neutral.flatten (if Sh70.areValidMagnitudes (ns.map sgn) = false then Sh70.errorAnswer (-3) else _) = _
    rw [mags_eq, if_neg (by rw [h2]; decide)]
    have hb := size_bounds h1
    have hl : (ns.map sgn).length = k.toNat * ((ns.map sgn).length / k.toNat) := by
      rw [List.length_map]
      exact hd h1
    have h0 : 0 < (ns.map sgn).length / k.toNat := by
      rw [List.length_map]
      omega
    show 0 :: ((((Sh70.starMedians k.toNat (ns.map sgn)).map Sh70.word32).length : Int) :: Sh70Neutral.toInts ((Sh70.starMedians k.toNat (ns.map sgn)).map Sh70.word32) ++ ((((Sh70.extinctions k.toNat (ns.map sgn)).map Sh70.word32).length : Int) :: Sh70Neutral.toInts ((Sh70.extinctions k.toNat (ns.map sgn)).map Sh70.word32) ++ [])) = _
    rw [medians_is, exts_is, ints_words, ints_words, List.length_map, List.length_map, List.length_map, medians_len, List.map_map, List.append_nil]
    · unfold ansExt
      simp only [List.cons_append, List.append_assoc, List.nil_append, List.singleton_append]
      rfl
    · intro z hz
      obtain ⟨r, hr, rfl⟩ := List.mem_map.mp hz
      have := ext_small h2 hl h0 (by omega) hr
      omega
    · intro z hz
      have := medians_small h2 hl h0 z hz
      omega
/-! ### corrected magnitudes -/
theorem flatMap_same {α β : Type} {f g : α → List β} : ∀ {l : List α}, (∀ a ∈ l, f a = g a) → l.flatMap f = l.flatMap g
  | [], _ => rfl
  | a :: l, h => by
    rw [List.flatMap_cons, List.flatMap_cons, h a (List.mem_cons_self ..), flatMap_same fun b hb => h b (List.mem_cons_of_mem _ hb)]
theorem range_rows (m k : Nat) {α : Type} (f : Nat → α) : (List.range (m * k)).map f = (List.range m).flatMap fun i => (List.range k).map fun j => f (i * k + j) := by
  induction m with
  | zero => simp
  | succ m ih =>
    rw [Nat.add_mul, Nat.one_mul, List.range_add, List.map_append, ih, List.range_succ, List.flatMap_append, List.map_map]
    simp only [List.flatMap_cons, List.flatMap_nil, List.append_nil]
    rfl
theorem row_range {k i : Nat} {xs : List Int} (h : (i + 1) * k ≤ xs.length) : (xs.drop (i * k)).take k = (List.range k).map fun j => Sh70.intAt xs (i * k + j) := by
  rw [Nat.add_mul, Nat.one_mul] at h
  apply List.ext_getElem?
  intro j
  by_cases hj : j < k
  · rw [List.getElem?_take_of_lt hj, List.getElem?_drop, List.getElem?_map, List.getElem?_range hj]
    unfold Sh70.intAt
    have h2 : i * k + j < xs.length := by omega
    rw [List.getElem?_eq_getElem h2]
    show some _ = some (xs.getD (i * k + j) 0)
    rw [List.getD_eq_getElem?_getD, List.getElem?_eq_getElem h2]
    rfl
  · rw [List.getElem?_eq_none (by simp; omega), List.getElem?_eq_none (by simp; omega)]
def corrOf (k : Nat) (xs : List Int) : List Int := (rowsOf k xs).flatMap fun r => r.map fun x => x - extOf r (medians k (rowsOf k xs))
theorem corr_is {k : Nat} {xs : List Int} (hk : 0 < k) (hl : xs.length = k * (xs.length / k)) : Sh70.corrected k xs = corrOf k xs := by
  show ((List.range xs.length).map fun i => Sh70.intAt xs i - Sh70.intAt (Sh70.extinctions k xs) (i / k)) = _
  rw [exts_is]
  have e : xs.length = (xs.length / k) * k := by rw [Nat.mul_comm]; exact hl
  conv => lhs; arg 2; rw [e]
  rw [range_rows]
  unfold corrOf
  conv => rhs; arg 2; unfold rowsOf
  rw [List.flatMap_map]
  refine flatMap_same fun i hi => ?_
  rw [List.mem_range] at hi
  have h3 : (i + 1) * k ≤ (xs.length / k) * k := Nat.mul_le_mul_right k hi
  rw [← e] at h3
  have er : (xs.drop (i * k)).take k = (List.range k).map fun j => Sh70.intAt xs (i * k + j) := row_range h3
  conv => rhs; arg 2; rw [er]
  rw [List.map_map]
  refine List.map_congr_left fun j hj => ?_
  rw [List.mem_range] at hj
  have ed : (i * k + j) / k = i := by
    rw [Nat.mul_comm, Nat.mul_add_div hk, Nat.div_eq_of_lt hj, Nat.add_zero]
  show _ - Sh70.intAt _ ((i * k + j) / k) = _ - _
  rw [ed]
  congr 1
  unfold Sh70.intAt
  rw [List.getD_eq_getElem?_getD, List.getElem?_map]
  have hr : (rowsOf k xs)[i]? = some ((xs.drop (i * k)).take k) := by
    unfold rowsOf
    rw [List.getElem?_map, List.getElem?_range hi]
    rfl
  rw [hr]
  rfl
theorem spec_corrected {k : Int} {ns : List Int} (hk : 0 ≤ k) (hn : ∀ x ∈ ns, 0 ≤ x ∧ x ≤ 4294967295) (hd : sizeOk k ns.length = true → ns.length = k.toNat * (ns.length / k.toNat)) :
    PySh70.corrected_magnitudes k ns = if refusal k ns = 0 then 0 :: (corrOf k.toNat (ns.map sgn)).map uns else [refusal k ns] := by
  show Sh70Neutral.flatten (Sh70.answer (if (Sh70.isTableSize k.toNat ((Sh70Neutral.toNats ns).length / k.toNat)) = true then .corrected k.toNat (Sh70.signedWords (Sh70Neutral.toNats ns)) else .invalid)) = _
  rw [toNats_len, size_eq hk, signed_eq hn]
  rcases refusal_cases k ns with ⟨h1, h2⟩ | ⟨h1, h2, h3⟩ | ⟨h1, h2, h3⟩
  · rw [h1, h2]; rfl
  · rw [h1, h3, if_pos rfl]
    show Sh70Neutral.flatten (if Sh70.areValidMagnitudes (ns.map sgn) = false then Sh70.errorAnswer (-3) else _) = _
    rw [mags_eq, if_pos h2]; rfl
  · rw [h1, h3, if_pos rfl, if_pos rfl]
    show Sh70Neutral.flatten (if Sh70.areValidMagnitudes (ns.map sgn) = false then Sh70.errorAnswer (-3) else _) = _
    rw [mags_eq, if_neg (by rw [h2]; decide)]
    have hb := size_bounds h1
    have hl : (ns.map sgn).length = k.toNat * ((ns.map sgn).length / k.toNat) := by
      rw [List.length_map]
      exact hd h1
    have h0 : 0 < (ns.map sgn).length / k.toNat := by
      rw [List.length_map]
      omega
    show 0 :: Sh70Neutral.toInts ((Sh70.corrected k.toNat (ns.map sgn)).map Sh70.word32) = _
    rw [corr_is (by omega) hl, ints_words]
    intro z hz
    unfold corrOf at hz
    obtain ⟨r, hr, hz⟩ := List.mem_flatMap.mp hz
    obtain ⟨x, hx, rfl⟩ := List.mem_map.mp hz
    have h4 := ext_small h2 hl h0 (by omega) hr
    have h5 := mags_small h2 x (row_mem hr x hx)
    omega
/-! ### differential magnitudes -/
def wOk (ws : List Int) : Bool := ws.all fun w => decide (w ≤ 65535)
def others (s : Nat) (ws : List Int) : List Int := ws.set s 0
def wsum (s : Nat) (ws r : List Int) : Int := (((others s ws).zip r).map fun p => p.1 * p.2).sum
def rdiv (a b : Int) : Int := (2 * a + b) / (2 * b)
def dmag (s : Nat) (ws r : List Int) : Int := if (others s ws).sum = 0 then 0 else r.getD s 0 - rdiv (wsum s ws r) (others s ws).sum
theorem filt_all : ∀ (l : List Nat) (n m : Nat), m < n → ((l.zipIdx n).filter fun e => e.2 != m) = l.zipIdx n
  | [], _, _, _ => rfl
  | a :: l, n, m, h => by
    rw [List.zipIdx_cons, List.filter_cons, if_pos (by simp; omega), filt_all l (n + 1) m (by omega)]
theorem filt_set (f : Nat × Nat → Int) (h0 : ∀ i, f (0, i) = 0) : ∀ (l : List Nat) (n s : Nat), (((l.zipIdx n).filter fun e => e.2 != n + s).map f).sum = (((l.set s 0).zipIdx n).map f).sum
  | [], _, _ => rfl
  | a :: l, n, 0 => by
    rw [List.zipIdx_cons, List.filter_cons, if_neg (by simp), Nat.add_zero, filt_all l (n + 1) n (by omega), List.set_cons_zero, List.zipIdx_cons, List.map_cons, List.sum_cons, h0, Int.zero_add]
  | a :: l, n, s + 1 => by
    have ih := filt_set f h0 l (n + 1) s
    rw [show n + 1 + s = n + (s + 1) by omega] at ih
    rw [List.zipIdx_cons, List.filter_cons, if_pos (by simp), List.set_cons_succ, List.zipIdx_cons, List.map_cons, List.map_cons, List.sum_cons, List.sum_cons, ih]
theorem idx_fst : ∀ (l : List Nat) (n : Nat), ((l.zipIdx n).map fun e => (e.1 : Int)).sum = (l.map fun x : Nat => (x : Int)).sum
  | [], _ => rfl
  | a :: l, n => by
    rw [List.zipIdx_cons, List.map_cons, List.map_cons, List.sum_cons, List.sum_cons, idx_fst l (n + 1)]
theorem idx_zip : ∀ (l : List Nat) (n : Nat) (r : List Int), n + l.length ≤ r.length → ((l.zipIdx n).map fun e => (e.1 : Int) * Sh70.intAt r e.2).sum = (((l.map fun x : Nat => (x : Int)).zip (r.drop n)).map fun p => p.1 * p.2).sum
  | [], _, _, _ => rfl
  | a :: l, n, r, h => by
    rw [List.length_cons] at h
    have hn : n < r.length := by omega
    rw [List.zipIdx_cons, List.map_cons, List.map_cons, List.sum_cons, idx_zip l (n + 1) r (by omega), List.drop_eq_getElem_cons hn, List.zip_cons_cons, List.map_cons, List.sum_cons]
    congr 2
    unfold Sh70.intAt
    rw [List.getD_eq_getElem?_getD, List.getElem?_eq_getElem hn]
    rfl
theorem nat_sum : ∀ l : List Nat, ((l.sum : Nat) : Int) = (l.map fun x : Nat => (x : Int)).sum
  | [] => rfl
  | a :: l => by
    rw [List.sum_cons, List.map_cons, List.sum_cons, Int.natCast_add, nat_sum l]
theorem back_nats {ws : List Int} (h : ∀ x ∈ ws, 0 ≤ x) : (Sh70Neutral.toNats ws).map (fun x : Nat => (x : Int)) = ws := by
  unfold Sh70Neutral.toNats
  rw [List.map_map]
  conv => rhs; rw [← List.map_id ws]
  refine List.map_congr_left fun x hx => ?_
  have := h x hx
  show ((x.toNat : Nat) : Int) = x
  omega
theorem back_set {ws : List Int} (h : ∀ x ∈ ws, 0 ≤ x) (s : Nat) : ((Sh70Neutral.toNats ws).set s 0).map (fun x : Nat => (x : Int)) = others s ws := by
  rw [List.map_set, back_nats h]
  rfl
theorem differential_is {ws r : List Int} (h : ∀ x ∈ ws, 0 ≤ x) (hl : ws.length = r.length) (s : Nat) : Sh70.differential (Sh70Neutral.toNats ws) s r = dmag s ws r := by
  have e1 : (((((Sh70Neutral.toNats ws).zipIdx.filter fun entry => entry.2 != s).map fun entry => entry.1).sum : Nat) : Int) = (others s ws).sum := by
    rw [nat_sum, List.map_map]
    have h1 := filt_set (fun e => (e.1 : Int)) (fun _ => rfl) (Sh70Neutral.toNats ws) 0 s
    rw [Nat.zero_add, idx_fst, back_set h] at h1
    exact h1
  have e2 : (((Sh70Neutral.toNats ws).zipIdx.filter fun entry => entry.2 != s).map fun entry => (entry.1 : Int) * Sh70.intAt r entry.2).sum = wsum s ws r := by
    have h1 := filt_set (fun e => (e.1 : Int) * Sh70.intAt r e.2) (fun i => by show ((0 : Nat) : Int) * _ = 0; rw [Int.natCast_zero, Int.zero_mul]) (Sh70Neutral.toNats ws) 0 s
    rw [Nat.zero_add, idx_zip _ 0 r (by rw [List.length_set, toNats_len]; omega), back_set h, List.drop_zero] at h1
    exact h1
  unfold Sh70.differential dmag
  dsimp only
  rw [sum_is, e2]
  by_cases z : (others s ws).sum = 0
  · rw [if_pos z, if_pos (by omega)]
  · rw [if_neg z, if_neg (by omega)]
    unfold Sh70.roundDiv rdiv Sh70.intAt
    rw [e1]
theorem w_eq {ws : List Int} (h : ∀ x ∈ ws, 0 ≤ x) : ((Sh70Neutral.toNats ws).all fun weight => decide (weight < 65536)) = wOk ws := by
  unfold Sh70Neutral.toNats wOk
  rw [List.all_map, Bool.eq_iff_iff, List.all_eq_true, List.all_eq_true]
  constructor
  · intro g x hx
    have h1 := g x hx
    have h2 := h x hx
    have h1 : x.toNat < 65536 := of_decide_eq_true h1
    exact decide_eq_true (by omega)
  · intro g x hx
    have h1 := of_decide_eq_true (g x hx)
    have h2 := h x hx
    exact decide_eq_true (by show x.toNat < 65536; omega)
theorem sum_bounds {b : Int} : ∀ {l : List Int}, (∀ x ∈ l, 0 ≤ x ∧ x ≤ b) → 0 ≤ l.sum ∧ l.sum ≤ (l.length : Int) * b
  | [], _ => by simp
  | x :: r, h => by
    have ih := sum_bounds fun y hy => h y (List.mem_cons_of_mem _ hy)
    have hx := h x (List.mem_cons_self ..)
    rw [List.sum_cons, List.length_cons, Int.natCast_add, Int.add_mul]
    omega
theorem others_in {s : Nat} {ws : List Int} (h : ∀ x ∈ ws, 0 ≤ x) (hw : wOk ws = true) : ∀ x ∈ others s ws, 0 ≤ x ∧ x ≤ 65535 := by
  intro x hx
  rcases List.mem_or_eq_of_mem_set hx with z | z
  · exact ⟨h x z, of_decide_eq_true (List.all_eq_true.mp hw x z)⟩
  · omega
theorem prod_bounds : ∀ {l r : List Int}, (∀ x ∈ l, 0 ≤ x) → (∀ y ∈ r, -100000 < y ∧ y < 100000) → -(100000 * l.sum) ≤ ((l.zip r).map fun p => p.1 * p.2).sum ∧ ((l.zip r).map fun p => p.1 * p.2).sum ≤ 100000 * l.sum
  | [], _, _, _ => by simp
  | x :: l, [], h, _ => by
    have : 0 ≤ (x :: l).sum := by
      have g : ∀ (l : List Int), (∀ x ∈ l, 0 ≤ x) → 0 ≤ l.sum := by
        intro l
        induction l with
        | nil => intro _; simp
        | cons a l ih => intro h; rw [List.sum_cons]; have := h a (List.mem_cons_self ..); have := ih fun y hy => h y (List.mem_cons_of_mem _ hy); omega
      exact g _ h
    rw [List.zip_nil_right, List.map_nil, List.sum_nil]
    omega
  | x :: l, y :: r, h, g => by
    have ih := prod_bounds (l := l) (r := r) (fun z hz => h z (List.mem_cons_of_mem _ hz)) (fun z hz => g z (List.mem_cons_of_mem _ hz))
    have hx := h x (List.mem_cons_self ..)
    have hy := g y (List.mem_cons_self ..)
    have h1 : x * y ≤ x * 100000 := Int.mul_le_mul_of_nonneg_left (by omega) hx
    have h2 : x * (-100000) ≤ x * y := Int.mul_le_mul_of_nonneg_left (by omega) hx
    rw [List.zip_cons_cons, List.map_cons, List.sum_cons, List.sum_cons]
    show _ ≤ x * y + _ ∧ x * y + _ ≤ _
    omega
theorem rdiv_bounds {a b : Int} (hb : 0 < b) (h1 : -(100000 * b) ≤ a) (h2 : a ≤ 100000 * b) : -100001 ≤ rdiv a b ∧ rdiv a b ≤ 100001 := by
  unfold rdiv
  constructor
  · refine (Int.le_ediv_iff_mul_le (by omega)).mpr ?_
    omega
  · refine Int.ediv_le_of_le_mul (by omega) ?_
    omega
theorem dmag_small {s : Nat} {ws r : List Int} (h : ∀ x ∈ ws, 0 ≤ x) (hw : wOk ws = true) (hr : ∀ y ∈ r, -100000 < y ∧ y < 100000) (hs : s < r.length) : -300000 ≤ dmag s ws r ∧ dmag s ws r ≤ 300000 := by
  unfold dmag
  by_cases z : (others s ws).sum = 0
  · rw [if_pos z]; omega
  · rw [if_neg z]
    have h1 := sum_bounds (others_in (s := s) h hw)
    have h2 := prod_bounds (l := others s ws) (r := r) (fun x hx => (others_in h hw x hx).1) hr
    have h3 := rdiv_bounds (a := wsum s ws r) (b := (others s ws).sum) (by omega) h2.1 h2.2
    have h4 := hr (r.getD s 0) (by
      rw [List.getD_eq_getElem?_getD, List.getElem?_eq_getElem hs]
      exact List.getElem_mem hs)
    omega
def ref4 (k star : Int) (ws ns : List Int) : Int := if wOk ws = false then -2 else if refusal k ns = 0 then (if k ≤ star then -4 else 0) else refusal k ns
theorem asked4 {k star : Int} {ws ns : List Int} (hs : sizeOk k ns.length = true) (hk : 0 ≤ k) (ha : PySh70.differential_magnitudes_asked k star ws ns = true) : ws.length = k.toNat ∧ ns.length = k.toNat * (ns.length / k.toNat) := by
  have h1 : (Sh70Neutral.asked1 [[3, k, star], ws, ns] && decide ((Sh70Neutral.f [[3, k, star], ws, ns]).length < 1000000)) = true := ha
  rw [Bool.and_eq_true] at h1
  have h2 : (Sh70Neutral.fits k 32 && (Sh70Neutral.fits star 32 && (Sh70Neutral.allFit ws 32 && (Sh70Neutral.allFit ns 32 && (if (Sh70.isTableSize (k.toNat) (((Sh70Neutral.toNats ns).length / k.toNat))) = true then ws.length == (k.toNat) && ns.length == (k.toNat * ((Sh70Neutral.toNats ns).length / k.toNat)) else ((ws.isEmpty && ns.isEmpty) || (ws.length == (k.toNat) && ns.length == (k.toNat * ((Sh70Neutral.toNats ns).length / k.toNat))))))))) = true := h1.1
  rw [Bool.and_eq_true, Bool.and_eq_true, Bool.and_eq_true, Bool.and_eq_true] at h2
  have h3 := h2.2.2.2.2
  rw [toNats_len, size_eq hk, hs] at h3
  simpa using h3
theorem spec_differential {k star : Int} {ws ns : List Int} (hk : 0 ≤ k) (hst : 0 ≤ star) (hw : ∀ x ∈ ws, 0 ≤ x ∧ x ≤ 4294967295) (hn : ∀ x ∈ ns, 0 ≤ x ∧ x ≤ 4294967295) (hd : sizeOk k ns.length = true → ws.length = k.toNat ∧ ns.length = k.toNat * (ns.length / k.toNat)) :
    PySh70.differential_magnitudes k star ws ns = if ref4 k star ws ns = 0 then 0 :: (rowsOf k.toNat (ns.map sgn)).map (fun r => uns (dmag star.toNat ws r)) else [ref4 k star ws ns] := by
  show Sh70Neutral.flatten (Sh70.answer (if (Sh70.isTableSize k.toNat ((Sh70Neutral.toNats ns).length / k.toNat)) = true then .differential star.toNat k.toNat (Sh70Neutral.toNats ws) (Sh70.signedWords (Sh70Neutral.toNats ns)) else .invalid)) = _
  rw [toNats_len, size_eq hk, signed_eq hn]
  have hw0 : ∀ x ∈ ws, 0 ≤ x := fun x hx => (hw x hx).1
  unfold ref4
  rcases refusal_cases k ns with ⟨h1, h2⟩ | ⟨h1, h2, h3⟩ | ⟨h1, h2, h3⟩
  · rw [h1, h2]
    cases wOk ws <;> rfl
  · rw [h1, h3, if_pos rfl]
    show Sh70Neutral.flatten (if ((Sh70Neutral.toNats ws).all fun weight => decide (weight < 65536)) = false then Sh70.errorAnswer (-2) else if Sh70.areValidMagnitudes (ns.map sgn) = false then Sh70.errorAnswer (-3) else _) = _
    rw [w_eq hw0, mags_eq, if_pos h2]
    cases wOk ws <;> rfl
  · rw [h1, h3, if_pos rfl]
    show Sh70Neutral.flatten (if ((Sh70Neutral.toNats ws).all fun weight => decide (weight < 65536)) = false then Sh70.errorAnswer (-2) else if Sh70.areValidMagnitudes (ns.map sgn) = false then Sh70.errorAnswer (-3) else if k.toNat ≤ star.toNat then Sh70.errorAnswer (-4) else _) = _
    rw [w_eq hw0, mags_eq, if_neg (show ¬ magsOk ns = false by rw [h2]; decide)]
    cases e : wOk ws with
    | false => rfl
    | true =>
      rw [if_neg (by decide), if_pos rfl]
      by_cases hs : k ≤ star
      · rw [if_pos (by omega), if_pos hs, if_neg (by decide)]
        rfl
      · rw [if_neg (by omega), if_neg hs, if_neg (show ¬ (true = false) by decide), if_pos rfl]
        obtain ⟨hd1, hd2⟩ := hd h1
        have hl : (ns.map sgn).length = k.toNat * ((ns.map sgn).length / k.toNat) := by
          rw [List.length_map]
          exact hd2
        show 0 :: Sh70Neutral.toInts ((List.range ((ns.map sgn).length / k.toNat)).map fun image => Sh70.word32 (Sh70.differential (Sh70Neutral.toNats ws) star.toNat (Sh70.imageRow k.toNat (ns.map sgn) image))) = _
        unfold Sh70Neutral.toInts
        conv => rhs; arg 2; arg 2; unfold rowsOf
        rw [List.map_map, List.map_map]
        congr 1
        refine List.map_congr_left fun i hi => ?_
        rw [List.mem_range] at hi
        have hr : (((ns.map sgn).drop (i * k.toNat)).take k.toNat) ∈ rowsOf k.toNat (ns.map sgn) := by
          unfold rowsOf
          exact List.mem_map.mpr ⟨i, List.mem_range.mpr hi, rfl⟩
        have hrl := row_len hl hr
        show ((Sh70.word32 (Sh70.differential (Sh70Neutral.toNats ws) star.toNat (((ns.map sgn).drop (i * k.toNat)).take k.toNat)) : Nat) : Int) = uns (dmag star.toNat ws (((ns.map sgn).drop (i * k.toNat)).take k.toNat))
        rw [differential_is hw0 (by omega)]
        have hb := dmag_small (s := star.toNat) hw0 e (fun y hy => mags_small h2 y (row_mem hr y hy)) (by omega)
        exact word_uns (by omega)
def spread (xs : List Int) : Int := (xs.length : Int) * (xs.map fun x => x * x).sum - xs.sum ^ 2
end Lm

set_option Elab.async false
set_option linter.all false
set_option maxRecDepth 100000
set_option maxHeartbeats 4000000
namespace Lp
open PySem PySem.Spec PyProof.Rows L2 Evl Lb
open PySem.W (Codec)
def topS (i : Nat) : Stmt := PySem.Challenge.pw_lightcurves_s03_scatters.main.body.getD i (.Pass ⟨0, 0, 0, 0⟩)
abbrev s_to_signed : Stmt := topS 4
abbrev s_size_allowed : Stmt := topS 5
abbrev s_magnitudes_allowed : Stmt := topS 6
abbrev s_table_refusal : Stmt := topS 7
abbrev s_read_images : Stmt := topS 8
abbrev s_star_values : Stmt := topS 9
abbrev s_spread_of : Stmt := topS 10
abbrev s_scatter_of : Stmt := topS 11
abbrev s_star_scatters : Stmt := topS 12
abbrev s_scatters : Stmt := topS 14
section
variable {P : Program} {w : World} {K : PySem.W.Frag} {mg : Str → Option Value} {base : Heap}
/-! ### to_signed -/
theorem cp31 : CPow 2 31 := ⟨by decide, by decide, by decide⟩
theorem cp32 : CPow 2 32 := ⟨by decide, by decide, by decide⟩
theorem e31 : (2 : Int) ^ (31 : Int).toNat = 2147483648 := by decide
theorem e32 : (2 : Int) ^ (32 : Int).toNat = 4294967296 := by decide
def sp_to_signed : Sp := fun vs H Q _ => ∃ n : Int, vs = [.int n] ∧ RetV (.int (Lm.sgn n)) H Q
theorem sc_to_signed : FnScope ["number"] ["number"] (defScope s_to_signed) := ⟨rfl, rfl, rfl, by decide +kernel, rfl, by decide +kernel, by decide +kernel⟩
theorem ok_to_signed {f : Addr} {fd : FuncData} (F : Fun K "to_signed" "to_signed" s_to_signed f fd) : FnOk P w K mg base CX0 1 f fd ["number"] sp_to_signed := by
  refine F.ok sc_to_signed (fun vs H Q E h => ?_) (fun cdv A outer s H vs Q E hr h => ?_)
  · obtain ⟨n, rfl, _⟩ := h
    rfl
  · obtain ⟨n, rfl, q⟩ := h
    refine ⟨_, pss_cons (ps_if (pt_cmpR op_ge (pv 0) (pe_op op_pow pe_int pe_int) (nomark _)) (pss_one (ps_ret (pe_op op_sub (pv 0) (pe_op op_pow pe_int pe_int)))) pss_nil) (pss_one (ps_ret (pv 0))), ?_⟩
    refine q_when (et_test (ev_op (ev_var (v := .int n) rfl) (ev_op ev_c ev_c (rv_I cp31)) rv_I0)) (fun hb H1 e1 => ?_) (fun hb H1 e1 => ?_)
    · have hb : (2 : Int) ^ (31 : Int).toNat ≤ n := of_decide_eq_true hb
      rw [e31] at hb
      refine s_ret (ev_is (ev_op (ev_var (v := .int n) rfl) (ev_op ev_c ev_c (rv_I cp32)) rv_I0) (?_ : _ = V.int (Lm.sgn n))) fun H2 e2 => q H2 (e1.trans e2)
      rw [e32]
      unfold Lm.sgn
      rw [if_pos hb]
    · have hb : ¬ (2 : Int) ^ (31 : Int).toNat ≤ n := of_decide_eq_false hb
      rw [e31] at hb
      refine s_ret (ev_is (ev_var (v := .int n) rfl) (?_ : _ = V.int (Lm.sgn n))) fun H2 e2 => q H2 (e1.trans e2)
      unfold Lm.sgn
      rw [if_neg hb]

/-! ### size_allowed -/
def sp_size_allowed : Sp := fun vs H Q _ => ∃ k n : Int, vs = [.int k, .int n] ∧ RetV (.bl (Lm.sizeOk k n)) H Q
theorem sc_size_allowed : FnScope ["star_count", "table_length", "image_count"] ["star_count", "table_length"] (defScope s_size_allowed) := ⟨rfl, rfl, rfl, by decide +kernel, rfl, by decide +kernel, by decide +kernel⟩
theorem ok_size_allowed {f : Addr} {fd : FuncData} {t1 t2 : Tok} (F : Fun K "size_allowed" "size_allowed" s_size_allowed f fd) (m1 : mg "MOST_STARS" = some (.int 32 t1)) (m2 : mg "MOST_IMAGES" = some (.int 64 t2)) :
    FnOk P w K mg base CX0 1 f fd ["star_count", "table_length"] sp_size_allowed := by
  refine F.ok sc_size_allowed (fun vs H Q E h => ?_) (fun cdv A outer s H vs Q E hr h => ?_)
  · obtain ⟨k, n, rfl, _⟩ := h
    rfl
  · obtain ⟨k, n, rfl, q⟩ := h
    refine ⟨_, pss_cons (ps_if (PW.pt (pw_or (pt_cmpR op_lt (pv 0) pe_int (nomark _)) (pw_or1 (pt_cmpR op_gt (pv 0) (pe_glob (v := .int 32) rfl m1 ⟨_, rfl⟩) (nomark _))))) (pss_one (ps_ret pe_bl)) pss_nil)
      (pss_cons (ps_set (i := 2) sc_size_allowed.nd rfl (.inl rfl) (pe_op op_fdiv (pv 1) (pv 0)))
      (pss_one (ps_ret (pe_and (pe_cmpR op_ge (pv 2) pe_int (nomark _)) (pe_one (pe_cmpR op_le (pv 2) (pe_glob (v := .int 64) rfl m2 ⟨_, rfl⟩) (nomark _))))))), ?_⟩
    refine q_when (et_or (et_test (ev_op (ev_var (v := .int k) rfl) ev_c rv_I0)) (fun _ => et_test (ev_op (ev_var (v := .int k) rfl) ev_c rv_I0))) (fun hb H1 e1 => ?_) (fun hb H1 e1 => ?_)
    · have hb : (decide (k < 1) || decide (32 < k)) = true := hb
      rw [Bool.or_eq_true, decide_eq_true_iff, decide_eq_true_iff] at hb
      refine s_ret (ev_is ev_c (?_ : _ = V.bl (Lm.sizeOk k n))) fun H2 e2 => q H2 (e1.trans e2)
      unfold Lm.sizeOk
      rw [if_pos hb]
    · have hb : (decide (k < 1) || decide (32 < k)) = false := hb
      rw [Bool.or_eq_false_iff, decide_eq_false_iff_not, decide_eq_false_iff_not] at hb
      refine q_asg (ev_op (ev_var (v := .int n) rfl) (ev_var (v := .int k) rfl) (rv_I ⟨by omega, by omega⟩)) fun H2 e2 => ?_
      refine s_ret (ev_is (ev_andV (ev_op (ev_var (v := .int (n / k)) rfl) ev_c rv_I0) (fun _ => ev_op (ev_var (v := .int (n / k)) rfl) ev_c rv_I0)) (?_ : _ = V.bl (Lm.sizeOk k n))) fun H3 e3 => q H3 ((e1.trans e2).trans e3)
      unfold Lm.sizeOk
      rw [if_neg (by omega)]

/-! ### magnitudes_allowed -/
def sp_magnitudes_allowed (K : PySem.W.Frag) : Sp := fun vs H Q _ => ∃ (a : Addr) (ns : List Int), vs = [.ref a] ∧ SqL K H a (ns.map V.int) ∧ ns.length ≤ 2200 ∧ RetV (.bl (Lm.magsOk ns)) H Q
theorem sc_magnitudes_allowed : FnScope ["magnitudes", "number"] ["magnitudes"] (defScope s_magnitudes_allowed) := ⟨rfl, rfl, rfl, by decide +kernel, rfl, by decide +kernel, by decide +kernel⟩
theorem ok_magnitudes_allowed {f : Addr} {fd : FuncData} {t1 : Tok} (F : Fun K "magnitudes_allowed" "magnitudes_allowed" s_magnitudes_allowed f fd) (m1 : mg "MAGNITUDE_BOUND" = some (.int 100000 t1)) (ma : mg "all" = none) (mb : mg "abs" = none)
    (c1 : Cal P w K mg base "to_signed" 1 ["number"] sp_to_signed) : FnOk P w K mg base CX0 2 f fd ["magnitudes"] (sp_magnitudes_allowed K) := by
  obtain ⟨f1, fd1, G1, g1, kp1, b1⟩ := c1
  refine F.ok sc_magnitudes_allowed (fun vs H Q E h => ?_) (fun cdv A outer s H vs Q E hr h => ?_)
  · obtain ⟨a, ns, rfl, _⟩ := h
    rfl
  · obtain ⟨a, ns, rfl, hS, hl, q⟩ := h
    have hr1 : Room 1 _ := hr.mono (by decide)
    refine ⟨_, pss_one (ps_ret (pe_callB (cr_all rfl) (by rfl) ma boot_all (pa_cons (pe_lc (own := [("number", 1)]) (g := gName 1) (tt := tYes) rfl sc_magnitudes_allowed.nd (pi_list (pv 0)) (blkOk_by (own := [("number", 1)]) (N := ["magnitudes", "number"]) (sc := defScope s_magnitudes_allowed) (by decide +kernel))
        (fun _ _ _ _ _ => pg_name (i := 1) sc_magnitudes_allowed.nd rfl (Or.inl rfl)) (fun _ _ _ _ _ => pts_nil)
        (fun _ _ _ _ _ => pe_cmpR op_lt (pe_callB call_abs (by rfl) mb boot_abs (pa_cons (pe_call G1 hr1 (by rfl) g1 kp1 b1 .nil pass0 (pa_cons (pv 1) pa_nil)) pa_nil)) (pe_glob (v := .int 100000) (by rfl) m1 ⟨_, rfl⟩) (nomark _))) pa_nil))), ?_⟩
    refine s_ret (ev_is (ev_cb1 (lc_m (l := ns) (fun n => V.bl (decide (Lm.absI (Lm.sgn n) < 100000))) (Yx := fun i x _ => (ns.map V.int)[i]? = some x) ?_ (by omega) ?_) (fun p H1 hp e1 => rc_all (bs := ns.map fun n => decide (Lm.absI (Lm.sgn n) < 100000)) ?_)) (?_ : _ = V.bl (Lm.magsOk ns))) q
    · have h := it_list (K := K) (σ := [some (.ref a), none]) (tl := tVar 0) (ev_var rfl) hS
      rw [List.length_map] at h
      exact h
    · intro i n x H2 hi e hx
      rw [List.getElem?_map, hi] at hx
      cases hx
      refine takes_name rfl ?_
      exact ev_op (ev_cb (ea_cons (ev_call (ea_cons (ev_var (v := .int n) rfl) ea_nil) (fun H1 e1 Q1 q1 E1 => ⟨n, rfl, q1⟩)) ea_nil) rc_abs) ev_c rv_I0
    · rw [List.map_map]
      exact sq_of hp
    · rw [List.all_map]
      rfl

/-! ### table_refusal -/
def sp_table_refusal (K : PySem.W.Frag) : Sp := fun vs H Q _ => ∃ (k : Int) (a : Addr) (ns : List Int), vs = [.int k, .ref a] ∧ SqL K H a (ns.map V.int) ∧ ns.length ≤ 2200 ∧ RetV (.int (Lm.refusal k ns)) H Q
theorem sc_table_refusal : FnScope ["star_count", "magnitudes"] ["star_count", "magnitudes"] (defScope s_table_refusal) := ⟨rfl, rfl, rfl, by decide +kernel, rfl, by decide +kernel, by decide +kernel⟩
theorem ok_table_refusal {f : Addr} {fd : FuncData} (F : Fun K "table_refusal" "table_refusal" s_table_refusal f fd) (ml : mg "len" = none)
    (c1 : Cal P w K mg base "size_allowed" 1 ["star_count", "table_length"] sp_size_allowed) (c2 : Cal P w K mg base "magnitudes_allowed" 2 ["magnitudes"] (sp_magnitudes_allowed K)) :
    FnOk P w K mg base CX0 3 f fd ["star_count", "magnitudes"] (sp_table_refusal K) := by
  obtain ⟨f1, fd1, G1, g1, kp1, b1⟩ := c1
  obtain ⟨f2, fd2, G2, g2, kp2, b2⟩ := c2
  refine F.ok sc_table_refusal (fun vs H Q E h => ?_) (fun cdv A outer s H vs Q E hr h => ?_)
  · obtain ⟨k, a, ns, rfl, _⟩ := h
    rfl
  · obtain ⟨k, a, ns, rfl, hS, hl, q⟩ := h
    have hr1 : Room 1 _ := hr.mono (by decide)
    have hr2 : Room 2 _ := hr.mono (by decide)
    refine ⟨_, pss_cons (ps_if (pt_not (pt_val (pe_call G1 hr1 (by rfl) g1 kp1 b1 .nil pass0 (pa_cons (pv 0) (pa_cons (pe_callB call_len_seq (by rfl) ml PySem.boot_len (pa_cons (pv 1) pa_nil)) pa_nil))))) (pss_one (ps_ret (pe_un un_neg pe_int))) pss_nil)
      (pss_cons (ps_if (pt_not (pt_val (pe_call G2 hr2 (by rfl) g2 kp2 b2 .nil pass0 (pa_cons (pv 1) pa_nil)))) (pss_one (ps_ret (pe_un un_neg pe_int))) pss_nil)
      (pss_one (ps_ret pe_int))), ?_⟩
    have len : Ev (tCB (rLenS K) (tCons (tVar 1) tNil)) [some (.int k), some (.ref a)] H (.int (ns.length : Int)) := by
      have h := ev_len (K := K) (ta := tVar 1) (σ := [some (.int k), some (.ref a)]) (ev_var rfl) hS
      rw [List.length_map] at h
      exact h
    refine q_when (et_not (et_B (ev_call (z := .bl (Lm.sizeOk k ns.length)) (ea_cons (ev_var (v := .int k) rfl) (ea_cons len ea_nil)) (fun H1 e1 Q1 q1 E1 => ⟨k, ns.length, rfl, q1⟩)))) (fun hb H1 e1 => ?_) (fun hb H1 e1 => ?_)
    · refine s_ret (ev_is (ev_un ev_c ru_neg) (?_ : _ = V.int (Lm.refusal k ns))) fun H2 e2 => q H2 (e1.trans e2)
      rw [Lm.refusal_size (by cases h : Lm.sizeOk k ns.length <;> simp_all)]
    · have hs : Lm.sizeOk k ns.length = true := by cases h : Lm.sizeOk k ns.length <;> simp_all
      refine q_when (et_not (et_B (ev_call (z := .bl (Lm.magsOk ns)) (ea_cons (ev_var (v := .ref a) rfl) ea_nil) (fun H2 e2 Q1 q1 E1 => ⟨a, ns, rfl, ex_l (e1.trans e2) hS, hl, q1⟩)))) (fun hb2 H2 e2 => ?_) (fun hb2 H2 e2 => ?_)
      · refine s_ret (ev_is (ev_un ev_c ru_neg) (?_ : _ = V.int (Lm.refusal k ns))) fun H3 e3 => q H3 ((e1.trans e2).trans e3)
        rw [Lm.refusal_mags hs (by cases h : Lm.magsOk ns <;> simp_all)]
      · refine s_ret (ev_is ev_c (?_ : _ = V.int (Lm.refusal k ns))) fun H3 e3 => q H3 ((e1.trans e2).trans e3)
        rw [Lm.refusal_ok hs (by cases h : Lm.magsOk ns <;> simp_all)]

/-! ### lists of lists of ints -/
def RowsI (H : Hp) (p : Addr) (rows : List (List Int)) : Prop := Rows H p (rows.map fun r => r.map V.int)
theorem RowsI.at_ {H : Hp} {p : Addr} {rows : List (List Int)} (h : RowsI H p rows) : ∃ as : List Addr, H p = some (.lst (as.map V.ref)) ∧ as.length = rows.length ∧ ∀ (i : Nat) (a : Addr) (r : List Int), as[i]? = some a → rows[i]? = some r → H a = some (.lst (r.map V.int)) := by
  obtain ⟨as, h1, h2, h3⟩ := h
  refine ⟨as, h1, by rw [h2, List.length_map], fun i a r ha hr => h3 i a _ ha ?_⟩
  rw [List.getElem?_map, hr]
  rfl
theorem RowsI.ex {H H' : Hp} {p : Addr} {rows : List (List Int)} (h : RowsI H p rows) (e : Ex H H') : RowsI H' p rows := Rows.ex h e
/-- what a walk over the images tells -/
theorem it_rows {K : PySem.W.Frag} {σ : L2.St} {H : Hp} {tl : TE} {p : Addr} {rows : List (List Int)} (h : Ev tl σ H (.ref p)) (hR : RowsI H p rows) :
    IterV (iList K tl) σ H rows.length (fun i x H4 => ∀ r, rows[i]? = some r → ∀ H0, Ex H H0 → ∃ a, x = .ref a ∧ H0 a = some (.lst (r.map V.int))) := by
  obtain ⟨as, h1, h2, h3⟩ := hR.at_
  have t := it_list (K := K) (σ := σ) (tl := tl) h (sq_of h1)
  rw [List.length_map, h2] at t
  intro H1 e R r
  refine t H1 e R fun J G Y H2 e2 w hG hY => r J G Y H2 e2 w hG fun i x H3 H4 hi e3 y => ?_
  obtain ⟨e4, hx⟩ := hY i x H3 H4 hi e3 y
  refine ⟨e4, fun row hrow H0 e0 => ?_⟩
  have hi2 : i < as.length := by omega
  rw [List.getElem?_map, List.getElem?_eq_getElem hi2] at hx
  have ex : V.ref as[i] = x := Option.some.inj hx
  exact ⟨as[i], ex.symm, e0 _ _ (h3 i _ row (List.getElem?_eq_getElem hi2) hrow)⟩

/-! ### read_images -/
def sp_read_images (K : PySem.W.Frag) : Sp := fun vs H Q _ => ∃ (k : Nat) (a : Addr) (ns : List Int), vs = [.int (k : Int), .ref a] ∧ SqL K H a (ns.map V.int) ∧ ns.length ≤ 2200 ∧ 1 ≤ k ∧ k ≤ 32 ∧ ns.length = k * (ns.length / k) ∧
  ∀ p H2, H p = none → Ex H H2 → RowsI H2 p (Lm.rowsOf k (ns.map Lm.sgn)) → Q (.ref p) H2
theorem sc_read_images : FnScope ["star_count", "magnitudes", "signed", "number", "start"] ["star_count", "magnitudes"] (defScope s_read_images) := ⟨rfl, rfl, rfl, by decide +kernel, rfl, by decide +kernel, by decide +kernel⟩
theorem size_up {n k m : Nat} (hk : 1 ≤ k) (e : n = k * m) : Builtin.Range.rangeSize 0 (n : Int) (k : Int) = (m : Int) := by
  unfold Builtin.Range.rangeSize
  rw [if_pos (by omega)]
  cases m with
  | zero =>
    rw [if_neg (by rw [e, Nat.mul_zero]; decide)]
    rfl
  | succ m =>
    have e2 : (n : Int) - 0 - 1 = ((k : Int) - 1) + (k : Int) * (m : Int) := by
      rw [e, Int.natCast_mul, Int.natCast_add, Int.mul_add]
      omega
    have h0 : 0 < k * (m + 1) := Nat.mul_pos hk (Nat.succ_pos m)
    rw [if_pos (by rw [e]; omega), e2, Int.add_mul_ediv_left _ _ (by omega), Int.ediv_eq_zero_of_lt (by omega) (by omega)]
    omega
theorem rgc_up {n k m : Nat} (hk : 1 ≤ k) (hk2 : k ≤ 32) (hn : n ≤ 2200) (e : n = k * m) : RgC 0 (n : Int) (k : Int) m := by
  refine ⟨by omega, by omega, ?_, size_up hk e⟩
  have hm : m ≤ n := by
    rw [e]
    exact Nat.le_mul_of_pos_left m hk
  unfold Builtin.Range.small
  rw [size_up hk e]
  simp only [Builtin.Range.rangeFitsLong, Bool.and_eq_true, Bool.or_eq_true, decide_eq_true_eq, beq_iff_eq]
  rw [if_pos (by omega)]
  simp only [Bool.and_eq_true, decide_eq_true_eq]
  omega
theorem cut_row {k m i : Nat} {xs : List V} (e : xs.length = k * m) (hi : i < m) : cutV xs (some (0 + (i : Int) * (k : Int))) (some (0 + (i : Int) * (k : Int) + (k : Int))) = (xs.drop (i * k)).take k := by
  have h1 : (0 : Int) + (i : Int) * (k : Int) = ((i * k : Nat) : Int) := by rw [Int.zero_add, Int.natCast_mul]
  have h2 : (0 : Int) + (i : Int) * (k : Int) + (k : Int) = ((i * k + k : Nat) : Int) := by rw [h1]; omega
  have h3 : (i + 1) * k ≤ m * k := Nat.mul_le_mul_right k hi
  rw [Nat.mul_comm m k, ← e, Nat.add_mul, Nat.one_mul] at h3
  unfold cutV
  rw [h2, h1, HT.sIx_nat, HT.sIx_nat, Nat.min_eq_left h3, Nat.min_eq_left (show i * k ≤ xs.length by omega), Nat.add_sub_cancel_left]
theorem ok_read_images {f : Addr} {fd : FuncData} (F : Fun K "read_images" "read_images" s_read_images f fd) (ml : mg "len" = none) (mr : mg "range" = none)
    (c1 : Cal P w K mg base "to_signed" 1 ["number"] sp_to_signed) : FnOk P w K mg base CX0 2 f fd ["star_count", "magnitudes"] (sp_read_images K) := by
  obtain ⟨f1, fd1, G1, g1, kp1, b1⟩ := c1
  refine F.ok sc_read_images (fun vs H Q E h => ?_) (fun cdv A outer s H vs Q E hr h => ?_)
  · obtain ⟨k, a, ns, rfl, _⟩ := h
    rfl
  · obtain ⟨k, a, ns, rfl, hS, hl, hk1, hk2, hdiv, q⟩ := h
    have hr1 : Room 1 _ := hr.mono (by decide)
    refine ⟨_, pss_cons (ps_set (i := 2) sc_read_images.nd rfl (.inr rfl) (pe_lc (own := [("number", 3)]) (g := gName 3) (tt := tYes) rfl sc_read_images.nd (pi_list (pv 1)) (blkOk_by (own := [("number", 3)]) (N := ["star_count", "magnitudes", "signed", "number", "start"]) (sc := defScope s_read_images) (by decide +kernel))
        (fun _ _ _ _ _ => pg_name (i := 3) sc_read_images.nd rfl (Or.inl rfl)) (fun _ _ _ _ _ => pts_nil) (fun _ _ _ _ _ => pe_call G1 hr1 (by rfl) g1 kp1 b1 .nil pass0 (pa_cons (pv 3) pa_nil))))
      (pss_one (ps_ret (pe_lc (own := [("start", 4)]) (g := gName 4) (tt := tYes) rfl sc_read_images.nd (pi_range3 (by rfl) mr (pa_cons pe_int (pa_cons (pe_callB call_len_seq (by rfl) ml PySem.boot_len (pa_cons (pv 2) pa_nil)) (pa_cons (pv 0) pa_nil))))
        (blkOk_by (own := [("start", 4)]) (N := ["star_count", "magnitudes", "signed", "number", "start"]) (sc := defScope s_read_images) (by decide +kernel))
        (fun _ _ _ _ _ => pg_name (i := 4) sc_read_images.nd rfl (Or.inl rfl)) (fun _ _ _ _ _ => pts_nil) (fun _ _ _ _ _ => pe_slice (show SlR _ (rSlL K) from sl_list) (pv 2) (po_some (pv 4)) (po_some (pe_op op_add (pv 4) (pv 0))))))), ?_⟩
    refine q_asgL (lc_m (l := ns) (fun n => V.int (Lm.sgn n)) (Yx := fun i x _ => (ns.map V.int)[i]? = some x) ?_ (by omega) ?_) fun p H1 hp e1 h1 => ?_
    · have h := it_list (K := K) (σ := start ["star_count", "magnitudes", "signed", "number", "start"] [.int (k : Int), .ref a]) (tl := tVar 1) (ev_var rfl) hS
      rw [List.length_map] at h
      exact h
    · intro i n x H2 hi e hx
      rw [List.getElem?_map, hi] at hx
      cases hx
      exact takes_name rfl (ev_call (ea_cons (ev_var (v := .int n) rfl) ea_nil) (fun H1 e1 Q1 q1 E1 => ⟨n, rfl, q1⟩))
    have hlen : (ns.map fun n => V.int (Lm.sgn n)).length = k * (ns.length / k) := by rw [List.length_map]; exact hdiv
    refine s_retR (lc_rows (n := ns.length / k) (Yx := fun i x _ => x = .int (0 + (i : Int) * (k : Int))) (it_rng3 (ea_cons ev_c (ea_cons (ev_len (ev_var (v := .ref p) rfl) (sq_of h1)) (ea_cons (ev_var (v := .int (k : Int)) rfl) ea_nil))) ?_) ?_ (fun i => ((ns.map fun n => V.int (Lm.sgn n)).drop (i * k)).take k) ?_) fun p2 H2 hp2 e2 h2 => q p2 H2 (fresh_back e1 hp2) (e1.trans e2) ?_
    · rw [List.length_map]
      exact rgc_up hk1 hk2 hl hdiv
    · exact Nat.le_trans (Nat.div_le_self _ _) (by omega)
    · intro i x H2 hi e hx
      subst hx
      refine takes_name rfl ?_
      rw [← cut_row hlen hi]
      exact el_sl (ev_var (v := .ref p) rfl) (eo_some (ev_var (v := .int _) rfl)) (eo_some (ev_op (ev_var (v := .int _) rfl) (ev_var (v := .int (k : Int)) rfl) rv_I0)) (ex_l e (sq_of h1))
    · unfold RowsI Lm.rowsOf
      rw [List.map_map, List.length_map]
      have e0 : (fun i => ((ns.map fun n => V.int (Lm.sgn n)).drop (i * k)).take k) = ((fun r => r.map V.int) ∘ fun i => ((ns.map Lm.sgn).drop (i * k)).take k) := by
        funext i
        show _ = (((ns.map Lm.sgn).drop (i * k)).take k).map V.int
        rw [List.map_take, List.map_drop, List.map_map]
        rfl
      rw [← e0]
      exact h2

/-! ### star_values -/
def sp_star_values (K : PySem.W.Frag) : Sp := fun vs H Q _ => ∃ (s : Nat) (a : Addr) (rows : List (List Int)), vs = [.int (s : Int), .ref a] ∧ RowsI H a rows ∧ rows.length ≤ 2200 ∧ (∀ r ∈ rows, s < r.length) ∧
  RetL ((Lm.column s rows).map V.int) H Q
theorem sc_star_values : FnScope ["star", "images", "image"] ["star", "images"] (defScope s_star_values) := ⟨rfl, rfl, rfl, by decide +kernel, rfl, by decide +kernel, by decide +kernel⟩
theorem ok_star_values {f : Addr} {fd : FuncData} (F : Fun K "star_values" "star_values" s_star_values f fd) : FnOk P w K mg base CX0 1 f fd ["star", "images"] (sp_star_values K) := by
  refine F.ok sc_star_values (fun vs H Q E h => ?_) (fun cdv A outer s H vs Q E hr h => ?_)
  · obtain ⟨k, a, rows, rfl, _⟩ := h
    rfl
  · obtain ⟨k, a, rows, rfl, hR, hl, hs, q⟩ := h
    refine ⟨_, pss_one (ps_ret (pe_lc (own := [("image", 2)]) (g := gName 2) (tt := tYes) rfl sc_star_values.nd (pi_list (pv 1)) (blkOk_by (own := [("image", 2)]) (N := ["star", "images", "image"]) (sc := defScope s_star_values) (by decide +kernel))
        (fun _ _ _ _ _ => pg_name (i := 2) sc_star_values.nd rfl (Or.inl rfl)) (fun _ _ _ _ _ => pts_nil) (fun _ _ _ _ _ => pe_ix (show IxR _ (rIxL K) from ix_list) (pv 2) (pv 0) (fun _ _ => rfl)))), ?_⟩
    refine s_retL (xs := (Lm.column k rows).map V.int) ?_ q
    unfold Lm.column
    rw [List.map_map]
    refine lc_m (l := rows) _ (it_rows (ev_var (v := .ref a) rfl) hR) (by omega) ?_
    intro i r x H2 hi e hx
    obtain ⟨b, rfl, hb⟩ := hx r hi H2 e
    refine takes_name rfl ?_
    refine ev_op (ev_var (v := .ref b) rfl) (ev_var (v := .int (k : Int)) rfl) (rv_ixL (K := K) (sq_of hb) ?_)
    have hk : k < r.length := hs r (List.mem_of_getElem? hi)
    refine atI_nat ?_
    rw [List.getElem?_map, List.getElem?_eq_getElem hk]
    show some (V.int r[k]) = some (V.int (r.getD k 0))
    rw [List.getD_eq_getElem?_getD, List.getElem?_eq_getElem hk]
    rfl

/-! ### spread_of -/
def sp_spread_of (K : PySem.W.Frag) : Sp := fun vs H Q _ => ∃ (a : Addr) (xs : List Int), vs = [.ref a] ∧ SqL K H a (xs.map V.int) ∧ xs.length ≤ 1100 ∧ (∀ x ∈ xs, -100000 < x ∧ x < 100000) ∧ RetV (.int (Lm.spread xs)) H Q
theorem sc_spread_of : FnScope ["values", "value"] ["values"] (defScope s_spread_of) := ⟨rfl, rfl, rfl, by decide +kernel, rfl, by decide +kernel, by decide +kernel⟩
theorem sum_small : ∀ (xs : List Int), (∀ x ∈ xs, -100000 < x ∧ x < 100000) → -(100000 * (xs.length : Int)) ≤ xs.sum ∧ xs.sum ≤ 100000 * (xs.length : Int)
  | [], _ => by simp
  | x :: r, h => by
    have ih := sum_small r fun y hy => h y (List.mem_cons_of_mem _ hy)
    have hx := h x (List.mem_cons_self ..)
    rw [List.sum_cons, List.length_cons]
    omega
theorem ok_spread_of {f : Addr} {fd : FuncData} (F : Fun K "spread_of" "spread_of" s_spread_of f fd) (ml : mg "len" = none) (ms : mg "sum" = none) : FnOk P w K mg base CX0 1 f fd ["values"] (sp_spread_of K) := by
  refine F.ok sc_spread_of (fun vs H Q E h => ?_) (fun cdv A outer s H vs Q E hr h => ?_)
  · obtain ⟨a, xs, rfl, _⟩ := h
    rfl
  · obtain ⟨a, xs, rfl, hS, hl, hx, q⟩ := h
    refine ⟨_, pss_one (ps_ret (pe_op op_sub
        (pe_op op_mul (pe_callB call_len_seq (by rfl) ml PySem.boot_len (pa_cons (pv 0) pa_nil)) (pe_callB (cr_sum rfl) (by rfl) ms boot_sum (pa_cons (pe_lc (own := [("value", 1)]) (g := gName 1) (tt := tYes) rfl sc_spread_of.nd (pi_list (pv 0)) (blkOk_by (own := [("value", 1)]) (N := ["values", "value"]) (sc := defScope s_spread_of) (by decide +kernel))
          (fun _ _ _ _ _ => pg_name (i := 1) sc_spread_of.nd rfl (Or.inl rfl)) (fun _ _ _ _ _ => pts_nil) (fun _ _ _ _ _ => pe_op op_mul (pv 1) (pv 1))) pa_nil)))
        (pe_op op_pow (pe_callB (cr_sum rfl) (by rfl) ms boot_sum (pa_cons (pv 0) pa_nil)) pe_int))), ?_⟩
    have len : Ev (tCB (rLenS K) (tCons (tVar 0) tNil)) (start ["values", "value"] [.ref a]) H (.int (xs.length : Int)) := by
      have h := ev_len (K := K) (ta := tVar 0) (σ := start ["values", "value"] [.ref a]) (ev_var rfl) hS
      rw [List.length_map] at h
      exact h
    have hsum := sum_small xs hx
    refine s_ret (v := .int (Lm.spread xs)) (ev_op (ev_op len
      (ev_cb1 (lc_m (l := xs) (fun x => V.int (x * x)) (Yx := fun i x _ => (xs.map V.int)[i]? = some x) ?_ (by omega) ?_) (fun p H2 hp e2 => rc_sum (ns := xs.map fun x => x * x) ?_)) (rv_I (.inl ⟨by omega, by omega⟩)))
      (ev_op (ev_cb (ea_cons (ev_var (v := .ref a) rfl) ea_nil) (rc_sum hS)) ev_c (rv_I ⟨by decide, by decide, by omega⟩)) rv_I0) q
    · have h := it_list (K := K) (σ := start ["values", "value"] [.ref a]) (tl := tVar 0) (ev_var rfl) hS
      rw [List.length_map] at h
      exact h
    · intro i x v H2 hi e hv
      rw [List.getElem?_map, hi] at hv
      cases hv
      have hb := hx x (List.mem_of_getElem? hi)
      refine takes_name rfl ?_
      exact ev_op (ev_var (v := .int x) rfl) (ev_var (v := .int x) rfl) (rv_I (.inl ⟨by omega, by omega⟩))
    · rw [List.map_map]
      exact sq_of hp

/-! ### scatter_of -/
def sp_scatter_of (K : PySem.W.Frag) : Sp := fun vs H Q _ => ∃ (a : Addr) (xs : List Int), vs = [.ref a] ∧ SqL K H a (xs.map V.int) ∧ 0 < xs.length ∧ xs.length ≤ 64 ∧ (∀ x ∈ xs, -100000 < x ∧ x < 100000) ∧ RetV (.int (Lm.scatterI xs)) H Q
theorem sc_scatter_of : FnScope ["values"] ["values"] (defScope s_scatter_of) := ⟨rfl, rfl, rfl, by decide +kernel, rfl, by decide +kernel, by decide +kernel⟩
theorem ok_scatter_of {f : Addr} {fd : FuncData} (F : Fun K "scatter_of" "scatter_of" s_scatter_of f fd) (ml : mg "len" = none) (c1 : Cal P w K mg base "spread_of" 1 ["values"] (sp_spread_of K)) : FnOk P w K mg base CX0 2 f fd ["values"] (sp_scatter_of K) := by
  obtain ⟨f1, fd1, G1, g1, kp1, b1⟩ := c1
  refine F.ok sc_scatter_of (fun vs H Q E h => ?_) (fun cdv A outer s H vs Q E hr h => ?_)
  · obtain ⟨a, xs, rfl, _⟩ := h
    rfl
  · obtain ⟨a, xs, rfl, hS, h0, h64, hx, q⟩ := h
    have hr1 : Room 1 _ := hr.mono (by decide)
    refine ⟨_, pss_one (ps_ret (pe_op op_fdiv (pe_op op_mul pe_int (pe_call G1 hr1 (by rfl) g1 kp1 b1 .nil pass0 (pa_cons (pv 0) pa_nil)))
      (pe_op op_pow (pe_callB call_len_seq (by rfl) ml PySem.boot_len (pa_cons (pv 0) pa_nil)) pe_int))), ?_⟩
    have len : Ev (tCB (rLenS K) (tCons (tVar 0) tNil)) [some (.ref a)] H (.int (xs.length : Int)) := by
      have h := ev_len (K := K) (ta := tVar 0) (σ := [some (.ref a)]) (ev_var rfl) hS
      rw [List.length_map] at h
      exact h
    have e2 : (xs.length : Int) ^ (2 : Int).toNat = (xs.length : Int) * (xs.length : Int) := by
      show (xs.length : Int) ^ 2 = _
      rw [Int.pow_succ, Int.pow_succ, Int.pow_zero, Int.one_mul]
    refine s_ret (ev_is (ev_op (ev_op ev_c (ev_call (z := .int (Lm.spread xs)) (ea_cons (ev_var (v := .ref a) rfl) ea_nil) (fun H1 e1 Q1 q1 E1 => ⟨a, xs, rfl, ex_l e1 hS, by omega, hx, q1⟩)) (rv_I (.inl ⟨by decide, by decide⟩)))
      (ev_op len ev_c (rv_I ⟨by decide, by decide, by omega⟩)) (rv_I ?_)) (?_ : _ = V.int (Lm.scatterI xs))) q
    · rw [e2]
      have h1 : 0 < (xs.length : Int) * (xs.length : Int) := Int.mul_pos (by omega) (by omega)
      have h2 : (xs.length : Int) * (xs.length : Int) ≤ 64 * 64 := Int.mul_le_mul (by omega) (by omega) (by omega) (by omega)
      exact ⟨h1, by omega⟩
    · rw [e2]
      rfl

/-! ### star_scatters -/
def sp_star_scatters (K : PySem.W.Frag) : Sp := fun vs H Q _ => ∃ (k : Nat) (a : Addr) (rows : List (List Int)), vs = [.int (k : Int), .ref a] ∧ RowsI H a rows ∧ 0 < rows.length ∧ rows.length ≤ 64 ∧ k ≤ 1000 ∧ (∀ r ∈ rows, k ≤ r.length) ∧ (∀ s, s < k → ∀ x ∈ Lm.column s rows, -100000 < x ∧ x < 100000) ∧
  RetL ((List.range k).map fun s => V.int (Lm.scatterI (Lm.column s rows))) H Q
theorem sc_star_scatters : FnScope ["star_count", "images", "star"] ["star_count", "images"] (defScope s_star_scatters) := ⟨rfl, rfl, rfl, by decide +kernel, rfl, by decide +kernel, by decide +kernel⟩
theorem ok_star_scatters {f : Addr} {fd : FuncData} (F : Fun K "star_scatters" "star_scatters" s_star_scatters f fd) (mr : mg "range" = none)
    (c1 : Cal P w K mg base "scatter_of" 2 ["values"] (sp_scatter_of K)) (c2 : Cal P w K mg base "star_values" 1 ["star", "images"] (sp_star_values K)) : FnOk P w K mg base CX0 3 f fd ["star_count", "images"] (sp_star_scatters K) := by
  obtain ⟨f1, fd1, G1, g1, kp1, b1⟩ := c1
  obtain ⟨f2, fd2, G2, g2, kp2, b2⟩ := c2
  refine F.ok sc_star_scatters (fun vs H Q E h => ?_) (fun cdv A outer s H vs Q E hr h => ?_)
  · obtain ⟨k, a, rows, rfl, _⟩ := h
    rfl
  · obtain ⟨k, a, rows, rfl, hR, h0, hl, hk, hw, hx, q⟩ := h
    have hr1 : Room 1 _ := hr.mono (by decide)
    have hr2 : Room 2 _ := hr.mono (by decide)
    refine ⟨_, pss_one (ps_ret (pe_lc (own := [("star", 2)]) (g := gName 2) (tt := tYes) rfl sc_star_scatters.nd (pi_range1 (by rfl) mr (pa_cons (pv 0) pa_nil)) (blkOk_by (own := [("star", 2)]) (N := ["star_count", "images", "star"]) (sc := defScope s_star_scatters) (by decide +kernel))
        (fun _ _ _ _ _ => pg_name (i := 2) sc_star_scatters.nd rfl (Or.inl rfl)) (fun _ _ _ _ _ => pts_nil)
        (fun _ _ _ _ _ => pe_call G1 hr2 (by rfl) g1 kp1 b1 .nil pass0 (pa_cons (pe_call G2 hr1 (by rfl) g2 kp2 b2 .nil pass0 (pa_cons (pv 2) (pa_cons (pv 1) pa_nil))) pa_nil)))), ?_⟩
    refine s_retL (xs := (List.range k).map fun s => V.int (Lm.scatterI (Lm.column s rows))) ?_ q
    refine lc_v (n := (k : Int).toNat) (it_rng1 (ea_cons (ev_var (v := .int (k : Int)) rfl) ea_nil) (by omega) (by omega)) (by omega) _ ?_
    intro i x H5 hi e5 hv
    subst hv
    refine takes_name rfl ?_
    refine ev_call1 (xs := (Lm.column i rows).map V.int) (el_call (ea_cons (ev_var (v := .int (i : Int)) rfl) (ea_cons (ev_var (v := .ref a) rfl) ea_nil)) (fun H6 e6 Q1 q1 E1 => ?_)) (fun p6 H6 h6 e6 H7 e7 Q1 q1 E1 => ?_)
    · refine ⟨i, a, rows, rfl, hR.ex (e5.trans e6), by omega, fun r hr => ?_, q1⟩
      have := hw r hr
      omega
    · refine ⟨p6, _, rfl, ex_l e7 (sq_of h6), ?_, ?_, hx i (by omega), q1⟩
      · rw [Lm.column_len]
        exact h0
      · rw [Lm.column_len]
        exact hl

/-! ### scatters -/
def ans_scatters (k : Int) (ns : List Int) : List Int := if Lm.refusal k ns = 0 then 0 :: (List.range k.toNat).map (fun s => Lm.scatterI (Lm.column s (Lm.rowsOf k.toNat (ns.map Lm.sgn)))) else [Lm.refusal k ns]
def sp_scatters (K : PySem.W.Frag) : Sp := fun vs H Q _ => ∃ (k : Int) (a : Addr) (ns : List Int), vs = [.int k, .ref a] ∧ SqL K H a (ns.map V.int) ∧ ns.length ≤ 2200 ∧ (Lm.sizeOk k ns.length = true → ns.length = k.toNat * (ns.length / k.toNat)) ∧
  RetL ((ans_scatters k ns).map V.int) H Q
theorem sc_scatters : FnScope ["star_count", "magnitudes", "code", "images"] ["star_count", "magnitudes"] (defScope s_scatters) := ⟨rfl, rfl, rfl, by decide +kernel, rfl, by decide +kernel, by decide +kernel⟩
theorem ok_scatters {f : Addr} {fd : FuncData} (F : Fun K "scatters" "scatters" s_scatters f fd)
    (c1 : Cal P w K mg base "table_refusal" 3 ["star_count", "magnitudes"] (sp_table_refusal K)) (c2 : Cal P w K mg base "read_images" 2 ["star_count", "magnitudes"] (sp_read_images K))
    (c3 : Cal P w K mg base "star_scatters" 3 ["star_count", "images"] (sp_star_scatters K)) :
    FnOk P w K mg base CX0 4 f fd ["star_count", "magnitudes"] (sp_scatters K) := by
  obtain ⟨f1, fd1, G1, g1, kp1, b1⟩ := c1
  obtain ⟨f2, fd2, G2, g2, kp2, b2⟩ := c2
  obtain ⟨f3, fd3, G3, g3, kp3, b3⟩ := c3
  refine F.ok sc_scatters (fun vs H Q E h => ?_) (fun cdv A outer s H vs Q E hr h => ?_)
  · obtain ⟨k, a, ns, rfl, _⟩ := h
    rfl
  · obtain ⟨k, a, ns, rfl, hS, hl, hdiv, q⟩ := h
    have hr2 : Room 2 _ := hr.mono (by decide)
    have hr3 : Room 3 _ := hr.mono (by decide)
    refine ⟨_, pss_cons (ps_set (i := 2) sc_scatters.nd rfl (.inl rfl) (pe_call G1 hr3 (by rfl) g1 kp1 b1 .nil pass0 (pa_cons (pv 0) (pa_cons (pv 1) pa_nil))))
      (pss_cons (ps_if (pt_cmpR op_ne (pv 2) pe_int (nomark _)) (pss_one (ps_ret (pe_lst (pa_cons (pv 2) pa_nil)))) pss_nil)
      (pss_cons (ps_set (i := 3) sc_scatters.nd rfl (.inl rfl) (pe_call G2 hr2 (by rfl) g2 kp2 b2 .nil pass0 (pa_cons (pv 0) (pa_cons (pv 1) pa_nil))))
      (pss_one (ps_ret (pe_op op_cat (pe_lst (pa_cons pe_int pa_nil)) (pe_call G3 hr3 (by rfl) g3 kp3 b3 .nil pass0 (pa_cons (pv 0) (pa_cons (pv 3) pa_nil)))))))), ?_⟩
    refine q_asg (ev_call (z := .int (Lm.refusal k ns)) (ea_cons (ev_var (v := .int k) rfl) (ea_cons (ev_var (v := .ref a) rfl) ea_nil)) (fun H1 e1 Q1 q1 E1 => ⟨k, a, ns, rfl, ex_l e1 hS, hl, q1⟩)) fun H1 e1 => ?_
    refine q_when (et_test (ev_op (ev_var (v := .int (Lm.refusal k ns)) rfl) ev_c (rv_ne rfl))) (fun hb H2 e2 => ?_) (fun hb H2 e2 => ?_)
    · have hne : Lm.refusal k ns ≠ 0 := by
        intro z
        rw [z] at hb
        exact absurd hb (by decide)
      refine s_retL (el_lst (ea_cons (ev_var (v := .int (Lm.refusal k ns)) rfl) ea_nil) (by show 1 ≤ 100000; decide)) fun p H3 hp e3 h3 => q p H3 (fresh_back (e1.trans e2) hp) ((e1.trans e2).trans e3) ?_
      rw [h3]
      unfold ans_scatters
      rw [if_neg hne]
      rfl
    · have hz : Lm.refusal k ns = 0 := by
        have hb : (!decide (V.int (Lm.refusal k ns) = V.int 0)) = false := hb
        rw [Bool.not_eq_false', decide_eq_true_iff] at hb
        exact V.int.inj hb
      obtain ⟨hs, hm⟩ := Lm.refusal_zero hz
      have hd := hdiv hs
      have hbd := Lm.size_bounds hs
      obtain ⟨kn, rfl⟩ := Int.eq_ofNat_of_zero_le (show 0 ≤ k by omega)
      rw [Int.toNat_natCast] at hd hbd
      refine q_asgR (er_call (rs := (Lm.rowsOf kn (ns.map Lm.sgn)).map (fun r : List Int => r.map V.int)) (ea_cons (ev_var (v := .int (kn : Int)) rfl) (ea_cons (ev_var (v := .ref a) rfl) ea_nil)) (fun H3 e3 Q1 q1 E1 => ⟨kn, a, ns, rfl, ex_l ((e1.trans e2).trans e3) hS, hl, by omega, by omega, hd, q1⟩)) fun p H3 hp e3 hR => ?_
      have hR : RowsI H3 p (Lm.rowsOf kn (ns.map Lm.sgn)) := hR
      have hdm : (ns.map Lm.sgn).length = kn * ((ns.map Lm.sgn).length / kn) := by rw [List.length_map]; exact hd
      have e123 := (e1.trans e2).trans e3
      have hrl : (Lm.rowsOf kn (ns.map Lm.sgn)).length = ns.length / kn := by rw [Lm.rows_len, List.length_map]
      refine s_retL (el_cat (el_lst (ea_cons ev_c ea_nil) (by decide)) (el_call (xs := (List.range kn).map fun s => V.int (Lm.scatterI (Lm.column s (Lm.rowsOf kn (ns.map Lm.sgn))))) (ea_cons (ev_var (v := .int (kn : Int)) rfl) (ea_cons (ev_var (v := .ref p) rfl) ea_nil))
        (fun H6 e6 Q1 q1 E1 => ⟨kn, p, _, rfl, hR.ex e6, by omega, by omega, by omega, fun r hr => by rw [Lm.row_len hdm hr]; omega, fun s hs => Lm.column_small hm hs hdm, q1⟩)) ?_) fun p2 H4 hp2 e4 h4 => q p2 H4 (fresh_back e123 hp2) (e123.trans e4) ?_
      · show 1 + _ ≤ _
        rw [List.length_map, List.length_range]
        omega
      · rw [h4]
        unfold ans_scatters
        rw [if_pos hz, List.map_cons, List.map_map]
        rfl

end
theorem all_mk {P : Program} {w : World} {K : PySem.W.Frag} {h : Heap} {mg : Str → Option Value} {fa f0 f1 f2 f3 f4 f5 f6 f7 f8 f9 : Addr} (X : K.In h) (G : h.Ns mainGlobals mg) (hfa : mg "scatters" = some (.ref fa))
    {od0 an0 od1 an1 od2 an2 od3 an3 od4 an4 od5 an5 od6 an6 od7 an7 od8 an8 od9 an9 : Option Addr} {sl0 sl1 sl2 sl3 sl4 sl5 sl6 sl7 sl8 sl9 : Array (Option Value)} {oc0 kV0 dc0 pm0 cd0 ct0 oc1 kV1 dc1 pm1 cd1 ct1 oc2 kV2 dc2 pm2 cd2 ct2 oc3 kV3 dc3 pm3 cd3 ct3 oc4 kV4 dc4 pm4 cd4 ct4 oc5 kV5 dc5 pm5 cd5 ct5 oc6 kV6 dc6 pm6 cd6 ct6 oc7 kV7 dc7 pm7 cd7 ct7 oc8 kV8 dc8 pm8 cd8 ct8 oc9 kV9 dc9 pm9 cd9 ct9 : Value} {t_MAGNITUDE_BOUND t_MOST_IMAGES t_MOST_STARS : Tok}
    (a0 : PySem.W.nsIn K mainGlobals "to_signed" = some (some (.ref f0))) (l0 : K.lookup f0 = some ⟨oc0, od0, .func (PySem.W.fnOf "to_signed" "to_signed" (defArgs s_to_signed) (defBody s_to_signed) (defScope s_to_signed) .none kV0 dc0 pm0 an0 cd0 ct0), sl0⟩) (c0 : PySem.W.codeIn K cd0 "to_signed" = true) (k0 : PySem.W.keepIn K (.ref f0) = true)
    (a1 : PySem.W.nsIn K mainGlobals "size_allowed" = some (some (.ref f1))) (l1 : K.lookup f1 = some ⟨oc1, od1, .func (PySem.W.fnOf "size_allowed" "size_allowed" (defArgs s_size_allowed) (defBody s_size_allowed) (defScope s_size_allowed) .none kV1 dc1 pm1 an1 cd1 ct1), sl1⟩) (c1 : PySem.W.codeIn K cd1 "size_allowed" = true) (k1 : PySem.W.keepIn K (.ref f1) = true)
    (a2 : PySem.W.nsIn K mainGlobals "magnitudes_allowed" = some (some (.ref f2))) (l2 : K.lookup f2 = some ⟨oc2, od2, .func (PySem.W.fnOf "magnitudes_allowed" "magnitudes_allowed" (defArgs s_magnitudes_allowed) (defBody s_magnitudes_allowed) (defScope s_magnitudes_allowed) .none kV2 dc2 pm2 an2 cd2 ct2), sl2⟩) (c2 : PySem.W.codeIn K cd2 "magnitudes_allowed" = true) (k2 : PySem.W.keepIn K (.ref f2) = true)
    (a3 : PySem.W.nsIn K mainGlobals "table_refusal" = some (some (.ref f3))) (l3 : K.lookup f3 = some ⟨oc3, od3, .func (PySem.W.fnOf "table_refusal" "table_refusal" (defArgs s_table_refusal) (defBody s_table_refusal) (defScope s_table_refusal) .none kV3 dc3 pm3 an3 cd3 ct3), sl3⟩) (c3 : PySem.W.codeIn K cd3 "table_refusal" = true) (k3 : PySem.W.keepIn K (.ref f3) = true)
    (a4 : PySem.W.nsIn K mainGlobals "read_images" = some (some (.ref f4))) (l4 : K.lookup f4 = some ⟨oc4, od4, .func (PySem.W.fnOf "read_images" "read_images" (defArgs s_read_images) (defBody s_read_images) (defScope s_read_images) .none kV4 dc4 pm4 an4 cd4 ct4), sl4⟩) (c4 : PySem.W.codeIn K cd4 "read_images" = true) (k4 : PySem.W.keepIn K (.ref f4) = true)
    (a5 : PySem.W.nsIn K mainGlobals "star_values" = some (some (.ref f5))) (l5 : K.lookup f5 = some ⟨oc5, od5, .func (PySem.W.fnOf "star_values" "star_values" (defArgs s_star_values) (defBody s_star_values) (defScope s_star_values) .none kV5 dc5 pm5 an5 cd5 ct5), sl5⟩) (c5 : PySem.W.codeIn K cd5 "star_values" = true) (k5 : PySem.W.keepIn K (.ref f5) = true)
    (a6 : PySem.W.nsIn K mainGlobals "spread_of" = some (some (.ref f6))) (l6 : K.lookup f6 = some ⟨oc6, od6, .func (PySem.W.fnOf "spread_of" "spread_of" (defArgs s_spread_of) (defBody s_spread_of) (defScope s_spread_of) .none kV6 dc6 pm6 an6 cd6 ct6), sl6⟩) (c6 : PySem.W.codeIn K cd6 "spread_of" = true) (k6 : PySem.W.keepIn K (.ref f6) = true)
    (a7 : PySem.W.nsIn K mainGlobals "scatter_of" = some (some (.ref f7))) (l7 : K.lookup f7 = some ⟨oc7, od7, .func (PySem.W.fnOf "scatter_of" "scatter_of" (defArgs s_scatter_of) (defBody s_scatter_of) (defScope s_scatter_of) .none kV7 dc7 pm7 an7 cd7 ct7), sl7⟩) (c7 : PySem.W.codeIn K cd7 "scatter_of" = true) (k7 : PySem.W.keepIn K (.ref f7) = true)
    (a8 : PySem.W.nsIn K mainGlobals "star_scatters" = some (some (.ref f8))) (l8 : K.lookup f8 = some ⟨oc8, od8, .func (PySem.W.fnOf "star_scatters" "star_scatters" (defArgs s_star_scatters) (defBody s_star_scatters) (defScope s_star_scatters) .none kV8 dc8 pm8 an8 cd8 ct8), sl8⟩) (c8 : PySem.W.codeIn K cd8 "star_scatters" = true) (k8 : PySem.W.keepIn K (.ref f8) = true)
    (a9 : PySem.W.nsIn K mainGlobals "scatters" = some (some (.ref f9))) (l9 : K.lookup f9 = some ⟨oc9, od9, .func (PySem.W.fnOf "scatters" "scatters" (defArgs s_scatters) (defBody s_scatters) (defScope s_scatters) .none kV9 dc9 pm9 an9 cd9 ct9), sl9⟩) (c9 : PySem.W.codeIn K cd9 "scatters" = true) (k9 : PySem.W.keepIn K (.ref f9) = true)
    (v_MAGNITUDE_BOUND : PySem.W.nsIn K mainGlobals "MAGNITUDE_BOUND" = some (some (.int 100000 t_MAGNITUDE_BOUND)))
    (v_MOST_IMAGES : PySem.W.nsIn K mainGlobals "MOST_IMAGES" = some (some (.int 64 t_MOST_IMAGES)))
    (v_MOST_STARS : PySem.W.nsIn K mainGlobals "MOST_STARS" = some (some (.int 32 t_MOST_STARS)))
    (z_abs : PySem.W.nsIn K mainGlobals "abs" = some none)
    (z_all : PySem.W.nsIn K mainGlobals "all" = some none)
    (z_len : PySem.W.nsIn K mainGlobals "len" = some none)
    (z_range : PySem.W.nsIn K mainGlobals "range" = some none)
    (z_sum : PySem.W.nsIn K mainGlobals "sum" = some none)
    : ∃ fd : FuncData, (∀ (s : Shared) (us : List Value), us.length = (["star_count", "magnitudes"] : List Str).length → BindsTo s fd ⟨us, []⟩ ((["star_count", "magnitudes"] : List Str).zip us)) ∧ ∀ base : Heap, K.In base → base.Ns mainGlobals mg → FnOk P w K mg base CX0 4 fa fd ["star_count", "magnitudes"] (sp_scatters K) := by
  have e := hfa.symm.trans (PySem.W.mg_of X G a9)
  cases e
  have F0 := fun_mk (st := s_to_signed) l0 c0 k0
  have b0 := F0.binds (ps := ["number"]) fun _ _ _ _ _ _ us hl => match us, hl with | [_], _ => rfl
  have F1 := fun_mk (st := s_size_allowed) l1 c1 k1
  have b1 := F1.binds (ps := ["star_count", "table_length"]) fun _ _ _ _ _ _ us hl => match us, hl with | [_, _], _ => rfl
  have F2 := fun_mk (st := s_magnitudes_allowed) l2 c2 k2
  have b2 := F2.binds (ps := ["magnitudes"]) fun _ _ _ _ _ _ us hl => match us, hl with | [_], _ => rfl
  have F3 := fun_mk (st := s_table_refusal) l3 c3 k3
  have b3 := F3.binds (ps := ["star_count", "magnitudes"]) fun _ _ _ _ _ _ us hl => match us, hl with | [_, _], _ => rfl
  have F4 := fun_mk (st := s_read_images) l4 c4 k4
  have b4 := F4.binds (ps := ["star_count", "magnitudes"]) fun _ _ _ _ _ _ us hl => match us, hl with | [_, _], _ => rfl
  have F5 := fun_mk (st := s_star_values) l5 c5 k5
  have b5 := F5.binds (ps := ["star", "images"]) fun _ _ _ _ _ _ us hl => match us, hl with | [_, _], _ => rfl
  have F6 := fun_mk (st := s_spread_of) l6 c6 k6
  have b6 := F6.binds (ps := ["values"]) fun _ _ _ _ _ _ us hl => match us, hl with | [_], _ => rfl
  have F7 := fun_mk (st := s_scatter_of) l7 c7 k7
  have b7 := F7.binds (ps := ["values"]) fun _ _ _ _ _ _ us hl => match us, hl with | [_], _ => rfl
  have F8 := fun_mk (st := s_star_scatters) l8 c8 k8
  have b8 := F8.binds (ps := ["star_count", "images"]) fun _ _ _ _ _ _ us hl => match us, hl with | [_, _], _ => rfl
  have F9 := fun_mk (st := s_scatters) l9 c9 k9
  refine ⟨PySem.W.fnOf "scatters" "scatters" (defArgs s_scatters) (defBody s_scatters) (defScope s_scatters) .none kV9 dc9 pm9 an9 cd9 ct9, fun s us hu => match us, hu with | [_, _], _ => .of_eq rfl, fun base _ _ => ?_⟩
  have C0 : Cal P w K mg base "to_signed" 1 ["number"] sp_to_signed := Lb.cal_of F0 (ok_to_signed F0) (PySem.W.mg_of X G a0) b0
  have C1 : Cal P w K mg base "size_allowed" 1 ["star_count", "table_length"] sp_size_allowed := Lb.cal_of F1 (ok_size_allowed F1 (PySem.W.mg_of X G v_MOST_STARS) (PySem.W.mg_of X G v_MOST_IMAGES)) (PySem.W.mg_of X G a1) b1
  have C2 : Cal P w K mg base "magnitudes_allowed" 2 ["magnitudes"] (sp_magnitudes_allowed K) := Lb.cal_of F2 (ok_magnitudes_allowed F2 (PySem.W.mg_of X G v_MAGNITUDE_BOUND) (PySem.W.mg_none_of X G z_all) (PySem.W.mg_none_of X G z_abs) C0) (PySem.W.mg_of X G a2) b2
  have C3 : Cal P w K mg base "table_refusal" 3 ["star_count", "magnitudes"] (sp_table_refusal K) := Lb.cal_of F3 (ok_table_refusal F3 (PySem.W.mg_none_of X G z_len) C1 C2) (PySem.W.mg_of X G a3) b3
  have C4 : Cal P w K mg base "read_images" 2 ["star_count", "magnitudes"] (sp_read_images K) := Lb.cal_of F4 (ok_read_images F4 (PySem.W.mg_none_of X G z_len) (PySem.W.mg_none_of X G z_range) C0) (PySem.W.mg_of X G a4) b4
  have C5 : Cal P w K mg base "star_values" 1 ["star", "images"] (sp_star_values K) := Lb.cal_of F5 (ok_star_values F5) (PySem.W.mg_of X G a5) b5
  have C6 : Cal P w K mg base "spread_of" 1 ["values"] (sp_spread_of K) := Lb.cal_of F6 (ok_spread_of F6 (PySem.W.mg_none_of X G z_len) (PySem.W.mg_none_of X G z_sum)) (PySem.W.mg_of X G a6) b6
  have C7 : Cal P w K mg base "scatter_of" 2 ["values"] (sp_scatter_of K) := Lb.cal_of F7 (ok_scatter_of F7 (PySem.W.mg_none_of X G z_len) C6) (PySem.W.mg_of X G a7) b7
  have C8 : Cal P w K mg base "star_scatters" 3 ["star_count", "images"] (sp_star_scatters K) := Lb.cal_of F8 (ok_star_scatters F8 (PySem.W.mg_none_of X G z_range) C7 C5) (PySem.W.mg_of X G a8) b8
  exact ok_scatters F9 C3 C4 C8
end Lp
open PySem PySem.W PyProof.Rows
set_option maxRecDepth 100000 in
set_option maxHeartbeats 0 in
theorem PySem.Challenge.cw_lightcurves_s03_scatters_holds : PySem.Challenge.rw_lightcurves_s03_scatters.Holds := by
  w_on; k_headS; (case hw => exact ⟨[.int 0, .list []], by decide +kernel, by decide +kernel⟩)
  k_fillS
  refine L2.walk_specK (r := PySem.Challenge.rw_lightcurves_s03_scatters) (k := 4) (CX := L2.CX0) (ps := ["star_count", "magnitudes"]) (sp := fun K => Lp.sp_scatters K) (by decide +kernel) rfl rfl ⟨rfl, by decide, by decide⟩ (fun w h Y => PySem.W.kIn_of Y) ?F ?S (fun _ _ _ _ z => z)
  case F =>
    intro w mg fa h Y KX G hmg
    refine' Lp.all_mk KX G hmg ?a0 ?l0 ?c0 ?k0 ?a1 ?l1 ?c1 ?k1 ?a2 ?l2 ?c2 ?k2 ?a3 ?l3 ?c3 ?k3 ?a4 ?l4 ?c4 ?k4 ?a5 ?l5 ?c5 ?k5 ?a6 ?l6 ?c6 ?k6 ?a7 ?l7 ?c7 ?k7 ?a8 ?l8 ?c8 ?k8 ?a9 ?l9 ?c9 ?k9 ?v_MAGNITUDE_BOUND ?v_MOST_IMAGES ?v_MOST_STARS ?z_abs ?z_all ?z_len ?z_range ?z_sum
    (case a0 => k_is); (case l0 => k_is); (case c0 => k_is); (case k0 => k_is)
    (case a1 => k_is); (case l1 => k_is); (case c1 => k_is); (case k1 => k_is)
    (case a2 => k_is); (case l2 => k_is); (case c2 => k_is); (case k2 => k_is)
    (case a3 => k_is); (case l3 => k_is); (case c3 => k_is); (case k3 => k_is)
    (case a4 => k_is); (case l4 => k_is); (case c4 => k_is); (case k4 => k_is)
    (case a5 => k_is); (case l5 => k_is); (case c5 => k_is); (case k5 => k_is)
    (case a6 => k_is); (case l6 => k_is); (case c6 => k_is); (case k6 => k_is)
    (case a7 => k_is); (case l7 => k_is); (case c7 => k_is); (case k7 => k_is)
    (case a8 => k_is); (case l8 => k_is); (case c8 => k_is); (case k8 => k_is)
    (case a9 => k_is); (case l9 => k_is); (case c9 => k_is); (case k9 => k_is)
    (case v_MAGNITUDE_BOUND => k_is); (case v_MOST_IMAGES => k_is); (case v_MOST_STARS => k_is); (case z_abs => k_is)
    (case z_all => k_is); (case z_len => k_is); (case z_range => k_is); (case z_sum => k_is)
  case S =>
    intro K H xs a hO hwi hask hx
    cases hx with
    | cons h1 h2 =>
      cases h2 with
      | cons h3 h4 =>
        cases h4
        cases h1
        cases h3 with
        | lst hs ha =>
          have e := L2.ints_dw a.2.1 _ ha
          subst e
          have q : (Codec.inInt 0 4294967295 a.1 && ((Codec.inLen 0 2200 a.2.1 && a.2.1.all (Codec.inInt 0 4294967295)) && true)) = true := hwi
          rw [Bool.and_eq_true, Bool.and_eq_true, Bool.and_eq_true] at q
          have hk := Codec.inInt_iff.mp q.1
          have hn : ∀ x ∈ a.2.1, 0 ≤ x ∧ x ≤ 4294967295 := fun x hx => Codec.inInt_iff.mp (List.all_eq_true.mp q.2.1.2 x hx)
          have hq : PySh70.scatters_asked a.1 a.2.1 = true := hask
          refine ⟨a.1, _, a.2.1, rfl, hs, (Codec.inNat_iff.mp q.2.1.1).2, fun hsz => Lm.asked_table hsz hk.1 hq, fun p H2 hp e2 h2 => .lst (L2.SqL.of h2) ?_⟩
          show L2.DwAll K H2 _ ((PySh70.scatters a.1 a.2.1).map WData.int)
          rw [Lm.spec_scatters hk.1 hn]
          exact L2.dw_ints _
#print axioms PySem.Challenge.cw_lightcurves_s03_scatters_holds
