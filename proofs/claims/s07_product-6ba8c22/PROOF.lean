import PyProof.Rows.All
import Wide.All
import OpenK.AllK
import Wide.FinOn
import Open.SpecLaws
import KE.OsGo
import HandS.ForSpec
import HandS.Comp
import HandS.Text
import HandS.Walk
import PySem.Challenge.RW_weightstogether_s07_product
set_option Elab.async false
set_option maxRecDepth 100000
set_option maxHeartbeats 2000000
namespace Wt
/-! ### the mathematics: what are_weights tells, and the two calls, against the specification -/
def okP (n : Int) (ns : List Int) : Bool :=
  if n < 1 ∨ 5 < n then false else if (ns.length : Int) = 2 ^ n.toNat then ns.all (fun x => decide (x ≤ 1000)) else false
theorem okP_n {n : Int} {ns : List Int} (h : okP n ns = true) : 1 ≤ n ∧ n ≤ 5 ∧ ns.length = 2 ^ n.toNat := by
  unfold okP at h
  split at h
  · cases h
  · split at h
    · rename_i h1 h2
      refine ⟨by omega, by omega, ?_⟩
      have : (ns.length : Int) = ((2 ^ n.toNat : Nat) : Int) := by
        rw [h2]
        simp
      omega
    · cases h
theorem nats_len (ns : List Int) : (Kzx2Neutral.natsOf ns).length = ns.length := by
  unfold Kzx2Neutral.natsOf
  exact List.length_map ..
theorem all_nats (ns : List Int) (h : ∀ x ∈ ns, 0 ≤ x) : ((Kzx2Neutral.natsOf ns).all fun x => decide (x ≤ 1000)) = ns.all (fun x => decide (x ≤ 1000)) := by
  unfold Kzx2Neutral.natsOf
  rw [List.all_map]
  apply Bool.eq_iff_iff.mpr
  simp only [List.all_eq_true, Function.comp, decide_eq_true_eq]
  constructor
  · intro q x hx
    have := q x hx
    have := h x hx
    omega
  · intro q x hx
    have := q x hx
    omega
theorem okP_spec {n : Int} {ns : List Int} (h : ∀ x ∈ ns, 0 ≤ x) : okP n ns = (Kzx1.okN n.toNat && Kzx2.okW n.toNat (Kzx2Neutral.natsOf ns)) := by
  unfold okP Kzx1.okN Kzx2.okW
  rw [all_nats ns h, nats_len]
  by_cases h1 : n < 1 ∨ 5 < n
  · rw [if_pos h1]
    have : (decide (1 ≤ n.toNat) && decide (n.toNat ≤ 5)) = false := by
      rw [Bool.and_eq_false_iff, decide_eq_false_iff_not, decide_eq_false_iff_not]
      omega
    rw [this]
    rfl
  · rw [if_neg h1]
    have : (decide (1 ≤ n.toNat) && decide (n.toNat ≤ 5)) = true := by
      rw [Bool.and_eq_true, decide_eq_true_eq, decide_eq_true_eq]
      omega
    rw [this, Bool.true_and]
    by_cases h2 : (ns.length : Int) = 2 ^ n.toNat
    · rw [if_pos h2]
      have e : ns.length = 2 ^ n.toNat := by
        have : (ns.length : Int) = ((2 ^ n.toNat : Nat) : Int) := by
          rw [h2]
          simp
        omega
      rw [e]
      simp
    · rw [if_neg h2]
      have e : ¬ ns.length = 2 ^ n.toNat := fun z => h2 (by rw [z]; simp)
      have e2 : (ns.length == 2 ^ n.toNat) = false := beq_false_of_ne e
      rw [e2]
      rfl
theorem withM_no {n : Int} {ns : List Int} {k : Unit → Kzx1.Ans} (_h0 : 0 ≤ n) (h : ∀ x ∈ ns, 0 ≤ x) (q : okP n ns = false) : Kzx2.withM n.toNat (Kzx2Neutral.natsOf ns) k = Kzx1.say (-22) := by
  rw [okP_spec h, Bool.and_eq_false_iff] at q
  exact if_pos q
theorem withM_yes {n : Int} {ns : List Int} {k : Unit → Kzx1.Ans} (_h0 : 0 ≤ n) (h : ∀ x ∈ ns, 0 ≤ x) (q : okP n ns = true) : Kzx2.withM n.toNat (Kzx2Neutral.natsOf ns) k = k () := by
  rw [okP_spec h, Bool.and_eq_true] at q
  refine if_neg ?_
  rintro (z | z)
  · rw [q.1] at z
    cases z
  · rw [q.2] at z
    cases z
/-- the weight of a set -/
def at_ (ns : List Int) (s : Nat) : Int := ns.getD s 0
theorem at_get {ns : List Int} {s : Nat} (h : s < ns.length) : ns[s]? = some (at_ ns s) := by
  unfold at_
  rw [List.getD_eq_getElem?_getD, List.getElem?_eq_getElem h]
  rfl
theorem at_nn {ns : List Int} (h : ∀ x ∈ ns, 0 ≤ x) (s : Nat) : 0 ≤ at_ ns s := by
  by_cases hs : s < ns.length
  · have e := at_get hs
    exact h _ (List.mem_of_getElem? e)
  · unfold at_
    rw [List.getD_eq_getElem?_getD, List.getElem?_eq_none (by omega)]
    exact Int.le_refl _
theorem at0_nats (ns : List Int) (s : Nat) : Kzx2.at0 (Kzx2Neutral.natsOf ns) s = (at_ ns s).toNat := by
  unfold Kzx2.at0 at_ Kzx2Neutral.natsOf
  rw [List.getD_eq_getElem?_getD, List.getD_eq_getElem?_getD, List.getElem?_map]
  cases ns[s]? <;> rfl
/-! increasing -/
def less1 (ns : List Int) (s i : Nat) : Prop := at_ ns (s ||| 2 ^ i) < at_ ns s
theorem bits5 : ∀ s, s < 32 → ∀ i, i < 5 → (Kzx1.up s i = true → s ||| 2 ^ i = s) ∧ (Kzx1.up s i = false → s ||| 2 ^ i = s + 2 ^ i) := by decide +kernel
theorem grows_one {n s i : Nat} {ns : List Int} (hn : n ≤ 5) (hs : s < 2 ^ n) (hi : i < n) (h : ∀ x ∈ ns, 0 ≤ x) :
    (Kzx1.up s i || decide (Kzx2.at0 (Kzx2Neutral.natsOf ns) s ≤ Kzx2.at0 (Kzx2Neutral.natsOf ns) (s + 2 ^ i))) = true ↔ ¬ less1 ns s i := by
  have h32 : s < 32 := Nat.lt_of_lt_of_le hs (Nat.pow_le_pow_right (by decide) hn)
  obtain ⟨b1, b2⟩ := bits5 s h32 i (by omega)
  have p1 := at_nn h s
  have p2 := at_nn h (s + 2 ^ i)
  unfold less1
  cases c : Kzx1.up s i with
  | true =>
    rw [b1 c]
    simp
  | false =>
    rw [b2 c, at0_nats, at0_nats]
    simp only [Bool.false_or, decide_eq_true_eq]
    omega
theorem incr_yes {n : Nat} {ns : List Int} (hn : n ≤ 5) (h : ∀ x ∈ ns, 0 ≤ x) (q : ∀ s, s < 2 ^ n → ∀ i, i < n → ¬ less1 ns s i) : Kzx2.increasing n (Kzx2Neutral.natsOf ns) = true := by
  unfold Kzx2.increasing Kzx1.sets
  rw [List.all_eq_true]
  intro s hs
  rw [List.mem_range] at hs
  rw [List.all_eq_true]
  intro i hi
  rw [List.mem_range] at hi
  exact (grows_one hn hs hi h).mpr (q s hs i hi)
theorem incr_no {n s i : Nat} {ns : List Int} (hn : n ≤ 5) (h : ∀ x ∈ ns, 0 ≤ x) (hs : s < 2 ^ n) (hi : i < n) (q : less1 ns s i) : Kzx2.increasing n (Kzx2Neutral.natsOf ns) = false := by
  apply Bool.eq_false_iff.mpr
  intro z
  unfold Kzx2.increasing Kzx1.sets at z
  rw [List.all_eq_true] at z
  have z1 := z s (List.mem_range.mpr hs)
  rw [List.all_eq_true] at z1
  exact (grows_one hn hs hi h).mp (z1 i (List.mem_range.mpr hi)) q
theorem inc_22 {n : Int} {ns : List Int} (h0 : 0 ≤ n) (h : ∀ x ∈ ns, 0 ≤ x) (q : okP n ns = false) : PyKzx2.increasing n ns = [-22] := by
  show (Kzx2.withM n.toNat (Kzx2Neutral.natsOf ns) _).value :: (Kzx2.withM n.toNat (Kzx2Neutral.natsOf ns) _).nums = [-22]
  rw [withM_no h0 h q]
  rfl
theorem inc_of {n : Int} {ns : List Int} {b : Bool} (h0 : 0 ≤ n) (h : ∀ x ∈ ns, 0 ≤ x) (q : okP n ns = true) (e : Kzx2.increasing n.toNat (Kzx2Neutral.natsOf ns) = b) : PyKzx2.increasing n ns = [if b then 1 else 0] := by
  show (Kzx2.withM n.toNat (Kzx2Neutral.natsOf ns) _).value :: (Kzx2.withM n.toNat (Kzx2Neutral.natsOf ns) _).nums = _
  rw [withM_yes h0 h q, e]
  rfl
theorem or_lt {n s t : Nat} (hs : s < 2 ^ n) (ht : t < 2 ^ n) : s ||| t < 2 ^ n := Nat.or_lt_two_pow hs ht
theorem and_lt {n s t : Nat} (hs : s < 2 ^ n) : s &&& t < 2 ^ n := Nat.lt_of_le_of_lt Nat.and_le_left hs
/-! two sets of which it isn't so: for together and over -/
def bad (m k : List Int) (s t : Nat) : Prop := at_ m (s ||| t) * at_ k (s &&& t) < at_ m s * at_ k t
theorem bad_iff {m k : List Int} {s t : Nat} (hm : ∀ x ∈ m, 0 ≤ x) (hk : ∀ x ∈ k, 0 ≤ x) :
    (!Kzx2.pairOk (Kzx2Neutral.natsOf m) (Kzx2Neutral.natsOf k) (Kzx2Neutral.natsOf m) (Kzx2Neutral.natsOf k) s t) = true ↔ bad m k s t := by
  unfold Kzx2.pairOk bad
  rw [at0_nats, at0_nats, at0_nats, at0_nats]
  have a1 := at_nn hm s
  have a2 := at_nn hk t
  have a3 := at_nn hm (s ||| t)
  have a4 := at_nn hk (s &&& t)
  show (!decide ((at_ m s).toNat * (at_ k t).toNat ≤ (at_ m (s ||| t)).toNat * (at_ k (s &&& t)).toNat)) = true ↔ _
  generalize at_ m s = x at *
  generalize at_ k t = y at *
  generalize at_ m (s ||| t) = z at *
  generalize at_ k (s &&& t) = u at *
  obtain ⟨x, rfl⟩ := Int.eq_ofNat_of_zero_le a1
  obtain ⟨y, rfl⟩ := Int.eq_ofNat_of_zero_le a2
  obtain ⟨z, rfl⟩ := Int.eq_ofNat_of_zero_le a3
  obtain ⟨u, rfl⟩ := Int.eq_ofNat_of_zero_le a4
  rw [Int.toNat_natCast, Int.toNat_natCast, Int.toNat_natCast, Int.toNat_natCast, ← Int.natCast_mul, ← Int.natCast_mul, Int.ofNat_lt]
  simp
theorem find_range {p : Nat → Bool} {n i : Nat} (hi : i < n) (h : p i = true) (hb : ∀ j, j < i → p j = false) : (List.range n).find? p = some i := by
  rw [List.find?_range_eq_some]
  exact ⟨h, List.mem_range.mpr hi, fun j hj => by rw [hb j hj]; rfl⟩
theorem find_range_none {p : Nat → Bool} {n : Nat} (hb : ∀ j, j < n → p j = false) : (List.range n).find? p = none := by
  rw [List.find?_eq_none]
  intro x hx
  rw [hb x (List.mem_range.mp hx)]
  decide
theorem findSome_range {β : Type} {f : Nat → Option β} {n i : Nat} {b : β} (hi : i < n) (h : f i = some b) (hb : ∀ j, j < i → f j = none) : (List.range n).findSome? f = some b := by
  rw [List.findSome?_eq_some_iff]
  refine ⟨List.range i, i, (List.range (n - i - 1)).map (fun x => i + (1 + x)), ?_, h, fun x hx => hb x (List.mem_range.mp hx)⟩
  have e : n = i + (1 + (n - i - 1)) := by omega
  conv => lhs; rw [e]
  rw [List.range_add, List.range_add]
  simp [Function.comp_def]
theorem findSome_none {β : Type} {f : Nat → Option β} {n : Nat} (hb : ∀ j, j < n → f j = none) : (List.range n).findSome? f = none := by
  rw [List.findSome?_eq_none_iff]
  intro x hx
  exact hb x (List.mem_range.mp hx)
theorem breaks_some {n s t : Nat} {m k : List Int} (hm : ∀ x ∈ m, 0 ≤ x) (hk : ∀ x ∈ k, 0 ≤ x) (hs : s < 2 ^ n) (ht : t < 2 ^ n) (b : bad m k s t)
    (b1 : ∀ s', s' < s → ∀ t', t' < 2 ^ n → ¬ bad m k s' t') (b2 : ∀ t', t' < t → ¬ bad m k s t') :
    Kzx2.breaks n (Kzx2Neutral.natsOf m) (Kzx2Neutral.natsOf k) (Kzx2Neutral.natsOf m) (Kzx2Neutral.natsOf k) = some (s, t) := by
  unfold Kzx2.breaks Kzx1.sets
  refine findSome_range hs ?_ fun j hj => ?_
  · rw [find_range ht ((bad_iff hm hk).mpr b) fun j hj => Bool.eq_false_iff.mpr fun z => b2 j hj ((bad_iff hm hk).mp z)]
    rfl
  · rw [find_range_none fun t' ht' => Bool.eq_false_iff.mpr fun z => b1 j hj t' ht' ((bad_iff hm hk).mp z)]
    rfl
theorem breaks_none {n : Nat} {m k : List Int} (hm : ∀ x ∈ m, 0 ≤ x) (hk : ∀ x ∈ k, 0 ≤ x)
    (b1 : ∀ s', s' < 2 ^ n → ∀ t', t' < 2 ^ n → ¬ bad m k s' t') :
    Kzx2.breaks n (Kzx2Neutral.natsOf m) (Kzx2Neutral.natsOf k) (Kzx2Neutral.natsOf m) (Kzx2Neutral.natsOf k) = none := by
  unfold Kzx2.breaks Kzx1.sets
  refine findSome_none fun j hj => ?_
  rw [find_range_none fun t' ht' => Bool.eq_false_iff.mpr fun z => b1 j hj t' ht' ((bad_iff hm hk).mp z)]
  rfl
theorem tog_22 {n : Int} {ns : List Int} (h0 : 0 ≤ n) (h : ∀ x ∈ ns, 0 ≤ x) (q : okP n ns = false) : PyKzx2.together n ns = [-22] := by
  show (Kzx2.withM n.toNat (Kzx2Neutral.natsOf ns) _).value :: (Kzx2.withM n.toNat (Kzx2Neutral.natsOf ns) _).nums = [-22]
  rw [withM_no h0 h q]
  rfl
theorem tog_some {n : Int} {ns : List Int} {s t : Nat} (h0 : 0 ≤ n) (h : ∀ x ∈ ns, 0 ≤ x) (q : okP n ns = true)
    (e : Kzx2.breaks n.toNat (Kzx2Neutral.natsOf ns) (Kzx2Neutral.natsOf ns) (Kzx2Neutral.natsOf ns) (Kzx2Neutral.natsOf ns) = some (s, t)) : PyKzx2.together n ns = [0, (s : Int), (t : Int)] := by
  show (Kzx2.withM n.toNat (Kzx2Neutral.natsOf ns) _).value :: (Kzx2.withM n.toNat (Kzx2Neutral.natsOf ns) _).nums = _
  rw [withM_yes h0 h q, e]
theorem tog_none {n : Int} {ns : List Int} (h0 : 0 ≤ n) (h : ∀ x ∈ ns, 0 ≤ x) (q : okP n ns = true)
    (e : Kzx2.breaks n.toNat (Kzx2Neutral.natsOf ns) (Kzx2Neutral.natsOf ns) (Kzx2Neutral.natsOf ns) (Kzx2Neutral.natsOf ns) = none) : PyKzx2.together n ns = [1] := by
  show (Kzx2.withM n.toNat (Kzx2Neutral.natsOf ns) _).value :: (Kzx2.withM n.toNat (Kzx2Neutral.natsOf ns) _).nums = _
  rw [withM_yes h0 h q, e]
  rfl
end Wt

namespace Wt
/-! ### over and together by the pairs' search -/
def ansH (N : Nat) (m k : List Int) : List Int := match Kzx2.breaks N (Kzx2Neutral.natsOf m) (Kzx2Neutral.natsOf k) (Kzx2Neutral.natsOf m) (Kzx2Neutral.natsOf k) with
  | none => [1]
  | some y => [0, (y.1 : Int), (y.2 : Int)]
theorem ansH_some {N s t : Nat} {m k : List Int} (e : Kzx2.breaks N (Kzx2Neutral.natsOf m) (Kzx2Neutral.natsOf k) (Kzx2Neutral.natsOf m) (Kzx2Neutral.natsOf k) = some (s, t)) : ansH N m k = [0, (s : Int), (t : Int)] := by
  unfold ansH
  rw [e]
theorem ansH_none {N : Nat} {m k : List Int} (e : Kzx2.breaks N (Kzx2Neutral.natsOf m) (Kzx2Neutral.natsOf k) (Kzx2Neutral.natsOf m) (Kzx2Neutral.natsOf k) = none) : ansH N m k = [1] := by
  unfold ansH
  rw [e]
theorem tog_yes {n : Int} {ns : List Int} (h0 : 0 ≤ n) (h : ∀ x ∈ ns, 0 ≤ x) (q : okP n ns = true) : PyKzx2.together n ns = ansH n.toNat ns ns := by
  show (Kzx2.withM n.toNat (Kzx2Neutral.natsOf ns) _).value :: (Kzx2.withM n.toNat (Kzx2Neutral.natsOf ns) _).nums = _
  rw [withM_yes h0 h q]
  unfold ansH
  cases Kzx2.breaks n.toNat (Kzx2Neutral.natsOf ns) (Kzx2Neutral.natsOf ns) (Kzx2Neutral.natsOf ns) (Kzx2Neutral.natsOf ns) <;> rfl
/-- the second row's word, where the first is as told -/
theorem okW_of {n : Int} {m k : List Int} (hm : ∀ x ∈ m, 0 ≤ x) (hk : ∀ x ∈ k, 0 ≤ x) (q : okP n m = true) : Kzx2.okW n.toNat (Kzx2Neutral.natsOf k) = okP n k := by
  rw [okP_spec hm, Bool.and_eq_true] at q
  rw [okP_spec hk, q.1, Bool.true_and]
theorem over_22a {n : Int} {m k : List Int} (h0 : 0 ≤ n) (hm : ∀ x ∈ m, 0 ≤ x) (q : okP n m = false) : PyKzx2.over n m k = [-22] := by
  show (Kzx2.withM n.toNat (Kzx2Neutral.natsOf m) _).value :: (Kzx2.withM n.toNat (Kzx2Neutral.natsOf m) _).nums = [-22]
  rw [withM_no h0 hm q]
  rfl
theorem over_22b {n : Int} {m k : List Int} (h0 : 0 ≤ n) (hm : ∀ x ∈ m, 0 ≤ x) (hk : ∀ x ∈ k, 0 ≤ x) (q : okP n m = true) (q2 : okP n k = false) : PyKzx2.over n m k = [-22] := by
  show (Kzx2.withM n.toNat (Kzx2Neutral.natsOf m) _).value :: (Kzx2.withM n.toNat (Kzx2Neutral.natsOf m) _).nums = [-22]
  rw [withM_yes h0 hm q, okW_of hm hk q, q2]
  rfl
theorem over_yes {n : Int} {m k : List Int} (h0 : 0 ≤ n) (hm : ∀ x ∈ m, 0 ≤ x) (hk : ∀ x ∈ k, 0 ≤ x) (q : okP n m = true) (q2 : okP n k = true) : PyKzx2.over n m k = ansH n.toNat m k := by
  show (Kzx2.withM n.toNat (Kzx2Neutral.natsOf m) _).value :: (Kzx2.withM n.toNat (Kzx2Neutral.natsOf m) _).nums = _
  rw [withM_yes h0 hm q, okW_of hm hk q, q2]
  unfold ansH
  cases Kzx2.breaks n.toNat (Kzx2Neutral.natsOf m) (Kzx2Neutral.natsOf k) (Kzx2Neutral.natsOf m) (Kzx2Neutral.natsOf k) <;> rfl
/-! ### a family, and its weight -/
def famP (N : Int) : Int → List Int → Bool
  | _, [] => true
  | l, a :: r => if a < l ∨ N ≤ a then false else famP N (a + 1) r
theorem famP_cons {N : Nat} : ∀ {l a : Int} {r : List Int}, (∀ x ∈ a :: r, 0 ≤ x) → famP ((2 ^ N : Nat) : Int) l (a :: r) = (decide (l ≤ a) && Kzx1.okFamily N (Kzx2Neutral.natsOf (a :: r))) := by
  intro l a r
  induction r generalizing l a with
  | nil =>
    intro h
    have ha := h a List.mem_cons_self
    unfold famP
    show (if _ then false else true) = (decide (l ≤ a) && (true && (decide (a.toNat < 2 ^ N) && true)))
    by_cases c : a < l ∨ ((2 ^ N : Nat) : Int) ≤ a
    · rw [if_pos c]
      symm
      rw [Bool.true_and, Bool.and_true, Bool.and_eq_false_iff, decide_eq_false_iff_not, decide_eq_false_iff_not]
      omega
    · rw [if_neg c]
      symm
      rw [Bool.true_and, Bool.and_true, Bool.and_eq_true, decide_eq_true_eq, decide_eq_true_eq]
      omega
  | cons b r ih =>
    intro h
    have ha := h a List.mem_cons_self
    have hb := h b (List.mem_cons_of_mem _ List.mem_cons_self)
    unfold famP
    rw [ih fun x hx => h x (List.mem_cons_of_mem _ hx)]
    have e : Kzx1.okFamily N (Kzx2Neutral.natsOf (a :: b :: r)) = (decide (a.toNat < b.toNat) && (decide (a.toNat < 2 ^ N) && Kzx1.okFamily N (Kzx2Neutral.natsOf (b :: r)))) := by
      show ((decide (a.toNat < b.toNat) && Kzx1.rising (b.toNat :: Kzx2Neutral.natsOf r)) && (decide (a.toNat < 2 ^ N) && _)) = (decide (a.toNat < b.toNat) && (decide (a.toNat < 2 ^ N) && (Kzx1.rising (b.toNat :: Kzx2Neutral.natsOf r) && _)))
      cases decide (a.toNat < b.toNat) <;> cases Kzx1.rising (b.toNat :: Kzx2Neutral.natsOf r) <;> cases decide (a.toNat < 2 ^ N) <;> rfl
    rw [e]
    cases Kzx1.okFamily N (Kzx2Neutral.natsOf (b :: r)) with
    | false => simp
    | true =>
      by_cases c : a < l ∨ ((2 ^ N : Nat) : Int) ≤ a
      · rw [if_pos c]
        symm
        rw [Bool.and_true, Bool.and_eq_false_iff, Bool.and_eq_false_iff, decide_eq_false_iff_not, decide_eq_false_iff_not, decide_eq_false_iff_not]
        omega
      · rw [if_neg c]
        apply Bool.eq_iff_iff.mpr
        rw [Bool.and_true, Bool.and_true, Bool.and_eq_true, Bool.and_eq_true, decide_eq_true_eq, decide_eq_true_eq, decide_eq_true_eq, decide_eq_true_eq]
        omega
theorem famP_spec {N : Nat} {x : List Int} (h : ∀ z ∈ x, 0 ≤ z) : famP ((2 ^ N : Nat) : Int) 0 x = Kzx1.okFamily N (Kzx2Neutral.natsOf x) := by
  cases x with
  | nil => rfl
  | cons a r =>
    rw [famP_cons h, decide_eq_true (h a List.mem_cons_self), Bool.true_and]
theorem famP_lt {N : Int} : ∀ {x : List Int} {l : Int}, famP N l x = true → ∀ z ∈ x, z < N := by
  intro x
  induction x with
  | nil =>
    intro l _ z hz
    cases hz
  | cons a r ih =>
    intro l h z hz
    unfold famP at h
    by_cases c : a < l ∨ N ≤ a
    · rw [if_pos c] at h
      cases h
    · rw [if_neg c] at h
      rcases List.mem_cons.mp hz with rfl | hz
      · omega
      · exact ih h z hz
theorem foldl_sum : ∀ (l : List Nat) (c : Nat), ((l.foldl (· + ·) c : Nat) : Int) = (c : Int) + (l.map fun (z : Nat) => (z : Int)).sum
  | [], c => by simp
  | a :: r, c => by
    rw [List.foldl_cons, foldl_sum r (c + a), List.map_cons, List.sum_cons, Int.natCast_add]
    omega
theorem sum_map {α : Type} {l : List α} {f : α → Nat} {g : α → Int} (h : ∀ a ∈ l, (f a : Int) = g a) : ((Kzx2.sum (l.map f) : Nat) : Int) = (l.map g).sum := by
  unfold Kzx2.sum
  rw [foldl_sum, List.map_map, Int.natCast_zero, Int.zero_add]
  congr 1
  exact List.map_congr_left h
theorem sum_nats {m : List Int} (h : ∀ x ∈ m, 0 ≤ x) : ((Kzx2.sum (Kzx2Neutral.natsOf m) : Nat) : Int) = m.sum := by
  unfold Kzx2Neutral.natsOf
  have e := sum_map (l := m) (f := Int.toNat) (g := id) fun a ha => Int.toNat_of_nonneg (h a ha)
  rw [e, List.map_id]
def totI (m x : List Int) : Int := (x.map fun z => at_ m z.toNat).sum
theorem tot_nats {m x : List Int} (hm : ∀ y ∈ m, 0 ≤ y) : ((Kzx2.total (Kzx2Neutral.natsOf m) (Kzx2Neutral.natsOf x) : Nat) : Int) = totI m x := by
  unfold Kzx2.total totI
  have e : (Kzx2Neutral.natsOf x).map (Kzx2.at0 (Kzx2Neutral.natsOf m)) = x.map fun z => (at_ m z.toNat).toNat := by
    unfold Kzx2Neutral.natsOf
    rw [List.map_map]
    refine List.map_congr_left fun z _ => ?_
    exact at0_nats m z.toNat
  rw [e]
  exact sum_map fun z _ => Int.toNat_of_nonneg (at_nn hm _)
theorem tot_22a {n : Int} {m x : List Int} (h0 : 0 ≤ n) (hm : ∀ x ∈ m, 0 ≤ x) (q : okP n m = false) : PyKzx2.total n m x = [-22] := by
  show (Kzx2.withM n.toNat (Kzx2Neutral.natsOf m) _).value :: (Kzx2.withM n.toNat (Kzx2Neutral.natsOf m) _).nums = [-22]
  rw [withM_no h0 hm q]
  rfl
theorem fam_len {n : Int} {m x : List Int} (hx : ∀ z ∈ x, 0 ≤ z) (q : okP n m = true) : famP (m.length : Int) 0 x = Kzx1.okFamily n.toNat (Kzx2Neutral.natsOf x) := by
  rw [(okP_n q).2.2, famP_spec hx]
theorem tot_22b {n : Int} {m x : List Int} (h0 : 0 ≤ n) (hm : ∀ x ∈ m, 0 ≤ x) (hx : ∀ z ∈ x, 0 ≤ z) (q : okP n m = true) (q2 : famP (m.length : Int) 0 x = false) : PyKzx2.total n m x = [-22] := by
  show (Kzx2.withM n.toNat (Kzx2Neutral.natsOf m) _).value :: (Kzx2.withM n.toNat (Kzx2Neutral.natsOf m) _).nums = [-22]
  rw [withM_yes h0 hm q, ← fam_len hx q, q2]
  rfl
theorem tot_yes {n : Int} {m x : List Int} (h0 : 0 ≤ n) (hm : ∀ x ∈ m, 0 ≤ x) (hx : ∀ z ∈ x, 0 ≤ z) (q : okP n m = true) (q2 : famP (m.length : Int) 0 x = true) : PyKzx2.total n m x = [totI m x] := by
  show (Kzx2.withM n.toNat (Kzx2Neutral.natsOf m) _).value :: (Kzx2.withM n.toNat (Kzx2Neutral.natsOf m) _).nums = _
  rw [withM_yes h0 hm q, ← fam_len hx q, q2, ← tot_nats hm]
  rfl
/-! ### rows multiplied, and together -/
def mulI (m f : List Int) : List Int := (m.zip f).map fun y => y.1 * y.2
def dotI (m f : List Int) : Int := (mulI m f).sum
theorem zip_nats (m f : List Int) : (Kzx2Neutral.natsOf m).zip (Kzx2Neutral.natsOf f) = (m.zip f).map fun y => (y.1.toNat, y.2.toNat) := by
  unfold Kzx2Neutral.natsOf
  rw [List.zip_map]
  rfl
theorem zip_nn {m f : List Int} (hm : ∀ x ∈ m, 0 ≤ x) (hf : ∀ x ∈ f, 0 ≤ x) : ∀ y ∈ m.zip f, 0 ≤ y.1 ∧ 0 ≤ y.2 := fun _ hy => ⟨hm _ (List.of_mem_zip hy).1, hf _ (List.of_mem_zip hy).2⟩
theorem mul_nat {a b : Int} (ha : 0 ≤ a) (hb : 0 ≤ b) : ((a.toNat * b.toNat : Nat) : Int) = a * b := by
  rw [Int.natCast_mul, Int.toNat_of_nonneg ha, Int.toNat_of_nonneg hb]
theorem dot_nats {m f : List Int} (hm : ∀ x ∈ m, 0 ≤ x) (hf : ∀ x ∈ f, 0 ≤ x) : ((Kzx2.dot (Kzx2Neutral.natsOf m) (Kzx2Neutral.natsOf f) : Nat) : Int) = dotI m f := by
  unfold Kzx2.dot dotI mulI
  rw [zip_nats, List.map_map]
  exact sum_map fun y hy => mul_nat (zip_nn hm hf y hy).1 (zip_nn hm hf y hy).2
theorem mulI_nn {m f : List Int} (hm : ∀ x ∈ m, 0 ≤ x) (hf : ∀ x ∈ f, 0 ≤ x) : ∀ x ∈ mulI m f, 0 ≤ x := by
  intro x hx
  unfold mulI at hx
  obtain ⟨y, hy, rfl⟩ := List.mem_map.mp hx
  exact Int.mul_nonneg (zip_nn hm hf y hy).1 (zip_nn hm hf y hy).2
theorem mul_nats {m f : List Int} (hm : ∀ x ∈ m, 0 ≤ x) (hf : ∀ x ∈ f, 0 ≤ x) : Kzx2.multiplied (Kzx2Neutral.natsOf m) (Kzx2Neutral.natsOf f) = Kzx2Neutral.natsOf (mulI m f) := by
  unfold Kzx2.multiplied mulI
  rw [zip_nats, List.map_map]
  unfold Kzx2Neutral.natsOf
  rw [List.map_map]
  refine List.map_congr_left fun y hy => ?_
  have e := mul_nat (zip_nn hm hf y hy).1 (zip_nn hm hf y hy).2
  show y.1.toNat * y.2.toNat = (y.1 * y.2).toNat
  omega
theorem mulI_len (m f : List Int) : (mulI m f).length = min m.length f.length := by
  unfold mulI
  rw [List.length_map, List.length_zip]
theorem sum_nn : ∀ {l : List Int}, (∀ x ∈ l, 0 ≤ x) → 0 ≤ l.sum
  | [], _ => by simp
  | a :: r, h => by
    rw [List.sum_cons]
    have := h a List.mem_cons_self
    have := sum_nn fun x hx => h x (List.mem_cons_of_mem a hx)
    omega
theorem sum_le {c : Int} : ∀ {l : List Int}, (∀ x ∈ l, x ≤ c) → l.sum ≤ (l.length : Int) * c
  | [], _ => by simp
  | a :: r, h => by
    rw [List.sum_cons, List.length_cons]
    have h1 := h a List.mem_cons_self
    have h2 := sum_le fun x hx => h x (List.mem_cons_of_mem a hx)
    have e : ((r.length + 1 : Nat) : Int) * c = (r.length : Int) * c + c := by
      rw [Int.natCast_add, Int.add_mul]
      simp
    rw [e]
    omega
theorem mulI_le {m f : List Int} {c d : Int} (hm : ∀ x ∈ m, 0 ≤ x ∧ x ≤ c) (hf : ∀ x ∈ f, 0 ≤ x ∧ x ≤ d) : ∀ x ∈ mulI m f, x ≤ c * d := by
  intro x hx
  unfold mulI at hx
  obtain ⟨y, hy, rfl⟩ := List.mem_map.mp hx
  have h1 := hm _ (List.of_mem_zip hy).1
  have h2 := hf _ (List.of_mem_zip hy).2
  exact Int.mul_le_mul h1.2 h2.2 h2.1 (by omega)
theorem mulI_get {m f : List Int} {i : Nat} {a b : Int} (h1 : m[i]? = some a) (h2 : f[i]? = some b) : (mulI m f)[i]? = some (a * b) := by
  unfold mulI
  rw [List.getElem?_map, List.getElem?_zip_eq_some (z := (a, b)) |>.mpr ⟨h1, h2⟩]
  rfl
/-! ### the mean -/
theorem mean_22a {n : Int} {m f : List Int} (h0 : 0 ≤ n) (hm : ∀ x ∈ m, 0 ≤ x) (q : okP n m = false) : PyKzx2.mean n m f = [-22] := by
  show (Kzx2.withM n.toNat (Kzx2Neutral.natsOf m) _).value :: (Kzx2.withM n.toNat (Kzx2Neutral.natsOf m) _).nums = [-22]
  rw [withM_no h0 hm q]
  rfl
theorem mean_22b {n : Int} {m f : List Int} (h0 : 0 ≤ n) (hm : ∀ x ∈ m, 0 ≤ x) (hf : ∀ x ∈ f, 0 ≤ x) (q : okP n m = true) (q2 : okP n f = false) : PyKzx2.mean n m f = [-22] := by
  show (Kzx2.withM n.toNat (Kzx2Neutral.natsOf m) _).value :: (Kzx2.withM n.toNat (Kzx2Neutral.natsOf m) _).nums = [-22]
  rw [withM_yes h0 hm q, okW_of hm hf q, q2]
  rfl
theorem mean_6 {n : Int} {m f : List Int} (h0 : 0 ≤ n) (hm : ∀ x ∈ m, 0 ≤ x) (hf : ∀ x ∈ f, 0 ≤ x) (q : okP n m = true) (q2 : okP n f = true) (z : m.sum = 0) : PyKzx2.mean n m f = [-6] := by
  show (Kzx2.withM n.toNat (Kzx2Neutral.natsOf m) _).value :: (Kzx2.withM n.toNat (Kzx2Neutral.natsOf m) _).nums = _
  have e := sum_nats hm
  have e1 : Kzx2.sum (Kzx2Neutral.natsOf m) = 0 := by omega
  rw [withM_yes h0 hm q, okW_of hm hf q, q2, e1]
  rfl
theorem mean_yes {n : Int} {m f : List Int} {a b : Nat} (h0 : 0 ≤ n) (hm : ∀ x ∈ m, 0 ≤ x) (hf : ∀ x ∈ f, 0 ≤ x) (q : okP n m = true) (q2 : okP n f = true) (z : b ≠ 0) (ea : dotI m f = (a : Int)) (eb : m.sum = (b : Int)) :
    PyKzx2.mean n m f = [0, (a : Int) / ((Nat.gcd a b : Nat) : Int), (b : Int) / ((Nat.gcd a b : Nat) : Int)] := by
  show (Kzx2.withM n.toNat (Kzx2Neutral.natsOf m) _).value :: (Kzx2.withM n.toNat (Kzx2Neutral.natsOf m) _).nums = _
  have e1 : Kzx2.sum (Kzx2Neutral.natsOf m) = b := by
    have := sum_nats hm
    omega
  have e2 : Kzx2.dot (Kzx2Neutral.natsOf m) (Kzx2Neutral.natsOf f) = a := by
    have := dot_nats hm hf
    omega
  rw [withM_yes h0 hm q, okW_of hm hf q, q2, e1, e2]
  have e3 : (if true = false then Kzx1.say (-22) else if b = 0 then Kzx1.say (-6) else ⟨0, Kzx2.lowest a b⟩ : Kzx1.Ans) = ⟨0, Kzx2.lowest a b⟩ := by
    rw [if_neg (by decide), if_neg z]
  rw [e3]
  unfold Kzx2.lowest
  have e4 : Nat.gcd a b ≠ 0 := fun u => z (Nat.eq_zero_of_gcd_eq_zero_right u)
  show 0 :: (if Nat.gcd a b = 0 then _ else _) = _
  rw [if_neg e4, Int.natCast_ediv, Int.natCast_ediv]
/-! ### goes -/
theorem goes_22a {n : Int} {m f g : List Int} (h0 : 0 ≤ n) (hm : ∀ x ∈ m, 0 ≤ x) (q : okP n m = false) : PyKzx2.goes n m f g = [-22] := by
  show (Kzx2.withM n.toNat (Kzx2Neutral.natsOf m) _).value :: (Kzx2.withM n.toNat (Kzx2Neutral.natsOf m) _).nums = [-22]
  rw [withM_no h0 hm q]
  rfl
theorem goes_22b {n : Int} {m f g : List Int} (h0 : 0 ≤ n) (hm : ∀ x ∈ m, 0 ≤ x) (hf : ∀ x ∈ f, 0 ≤ x) (hg : ∀ x ∈ g, 0 ≤ x) (q : okP n m = true) (q2 : okP n f = false ∨ okP n g = false) : PyKzx2.goes n m f g = [-22] := by
  show (Kzx2.withM n.toNat (Kzx2Neutral.natsOf m) _).value :: (Kzx2.withM n.toNat (Kzx2Neutral.natsOf m) _).nums = [-22]
  rw [withM_yes h0 hm q, okW_of hm hf q, okW_of hm hg q, if_pos q2]
  rfl
theorem goes_yes {n : Int} {m f g : List Int} {l r : Int} (h0 : 0 ≤ n) (hm : ∀ x ∈ m, 0 ≤ x) (hf : ∀ x ∈ f, 0 ≤ x) (hg : ∀ x ∈ g, 0 ≤ x) (q : okP n m = true) (q2 : okP n f = true) (q3 : okP n g = true)
    (el : l = m.sum * dotI m (mulI f g)) (er : r = dotI m f * dotI m g) : PyKzx2.goes n m f g = [if r < l then 2 else if l < r then 0 else 1, l, r] := by
  show (Kzx2.withM n.toNat (Kzx2Neutral.natsOf m) _).value :: (Kzx2.withM n.toNat (Kzx2Neutral.natsOf m) _).nums = _
  rw [withM_yes h0 hm q, okW_of hm hf q, okW_of hm hg q, if_neg (by rw [q2, q3]; rintro (z | z) <;> cases z)]
  have e1 : ((Kzx2.sum (Kzx2Neutral.natsOf m) * Kzx2.dot (Kzx2Neutral.natsOf m) (Kzx2.multiplied (Kzx2Neutral.natsOf f) (Kzx2Neutral.natsOf g)) : Nat) : Int) = l := by
    rw [mul_nats hf hg, Int.natCast_mul, sum_nats hm, dot_nats hm (mulI_nn hf hg), el]
  have e2 : ((Kzx2.dot (Kzx2Neutral.natsOf m) (Kzx2Neutral.natsOf f) * Kzx2.dot (Kzx2Neutral.natsOf m) (Kzx2Neutral.natsOf g) : Nat) : Int) = r := by
    rw [Int.natCast_mul, dot_nats hm hf, dot_nats hm hg, er]
  unfold Kzx2.side
  generalize Kzx2.sum (Kzx2Neutral.natsOf m) * Kzx2.dot (Kzx2Neutral.natsOf m) (Kzx2.multiplied (Kzx2Neutral.natsOf f) (Kzx2Neutral.natsOf g)) = L at e1 ⊢
  generalize Kzx2.dot (Kzx2Neutral.natsOf m) (Kzx2Neutral.natsOf f) * Kzx2.dot (Kzx2Neutral.natsOf m) (Kzx2Neutral.natsOf g) = R at e2 ⊢
  subst e1
  subst e2
  show ((if R < L then 2 else if L < R then 0 else 1 : Nat) : Int) :: [(L : Int), (R : Int)] = _
  clear el er
  by_cases c : R < L
  · have c' : (R : Int) < (L : Int) := Int.ofNat_lt.mpr c
    rw [if_pos c, if_pos c']
    rfl
  · have c' : ¬ (R : Int) < (L : Int) := fun z => c (Int.ofNat_lt.mp z)
    rw [if_neg c, if_neg c']
    by_cases d : L < R
    · have d' : (L : Int) < (R : Int) := Int.ofNat_lt.mpr d
      rw [if_pos d, if_pos d']
      rfl
    · have d' : ¬ (L : Int) < (R : Int) := fun z => d (Int.ofNat_lt.mp z)
      rw [if_neg d, if_neg d']
      rfl
end Wt

namespace Wt
/-! ### given -/
def givI (v : Int) (i : Nat) (ns : List Int) (k : Nat) : List Int := (List.range k).map fun s => if ((s / 2 ^ i % 2 : Nat) : Int) = v then at_ ns s else 0
theorem givI_step {v : Int} {i k : Nat} {ns : List Int} : givI v i ns (k + 1) = givI v i ns k ++ [if ((k / 2 ^ i % 2 : Nat) : Int) = v then at_ ns k else 0] := by
  unfold givI
  rw [List.range_succ, List.map_append]
  rfl
theorem givI_len {v : Int} {i k : Nat} {ns : List Int} : (givI v i ns k).length = k := by
  unfold givI
  rw [List.length_map, List.length_range]
theorem giv_22a {n i v : Int} {ns : List Int} (h0 : 0 ≤ n) (h : ∀ x ∈ ns, 0 ≤ x) (q : okP n ns = false) : PyKzx2.given_of n i v ns = [-22] := by
  show (Kzx2.withM n.toNat (Kzx2Neutral.natsOf ns) _).value :: (Kzx2.withM n.toNat (Kzx2Neutral.natsOf ns) _).nums = [-22]
  rw [withM_no h0 h q]
  rfl
theorem giv_2 {n i v : Int} {ns : List Int} (h0 : 0 ≤ n) (h : ∀ x ∈ ns, 0 ≤ x) (q : okP n ns = true) (hi : n ≤ i) : PyKzx2.given_of n i v ns = [-2] := by
  show (Kzx2.withM n.toNat (Kzx2Neutral.natsOf ns) _).value :: (Kzx2.withM n.toNat (Kzx2Neutral.natsOf ns) _).nums = [-2]
  rw [withM_yes h0 h q, if_pos (show n.toNat ≤ i.toNat by omega)]
  rfl
theorem giv_22b {n i v : Int} {ns : List Int} (h0 : 0 ≤ n) (h : ∀ x ∈ ns, 0 ≤ x) (q : okP n ns = true) (h1 : 0 ≤ i) (hi : i < n) (hv : 1 < v) : PyKzx2.given_of n i v ns = [-22] := by
  show (Kzx2.withM n.toNat (Kzx2Neutral.natsOf ns) _).value :: (Kzx2.withM n.toNat (Kzx2Neutral.natsOf ns) _).nums = [-22]
  rw [withM_yes h0 h q, if_neg (show ¬ n.toNat ≤ i.toNat by omega), if_pos (show 1 < v.toNat by omega)]
  rfl
theorem map_eq {α β : Type} {f g : α → β} : ∀ {l : List α}, (∀ x ∈ l, f x = g x) → l.map f = l.map g := fun h => List.map_congr_left h
theorem giv_yes {n i v : Int} {ns : List Int} (h0 : 0 ≤ n) (h : ∀ x ∈ ns, 0 ≤ x) (q : okP n ns = true) (h1 : 0 ≤ i) (hi : i < n) (h2 : 0 ≤ v) (hv : v ≤ 1) :
    PyKzx2.given_of n i v ns = (ns.length : Int) :: givI v i.toNat ns ns.length := by
  show (Kzx2.withM n.toNat (Kzx2Neutral.natsOf ns) _).value :: (Kzx2.withM n.toNat (Kzx2Neutral.natsOf ns) _).nums = _
  rw [withM_yes h0 h q, if_neg (show ¬ n.toNat ≤ i.toNat by omega), if_neg (show ¬ 1 < v.toNat by omega)]
  have el := (okP_n q).2.2
  have e : Kzx1.ints (Kzx2.given n.toNat i.toNat (v.toNat == 1) (Kzx2Neutral.natsOf ns)) = givI v i.toNat ns ns.length := by
    unfold Kzx1.ints Kzx2.given givI Kzx1.sets
    rw [List.map_map, el]
    refine map_eq fun s _ => ?_
    show (((if (Kzx1.up s i.toNat == (v.toNat == 1)) = true then Kzx2.at0 (Kzx2Neutral.natsOf ns) s else 0 : Nat)) : Int) = _
    rw [at0_nats]
    have p := at_nn h s
    unfold Kzx1.up
    have hm : s / 2 ^ i.toNat % 2 < 2 := Nat.mod_lt _ (by decide)
    generalize s / 2 ^ i.toNat % 2 = b at *
    have hb : b = 0 ∨ b = 1 := by omega
    have hv : v = 0 ∨ v = 1 := by omega
    rcases hb with rfl | rfl <;> rcases hv with rfl | rfl <;> simp <;> omega
  show (((Kzx1.ints (Kzx2.given n.toNat i.toNat (v.toNat == 1) (Kzx2Neutral.natsOf ns))).length : Nat) : Int) :: Kzx1.ints (Kzx2.given n.toNat i.toNat (v.toNat == 1) (Kzx2Neutral.natsOf ns)) = _
  rw [e, givI_len]
/-! ### forgot -/
/-- thing i is out -/
def outB (i s : Nat) : Bool := decide (s / 2 ^ i % 2 = 0)
def fgtI (i : Nat) (ns : List Int) (k : Nat) : List Int := ((List.range k).filter (outB i)).map fun s => at_ ns s + at_ ns (s ||| 2 ^ i)
theorem fgtI_out {i k : Nat} {ns : List Int} (h : outB i k = true) : fgtI i ns (k + 1) = fgtI i ns k ++ [at_ ns k + at_ ns (k ||| 2 ^ i)] := by
  unfold fgtI
  rw [List.range_succ, List.filter_append, List.map_append]
  show _ ++ ([k].filter (outB i)).map _ = _
  rw [List.filter_cons, if_pos h]
  rfl
theorem fgtI_in {i k : Nat} {ns : List Int} (h : outB i k = false) : fgtI i ns (k + 1) = fgtI i ns k := by
  unfold fgtI
  rw [List.range_succ, List.filter_append, List.map_append]
  have e : [k].filter (outB i) = [] := by
    rw [List.filter_cons, if_neg (by rw [h]; decide)]
    rfl
  rw [e]
  exact List.append_nil _
theorem fgtI_le {i k : Nat} {ns : List Int} : (fgtI i ns k).length ≤ k := by
  unfold fgtI
  rw [List.length_map]
  refine Nat.le_trans (List.length_filter_le _ _) ?_
  rw [List.length_range]
  exact Nat.le_refl _
theorem widens : ∀ n, n < 6 → ∀ i, i < n → (List.range (2 ^ n)).filter (outB i) = (List.range (2 ^ (n - 1))).map (Kzx2.widen i) := by decide +kernel
theorem outs5 : ∀ s, s < 32 → ∀ i, i < 5 → outB i s = true → s ||| 2 ^ i = s + 2 ^ i := by decide +kernel
theorem fgt_22 {n i : Int} {ns : List Int} (h0 : 0 ≤ n) (h : ∀ x ∈ ns, 0 ≤ x) (q : okP n ns = false) : PyKzx2.forgot n i ns = [-22] := by
  show (Kzx2.withM n.toNat (Kzx2Neutral.natsOf ns) _).value :: (Kzx2.withM n.toNat (Kzx2Neutral.natsOf ns) _).nums = [-22]
  rw [withM_no h0 h q]
  rfl
theorem fgt_2 {n i : Int} {ns : List Int} (h0 : 0 ≤ n) (h : ∀ x ∈ ns, 0 ≤ x) (q : okP n ns = true) (hi : n ≤ i) : PyKzx2.forgot n i ns = [-2] := by
  show (Kzx2.withM n.toNat (Kzx2Neutral.natsOf ns) _).value :: (Kzx2.withM n.toNat (Kzx2Neutral.natsOf ns) _).nums = [-2]
  rw [withM_yes h0 h q, if_pos (show n.toNat ≤ i.toNat by omega)]
  rfl
theorem fgt_33 {n i : Int} {ns : List Int} (h0 : 0 ≤ n) (h : ∀ x ∈ ns, 0 ≤ x) (q : okP n ns = true) (h1 : 0 ≤ i) (hi : i < n) (e1 : n = 1) : PyKzx2.forgot n i ns = [-33] := by
  show (Kzx2.withM n.toNat (Kzx2Neutral.natsOf ns) _).value :: (Kzx2.withM n.toNat (Kzx2Neutral.natsOf ns) _).nums = [-33]
  rw [withM_yes h0 h q, if_neg (show ¬ n.toNat ≤ i.toNat by omega), if_pos (show n.toNat = 1 by omega)]
  rfl
theorem fgt_yes {n i : Int} {ns : List Int} (h0 : 0 ≤ n) (h : ∀ x ∈ ns, 0 ≤ x) (q : okP n ns = true) (h1 : 0 ≤ i) (hi : i < n) (e1 : n ≠ 1) :
    PyKzx2.forgot n i ns = ((fgtI i.toNat ns ns.length).length : Int) :: fgtI i.toNat ns ns.length := by
  show (Kzx2.withM n.toNat (Kzx2Neutral.natsOf ns) _).value :: (Kzx2.withM n.toNat (Kzx2Neutral.natsOf ns) _).nums = _
  rw [withM_yes h0 h q, if_neg (show ¬ n.toNat ≤ i.toNat by omega), if_neg (show ¬ n.toNat = 1 by omega)]
  have hn := (okP_n q).2.1
  have el := (okP_n q).2.2
  have h5 : n.toNat ≤ 5 := by omega
  have hi5 : i.toNat < n.toNat := by omega
  have e : Kzx1.ints (Kzx2.forgot n.toNat i.toNat (Kzx2Neutral.natsOf ns)) = fgtI i.toNat ns ns.length := by
    have ew := widens n.toNat (by omega) i.toNat hi5
    unfold Kzx1.ints Kzx2.forgot fgtI Kzx1.sets
    rw [List.map_map, el, ew, List.map_map]
    refine map_eq fun s hs => ?_
    have hm : Kzx2.widen i.toNat s ∈ (List.range (2 ^ n.toNat)).filter (outB i.toNat) := by
      rw [ew]
      exact List.mem_map_of_mem hs
    obtain ⟨hr, ho⟩ := List.mem_filter.mp hm
    have h32 : Kzx2.widen i.toNat s < 32 := Nat.lt_of_lt_of_le (List.mem_range.mp hr) (Nat.pow_le_pow_right (by decide) h5)
    show ((Kzx2.at0 (Kzx2Neutral.natsOf ns) (Kzx2.widen i.toNat s) + Kzx2.at0 (Kzx2Neutral.natsOf ns) (Kzx2.widen i.toNat s + 2 ^ i.toNat) : Nat) : Int) = at_ ns (Kzx2.widen i.toNat s) + at_ ns (Kzx2.widen i.toNat s ||| 2 ^ i.toNat)
    rw [outs5 _ h32 _ (by omega) ho, at0_nats, at0_nats]
    have p1 := at_nn h (Kzx2.widen i.toNat s)
    have p2 := at_nn h (Kzx2.widen i.toNat s + 2 ^ i.toNat)
    omega
  show (((Kzx1.ints (Kzx2.forgot n.toNat i.toNat (Kzx2Neutral.natsOf ns))).length : Nat) : Int) :: Kzx1.ints (Kzx2.forgot n.toNat i.toNat (Kzx2Neutral.natsOf ns)) = _
  rw [e]
end Wt

namespace Wt
/-! ### product -/
def okQ (p : List Int) : Bool := if (p.length : Int) < 2 ∨ 10 < (p.length : Int) ∨ (p.length : Int) % 2 ≠ 0 then false else p.all (fun x => decide (x ≤ 10))
/-- two by two -/
def prs : List Nat → List (Nat × Nat)
  | a :: b :: l => (a, b) :: prs l
  | _ => []
theorem two_ind {α : Type} {P : List α → Prop} (h0 : P []) (h1 : ∀ a, P [a]) (h2 : ∀ a b l, P l → P (a :: b :: l)) : ∀ l, P l
  | [] => h0
  | [a] => h1 a
  | a :: b :: l => h2 a b l (two_ind h0 h1 h2 l)
theorem read_odd : ∀ l : List Nat, l.length % 2 = 1 → Kzx2.readPairs l = none := by
  refine two_ind (fun h => by cases h) (fun a h => rfl) fun a b l ih h => ?_
  have e : l.length % 2 = 1 := by
    simp only [List.length_cons] at h
    omega
  show (Kzx2.readPairs l).map _ = none
  rw [ih e]
  rfl
theorem read_even : ∀ l : List Nat, l.length % 2 = 0 → Kzx2.readPairs l = some (prs l) := by
  refine two_ind (fun h => rfl) (fun a h => by cases h) fun a b l ih h => ?_
  have e : l.length % 2 = 0 := by
    simp only [List.length_cons] at h
    omega
  show (Kzx2.readPairs l).map _ = some _
  rw [ih e]
  rfl
theorem prs_len : ∀ l : List Nat, (prs l).length = l.length / 2 := by
  refine two_ind rfl (fun a => by simp [prs]) fun a b l ih => ?_
  show (prs l).length + 1 = (l.length + 1 + 1) / 2
  rw [ih]
  omega
theorem prs_get : ∀ (l : List Nat) (j : Nat), 2 * j + 1 < l.length → (prs l)[j]? = some (l.getD (2 * j) 0, l.getD (2 * j + 1) 0) := by
  refine two_ind (fun j h => by cases h) (fun a j h => by simp only [List.length_cons, List.length_nil] at h; omega) fun a b l ih j h => ?_
  cases j with
  | zero => rfl
  | succ j =>
    simp only [List.length_cons] at h
    have z := ih j (by omega)
    show (prs l)[j]? = some ((a :: b :: l).getD (2 * j + 2) 0, (a :: b :: l).getD (2 * j + 2 + 1) 0)
    rw [z]
    rfl
theorem prs_any : ∀ l : List Nat, l.length % 2 = 0 → ((prs l).any fun y => decide (10 < y.1) || decide (10 < y.2)) = !(l.all fun x => decide (x ≤ 10)) := by
  refine two_ind (fun h => rfl) (fun a h => by cases h) fun a b l ih h => ?_
  have e : l.length % 2 = 0 := by
    simp only [List.length_cons] at h
    omega
  show ((decide (10 < a) || decide (10 < b)) || (prs l).any _) = !(decide (a ≤ 10) && (decide (b ≤ 10) && l.all _))
  rw [ih e]
  by_cases ca : a ≤ 10 <;> by_cases cb : b ≤ 10 <;> simp [ca, cb] <;> omega
theorem all_nats10 (ns : List Int) (h : ∀ x ∈ ns, 0 ≤ x) : ((Kzx2Neutral.natsOf ns).all fun x => decide (x ≤ 10)) = ns.all (fun x => decide (x ≤ 10)) := by
  unfold Kzx2Neutral.natsOf
  rw [List.all_map]
  apply Bool.eq_iff_iff.mpr
  simp only [List.all_eq_true, Function.comp, decide_eq_true_eq]
  constructor
  · intro q x hx
    have := q x hx
    have := h x hx
    omega
  · intro q x hx
    have := q x hx
    omega
/-- the sets that have the last thing come last -/
theorem ups5 : ∀ l, l < 5 → ∀ s, s < 2 ^ l → Kzx1.up s l = false ∧ Kzx1.up (2 ^ l + s) l = true ∧ ∀ j, j < l → Kzx1.up (2 ^ l + s) j = Kzx1.up s j := by decide +kernel
def pick (s : Nat) (y : (Nat × Nat) × Nat) : Nat := if Kzx1.up s y.2 then y.1.1 else y.1.2
theorem pick_snoc (s : Nat) (ps : List (Nat × Nat)) (y : Nat × Nat) : ((ps ++ [y]).zipIdx.map (pick s)).foldl (· * ·) 1 = (ps.zipIdx.map (pick s)).foldl (· * ·) 1 * pick s (y, ps.length) := by
  rw [List.zipIdx_append, List.map_append, List.foldl_append]
  show _ * pick s (y, 0 + ps.length) = _
  rw [Nat.zero_add]
theorem prod_step {ps : List (Nat × Nat)} {y : Nat × Nat} (h : ps.length < 5) : Kzx2.product (ps ++ [y]) = (Kzx2.product ps).map (· * y.2) ++ (Kzx2.product ps).map (· * y.1) := by
  have e : ∀ qs : List (Nat × Nat), Kzx2.product qs = (List.range (2 ^ qs.length)).map fun s => (qs.zipIdx.map (pick s)).foldl (· * ·) 1 := fun _ => rfl
  rw [e, e, List.length_append]
  show (List.range (2 ^ (ps.length + 1))).map _ = _
  rw [Nat.pow_succ, Nat.mul_two, List.range_add, List.map_append, List.map_map, List.map_map, List.map_map]
  congr 1
  · refine map_eq fun s hs => ?_
    obtain ⟨u1, _, _⟩ := ups5 ps.length h s (List.mem_range.mp hs)
    show ((ps ++ [y]).zipIdx.map (pick s)).foldl (· * ·) 1 = (ps.zipIdx.map (pick s)).foldl (· * ·) 1 * y.2
    rw [pick_snoc]
    have : pick s (y, ps.length) = y.2 := by
      show (if Kzx1.up s ps.length then y.1 else y.2) = y.2
      rw [u1]
      rfl
    rw [this]
  · refine map_eq fun s hs => ?_
    obtain ⟨_, u2, u3⟩ := ups5 ps.length h s (List.mem_range.mp hs)
    show ((ps ++ [y]).zipIdx.map (pick (2 ^ ps.length + s))).foldl (· * ·) 1 = (ps.zipIdx.map (pick s)).foldl (· * ·) 1 * y.1
    rw [pick_snoc]
    have e1 : pick (2 ^ ps.length + s) (y, ps.length) = y.1 := by
      show (if Kzx1.up (2 ^ ps.length + s) ps.length then y.1 else y.2) = y.1
      rw [u2]
      rfl
    have e2 : ps.zipIdx.map (pick (2 ^ ps.length + s)) = ps.zipIdx.map (pick s) := by
      refine map_eq fun z hz => ?_
      have hl : z.2 < ps.length := by
        obtain ⟨a, j⟩ := z
        have := List.snd_lt_of_mem_zipIdx hz
        simpa using this
      show (if Kzx1.up (2 ^ ps.length + s) z.2 then z.1.1 else z.1.2) = if Kzx1.up s z.2 then z.1.1 else z.1.2
      rw [u3 _ hl]
    rw [e1, e2]
/-- the weights made of the first j things -/
def prI (p : List Int) (j : Nat) : List Int := Kzx1.ints (Kzx2.product ((prs (Kzx2Neutral.natsOf p)).take j))
theorem prI_zero {p : List Int} : prI p 0 = [1] := by
  unfold prI
  rw [List.take_zero]
  rfl
theorem getD_nats (p : List Int) (s : Nat) : (Kzx2Neutral.natsOf p).getD s 0 = (at_ p s).toNat := at0_nats p s
theorem ints_mul {l : List Nat} {y : Int} (hy : 0 ≤ y) : Kzx1.ints (l.map (· * y.toNat)) = (Kzx1.ints l).map (fun w => w * y) := by
  unfold Kzx1.ints
  rw [List.map_map, List.map_map]
  refine map_eq fun x _ => ?_
  show ((x * y.toNat : Nat) : Int) = (x : Int) * y
  rw [Int.natCast_mul, Int.toNat_of_nonneg hy]
theorem prI_step {p : List Int} {j : Nat} (h : ∀ x ∈ p, 0 ≤ x) (hj : 2 * j + 1 < p.length) (h5 : j < 5) : prI p (j + 1) = ((prI p j).map fun w => w * at_ p (2 * j + 1)) ++ ((prI p j).map fun w => w * at_ p (2 * j)) := by
  have g := prs_get (Kzx2Neutral.natsOf p) j (by rw [nats_len]; exact hj)
  have hl : j < (prs (Kzx2Neutral.natsOf p)).length := by
    rw [prs_len, nats_len]
    omega
  unfold prI
  rw [List.take_add_one, g]
  show Kzx1.ints (Kzx2.product ((prs (Kzx2Neutral.natsOf p)).take j ++ [_])) = _
  rw [prod_step (by rw [List.length_take]; omega), getD_nats, getD_nats, ← ints_mul (at_nn h _), ← ints_mul (at_nn h _)]
  exact List.map_append ..
theorem prI_len {p : List Int} {j : Nat} (hj : 2 * j ≤ p.length) : (prI p j).length = 2 ^ j := by
  unfold prI Kzx1.ints Kzx2.product Kzx1.sets
  rw [List.length_map, List.length_map, List.length_range, List.length_take, prs_len, nats_len, Nat.min_eq_left (by omega)]
theorem pow5 : ∀ j, j < 6 → 2 ^ j ≤ 32 := by decide
theorem okQ_n {p : List Int} (q : okQ p = true) : 2 ≤ p.length ∧ p.length ≤ 10 ∧ p.length % 2 = 0 ∧ ∀ x ∈ p, x ≤ 10 := by
  unfold okQ at q
  split at q
  · cases q
  · rename_i c
    refine ⟨by omega, by omega, by omega, fun x hx => ?_⟩
    exact of_decide_eq_true (List.all_eq_true.mp q x hx)
theorem prod_def (p : List Int) : PyKzx2.product p = (Kzx2.answer (.product (Kzx2Neutral.natsOf p))).value :: (Kzx2.answer (.product (Kzx2Neutral.natsOf p))).nums := rfl
theorem prod_ans (l : List Nat) : Kzx2.answer (.product l) = match Kzx2.readPairs l with
    | none => Kzx1.say (-22)
    | some r => if r.length = 0 ∨ 5 < r.length ∨ (r.any fun y => decide (10 < y.1) || decide (10 < y.2)) = true then Kzx1.say (-22) else Kzx1.told (Kzx1.ints (Kzx2.product r)) := rfl
theorem prod_22 {p : List Int} (h : ∀ x ∈ p, 0 ≤ x) (q : okQ p = false) : PyKzx2.product p = [-22] := by
  rw [prod_def, prod_ans]
  by_cases ev : p.length % 2 = 0
  · rw [read_even _ (by rw [nats_len]; exact ev)]
    have z : (prs (Kzx2Neutral.natsOf p)).length = 0 ∨ 5 < (prs (Kzx2Neutral.natsOf p)).length ∨ ((prs (Kzx2Neutral.natsOf p)).any fun y => decide (10 < y.1) || decide (10 < y.2)) = true := by
      rw [prs_any _ (by rw [nats_len]; exact ev), prs_len, nats_len, all_nats10 p h]
      unfold okQ at q
      split at q
      · rename_i c
        omega
      · right; right
        rw [q]
        rfl
    show (if _ then _ else _ : Kzx1.Ans).value :: (if _ then _ else _ : Kzx1.Ans).nums = _
    rw [if_pos z]
    rfl
  · rw [read_odd _ (by rw [nats_len]; omega)]
    rfl
theorem prod_yes {p : List Int} (h : ∀ x ∈ p, 0 ≤ x) (q : okQ p = true) : PyKzx2.product p = ((prI p (p.length / 2)).length : Int) :: prI p (p.length / 2) := by
  obtain ⟨c1, c2, c3, c4⟩ := okQ_n q
  rw [prod_def, prod_ans, read_even _ (by rw [nats_len]; exact c3)]
  have z : ¬ ((prs (Kzx2Neutral.natsOf p)).length = 0 ∨ 5 < (prs (Kzx2Neutral.natsOf p)).length ∨ ((prs (Kzx2Neutral.natsOf p)).any fun y => decide (10 < y.1) || decide (10 < y.2)) = true) := by
    rw [prs_any _ (by rw [nats_len]; exact c3), prs_len, nats_len, all_nats10 p h]
    have a : (p.all fun x => decide (x ≤ 10)) = true := List.all_eq_true.mpr fun x hx => decide_eq_true (c4 x hx)
    rw [a]
    rintro (z | z | z)
    · omega
    · omega
    · cases z
  show (if _ then _ else _ : Kzx1.Ans).value :: (if _ then _ else _ : Kzx1.Ans).nums = _
  rw [if_neg z]
  have e : prI p (p.length / 2) = Kzx1.ints (Kzx2.product (prs (Kzx2Neutral.natsOf p))) := by
    unfold prI
    rw [List.take_of_length_le (by rw [prs_len, nats_len]; exact Nat.le_refl _)]
  rw [e]
  rfl
end Wt

namespace Wt
open PySem PySem.Spec PyProof.Rows L2
open PySem.W (Codec)
/-! ### the text -/
def topS (i : Nat) : Stmt := PySem.Challenge.pw_weightstogether_s07_product.main.body.getD i (.Pass ⟨0, 0, 0, 0⟩)
abbrev sQ : Stmt := topS 4
theorem scQ : FnScope ["p", "number"] ["p"] (defScope sQ) := ⟨rfl, rfl, rfl, by decide +kernel, rfl, by decide +kernel, by decide +kernel⟩
theorem same_upd {H : Hp} {p : Addr} {o : HO} (h : H p = none) : Same H (upd H p o) := fun b x e => by
  rw [upd_ne (ne_of_none e h)]
  exact e
theorem if_t {c : Bool} {A B : Prop} (hc : c = true) (h : A) : if c = true then A else B := by
  rw [if_pos hc]
  exact h
theorem if_f {c : Bool} {A B : Prop} (hc : c = false) (h : B) : if c = true then A else B := by
  rw [hc, if_neg Bool.false_ne_true]
  exact h
theorem map_get {ns : List Int} {j : Nat} {v : Int} (h : ns[j]? = some v) : (ns.map V.int)[j]? = some (V.int v) := by
  rw [List.getElem?_map, h]
  rfl
theorem get_map {ns : List Int} {i : Nat} {y : V} (h : (ns.map V.int)[i]? = some y) : ∃ z, ns[i]? = some z ∧ y = V.int z := by
  rw [List.getElem?_map] at h
  cases e : ns[i]? with
  | none =>
    rw [e] at h
    cases h
  | some z =>
    rw [e] at h
    exact ⟨z, rfl, (Option.some.inj h).symm⟩
/-- what the module's names stand for -/
structure Txt (mg : Str → Option Value) : Prop where
  gT : ∃ t, mg "MOST_THINGS" = some (.int 5 t)
  gM : ∃ t, mg "MOST_A_THING_COUNTS" = some (.int 10 t)
  gN : ∃ t, mg "NOT_AS_TOLD" = some (.int (-22) t)
  len : mg "len" = none
  all : mg "all" = none
  range : mg "range" = none
/-- a helping def, where it stands -/
structure Hlp (K : PySem.W.Frag) (mg : Str → Option Value) (x : Str) (st : Stmt) (ps : List Str) (f : Addr) (fd : FuncData) : Prop where
  F : Fun K x x st f fd
  b : Binds K fd ps []
  g : mg x = some (.ref f)
section
variable {P : Program} {w : World} {K : PySem.W.Frag} {mg : Str → Option Value} {base : Heap}
/-! ### are_pairs -/
def spQ (K : PySem.W.Frag) : Sp := fun vs H Q _ => ∃ (a : Addr) (ns : List Int), vs = [.ref a] ∧ SqL K H a (ns.map V.int) ∧ ns.length ≤ 40 ∧ ∀ H', Same H H' → Q (.bl (okQ ns)) H'
theorem all_le (ns : List Int) : (ns.map fun x => decide (x ≤ 10)).all id = ns.all (fun x => decide (x ≤ 10)) := by
  rw [List.all_map]
  rfl
theorem ok_q {f : Addr} {fd : FuncData} (F : Fun K "are_pairs" "are_pairs" sQ f fd) (T : Txt mg) : FnOk P w K mg base CX0 1 f fd ["p"] (spQ K) := by
  obtain ⟨t5, gT⟩ := T.gT
  obtain ⟨tM, gM⟩ := T.gM
  refine F.ok scQ (fun vs H Q E h => ?_) (fun cdv A outer s H vs Q E hr h => ?_)
  · obtain ⟨a, ns, rfl, _⟩ := h
    rfl
  · obtain ⟨a, ns, rfl, hS, hlen, q⟩ := h
    refine ⟨_, pss_cons (ps_if (PW.pt (pw_or (pt_cmpR op_lt (pe_callB call_len_seq (by rfl) T.len PySem.boot_len (pa_cons (pv 0) pa_nil)) pe_int (nomark _))
        (pw_or (pt_cmpR op_gt (pe_callB call_len_seq (by rfl) T.len PySem.boot_len (pa_cons (pv 0) pa_nil)) (pe_op op_mul pe_int (pe_glob (v := .int 5) (by rfl) gT ⟨_, rfl⟩)) (nomark _))
        (pw_or1 (pt_cmpR op_ne (pe_op op_mod (pe_callB call_len_seq (by rfl) T.len PySem.boot_len (pa_cons (pv 0) pa_nil)) pe_int) pe_int (nomark _)))))) (pss_one (ps_ret pe_bl)) pss_nil)
      (pss_one (ps_ret (pe_callB (cr_all rfl) (by rfl) T.all (by decide +kernel) (pa_cons
        (pe_lc (own := [("number", 1)]) (g := gName 1) (tt := tYes) rfl scQ.nd (pi_list (pv 0)) (blkOk_by (own := [("number", 1)]) (N := ["p", "number"]) (sc := defScope sQ) (by decide +kernel))
          (fun _ _ _ _ _ => pg_name (i := 1) scQ.nd rfl (Or.inl rfl)) (fun _ _ _ _ _ => pts_nil)
          (fun _ _ _ _ _ => pe_cmpR op_le (pv 1) (pe_glob (v := .int 10) (by rfl) gM ⟨_, rfl⟩) (nomark _))) pa_nil)))), ?_⟩
    have el : ((ns.map V.int).length : Int) = (ns.length : Int) := by rw [List.length_map]
    have q0 : okQ ns = false → Q (.bl false) H := fun e => by
      have z := q H (Same.refl H)
      rw [e] at z
      exact z
    refine ⟨.ref a, rfl, a, ns.map V.int, rfl, .inl hS, _, 2, rfl, rfl, _, rfl, ?_⟩
    rw [el]
    by_cases c1 : (ns.length : Int) < 2
    · exact if_t (decide_eq_true c1) (if_t rfl (q0 (if_pos (.inl c1))))
    · refine if_f (decide_eq_false c1) ⟨.ref a, rfl, a, ns.map V.int, rfl, .inl hS, 2, 5, rfl, rfl, .inl ⟨by decide, by decide⟩, _, 2 * 5, rfl, rfl, _, rfl, ?_⟩
      rw [el]
      by_cases c2 : (10 : Int) < (ns.length : Int)
      · exact if_t (decide_eq_true c2) (if_t rfl (q0 (if_pos (.inr (.inl c2)))))
      · refine if_f (decide_eq_false c2) ⟨.ref a, rfl, a, ns.map V.int, rfl, .inl hS, _, 2, rfl, rfl, (by decide : (0 : Int) < 2), rfl, _, rfl, ?_⟩
        rw [el]
        by_cases c3 : (ns.length : Int) % 2 = 0
        · refine if_f (by rw [decide_eq_true (show V.int ((ns.length : Int) % 2) = V.int 0 by rw [c3])]; rfl) ?_
          have eo : okQ ns = ns.all (fun x => decide (x ≤ 10)) := if_neg (fun z => z.elim c1 fun z => z.elim c2 fun z => z c3)
          refine ⟨.ref a, rfl, a, rfl, ⟨_, hS⟩, fun D nD => ?_⟩
          refine lc_list (K := K) (a := a) (xs := ns.map V.int) (fun i H' => Same H H' ∧ H' D = some (.lst ((ns.take i).map fun x => V.bl (decide (x ≤ 10))))) ⟨same_upd nD, upd_same⟩ (fun i H' _ z => z.1.seq hS) ?_ ?_
          · rintro i y H' hi ⟨sm, eD⟩
            obtain ⟨z, hz, rfl⟩ := get_map hi
            refine ⟨rfl, .int z, rfl, z, 10, rfl, rfl, _, eD, ?_, fun b o e => ?_, ?_⟩
            · rw [List.length_map, List.length_take]
              exact small1000 (Nat.le_trans (Nat.min_le_right _ _) (by omega))
            · rw [upd_ne (ne_of_none e nD)]
              exact sm _ _ e
            · rw [upd_same, List.take_add_one, hz, List.map_append]
              rfl
          · rintro H' ⟨sm, eD⟩
            rw [List.length_map, List.take_length] at eD
            refine ⟨D, ns.map fun x => decide (x ≤ 10), rfl, SqL.of (by rw [eD, List.map_map]; rfl), ?_⟩
            rw [all_le, ← eo]
            exact q _ sm
        · refine if_t (by rw [decide_eq_false (fun z => c3 (V.int.inj z))]; rfl) (q0 (if_pos (.inr (.inr c3))))
/-! ### product -/
abbrev sF : Stmt := topS 5
theorem scF : FnScope ["p", "weights", "place", "with_it", "without_it", "weight"] ["p"] (defScope sF) := ⟨rfl, rfl, rfl, by decide +kernel, rfl, by decide +kernel, by decide +kernel⟩
/-- what the call promises: the specification's list -/
def spF (K : PySem.W.Frag) : Sp := fun vs H Q _ => ∃ (a : Addr) (ns : List Int), vs = [.ref a] ∧ SqL K H a (ns.map V.int) ∧ ns.length ≤ 40 ∧ (∀ x ∈ ns, 0 ≤ x) ∧
  ∀ (H' : Hp) (p : Addr), H' p = some (.lst ((PyKzx2.product ns).map V.int)) → Q (.ref p) H'
theorem step2 {l : Nat} (h : l ≤ 40) (e : l % 2 = 0) : RgC 0 (l : Int) 2 (l / 2) := by
  have d : ∀ l : Nat, l < 41 → l % 2 = 0 → Builtin.Range.small 0 (l : Int) 2 = true ∧ Builtin.Range.rangeSize 0 (l : Int) 2 = ((l / 2 : Nat) : Int) := by decide +kernel
  exact ⟨by decide, by decide, (d l (by omega) e).1, (d l (by omega) e).2⟩
theorem at_10 {ns : List Int} (h : ∀ x ∈ ns, x ≤ 10) (s : Nat) : at_ ns s ≤ 10 := by
  by_cases hs : s < ns.length
  · exact h _ (List.mem_of_getElem? (at_get hs))
  · unfold at_
    rw [List.getD_eq_getElem?_getD, List.getElem?_eq_none (by omega)]
    decide
theorem at_mul {ns : List Int} (hp : ∀ x ∈ ns, 0 ≤ x) (h : ∀ x ∈ ns, x ≤ 10) (s : Nat) (z : Int) : CMul z (at_ ns s) := by
  have h1 := at_nn hp s
  have h2 := at_10 h s
  exact .inr ⟨by omega, by omega⟩
theorem take_mul {ws : List Int} {k : Nat} {z y : Int} (h : ws[k]? = some z) : ((ws.take (k + 1)).map fun x => V.int (x * y)) = ((ws.take k).map fun x => V.int (x * y)) ++ [V.int (z * y)] := by
  rw [List.take_add_one, h, List.map_append]
  rfl
theorem ok_f {f fQ : Addr} {fd fdQ : FuncData} (F : Fun K "product" "product" sF f fd) (T : Txt mg) (B : Hlp K mg "are_pairs" sQ ["p"] fQ fdQ) :
    FnOk P w K mg base CX0 2 f fd ["p"] (spF K) := by
  have GQ : FnOk P w K mg base CX0 1 fQ fdQ ["p"] (spQ K) := ok_q B.F T
  obtain ⟨t22, gN⟩ := T.gN
  refine F.ok scF (fun vs H Q E h => ?_) (fun cdv A outer s H vs Q E hr h => ?_)
  · obtain ⟨a, ns, rfl, _⟩ := h
    rfl
  · obtain ⟨a, ns, rfl, hS, hlen, hp, q⟩ := h
    refine ⟨_, pss_cons (ps_if (pt_not (pt_val (pe_call GQ hr (by rfl) B.g B.F.kp B.b .nil pass0 (pa_cons (pv 0) pa_nil)))) (pss_one (ps_ret (pe_lst (pa_cons (pe_glob (v := .int (-22)) (by rfl) gN ⟨_, rfl⟩) pa_nil)))) pss_nil)
      (pss_cons (ps_set (i := 1) scF.nd rfl (Or.inl rfl) (pe_lst (pa_cons pe_int pa_nil)))
      (pss_cons (ps_for PassesOwn.never rfl (pi_range3 rfl T.range (pa_cons pe_int (pa_cons (pe_callB call_len_seq (by rfl) T.len PySem.boot_len (pa_cons (pv 0) pa_nil)) (pa_cons pe_int pa_nil)))) (pg_name (i := 2) scF.nd rfl (Or.inr rfl))
        (pss_cons (ps_setLc (i := 3) (own := [("weight", 5)]) (g := gName 5) (tt := tYes) (te := tOp (rI CMul fun i j => .int (i * j)) (tVar 5) (tOp (rIxL K) (tVar 0) (tVar 2))) rfl scF.nd rfl rfl (sw_true rfl rfl rfl (by decide +kernel)) (pi_list (pv 1)) (blkOk_by (own := [("weight", 5)]) (N := ["p", "weights", "place", "with_it", "without_it", "weight"]) (sc := defScope sF) (by decide +kernel))
          (fun _ _ _ _ _ => pg_name (i := 5) scF.nd rfl (Or.inl rfl)) (fun _ _ _ _ _ => pts_nil)
          (fun _ _ _ _ _ => pe_op op_mul (pv 5) (pe_ix (r := rIxL K) ix_list (pv 0) (pv 2) (fun _ _ => rfl))))
        (pss_cons (ps_setLc (i := 4) (own := [("weight", 5)]) (g := gName 5) (tt := tYes) (te := tOp (rI CMul fun i j => .int (i * j)) (tVar 5) (tOp (rIxL K) (tVar 0) (tOp (rI0 fun i j => .int (i + j)) (tVar 2) (tC (.int 1))))) rfl scF.nd rfl rfl (sw_true rfl rfl rfl (by decide +kernel)) (pi_list (pv 1)) (blkOk_by (own := [("weight", 5)]) (N := ["p", "weights", "place", "with_it", "without_it", "weight"]) (sc := defScope sF) (by decide +kernel))
          (fun _ _ _ _ _ => pg_name (i := 5) scF.nd rfl (Or.inl rfl)) (fun _ _ _ _ _ => pts_nil)
          (fun _ _ _ _ _ => pe_op op_mul (pv 5) (pe_ix (r := rIxL K) ix_list (pv 0) (pe_op op_add (pv 2) pe_int) (fun _ _ => rfl))))
        (pss_one (ps_set (i := 1) scF.nd rfl (Or.inl rfl) (pe_op op_cat (pv 4) (pv 3)))))))
      (pss_one (ps_ret (pe_op op_cat (pe_lst (pa_cons (pe_callB call_len_seq (by rfl) T.len PySem.boot_len (pa_cons (pv 1) pa_nil)) pa_nil)) (pv 1)))))), ?_⟩
    refine ⟨.ref a, rfl, a, ns, rfl, hS, hlen, fun H1 s1 => ⟨_, rfl, ?_⟩⟩
    cases eo : okQ ns with
    | false =>
      refine if_t rfl ⟨by show 1 ≤ sizeLine; decide, fun p np => q _ p ?_⟩
      rw [upd_same, prod_22 hp eo]
      rfl
    | true =>
      refine if_f rfl ⟨by show 1 ≤ sizeLine; decide, fun w1 nw1 => ?_⟩
      obtain ⟨l2, l10, lev, h10⟩ := okQ_n eo
      have s2 : Same H (upd H1 w1 (.lst [.int 1])) := s1.trans (same_upd nw1)
      refine ⟨.ref a, rfl, a, ns.map V.int, rfl, .inl (s2.seq hS), 0, _, 2, ns.length / 2, rfl, by rw [List.length_map]; exact step2 hlen lev, ?_⟩
      refine for_rangeC (lo := 0) (c := 2) (n := ns.length / 2) (fun j σ H' => (∃ wa y2 y3 y4 y5, σ = [some (.ref a), some (.ref wa), y2, y3, y4, y5] ∧ H' wa = some (.lst ((prI ns j).map V.int))) ∧ Same H H')
        ⟨⟨w1, none, none, none, none, rfl, by rw [upd_same, prI_zero]; rfl⟩, s2⟩ ?_ ?_
      · rintro j σ H2 hj ⟨⟨wa, y2, y3, y4, y5, rfl, eW⟩, sm⟩
        have hj1 : 2 * j + 1 < ns.length := by omega
        have hj5 : j < 5 := by omega
        have lw : (prI ns j).length ≤ 32 := by
          rw [prI_len (by omega)]
          exact pow5 j (by omega)
        have ej : (0 : Int) + (j : Nat) * 2 = ((2 * j : Nat) : Int) := by omega
        have ej1 : (0 : Int) + (j : Nat) * 2 + 1 = ((2 * j + 1 : Nat) : Int) := by omega
        have xi : atI (ns.map V.int) (0 + (j : Nat) * 2) = some (.int (at_ ns (2 * j))) := by
          rw [ej]
          exact atI_nat (map_get (at_get (by omega)))
        have xo : atI (ns.map V.int) (0 + (j : Nat) * 2 + 1) = some (.int (at_ ns (2 * j + 1))) := by
          rw [ej1]
          exact atI_nat (map_get (at_get (by omega)))
        refine ⟨.ref wa, rfl, wa, rfl, ⟨_, SqL.of eW⟩, fun D nD => ?_⟩
        refine lc_list (K := K) (a := wa) (xs := (prI ns j).map V.int) (fun k H' => Same H2 H' ∧ H' D = some (.lst (((prI ns j).take k).map fun x => V.int (x * at_ ns (2 * j))))) ⟨same_upd nD, upd_same⟩ (fun k H' _ z => SqL.of (z.1 _ _ eW)) ?_ ?_
        · rintro k y H' hk ⟨sm2, eD⟩
          obtain ⟨z, hz, rfl⟩ := get_map hk
          refine ⟨rfl, .int z, rfl, .ref a, rfl, .int (0 + (j : Nat) * 2), rfl, a, ns.map V.int, _, _, rfl, rfl, sm2.seq (sm.seq hS), xi, _, _, rfl, rfl, at_mul hp h10 _ _, _, eD, ?_, fun b o e => ?_, ?_⟩
          · rw [List.length_map, List.length_take]
            exact small1000 (Nat.le_trans (Nat.min_le_right _ _) (by omega))
          · rw [upd_ne (ne_of_none e nD)]
            exact sm2 _ _ e
          · rw [upd_same, take_mul hz]
        · rintro H3 ⟨sm2, eD⟩
          rw [List.length_map, List.take_length] at eD
          refine ⟨.ref wa, rfl, wa, rfl, ⟨_, SqL.of (sm2 _ _ eW)⟩, fun D2 nD2 => ?_⟩
          refine lc_list (K := K) (a := wa) (xs := (prI ns j).map V.int) (fun k H' => Same H3 H' ∧ H' D2 = some (.lst (((prI ns j).take k).map fun x => V.int (x * at_ ns (2 * j + 1))))) ⟨same_upd nD2, upd_same⟩ (fun k H' _ z => SqL.of (z.1 _ _ (sm2 _ _ eW))) ?_ ?_
          · rintro k y H' hk ⟨sm3, eD2⟩
            obtain ⟨z, hz, rfl⟩ := get_map hk
            refine ⟨rfl, .int z, rfl, .ref a, rfl, .int (0 + (j : Nat) * 2), rfl, _, 1, rfl, rfl, a, ns.map V.int, _, _, rfl, rfl, sm3.seq (sm2.seq (sm.seq hS)), xo, _, _, rfl, rfl, at_mul hp h10 _ _, _, eD2, ?_, fun b o e => ?_, ?_⟩
            · rw [List.length_map, List.length_take]
              exact small1000 (Nat.le_trans (Nat.min_le_right _ _) (by omega))
            · rw [upd_ne (ne_of_none e nD2)]
              exact sm3 _ _ e
            · rw [upd_same, take_mul hz]
          · rintro H4 ⟨sm3, eD2⟩
            rw [List.length_map, List.take_length] at eD2
            refine ⟨.ref D2, rfl, .ref D, rfl, D2, D, _, _, rfl, rfl, eD2, sm3 _ _ eD, ?_, fun p np => ⟨⟨p, _, _, _, _, rfl, ?_⟩, ?_⟩⟩
            · rw [List.length_map, List.length_map]
              exact Nat.le_of_lt (small1000 (by omega))
            · rw [upd_same, prI_step hp hj1 hj5, List.map_append, List.map_map, List.map_map]
              rfl
            · exact ((sm.trans sm2).trans sm3).trans (same_upd np)
      · rintro σ H2 ⟨⟨wa, y2, y3, y4, y5, rfl, eW⟩, sm⟩
        have lw : (prI ns (ns.length / 2)).length ≤ 32 := by
          rw [prI_len (by omega)]
          exact pow5 _ (by omega)
        refine ⟨.ref wa, rfl, wa, _, rfl, .inl (SqL.of eW), by show 1 ≤ sizeLine; decide, fun p np => ?_⟩
        refine ⟨.ref wa, rfl, p, wa, _, _, rfl, rfl, upd_same, (upd_ne (ne_of_none eW np)).trans eW, ?_, fun p2 np2 => q _ p2 ?_⟩
        · rw [List.length_map]
          exact Nat.le_of_lt (small1000 (by show 1 + (prI ns (ns.length / 2)).length ≤ 1000; omega))
        · rw [upd_same, prod_yes hp eo, List.length_map]
          rfl
end
/-! ### what the top has written -/
theorem all_mk {P : Program} {w : World} {K : PySem.W.Frag} {h : Heap} {mg : Str → Option Value} {fa f1 f2 : Addr} (X : K.In h) (G : h.Ns mainGlobals mg) (hfa : mg "product" = some (.ref fa))
    {od1 an1 od2 an2 : Option Addr} {sl1 sl2 : Array (Option Value)} {oc1 kV1 dc1 pm1 cd1 ct1 oc2 kV2 dc2 pm2 cd2 ct2 : Value} {tk1 tk2 tk3 : Tok}
    (a1 : PySem.W.nsIn K mainGlobals "are_pairs" = some (some (.ref f1))) (l1 : K.lookup f1 = some ⟨oc1, od1, .func (PySem.W.fnOf "are_pairs" "are_pairs" (defArgs sQ) (defBody sQ) (defScope sQ) .none kV1 dc1 pm1 an1 cd1 ct1), sl1⟩) (c1 : PySem.W.codeIn K cd1 "are_pairs" = true) (k1 : PySem.W.keepIn K (.ref f1) = true)
    (a2 : PySem.W.nsIn K mainGlobals "product" = some (some (.ref f2))) (l2 : K.lookup f2 = some ⟨oc2, od2, .func (PySem.W.fnOf "product" "product" (defArgs sF) (defBody sF) (defScope sF) .none kV2 dc2 pm2 an2 cd2 ct2), sl2⟩) (c2 : PySem.W.codeIn K cd2 "product" = true) (k2 : PySem.W.keepIn K (.ref f2) = true)
    (g1 : PySem.W.nsIn K mainGlobals "MOST_THINGS" = some (some (.int 5 tk1))) (g2 : PySem.W.nsIn K mainGlobals "MOST_A_THING_COUNTS" = some (some (.int 10 tk2))) (g3 : PySem.W.nsIn K mainGlobals "NOT_AS_TOLD" = some (some (.int (-22) tk3)))
    (z1 : PySem.W.nsIn K mainGlobals "len" = some none) (z2 : PySem.W.nsIn K mainGlobals "all" = some none) (z3 : PySem.W.nsIn K mainGlobals "range" = some none) :
    ∃ fd : FuncData, (∀ (s : Shared) (us : List Value), us.length = (["p"] : List Str).length → BindsTo s fd ⟨us, []⟩ ((["p"] : List Str).zip us)) ∧ ∀ base : Heap, K.In base → base.Ns mainGlobals mg → FnOk P w K mg base CX0 2 fa fd ["p"] (spF K) := by
  have e := hfa.symm.trans (PySem.W.mg_of X G a2)
  cases e
  have T : Txt mg := ⟨⟨_, PySem.W.mg_of X G g1⟩, ⟨_, PySem.W.mg_of X G g2⟩, ⟨_, PySem.W.mg_of X G g3⟩, PySem.W.mg_none_of X G z1, PySem.W.mg_none_of X G z2, PySem.W.mg_none_of X G z3⟩
  have F1 := fun_mk (st := sQ) l1 c1 k1
  have F2 := fun_mk (st := sF) l2 c2 k2
  have b1 := F1.binds (ps := ["p"]) fun _ _ _ _ _ _ us hl => match us, hl with | [_], _ => rfl
  exact ⟨PySem.W.fnOf "product" "product" (defArgs sF) (defBody sF) (defScope sF) .none kV2 dc2 pm2 an2 cd2 ct2, fun s us hu => match us, hu with | [_], _ => .of_eq rfl, fun base _ _ => ok_f F2 T ⟨F1, b1, PySem.W.mg_of X G a1⟩ ⟩
end Wt
open PySem PySem.W PyProof.Rows
set_option maxRecDepth 100000 in
set_option maxHeartbeats 8000000 in
theorem PySem.Challenge.cw_weightstogether_s07_product_holds : PySem.Challenge.rw_weightstogether_s07_product.Holds := by
  w_on; k_headS; (case hw => exact ⟨[.list []], by decide +kernel, by decide +kernel⟩)
  k_fillS
  refine L2.walk_specK (r := PySem.Challenge.rw_weightstogether_s07_product) (k := 2) (CX := L2.CX0) (ps := ["p"]) (sp := Wt.spF) (by decide +kernel) rfl rfl ⟨rfl, by decide, by decide⟩ (fun w h Y => PySem.W.kIn_of Y) ?F ?S (fun _ _ _ _ z => z)
  case F =>
    intro w mg fa h Y KX G hmg
    refine' Wt.all_mk KX G hmg ?a1 ?l1 ?c1 ?k1 ?a2 ?l2 ?c2 ?k2 ?g1 ?g2 ?g3 ?z1 ?z2 ?z3
    (case a1 => k_is)
    (case l1 => k_is)
    (case c1 => k_is)
    (case k1 => k_is)
    (case a2 => k_is)
    (case l2 => k_is)
    (case c2 => k_is)
    (case k2 => k_is)
    (case g1 => k_is)
    (case g2 => k_is)
    (case g3 => k_is)
    (case z1 => k_is)
    (case z2 => k_is)
    (case z3 => k_is)
  case S =>
    intro K H xs a hO hwi hask hx
    obtain ⟨m1, u⟩ := a
    cases hx with
    | cons h1 r1 =>
      cases r1
      cases h1 with
      | lst s1 d1 =>
        have e1 := L2.ints_dw m1 _ d1
        subst e1
        have q : ((Codec.inLen 0 40 m1 && m1.all (Codec.inInt 0 4294967295)) && true) = true := hwi
        simp only [Bool.and_eq_true] at q
        exact ⟨_, m1, rfl, s1, (Codec.inNat_iff.mp q.1.1).2, fun x hx => (Codec.inInt_iff.mp (List.all_eq_true.mp q.1.2 x hx)).1, fun H' p hp => .lst (L2.SqL.of hp) (L2.dw_ints _)⟩
