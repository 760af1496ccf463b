import PyProof.Rows.All
import Wide.All
import OpenK.AllK
import Wide.FinOn
import Open.SpecLaws
import KE.OsGo
import HandS.ForSpec
import HandS.Comp
import HandS.Text
import HandS.Walk
import PySem.Challenge.RW_weightstogether_s09_forgot
set_option Elab.async false
set_option maxRecDepth 100000
set_option maxHeartbeats 2000000
namespace Wt
/-! ### the mathematics: what are_weights tells, and the two calls, against the specification -/
def okP (n : Int) (ns : List Int) : Bool :=
  if n < 1 ∨ 5 < n then false else if (ns.length : Int) = 2 ^ n.toNat then ns.all (fun x => decide (x ≤ 1000)) else false
theorem okP_n {n : Int} {ns : List Int} (h : okP n ns = true) : 1 ≤ n ∧ n ≤ 5 ∧ ns.length = 2 ^ n.toNat := by
  unfold okP at h
  split at h
  · cases h
  · split at h
    · rename_i h1 h2
      refine ⟨by omega, by omega, ?_⟩
      have : (ns.length : Int) = ((2 ^ n.toNat : Nat) : Int) := by
        rw [h2]
        simp
      omega
    · cases h
theorem nats_len (ns : List Int) : (Kzx2Neutral.natsOf ns).length = ns.length := by
  unfold Kzx2Neutral.natsOf
  exact List.length_map ..
theorem all_nats (ns : List Int) (h : ∀ x ∈ ns, 0 ≤ x) : ((Kzx2Neutral.natsOf ns).all fun x => decide (x ≤ 1000)) = ns.all (fun x => decide (x ≤ 1000)) := by
  unfold Kzx2Neutral.natsOf
  rw [List.all_map]
  apply Bool.eq_iff_iff.mpr
  simp only [List.all_eq_true, Function.comp, decide_eq_true_eq]
  constructor
  · intro q x hx
    have := q x hx
    have := h x hx
    omega
  · intro q x hx
    have := q x hx
    omega
theorem okP_spec {n : Int} {ns : List Int} (h : ∀ x ∈ ns, 0 ≤ x) : okP n ns = (Kzx1.okN n.toNat && Kzx2.okW n.toNat (Kzx2Neutral.natsOf ns)) := by
  unfold okP Kzx1.okN Kzx2.okW
  rw [all_nats ns h, nats_len]
  by_cases h1 : n < 1 ∨ 5 < n
  · rw [if_pos h1]
    have : (decide (1 ≤ n.toNat) && decide (n.toNat ≤ 5)) = false := by
      rw [Bool.and_eq_false_iff, decide_eq_false_iff_not, decide_eq_false_iff_not]
      omega
    rw [this]
    rfl
  · rw [if_neg h1]
    have : (decide (1 ≤ n.toNat) && decide (n.toNat ≤ 5)) = true := by
      rw [Bool.and_eq_true, decide_eq_true_eq, decide_eq_true_eq]
      omega
    rw [this, Bool.true_and]
    by_cases h2 : (ns.length : Int) = 2 ^ n.toNat
    · rw [if_pos h2]
      have e : ns.length = 2 ^ n.toNat := by
        have : (ns.length : Int) = ((2 ^ n.toNat : Nat) : Int) := by
          rw [h2]
          simp
        omega
      rw [e]
      simp
    · rw [if_neg h2]
      have e : ¬ ns.length = 2 ^ n.toNat := fun z => h2 (by rw [z]; simp)
      have e2 : (ns.length == 2 ^ n.toNat) = false := beq_false_of_ne e
      rw [e2]
      rfl
theorem withM_no {n : Int} {ns : List Int} {k : Unit → Kzx1.Ans} (_h0 : 0 ≤ n) (h : ∀ x ∈ ns, 0 ≤ x) (q : okP n ns = false) : Kzx2.withM n.toNat (Kzx2Neutral.natsOf ns) k = Kzx1.say (-22) := by
  rw [okP_spec h, Bool.and_eq_false_iff] at q
  exact if_pos q
theorem withM_yes {n : Int} {ns : List Int} {k : Unit → Kzx1.Ans} (_h0 : 0 ≤ n) (h : ∀ x ∈ ns, 0 ≤ x) (q : okP n ns = true) : Kzx2.withM n.toNat (Kzx2Neutral.natsOf ns) k = k () := by
  rw [okP_spec h, Bool.and_eq_true] at q
  refine if_neg ?_
  rintro (z | z)
  · rw [q.1] at z
    cases z
  · rw [q.2] at z
    cases z
/-- the weight of a set -/
def at_ (ns : List Int) (s : Nat) : Int := ns.getD s 0
theorem at_get {ns : List Int} {s : Nat} (h : s < ns.length) : ns[s]? = some (at_ ns s) := by
  unfold at_
  rw [List.getD_eq_getElem?_getD, List.getElem?_eq_getElem h]
  rfl
theorem at_nn {ns : List Int} (h : ∀ x ∈ ns, 0 ≤ x) (s : Nat) : 0 ≤ at_ ns s := by
  by_cases hs : s < ns.length
  · have e := at_get hs
    exact h _ (List.mem_of_getElem? e)
  · unfold at_
    rw [List.getD_eq_getElem?_getD, List.getElem?_eq_none (by omega)]
    exact Int.le_refl _
theorem at0_nats (ns : List Int) (s : Nat) : Kzx2.at0 (Kzx2Neutral.natsOf ns) s = (at_ ns s).toNat := by
  unfold Kzx2.at0 at_ Kzx2Neutral.natsOf
  rw [List.getD_eq_getElem?_getD, List.getD_eq_getElem?_getD, List.getElem?_map]
  cases ns[s]? <;> rfl
/-! increasing -/
def less1 (ns : List Int) (s i : Nat) : Prop := at_ ns (s ||| 2 ^ i) < at_ ns s
theorem bits5 : ∀ s, s < 32 → ∀ i, i < 5 → (Kzx1.up s i = true → s ||| 2 ^ i = s) ∧ (Kzx1.up s i = false → s ||| 2 ^ i = s + 2 ^ i) := by decide +kernel
theorem grows_one {n s i : Nat} {ns : List Int} (hn : n ≤ 5) (hs : s < 2 ^ n) (hi : i < n) (h : ∀ x ∈ ns, 0 ≤ x) :
    (Kzx1.up s i || decide (Kzx2.at0 (Kzx2Neutral.natsOf ns) s ≤ Kzx2.at0 (Kzx2Neutral.natsOf ns) (s + 2 ^ i))) = true ↔ ¬ less1 ns s i := by
  have h32 : s < 32 := Nat.lt_of_lt_of_le hs (Nat.pow_le_pow_right (by decide) hn)
  obtain ⟨b1, b2⟩ := bits5 s h32 i (by omega)
  have p1 := at_nn h s
  have p2 := at_nn h (s + 2 ^ i)
  unfold less1
  cases c : Kzx1.up s i with
  | true =>
    rw [b1 c]
    simp
  | false =>
    rw [b2 c, at0_nats, at0_nats]
    simp only [Bool.false_or, decide_eq_true_eq]
    omega
theorem incr_yes {n : Nat} {ns : List Int} (hn : n ≤ 5) (h : ∀ x ∈ ns, 0 ≤ x) (q : ∀ s, s < 2 ^ n → ∀ i, i < n → ¬ less1 ns s i) : Kzx2.increasing n (Kzx2Neutral.natsOf ns) = true := by
  unfold Kzx2.increasing Kzx1.sets
  rw [List.all_eq_true]
  intro s hs
  rw [List.mem_range] at hs
  rw [List.all_eq_true]
  intro i hi
  rw [List.mem_range] at hi
  exact (grows_one hn hs hi h).mpr (q s hs i hi)
theorem incr_no {n s i : Nat} {ns : List Int} (hn : n ≤ 5) (h : ∀ x ∈ ns, 0 ≤ x) (hs : s < 2 ^ n) (hi : i < n) (q : less1 ns s i) : Kzx2.increasing n (Kzx2Neutral.natsOf ns) = false := by
  apply Bool.eq_false_iff.mpr
  intro z
  unfold Kzx2.increasing Kzx1.sets at z
  rw [List.all_eq_true] at z
  have z1 := z s (List.mem_range.mpr hs)
  rw [List.all_eq_true] at z1
  exact (grows_one hn hs hi h).mp (z1 i (List.mem_range.mpr hi)) q
theorem inc_22 {n : Int} {ns : List Int} (h0 : 0 ≤ n) (h : ∀ x ∈ ns, 0 ≤ x) (q : okP n ns = false) : PyKzx2.increasing n ns = [-22] := by
  show (Kzx2.withM n.toNat (Kzx2Neutral.natsOf ns) _).value :: (Kzx2.withM n.toNat (Kzx2Neutral.natsOf ns) _).nums = [-22]
  rw [withM_no h0 h q]
  rfl
theorem inc_of {n : Int} {ns : List Int} {b : Bool} (h0 : 0 ≤ n) (h : ∀ x ∈ ns, 0 ≤ x) (q : okP n ns = true) (e : Kzx2.increasing n.toNat (Kzx2Neutral.natsOf ns) = b) : PyKzx2.increasing n ns = [if b then 1 else 0] := by
  show (Kzx2.withM n.toNat (Kzx2Neutral.natsOf ns) _).value :: (Kzx2.withM n.toNat (Kzx2Neutral.natsOf ns) _).nums = _
  rw [withM_yes h0 h q, e]
  rfl
theorem or_lt {n s t : Nat} (hs : s < 2 ^ n) (ht : t < 2 ^ n) : s ||| t < 2 ^ n := Nat.or_lt_two_pow hs ht
theorem and_lt {n s t : Nat} (hs : s < 2 ^ n) : s &&& t < 2 ^ n := Nat.lt_of_le_of_lt Nat.and_le_left hs
/-! two sets of which it isn't so: for together and over -/
def bad (m k : List Int) (s t : Nat) : Prop := at_ m (s ||| t) * at_ k (s &&& t) < at_ m s * at_ k t
theorem bad_iff {m k : List Int} {s t : Nat} (hm : ∀ x ∈ m, 0 ≤ x) (hk : ∀ x ∈ k, 0 ≤ x) :
    (!Kzx2.pairOk (Kzx2Neutral.natsOf m) (Kzx2Neutral.natsOf k) (Kzx2Neutral.natsOf m) (Kzx2Neutral.natsOf k) s t) = true ↔ bad m k s t := by
  unfold Kzx2.pairOk bad
  rw [at0_nats, at0_nats, at0_nats, at0_nats]
  have a1 := at_nn hm s
  have a2 := at_nn hk t
  have a3 := at_nn hm (s ||| t)
  have a4 := at_nn hk (s &&& t)
  show (!decide ((at_ m s).toNat * (at_ k t).toNat ≤ (at_ m (s ||| t)).toNat * (at_ k (s &&& t)).toNat)) = true ↔ _
  generalize at_ m s = x at *
  generalize at_ k t = y at *
  generalize at_ m (s ||| t) = z at *
  generalize at_ k (s &&& t) = u at *
  obtain ⟨x, rfl⟩ := Int.eq_ofNat_of_zero_le a1
  obtain ⟨y, rfl⟩ := Int.eq_ofNat_of_zero_le a2
  obtain ⟨z, rfl⟩ := Int.eq_ofNat_of_zero_le a3
  obtain ⟨u, rfl⟩ := Int.eq_ofNat_of_zero_le a4
  rw [Int.toNat_natCast, Int.toNat_natCast, Int.toNat_natCast, Int.toNat_natCast, ← Int.natCast_mul, ← Int.natCast_mul, Int.ofNat_lt]
  simp
theorem find_range {p : Nat → Bool} {n i : Nat} (hi : i < n) (h : p i = true) (hb : ∀ j, j < i → p j = false) : (List.range n).find? p = some i := by
  rw [List.find?_range_eq_some]
  exact ⟨h, List.mem_range.mpr hi, fun j hj => by rw [hb j hj]; rfl⟩
theorem find_range_none {p : Nat → Bool} {n : Nat} (hb : ∀ j, j < n → p j = false) : (List.range n).find? p = none := by
  rw [List.find?_eq_none]
  intro x hx
  rw [hb x (List.mem_range.mp hx)]
  decide
theorem findSome_range {β : Type} {f : Nat → Option β} {n i : Nat} {b : β} (hi : i < n) (h : f i = some b) (hb : ∀ j, j < i → f j = none) : (List.range n).findSome? f = some b := by
  rw [List.findSome?_eq_some_iff]
  refine ⟨List.range i, i, (List.range (n - i - 1)).map (fun x => i + (1 + x)), ?_, h, fun x hx => hb x (List.mem_range.mp hx)⟩
  have e : n = i + (1 + (n - i - 1)) := by omega
  conv => lhs; rw [e]
  rw [List.range_add, List.range_add]
  simp [Function.comp_def]
theorem findSome_none {β : Type} {f : Nat → Option β} {n : Nat} (hb : ∀ j, j < n → f j = none) : (List.range n).findSome? f = none := by
  rw [List.findSome?_eq_none_iff]
  intro x hx
  exact hb x (List.mem_range.mp hx)
theorem breaks_some {n s t : Nat} {m k : List Int} (hm : ∀ x ∈ m, 0 ≤ x) (hk : ∀ x ∈ k, 0 ≤ x) (hs : s < 2 ^ n) (ht : t < 2 ^ n) (b : bad m k s t)
    (b1 : ∀ s', s' < s → ∀ t', t' < 2 ^ n → ¬ bad m k s' t') (b2 : ∀ t', t' < t → ¬ bad m k s t') :
    Kzx2.breaks n (Kzx2Neutral.natsOf m) (Kzx2Neutral.natsOf k) (Kzx2Neutral.natsOf m) (Kzx2Neutral.natsOf k) = some (s, t) := by
  unfold Kzx2.breaks Kzx1.sets
  refine findSome_range hs ?_ fun j hj => ?_
  · rw [find_range ht ((bad_iff hm hk).mpr b) fun j hj => Bool.eq_false_iff.mpr fun z => b2 j hj ((bad_iff hm hk).mp z)]
    rfl
  · rw [find_range_none fun t' ht' => Bool.eq_false_iff.mpr fun z => b1 j hj t' ht' ((bad_iff hm hk).mp z)]
    rfl
theorem breaks_none {n : Nat} {m k : List Int} (hm : ∀ x ∈ m, 0 ≤ x) (hk : ∀ x ∈ k, 0 ≤ x)
    (b1 : ∀ s', s' < 2 ^ n → ∀ t', t' < 2 ^ n → ¬ bad m k s' t') :
    Kzx2.breaks n (Kzx2Neutral.natsOf m) (Kzx2Neutral.natsOf k) (Kzx2Neutral.natsOf m) (Kzx2Neutral.natsOf k) = none := by
  unfold Kzx2.breaks Kzx1.sets
  refine findSome_none fun j hj => ?_
  rw [find_range_none fun t' ht' => Bool.eq_false_iff.mpr fun z => b1 j hj t' ht' ((bad_iff hm hk).mp z)]
  rfl
theorem tog_22 {n : Int} {ns : List Int} (h0 : 0 ≤ n) (h : ∀ x ∈ ns, 0 ≤ x) (q : okP n ns = false) : PyKzx2.together n ns = [-22] := by
  show (Kzx2.withM n.toNat (Kzx2Neutral.natsOf ns) _).value :: (Kzx2.withM n.toNat (Kzx2Neutral.natsOf ns) _).nums = [-22]
  rw [withM_no h0 h q]
  rfl
theorem tog_some {n : Int} {ns : List Int} {s t : Nat} (h0 : 0 ≤ n) (h : ∀ x ∈ ns, 0 ≤ x) (q : okP n ns = true)
    (e : Kzx2.breaks n.toNat (Kzx2Neutral.natsOf ns) (Kzx2Neutral.natsOf ns) (Kzx2Neutral.natsOf ns) (Kzx2Neutral.natsOf ns) = some (s, t)) : PyKzx2.together n ns = [0, (s : Int), (t : Int)] := by
  show (Kzx2.withM n.toNat (Kzx2Neutral.natsOf ns) _).value :: (Kzx2.withM n.toNat (Kzx2Neutral.natsOf ns) _).nums = _
  rw [withM_yes h0 h q, e]
theorem tog_none {n : Int} {ns : List Int} (h0 : 0 ≤ n) (h : ∀ x ∈ ns, 0 ≤ x) (q : okP n ns = true)
    (e : Kzx2.breaks n.toNat (Kzx2Neutral.natsOf ns) (Kzx2Neutral.natsOf ns) (Kzx2Neutral.natsOf ns) (Kzx2Neutral.natsOf ns) = none) : PyKzx2.together n ns = [1] := by
  show (Kzx2.withM n.toNat (Kzx2Neutral.natsOf ns) _).value :: (Kzx2.withM n.toNat (Kzx2Neutral.natsOf ns) _).nums = _
  rw [withM_yes h0 h q, e]
  rfl
end Wt

namespace Wt
/-! ### over and together by the pairs' search -/
def ansH (N : Nat) (m k : List Int) : List Int := match Kzx2.breaks N (Kzx2Neutral.natsOf m) (Kzx2Neutral.natsOf k) (Kzx2Neutral.natsOf m) (Kzx2Neutral.natsOf k) with
  | none => [1]
  | some y => [0, (y.1 : Int), (y.2 : Int)]
theorem ansH_some {N s t : Nat} {m k : List Int} (e : Kzx2.breaks N (Kzx2Neutral.natsOf m) (Kzx2Neutral.natsOf k) (Kzx2Neutral.natsOf m) (Kzx2Neutral.natsOf k) = some (s, t)) : ansH N m k = [0, (s : Int), (t : Int)] := by
  unfold ansH
  rw [e]
theorem ansH_none {N : Nat} {m k : List Int} (e : Kzx2.breaks N (Kzx2Neutral.natsOf m) (Kzx2Neutral.natsOf k) (Kzx2Neutral.natsOf m) (Kzx2Neutral.natsOf k) = none) : ansH N m k = [1] := by
  unfold ansH
  rw [e]
theorem tog_yes {n : Int} {ns : List Int} (h0 : 0 ≤ n) (h : ∀ x ∈ ns, 0 ≤ x) (q : okP n ns = true) : PyKzx2.together n ns = ansH n.toNat ns ns := by
  show (Kzx2.withM n.toNat (Kzx2Neutral.natsOf ns) _).value :: (Kzx2.withM n.toNat (Kzx2Neutral.natsOf ns) _).nums = _
  rw [withM_yes h0 h q]
  unfold ansH
  cases Kzx2.breaks n.toNat (Kzx2Neutral.natsOf ns) (Kzx2Neutral.natsOf ns) (Kzx2Neutral.natsOf ns) (Kzx2Neutral.natsOf ns) <;> rfl
/-- the second row's word, where the first is as told -/
theorem okW_of {n : Int} {m k : List Int} (hm : ∀ x ∈ m, 0 ≤ x) (hk : ∀ x ∈ k, 0 ≤ x) (q : okP n m = true) : Kzx2.okW n.toNat (Kzx2Neutral.natsOf k) = okP n k := by
  rw [okP_spec hm, Bool.and_eq_true] at q
  rw [okP_spec hk, q.1, Bool.true_and]
theorem over_22a {n : Int} {m k : List Int} (h0 : 0 ≤ n) (hm : ∀ x ∈ m, 0 ≤ x) (q : okP n m = false) : PyKzx2.over n m k = [-22] := by
  show (Kzx2.withM n.toNat (Kzx2Neutral.natsOf m) _).value :: (Kzx2.withM n.toNat (Kzx2Neutral.natsOf m) _).nums = [-22]
  rw [withM_no h0 hm q]
  rfl
theorem over_22b {n : Int} {m k : List Int} (h0 : 0 ≤ n) (hm : ∀ x ∈ m, 0 ≤ x) (hk : ∀ x ∈ k, 0 ≤ x) (q : okP n m = true) (q2 : okP n k = false) : PyKzx2.over n m k = [-22] := by
  show (Kzx2.withM n.toNat (Kzx2Neutral.natsOf m) _).value :: (Kzx2.withM n.toNat (Kzx2Neutral.natsOf m) _).nums = [-22]
  rw [withM_yes h0 hm q, okW_of hm hk q, q2]
  rfl
theorem over_yes {n : Int} {m k : List Int} (h0 : 0 ≤ n) (hm : ∀ x ∈ m, 0 ≤ x) (hk : ∀ x ∈ k, 0 ≤ x) (q : okP n m = true) (q2 : okP n k = true) : PyKzx2.over n m k = ansH n.toNat m k := by
  show (Kzx2.withM n.toNat (Kzx2Neutral.natsOf m) _).value :: (Kzx2.withM n.toNat (Kzx2Neutral.natsOf m) _).nums = _
  rw [withM_yes h0 hm q, okW_of hm hk q, q2]
  unfold ansH
  cases Kzx2.breaks n.toNat (Kzx2Neutral.natsOf m) (Kzx2Neutral.natsOf k) (Kzx2Neutral.natsOf m) (Kzx2Neutral.natsOf k) <;> rfl
/-! ### a family, and its weight -/
def famP (N : Int) : Int → List Int → Bool
  | _, [] => true
  | l, a :: r => if a < l ∨ N ≤ a then false else famP N (a + 1) r
theorem famP_cons {N : Nat} : ∀ {l a : Int} {r : List Int}, (∀ x ∈ a :: r, 0 ≤ x) → famP ((2 ^ N : Nat) : Int) l (a :: r) = (decide (l ≤ a) && Kzx1.okFamily N (Kzx2Neutral.natsOf (a :: r))) := by
  intro l a r
  induction r generalizing l a with
  | nil =>
    intro h
    have ha := h a List.mem_cons_self
    unfold famP
    show (if _ then false else true) = (decide (l ≤ a) && (true && (decide (a.toNat < 2 ^ N) && true)))
    by_cases c : a < l ∨ ((2 ^ N : Nat) : Int) ≤ a
    · rw [if_pos c]
      symm
      rw [Bool.true_and, Bool.and_true, Bool.and_eq_false_iff, decide_eq_false_iff_not, decide_eq_false_iff_not]
      omega
    · rw [if_neg c]
      symm
      rw [Bool.true_and, Bool.and_true, Bool.and_eq_true, decide_eq_true_eq, decide_eq_true_eq]
      omega
  | cons b r ih =>
    intro h
    have ha := h a List.mem_cons_self
    have hb := h b (List.mem_cons_of_mem _ List.mem_cons_self)
    unfold famP
    rw [ih fun x hx => h x (List.mem_cons_of_mem _ hx)]
    have e : Kzx1.okFamily N (Kzx2Neutral.natsOf (a :: b :: r)) = (decide (a.toNat < b.toNat) && (decide (a.toNat < 2 ^ N) && Kzx1.okFamily N (Kzx2Neutral.natsOf (b :: r)))) := by
      show ((decide (a.toNat < b.toNat) && Kzx1.rising (b.toNat :: Kzx2Neutral.natsOf r)) && (decide (a.toNat < 2 ^ N) && _)) = (decide (a.toNat < b.toNat) && (decide (a.toNat < 2 ^ N) && (Kzx1.rising (b.toNat :: Kzx2Neutral.natsOf r) && _)))
      cases decide (a.toNat < b.toNat) <;> cases Kzx1.rising (b.toNat :: Kzx2Neutral.natsOf r) <;> cases decide (a.toNat < 2 ^ N) <;> rfl
    rw [e]
    cases Kzx1.okFamily N (Kzx2Neutral.natsOf (b :: r)) with
    | false => simp
    | true =>
      by_cases c : a < l ∨ ((2 ^ N : Nat) : Int) ≤ a
      · rw [if_pos c]
        symm
        rw [Bool.and_true, Bool.and_eq_false_iff, Bool.and_eq_false_iff, decide_eq_false_iff_not, decide_eq_false_iff_not, decide_eq_false_iff_not]
        omega
      · rw [if_neg c]
        apply Bool.eq_iff_iff.mpr
        rw [Bool.and_true, Bool.and_true, Bool.and_eq_true, Bool.and_eq_true, decide_eq_true_eq, decide_eq_true_eq, decide_eq_true_eq, decide_eq_true_eq]
        omega
theorem famP_spec {N : Nat} {x : List Int} (h : ∀ z ∈ x, 0 ≤ z) : famP ((2 ^ N : Nat) : Int) 0 x = Kzx1.okFamily N (Kzx2Neutral.natsOf x) := by
  cases x with
  | nil => rfl
  | cons a r =>
    rw [famP_cons h, decide_eq_true (h a List.mem_cons_self), Bool.true_and]
theorem famP_lt {N : Int} : ∀ {x : List Int} {l : Int}, famP N l x = true → ∀ z ∈ x, z < N := by
  intro x
  induction x with
  | nil =>
    intro l _ z hz
    cases hz
  | cons a r ih =>
    intro l h z hz
    unfold famP at h
    by_cases c : a < l ∨ N ≤ a
    · rw [if_pos c] at h
      cases h
    · rw [if_neg c] at h
      rcases List.mem_cons.mp hz with rfl | hz
      · omega
      · exact ih h z hz
theorem foldl_sum : ∀ (l : List Nat) (c : Nat), ((l.foldl (· + ·) c : Nat) : Int) = (c : Int) + (l.map fun (z : Nat) => (z : Int)).sum
  | [], c => by simp
  | a :: r, c => by
    rw [List.foldl_cons, foldl_sum r (c + a), List.map_cons, List.sum_cons, Int.natCast_add]
    omega
theorem sum_map {α : Type} {l : List α} {f : α → Nat} {g : α → Int} (h : ∀ a ∈ l, (f a : Int) = g a) : ((Kzx2.sum (l.map f) : Nat) : Int) = (l.map g).sum := by
  unfold Kzx2.sum
  rw [foldl_sum, List.map_map, Int.natCast_zero, Int.zero_add]
  congr 1
  exact List.map_congr_left h
theorem sum_nats {m : List Int} (h : ∀ x ∈ m, 0 ≤ x) : ((Kzx2.sum (Kzx2Neutral.natsOf m) : Nat) : Int) = m.sum := by
  unfold Kzx2Neutral.natsOf
  have e := sum_map (l := m) (f := Int.toNat) (g := id) fun a ha => Int.toNat_of_nonneg (h a ha)
  rw [e, List.map_id]
def totI (m x : List Int) : Int := (x.map fun z => at_ m z.toNat).sum
theorem tot_nats {m x : List Int} (hm : ∀ y ∈ m, 0 ≤ y) : ((Kzx2.total (Kzx2Neutral.natsOf m) (Kzx2Neutral.natsOf x) : Nat) : Int) = totI m x := by
  unfold Kzx2.total totI
  have e : (Kzx2Neutral.natsOf x).map (Kzx2.at0 (Kzx2Neutral.natsOf m)) = x.map fun z => (at_ m z.toNat).toNat := by
    unfold Kzx2Neutral.natsOf
    rw [List.map_map]
    refine List.map_congr_left fun z _ => ?_
    exact at0_nats m z.toNat
  rw [e]
  exact sum_map fun z _ => Int.toNat_of_nonneg (at_nn hm _)
theorem tot_22a {n : Int} {m x : List Int} (h0 : 0 ≤ n) (hm : ∀ x ∈ m, 0 ≤ x) (q : okP n m = false) : PyKzx2.total n m x = [-22] := by
  show (Kzx2.withM n.toNat (Kzx2Neutral.natsOf m) _).value :: (Kzx2.withM n.toNat (Kzx2Neutral.natsOf m) _).nums = [-22]
  rw [withM_no h0 hm q]
  rfl
theorem fam_len {n : Int} {m x : List Int} (hx : ∀ z ∈ x, 0 ≤ z) (q : okP n m = true) : famP (m.length : Int) 0 x = Kzx1.okFamily n.toNat (Kzx2Neutral.natsOf x) := by
  rw [(okP_n q).2.2, famP_spec hx]
theorem tot_22b {n : Int} {m x : List Int} (h0 : 0 ≤ n) (hm : ∀ x ∈ m, 0 ≤ x) (hx : ∀ z ∈ x, 0 ≤ z) (q : okP n m = true) (q2 : famP (m.length : Int) 0 x = false) : PyKzx2.total n m x = [-22] := by
  show (Kzx2.withM n.toNat (Kzx2Neutral.natsOf m) _).value :: (Kzx2.withM n.toNat (Kzx2Neutral.natsOf m) _).nums = [-22]
  rw [withM_yes h0 hm q, ← fam_len hx q, q2]
  rfl
theorem tot_yes {n : Int} {m x : List Int} (h0 : 0 ≤ n) (hm : ∀ x ∈ m, 0 ≤ x) (hx : ∀ z ∈ x, 0 ≤ z) (q : okP n m = true) (q2 : famP (m.length : Int) 0 x = true) : PyKzx2.total n m x = [totI m x] := by
  show (Kzx2.withM n.toNat (Kzx2Neutral.natsOf m) _).value :: (Kzx2.withM n.toNat (Kzx2Neutral.natsOf m) _).nums = _
  rw [withM_yes h0 hm q, ← fam_len hx q, q2, ← tot_nats hm]
  rfl
/-! ### rows multiplied, and together -/
def mulI (m f : List Int) : List Int := (m.zip f).map fun y => y.1 * y.2
def dotI (m f : List Int) : Int := (mulI m f).sum
theorem zip_nats (m f : List Int) : (Kzx2Neutral.natsOf m).zip (Kzx2Neutral.natsOf f) = (m.zip f).map fun y => (y.1.toNat, y.2.toNat) := by
  unfold Kzx2Neutral.natsOf
  rw [List.zip_map]
  rfl
theorem zip_nn {m f : List Int} (hm : ∀ x ∈ m, 0 ≤ x) (hf : ∀ x ∈ f, 0 ≤ x) : ∀ y ∈ m.zip f, 0 ≤ y.1 ∧ 0 ≤ y.2 := fun _ hy => ⟨hm _ (List.of_mem_zip hy).1, hf _ (List.of_mem_zip hy).2⟩
theorem mul_nat {a b : Int} (ha : 0 ≤ a) (hb : 0 ≤ b) : ((a.toNat * b.toNat : Nat) : Int) = a * b := by
  rw [Int.natCast_mul, Int.toNat_of_nonneg ha, Int.toNat_of_nonneg hb]
theorem dot_nats {m f : List Int} (hm : ∀ x ∈ m, 0 ≤ x) (hf : ∀ x ∈ f, 0 ≤ x) : ((Kzx2.dot (Kzx2Neutral.natsOf m) (Kzx2Neutral.natsOf f) : Nat) : Int) = dotI m f := by
  unfold Kzx2.dot dotI mulI
  rw [zip_nats, List.map_map]
  exact sum_map fun y hy => mul_nat (zip_nn hm hf y hy).1 (zip_nn hm hf y hy).2
theorem mulI_nn {m f : List Int} (hm : ∀ x ∈ m, 0 ≤ x) (hf : ∀ x ∈ f, 0 ≤ x) : ∀ x ∈ mulI m f, 0 ≤ x := by
  intro x hx
  unfold mulI at hx
  obtain ⟨y, hy, rfl⟩ := List.mem_map.mp hx
  exact Int.mul_nonneg (zip_nn hm hf y hy).1 (zip_nn hm hf y hy).2
theorem mul_nats {m f : List Int} (hm : ∀ x ∈ m, 0 ≤ x) (hf : ∀ x ∈ f, 0 ≤ x) : Kzx2.multiplied (Kzx2Neutral.natsOf m) (Kzx2Neutral.natsOf f) = Kzx2Neutral.natsOf (mulI m f) := by
  unfold Kzx2.multiplied mulI
  rw [zip_nats, List.map_map]
  unfold Kzx2Neutral.natsOf
  rw [List.map_map]
  refine List.map_congr_left fun y hy => ?_
  have e := mul_nat (zip_nn hm hf y hy).1 (zip_nn hm hf y hy).2
  show y.1.toNat * y.2.toNat = (y.1 * y.2).toNat
  omega
theorem mulI_len (m f : List Int) : (mulI m f).length = min m.length f.length := by
  unfold mulI
  rw [List.length_map, List.length_zip]
theorem sum_nn : ∀ {l : List Int}, (∀ x ∈ l, 0 ≤ x) → 0 ≤ l.sum
  | [], _ => by simp
  | a :: r, h => by
    rw [List.sum_cons]
    have := h a List.mem_cons_self
    have := sum_nn fun x hx => h x (List.mem_cons_of_mem a hx)
    omega
theorem sum_le {c : Int} : ∀ {l : List Int}, (∀ x ∈ l, x ≤ c) → l.sum ≤ (l.length : Int) * c
  | [], _ => by simp
  | a :: r, h => by
    rw [List.sum_cons, List.length_cons]
    have h1 := h a List.mem_cons_self
    have h2 := sum_le fun x hx => h x (List.mem_cons_of_mem a hx)
    have e : ((r.length + 1 : Nat) : Int) * c = (r.length : Int) * c + c := by
      rw [Int.natCast_add, Int.add_mul]
      simp
    rw [e]
    omega
theorem mulI_le {m f : List Int} {c d : Int} (hm : ∀ x ∈ m, 0 ≤ x ∧ x ≤ c) (hf : ∀ x ∈ f, 0 ≤ x ∧ x ≤ d) : ∀ x ∈ mulI m f, x ≤ c * d := by
  intro x hx
  unfold mulI at hx
  obtain ⟨y, hy, rfl⟩ := List.mem_map.mp hx
  have h1 := hm _ (List.of_mem_zip hy).1
  have h2 := hf _ (List.of_mem_zip hy).2
  exact Int.mul_le_mul h1.2 h2.2 h2.1 (by omega)
theorem mulI_get {m f : List Int} {i : Nat} {a b : Int} (h1 : m[i]? = some a) (h2 : f[i]? = some b) : (mulI m f)[i]? = some (a * b) := by
  unfold mulI
  rw [List.getElem?_map, List.getElem?_zip_eq_some (z := (a, b)) |>.mpr ⟨h1, h2⟩]
  rfl
/-! ### the mean -/
theorem mean_22a {n : Int} {m f : List Int} (h0 : 0 ≤ n) (hm : ∀ x ∈ m, 0 ≤ x) (q : okP n m = false) : PyKzx2.mean n m f = [-22] := by
  show (Kzx2.withM n.toNat (Kzx2Neutral.natsOf m) _).value :: (Kzx2.withM n.toNat (Kzx2Neutral.natsOf m) _).nums = [-22]
  rw [withM_no h0 hm q]
  rfl
theorem mean_22b {n : Int} {m f : List Int} (h0 : 0 ≤ n) (hm : ∀ x ∈ m, 0 ≤ x) (hf : ∀ x ∈ f, 0 ≤ x) (q : okP n m = true) (q2 : okP n f = false) : PyKzx2.mean n m f = [-22] := by
  show (Kzx2.withM n.toNat (Kzx2Neutral.natsOf m) _).value :: (Kzx2.withM n.toNat (Kzx2Neutral.natsOf m) _).nums = [-22]
  rw [withM_yes h0 hm q, okW_of hm hf q, q2]
  rfl
theorem mean_6 {n : Int} {m f : List Int} (h0 : 0 ≤ n) (hm : ∀ x ∈ m, 0 ≤ x) (hf : ∀ x ∈ f, 0 ≤ x) (q : okP n m = true) (q2 : okP n f = true) (z : m.sum = 0) : PyKzx2.mean n m f = [-6] := by
  show (Kzx2.withM n.toNat (Kzx2Neutral.natsOf m) _).value :: (Kzx2.withM n.toNat (Kzx2Neutral.natsOf m) _).nums = _
  have e := sum_nats hm
  have e1 : Kzx2.sum (Kzx2Neutral.natsOf m) = 0 := by omega
  rw [withM_yes h0 hm q, okW_of hm hf q, q2, e1]
  rfl
theorem mean_yes {n : Int} {m f : List Int} {a b : Nat} (h0 : 0 ≤ n) (hm : ∀ x ∈ m, 0 ≤ x) (hf : ∀ x ∈ f, 0 ≤ x) (q : okP n m = true) (q2 : okP n f = true) (z : b ≠ 0) (ea : dotI m f = (a : Int)) (eb : m.sum = (b : Int)) :
    PyKzx2.mean n m f = [0, (a : Int) / ((Nat.gcd a b : Nat) : Int), (b : Int) / ((Nat.gcd a b : Nat) : Int)] := by
  show (Kzx2.withM n.toNat (Kzx2Neutral.natsOf m) _).value :: (Kzx2.withM n.toNat (Kzx2Neutral.natsOf m) _).nums = _
  have e1 : Kzx2.sum (Kzx2Neutral.natsOf m) = b := by
    have := sum_nats hm
    omega
  have e2 : Kzx2.dot (Kzx2Neutral.natsOf m) (Kzx2Neutral.natsOf f) = a := by
    have := dot_nats hm hf
    omega
  rw [withM_yes h0 hm q, okW_of hm hf q, q2, e1, e2]
  have e3 : (if true = false then Kzx1.say (-22) else if b = 0 then Kzx1.say (-6) else ⟨0, Kzx2.lowest a b⟩ : Kzx1.Ans) = ⟨0, Kzx2.lowest a b⟩ := by
    rw [if_neg (by decide), if_neg z]
  rw [e3]
  unfold Kzx2.lowest
  have e4 : Nat.gcd a b ≠ 0 := fun u => z (Nat.eq_zero_of_gcd_eq_zero_right u)
  show 0 :: (if Nat.gcd a b = 0 then _ else _) = _
  rw [if_neg e4, Int.natCast_ediv, Int.natCast_ediv]
/-! ### goes -/
theorem goes_22a {n : Int} {m f g : List Int} (h0 : 0 ≤ n) (hm : ∀ x ∈ m, 0 ≤ x) (q : okP n m = false) : PyKzx2.goes n m f g = [-22] := by
  show (Kzx2.withM n.toNat (Kzx2Neutral.natsOf m) _).value :: (Kzx2.withM n.toNat (Kzx2Neutral.natsOf m) _).nums = [-22]
  rw [withM_no h0 hm q]
  rfl
theorem goes_22b {n : Int} {m f g : List Int} (h0 : 0 ≤ n) (hm : ∀ x ∈ m, 0 ≤ x) (hf : ∀ x ∈ f, 0 ≤ x) (hg : ∀ x ∈ g, 0 ≤ x) (q : okP n m = true) (q2 : okP n f = false ∨ okP n g = false) : PyKzx2.goes n m f g = [-22] := by
  show (Kzx2.withM n.toNat (Kzx2Neutral.natsOf m) _).value :: (Kzx2.withM n.toNat (Kzx2Neutral.natsOf m) _).nums = [-22]
  rw [withM_yes h0 hm q, okW_of hm hf q, okW_of hm hg q, if_pos q2]
  rfl
theorem goes_yes {n : Int} {m f g : List Int} {l r : Int} (h0 : 0 ≤ n) (hm : ∀ x ∈ m, 0 ≤ x) (hf : ∀ x ∈ f, 0 ≤ x) (hg : ∀ x ∈ g, 0 ≤ x) (q : okP n m = true) (q2 : okP n f = true) (q3 : okP n g = true)
    (el : l = m.sum * dotI m (mulI f g)) (er : r = dotI m f * dotI m g) : PyKzx2.goes n m f g = [if r < l then 2 else if l < r then 0 else 1, l, r] := by
  show (Kzx2.withM n.toNat (Kzx2Neutral.natsOf m) _).value :: (Kzx2.withM n.toNat (Kzx2Neutral.natsOf m) _).nums = _
  rw [withM_yes h0 hm q, okW_of hm hf q, okW_of hm hg q, if_neg (by rw [q2, q3]; rintro (z | z) <;> cases z)]
  have e1 : ((Kzx2.sum (Kzx2Neutral.natsOf m) * Kzx2.dot (Kzx2Neutral.natsOf m) (Kzx2.multiplied (Kzx2Neutral.natsOf f) (Kzx2Neutral.natsOf g)) : Nat) : Int) = l := by
    rw [mul_nats hf hg, Int.natCast_mul, sum_nats hm, dot_nats hm (mulI_nn hf hg), el]
  have e2 : ((Kzx2.dot (Kzx2Neutral.natsOf m) (Kzx2Neutral.natsOf f) * Kzx2.dot (Kzx2Neutral.natsOf m) (Kzx2Neutral.natsOf g) : Nat) : Int) = r := by
    rw [Int.natCast_mul, dot_nats hm hf, dot_nats hm hg, er]
  unfold Kzx2.side
  generalize Kzx2.sum (Kzx2Neutral.natsOf m) * Kzx2.dot (Kzx2Neutral.natsOf m) (Kzx2.multiplied (Kzx2Neutral.natsOf f) (Kzx2Neutral.natsOf g)) = L at e1 ⊢
  generalize Kzx2.dot (Kzx2Neutral.natsOf m) (Kzx2Neutral.natsOf f) * Kzx2.dot (Kzx2Neutral.natsOf m) (Kzx2Neutral.natsOf g) = R at e2 ⊢
  subst e1
  subst e2
  show ((if R < L then 2 else if L < R then 0 else 1 : Nat) : Int) :: [(L : Int), (R : Int)] = _
  clear el er
  by_cases c : R < L
  · have c' : (R : Int) < (L : Int) := Int.ofNat_lt.mpr c
    rw [if_pos c, if_pos c']
    rfl
  · have c' : ¬ (R : Int) < (L : Int) := fun z => c (Int.ofNat_lt.mp z)
    rw [if_neg c, if_neg c']
    by_cases d : L < R
    · have d' : (L : Int) < (R : Int) := Int.ofNat_lt.mpr d
      rw [if_pos d, if_pos d']
      rfl
    · have d' : ¬ (L : Int) < (R : Int) := fun z => d (Int.ofNat_lt.mp z)
      rw [if_neg d, if_neg d']
      rfl
end Wt

namespace Wt
/-! ### given -/
def givI (v : Int) (i : Nat) (ns : List Int) (k : Nat) : List Int := (List.range k).map fun s => if ((s / 2 ^ i % 2 : Nat) : Int) = v then at_ ns s else 0
theorem givI_step {v : Int} {i k : Nat} {ns : List Int} : givI v i ns (k + 1) = givI v i ns k ++ [if ((k / 2 ^ i % 2 : Nat) : Int) = v then at_ ns k else 0] := by
  unfold givI
  rw [List.range_succ, List.map_append]
  rfl
theorem givI_len {v : Int} {i k : Nat} {ns : List Int} : (givI v i ns k).length = k := by
  unfold givI
  rw [List.length_map, List.length_range]
theorem giv_22a {n i v : Int} {ns : List Int} (h0 : 0 ≤ n) (h : ∀ x ∈ ns, 0 ≤ x) (q : okP n ns = false) : PyKzx2.given_of n i v ns = [-22] := by
  show (Kzx2.withM n.toNat (Kzx2Neutral.natsOf ns) _).value :: (Kzx2.withM n.toNat (Kzx2Neutral.natsOf ns) _).nums = [-22]
  rw [withM_no h0 h q]
  rfl
theorem giv_2 {n i v : Int} {ns : List Int} (h0 : 0 ≤ n) (h : ∀ x ∈ ns, 0 ≤ x) (q : okP n ns = true) (hi : n ≤ i) : PyKzx2.given_of n i v ns = [-2] := by
  show (Kzx2.withM n.toNat (Kzx2Neutral.natsOf ns) _).value :: (Kzx2.withM n.toNat (Kzx2Neutral.natsOf ns) _).nums = [-2]
  rw [withM_yes h0 h q, if_pos (show n.toNat ≤ i.toNat by omega)]
  rfl
theorem giv_22b {n i v : Int} {ns : List Int} (h0 : 0 ≤ n) (h : ∀ x ∈ ns, 0 ≤ x) (q : okP n ns = true) (h1 : 0 ≤ i) (hi : i < n) (hv : 1 < v) : PyKzx2.given_of n i v ns = [-22] := by
  show (Kzx2.withM n.toNat (Kzx2Neutral.natsOf ns) _).value :: (Kzx2.withM n.toNat (Kzx2Neutral.natsOf ns) _).nums = [-22]
  rw [withM_yes h0 h q, if_neg (show ¬ n.toNat ≤ i.toNat by omega), if_pos (show 1 < v.toNat by omega)]
  rfl
theorem map_eq {α β : Type} {f g : α → β} : ∀ {l : List α}, (∀ x ∈ l, f x = g x) → l.map f = l.map g := fun h => List.map_congr_left h
theorem giv_yes {n i v : Int} {ns : List Int} (h0 : 0 ≤ n) (h : ∀ x ∈ ns, 0 ≤ x) (q : okP n ns = true) (h1 : 0 ≤ i) (hi : i < n) (h2 : 0 ≤ v) (hv : v ≤ 1) :
    PyKzx2.given_of n i v ns = (ns.length : Int) :: givI v i.toNat ns ns.length := by
  show (Kzx2.withM n.toNat (Kzx2Neutral.natsOf ns) _).value :: (Kzx2.withM n.toNat (Kzx2Neutral.natsOf ns) _).nums = _
  rw [withM_yes h0 h q, if_neg (show ¬ n.toNat ≤ i.toNat by omega), if_neg (show ¬ 1 < v.toNat by omega)]
  have el := (okP_n q).2.2
  have e : Kzx1.ints (Kzx2.given n.toNat i.toNat (v.toNat == 1) (Kzx2Neutral.natsOf ns)) = givI v i.toNat ns ns.length := by
    unfold Kzx1.ints Kzx2.given givI Kzx1.sets
    rw [List.map_map, el]
    refine map_eq fun s _ => ?_
    show (((if (Kzx1.up s i.toNat == (v.toNat == 1)) = true then Kzx2.at0 (Kzx2Neutral.natsOf ns) s else 0 : Nat)) : Int) = _
    rw [at0_nats]
    have p := at_nn h s
    unfold Kzx1.up
    have hm : s / 2 ^ i.toNat % 2 < 2 := Nat.mod_lt _ (by decide)
    generalize s / 2 ^ i.toNat % 2 = b at *
    have hb : b = 0 ∨ b = 1 := by omega
    have hv : v = 0 ∨ v = 1 := by omega
    rcases hb with rfl | rfl <;> rcases hv with rfl | rfl <;> simp <;> omega
  show (((Kzx1.ints (Kzx2.given n.toNat i.toNat (v.toNat == 1) (Kzx2Neutral.natsOf ns))).length : Nat) : Int) :: Kzx1.ints (Kzx2.given n.toNat i.toNat (v.toNat == 1) (Kzx2Neutral.natsOf ns)) = _
  rw [e, givI_len]
/-! ### forgot -/
/-- thing i is out -/
def outB (i s : Nat) : Bool := decide (s / 2 ^ i % 2 = 0)
def fgtI (i : Nat) (ns : List Int) (k : Nat) : List Int := ((List.range k).filter (outB i)).map fun s => at_ ns s + at_ ns (s ||| 2 ^ i)
theorem fgtI_out {i k : Nat} {ns : List Int} (h : outB i k = true) : fgtI i ns (k + 1) = fgtI i ns k ++ [at_ ns k + at_ ns (k ||| 2 ^ i)] := by
  unfold fgtI
  rw [List.range_succ, List.filter_append, List.map_append]
  show _ ++ ([k].filter (outB i)).map _ = _
  rw [List.filter_cons, if_pos h]
  rfl
theorem fgtI_in {i k : Nat} {ns : List Int} (h : outB i k = false) : fgtI i ns (k + 1) = fgtI i ns k := by
  unfold fgtI
  rw [List.range_succ, List.filter_append, List.map_append]
  have e : [k].filter (outB i) = [] := by
    rw [List.filter_cons, if_neg (by rw [h]; decide)]
    rfl
  rw [e]
  exact List.append_nil _
theorem fgtI_le {i k : Nat} {ns : List Int} : (fgtI i ns k).length ≤ k := by
  unfold fgtI
  rw [List.length_map]
  refine Nat.le_trans (List.length_filter_le _ _) ?_
  rw [List.length_range]
  exact Nat.le_refl _
theorem widens : ∀ n, n < 6 → ∀ i, i < n → (List.range (2 ^ n)).filter (outB i) = (List.range (2 ^ (n - 1))).map (Kzx2.widen i) := by decide +kernel
theorem outs5 : ∀ s, s < 32 → ∀ i, i < 5 → outB i s = true → s ||| 2 ^ i = s + 2 ^ i := by decide +kernel
theorem fgt_22 {n i : Int} {ns : List Int} (h0 : 0 ≤ n) (h : ∀ x ∈ ns, 0 ≤ x) (q : okP n ns = false) : PyKzx2.forgot n i ns = [-22] := by
  show (Kzx2.withM n.toNat (Kzx2Neutral.natsOf ns) _).value :: (Kzx2.withM n.toNat (Kzx2Neutral.natsOf ns) _).nums = [-22]
  rw [withM_no h0 h q]
  rfl
theorem fgt_2 {n i : Int} {ns : List Int} (h0 : 0 ≤ n) (h : ∀ x ∈ ns, 0 ≤ x) (q : okP n ns = true) (hi : n ≤ i) : PyKzx2.forgot n i ns = [-2] := by
  show (Kzx2.withM n.toNat (Kzx2Neutral.natsOf ns) _).value :: (Kzx2.withM n.toNat (Kzx2Neutral.natsOf ns) _).nums = [-2]
  rw [withM_yes h0 h q, if_pos (show n.toNat ≤ i.toNat by omega)]
  rfl
theorem fgt_33 {n i : Int} {ns : List Int} (h0 : 0 ≤ n) (h : ∀ x ∈ ns, 0 ≤ x) (q : okP n ns = true) (h1 : 0 ≤ i) (hi : i < n) (e1 : n = 1) : PyKzx2.forgot n i ns = [-33] := by
  show (Kzx2.withM n.toNat (Kzx2Neutral.natsOf ns) _).value :: (Kzx2.withM n.toNat (Kzx2Neutral.natsOf ns) _).nums = [-33]
  rw [withM_yes h0 h q, if_neg (show ¬ n.toNat ≤ i.toNat by omega), if_pos (show n.toNat = 1 by omega)]
  rfl
theorem fgt_yes {n i : Int} {ns : List Int} (h0 : 0 ≤ n) (h : ∀ x ∈ ns, 0 ≤ x) (q : okP n ns = true) (h1 : 0 ≤ i) (hi : i < n) (e1 : n ≠ 1) :
    PyKzx2.forgot n i ns = ((fgtI i.toNat ns ns.length).length : Int) :: fgtI i.toNat ns ns.length := by
  show (Kzx2.withM n.toNat (Kzx2Neutral.natsOf ns) _).value :: (Kzx2.withM n.toNat (Kzx2Neutral.natsOf ns) _).nums = _
  rw [withM_yes h0 h q, if_neg (show ¬ n.toNat ≤ i.toNat by omega), if_neg (show ¬ n.toNat = 1 by omega)]
  have hn := (okP_n q).2.1
  have el := (okP_n q).2.2
  have h5 : n.toNat ≤ 5 := by omega
  have hi5 : i.toNat < n.toNat := by omega
  have e : Kzx1.ints (Kzx2.forgot n.toNat i.toNat (Kzx2Neutral.natsOf ns)) = fgtI i.toNat ns ns.length := by
    have ew := widens n.toNat (by omega) i.toNat hi5
    unfold Kzx1.ints Kzx2.forgot fgtI Kzx1.sets
    rw [List.map_map, el, ew, List.map_map]
    refine map_eq fun s hs => ?_
    have hm : Kzx2.widen i.toNat s ∈ (List.range (2 ^ n.toNat)).filter (outB i.toNat) := by
      rw [ew]
      exact List.mem_map_of_mem hs
    obtain ⟨hr, ho⟩ := List.mem_filter.mp hm
    have h32 : Kzx2.widen i.toNat s < 32 := Nat.lt_of_lt_of_le (List.mem_range.mp hr) (Nat.pow_le_pow_right (by decide) h5)
    show ((Kzx2.at0 (Kzx2Neutral.natsOf ns) (Kzx2.widen i.toNat s) + Kzx2.at0 (Kzx2Neutral.natsOf ns) (Kzx2.widen i.toNat s + 2 ^ i.toNat) : Nat) : Int) = at_ ns (Kzx2.widen i.toNat s) + at_ ns (Kzx2.widen i.toNat s ||| 2 ^ i.toNat)
    rw [outs5 _ h32 _ (by omega) ho, at0_nats, at0_nats]
    have p1 := at_nn h (Kzx2.widen i.toNat s)
    have p2 := at_nn h (Kzx2.widen i.toNat s + 2 ^ i.toNat)
    omega
  show (((Kzx1.ints (Kzx2.forgot n.toNat i.toNat (Kzx2Neutral.natsOf ns))).length : Nat) : Int) :: Kzx1.ints (Kzx2.forgot n.toNat i.toNat (Kzx2Neutral.natsOf ns)) = _
  rw [e]
end Wt

namespace Wt
open PySem PySem.Spec PyProof.Rows L2
open PySem.W (Codec)
/-! ### the text -/
def topS (i : Nat) : Stmt := PySem.Challenge.pw_weightstogether_s09_forgot.main.body.getD i (.Pass ⟨0, 0, 0, 0⟩)
abbrev sW : Stmt := topS 6
theorem scW : FnScope ["n", "row", "weight"] ["n", "row"] (defScope sW) := ⟨rfl, rfl, rfl, by decide +kernel, rfl, by decide +kernel, by decide +kernel⟩
theorem same_upd {H : Hp} {p : Addr} {o : HO} (h : H p = none) : Same H (upd H p o) := fun b x e => by
  rw [upd_ne (ne_of_none e h)]
  exact e
theorem if_t {c : Bool} {A B : Prop} (hc : c = true) (h : A) : if c = true then A else B := by
  rw [if_pos hc]
  exact h
theorem if_f {c : Bool} {A B : Prop} (hc : c = false) (h : B) : if c = true then A else B := by
  rw [hc, if_neg Bool.false_ne_true]
  exact h
theorem map_get {ns : List Int} {j : Nat} {v : Int} (h : ns[j]? = some v) : (ns.map V.int)[j]? = some (V.int v) := by
  rw [List.getElem?_map, h]
  rfl
theorem get_map {ns : List Int} {i : Nat} {y : V} (h : (ns.map V.int)[i]? = some y) : ∃ z, ns[i]? = some z ∧ y = V.int z := by
  rw [List.getElem?_map] at h
  cases e : ns[i]? with
  | none =>
    rw [e] at h
    cases h
  | some z =>
    rw [e] at h
    exact ⟨z, rfl, (Option.some.inj h).symm⟩
/-- what the module's names stand for -/
structure Txt (mg : Str → Option Value) : Prop where
  gT : ∃ t, mg "MOST_THINGS" = some (.int 5 t)
  gM : ∃ t, mg "MOST_WEIGHT" = some (.int 1000 t)
  gN : ∃ t, mg "NOT_AS_TOLD" = some (.int (-22) t)
  len : mg "len" = none
  all : mg "all" = none
  range : mg "range" = none
  zip : mg "zip" = none
  sum : mg "sum" = none
/-- a helping def, where it stands -/
structure Hlp (K : PySem.W.Frag) (mg : Str → Option Value) (x : Str) (st : Stmt) (ps : List Str) (f : Addr) (fd : FuncData) : Prop where
  F : Fun K x x st f fd
  b : Binds K fd ps []
  g : mg x = some (.ref f)
theorem okP_le {n : Int} {ns : List Int} (h : okP n ns = true) : ∀ x ∈ ns, x ≤ 1000 := by
  unfold okP at h
  split at h
  · cases h
  · split at h
    · intro x hx
      exact of_decide_eq_true (List.all_eq_true.mp h x hx)
    · cases h
theorem at_le {ns : List Int} (h : ∀ x ∈ ns, x ≤ 1000) (s : Nat) : at_ ns s ≤ 1000 := by
  by_cases hs : s < ns.length
  · exact h _ (List.mem_of_getElem? (at_get hs))
  · unfold at_
    rw [List.getD_eq_getElem?_getD, List.getElem?_eq_none (by omega)]
    decide
theorem at_mul {ns : List Int} (hp : ∀ x ∈ ns, 0 ≤ x) (h : ∀ x ∈ ns, x ≤ 1000) (s : Nat) (z : Int) : CMul (at_ ns s) z := by
  have h1 := at_nn hp s
  have h2 := at_le h s
  exact .inl ⟨by omega, by omega⟩
section
variable {P : Program} {w : World} {K : PySem.W.Frag} {mg : Str → Option Value} {base : Heap}
/-! ### are_weights -/
def spW (K : PySem.W.Frag) : Sp := fun vs H Q _ => ∃ (n : Int) (a : Addr) (ns : List Int), vs = [.int n, .ref a] ∧ SqL K H a (ns.map V.int) ∧ ns.length ≤ 40 ∧ ∀ H', Same H H' → Q (.bl (okP n ns)) H'
theorem all_le (ns : List Int) : (ns.map fun x => decide (x ≤ 1000)).all id = ns.all (fun x => decide (x ≤ 1000)) := by
  rw [List.all_map]
  rfl
theorem ok_w {f : Addr} {fd : FuncData} (F : Fun K "are_weights" "are_weights" sW f fd) (T : Txt mg) : FnOk P w K mg base CX0 1 f fd ["n", "row"] (spW K) := by
  obtain ⟨t5, gT⟩ := T.gT
  obtain ⟨tM, gM⟩ := T.gM
  refine F.ok scW (fun vs H Q E h => ?_) (fun cdv A outer s H vs Q E hr h => ?_)
  · obtain ⟨n, a, ns, rfl, _⟩ := h
    rfl
  · obtain ⟨n, a, ns, rfl, hS, hlen, q⟩ := h
    refine ⟨_, pss_cons (ps_if (PW.pt (pw_or (pt_cmpR op_lt (pv 0) pe_int (nomark _)) (pw_or1 (pt_cmpR op_gt (pv 0) (pe_glob (v := .int 5) (by rfl) gT ⟨_, rfl⟩) (nomark _))))) (pss_one (ps_ret pe_bl)) pss_nil)
      (pss_cons (ps_if (pt_cmpR op_ne (pe_callB call_len_seq (by rfl) T.len PySem.boot_len (pa_cons (pv 1) pa_nil)) (pe_op op_shl pe_int (pv 0)) (nomark _)) (pss_one (ps_ret pe_bl)) pss_nil)
      (pss_one (ps_ret (pe_callB (cr_all rfl) (by rfl) T.all (by decide +kernel) (pa_cons
        (pe_lc (own := [("weight", 2)]) (g := gName 2) (tt := tYes) rfl scW.nd (pi_list (pv 1)) (blkOk_by (own := [("weight", 2)]) (N := ["n", "row", "weight"]) (sc := defScope sW) (by decide +kernel))
          (fun _ _ _ _ _ => pg_name (i := 2) scW.nd rfl (Or.inl rfl)) (fun _ _ _ _ _ => pts_nil)
          (fun _ _ _ _ _ => pe_cmpR op_le (pv 2) (pe_glob (v := .int 1000) (by rfl) gM ⟨_, rfl⟩) (nomark _))) pa_nil))))), ?_⟩
    refine ⟨.int n, rfl, n, 1, rfl, rfl, _, rfl, ?_⟩
    by_cases c1 : n < 1
    · refine if_t (decide_eq_true c1) (if_t rfl ?_)
      have e : okP n ns = false := if_pos (.inl c1)
      have z := q H (Same.refl H)
      rw [e] at z
      exact z
    · refine if_f (decide_eq_false c1) ?_
      refine ⟨.int n, rfl, n, 5, rfl, rfl, _, rfl, ?_⟩
      by_cases c2 : 5 < n
      · refine if_t (decide_eq_true c2) ?_
        have e : okP n ns = false := if_pos (.inr c2)
        have z := q H (Same.refl H)
        rw [e] at z
        exact z
      · refine if_f (decide_eq_false c2) ?_
        have c3 : ¬ (n < 1 ∨ 5 < n) := fun z => z.elim c1 c2
        refine ⟨.ref a, rfl, a, ns.map V.int, rfl, .inl hS, .int n, rfl, 1, n, rfl, rfl, ⟨by omega, by omega, by decide⟩, rfl, _, rfl, ?_⟩
        by_cases c4 : (ns.length : Int) = 2 ^ n.toNat
        · have e4 : (V.int ((ns.map V.int).length : Int)) = V.int (1 * 2 ^ n.toNat) := by
            rw [List.length_map, c4, Int.one_mul]
          refine if_f (by rw [decide_eq_true e4]; rfl) ?_
          have eo : okP n ns = ns.all (fun x => decide (x ≤ 1000)) := by
            unfold okP
            rw [if_neg c3, if_pos c4]
          refine ⟨.ref a, rfl, a, rfl, ⟨_, hS⟩, fun D nD => ?_⟩
          have s1 : Same H (upd H D (.lst [])) := same_upd nD
          refine lc_list (K := K) (a := a) (xs := ns.map V.int) (fun i H' => Same H H' ∧ H' D = some (.lst ((ns.take i).map fun x => V.bl (decide (x ≤ 1000))))) ⟨s1, upd_same⟩ (fun i H' _ z => z.1.seq hS) ?_ ?_
          · rintro i y H' hi ⟨sm, eD⟩
            obtain ⟨z, hz, rfl⟩ := get_map hi
            refine ⟨rfl, .int z, rfl, z, 1000, rfl, rfl, _, eD, ?_, fun b o e => ?_, ?_⟩
            · rw [List.length_map, List.length_take]
              exact small1000 (Nat.le_trans (Nat.min_le_right _ _) (by omega))
            · rw [upd_ne (ne_of_none e nD)]
              exact sm _ _ e
            · rw [upd_same, List.take_add_one, hz, List.map_append]
              rfl
          · rintro H' ⟨sm, eD⟩
            rw [List.length_map, List.take_length] at eD
            refine ⟨D, ns.map fun x => decide (x ≤ 1000), rfl, SqL.of (by rw [eD, List.map_map]; rfl), ?_⟩
            rw [all_le, ← eo]
            exact q _ sm
        · have e4 : ¬ (V.int ((ns.map V.int).length : Int)) = V.int (1 * 2 ^ n.toNat) := fun z => c4 (by
            have z1 := V.int.inj z
            rw [List.length_map, Int.one_mul] at z1
            exact z1)
          refine if_t (by rw [decide_eq_false e4]; rfl) ?_
          have eo : okP n ns = false := by
            unfold okP
            rw [if_neg c3, if_neg c4]
          have z := q H (Same.refl H)
          rw [eo] at z
          exact z
/-! ### forgot -/
abbrev sF : Stmt := topS 7
theorem scF : FnScope ["n", "i", "m", "weights", "number"] ["n", "i", "m"] (defScope sF) := ⟨rfl, rfl, rfl, by decide +kernel, rfl, by decide +kernel, by decide +kernel⟩
/-- what the call promises: the specification's list -/
def spF (K : PySem.W.Frag) : Sp := fun vs H Q _ => ∃ (n i : Int) (a : Addr) (ms : List Int), vs = [.int n, .int i, .ref a] ∧ SqL K H a (ms.map V.int) ∧ ms.length ≤ 40 ∧ (0 ≤ n ∧ 0 ≤ i) ∧ (∀ x ∈ ms, 0 ≤ x) ∧
  ∀ (H' : Hp) (p : Addr), H' p = some (.lst ((PyKzx2.forgot n i ms).map V.int)) → Q (.ref p) H'
theorem bit_of (k i : Nat) : Builtin.bitAnd ((k : Int) / 2 ^ i) 1 = ((k / 2 ^ i % 2 : Nat) : Int) := by
  have e : (k : Int) / 2 ^ i = ((k / 2 ^ i : Nat) : Int) := by
    rw [Int.natCast_ediv, Int.natCast_pow]
    rfl
  rw [e, bitAnd_pp (Int.natCast_nonneg _) (by decide), Int.toNat_natCast]
  show ((k / 2 ^ i &&& 1 : Nat) : Int) = _
  rw [Nat.and_one_is_mod]
theorem or_of (k i : Nat) : Builtin.bitOr (k : Int) (1 * 2 ^ i) = ((k ||| 2 ^ i : Nat) : Int) := by
  have e : (1 * 2 ^ i : Int) = ((2 ^ i : Nat) : Int) := by
    rw [Int.one_mul, Int.natCast_pow]
    rfl
  rw [e, Bits.bitOr_pp (Int.natCast_nonneg _) (Int.natCast_nonneg _), Int.toNat_natCast, Int.toNat_natCast]
theorem ok_f {f fW : Addr} {fd fdW : FuncData} (F : Fun K "forgot" "forgot" sF f fd) (T : Txt mg) (W : Hlp K mg "are_weights" sW ["n", "row"] fW fdW) (g2 : ∃ t, mg "NO_SUCH_THING" = some (.int (-2) t)) (g33 : ∃ t, mg "NO_THING_LEFT" = some (.int (-33) t)) :
    FnOk P w K mg base CX0 2 f fd ["n", "i", "m"] (spF K) := by
  have GW : FnOk P w K mg base CX0 1 fW fdW ["n", "row"] (spW K) := ok_w W.F T
  obtain ⟨t22, gN⟩ := T.gN
  obtain ⟨t2, g2⟩ := g2
  obtain ⟨t33, g33⟩ := g33
  refine F.ok scF (fun vs H Q E h => ?_) (fun cdv A outer s H vs Q E hr h => ?_)
  · obtain ⟨n, i, a, ms, rfl, _⟩ := h
    rfl
  · obtain ⟨n, i, a, ms, rfl, hS, lm, ⟨h0, h1⟩, hp, q⟩ := h
    refine ⟨_, pss_cons (ps_if (pt_not (pt_val (pe_call GW hr (by rfl) W.g W.F.kp W.b .nil pass0 (pa_cons (pv 0) (pa_cons (pv 2) pa_nil))))) (pss_one (ps_ret (pe_lst (pa_cons (pe_glob (v := .int (-22)) (by rfl) gN ⟨_, rfl⟩) pa_nil)))) pss_nil)
      (pss_cons (ps_if (pt_cmpR op_ge (pv 1) (pv 0) (nomark _)) (pss_one (ps_ret (pe_lst (pa_cons (pe_glob (v := .int (-2)) (by rfl) g2 ⟨_, rfl⟩) pa_nil)))) pss_nil)
      (pss_cons (ps_if (pt_cmpR op_eq (pv 0) pe_int (nomark _)) (pss_one (ps_ret (pe_lst (pa_cons (pe_glob (v := .int (-33)) (by rfl) g33 ⟨_, rfl⟩) pa_nil)))) pss_nil)
      (pss_cons (ps_setLc (i := 3) (own := [("number", 4)]) (g := gName 4) (te := tOp (rI0 fun i j => .int (i + j)) (tOp (rIxL K) (tVar 2) (tVar 4)) (tOp (rIxL K) (tVar 2) (tOp (rI0 fun i j => .int (Builtin.bitOr i j)) (tVar 4) (tOp (rI CPow fun i j => .int (i * 2 ^ j.toNat)) (tC (.int 1)) (tVar 1))))) rfl scF.nd rfl rfl (sw_true rfl rfl rfl (by decide +kernel)) (pi_range1 rfl T.range (pa_cons (pe_callB call_len_seq (by rfl) T.len PySem.boot_len (pa_cons (pv 2) pa_nil)) pa_nil)) (blkOk_by (own := [("number", 4)]) (N := ["n", "i", "m", "weights", "number"]) (sc := defScope sF) (by decide +kernel))
        (fun _ _ _ _ _ => pg_name (i := 4) scF.nd rfl (Or.inl rfl)) (fun _ _ _ _ _ => pts_one (pt_cmpR op_eq (pe_op op_and (pe_op op_shr (pv 4) (pv 1)) pe_int) pe_int (nomark _)))
        (fun _ _ _ _ _ => pe_op op_add (pe_ix (r := rIxL K) ix_list (pv 2) (pv 4) (fun _ _ => rfl)) (pe_ix (r := rIxL K) ix_list (pv 2) (pe_op op_or (pv 4) (pe_op op_shl pe_int (pv 1))) (fun _ _ => rfl))))
      (pss_one (ps_ret (pe_op op_cat (pe_lst (pa_cons (pe_callB call_len_seq (by rfl) T.len PySem.boot_len (pa_cons (pv 3) pa_nil)) pa_nil)) (pv 3))))))), ?_⟩
    refine ⟨.int n, rfl, .ref a, rfl, n, a, ms, rfl, hS, lm, fun H1 s1 => ⟨_, rfl, ?_⟩⟩
    cases eo : okP n ms with
    | false =>
      refine if_t rfl ⟨by show 1 ≤ sizeLine; decide, fun p np => q _ p ?_⟩
      rw [upd_same, fgt_22 h0 hp eo]
      rfl
    | true =>
      refine if_f rfl ⟨.int i, rfl, .int n, rfl, i, n, rfl, rfl, _, rfl, ?_⟩
      by_cases c1 : n ≤ i
      · refine if_t (decide_eq_true c1) ⟨by show 1 ≤ sizeLine; decide, fun p np => q _ p ?_⟩
        rw [upd_same, fgt_2 h0 hp eo c1]
        rfl
      · refine if_f (decide_eq_false c1) ⟨.int n, rfl, rfl, _, rfl, ?_⟩
        have c1' : i < n := by omega
        by_cases c2 : n = 1
        · refine if_t (decide_eq_true (by rw [c2])) ⟨by show 1 ≤ sizeLine; decide, fun p np => q _ p ?_⟩
          rw [upd_same, fgt_33 h0 hp eo h1 c1' c2]
          rfl
        · refine if_f (decide_eq_false fun u => c2 (V.int.inj u)) ?_
          have hn5 := (okP_n eo).2.1
          have el := (okP_n eo).2.2
          refine ⟨.ref a, rfl, a, ms.map V.int, rfl, .inl (s1.seq hS), _, rfl, by rw [List.length_map]; omega, by rw [List.length_map]; omega, ?_⟩
          rw [List.length_map, Int.toNat_natCast]
          intro D nD
          refine lc_range (lo := 0) (n := ms.length) (fun k H' => Same H1 H' ∧ H' D = some (.lst ((fgtI i.toNat ms k).map V.int))) ⟨same_upd nD, upd_same⟩ ?_ ?_
          · rintro k H' hk ⟨sm, eD⟩
            have e0 : (0 : Int) + (k : Nat) = (k : Nat) := Int.zero_add _
            have eb := bit_of k i.toNat
            refine ⟨rfl, .int (0 + (k : Nat)), rfl, .int i, rfl, _, i, rfl, rfl, h1, _, 1, rfl, rfl, rfl, _, rfl, ?_⟩
            by_cases c : k / 2 ^ i.toNat % 2 = 0
            · refine if_t (decide_eq_true (by show V.int (Builtin.bitAnd ((0 + (k : Nat) : Int) / 2 ^ i.toNat) 1) = V.int 0; rw [e0, eb, c]; rfl)) ?_
              have ho : outB i.toNat k = true := decide_eq_true c
              have hor : k ||| 2 ^ i.toNat < ms.length := by
                rw [el]
                exact or_lt (by omega) (Nat.pow_lt_pow_right (by decide) (by omega))
              have xi : atI (ms.map V.int) (0 + (k : Nat)) = some (.int (at_ ms k)) := by
                rw [Int.zero_add]
                exact atI_nat (map_get (at_get hk))
              have xo : atI (ms.map V.int) (Builtin.bitOr (0 + (k : Nat)) (1 * 2 ^ i.toNat)) = some (.int (at_ ms (k ||| 2 ^ i.toNat))) := by
                rw [e0, or_of]
                exact atI_nat (map_get (at_get hor))
              refine ⟨.ref a, rfl, .int (0 + (k : Nat)), rfl, a, ms.map V.int, _, _, rfl, rfl, sm.seq (s1.seq hS), xi, ?_⟩
              refine ⟨.ref a, rfl, .int (0 + (k : Nat)), rfl, .int i, rfl, 1, i, rfl, rfl, ⟨h1, by omega, by decide⟩, _, _, rfl, rfl, a, ms.map V.int, _, _, rfl, rfl, sm.seq (s1.seq hS), xo, _, _, rfl, rfl, _, eD, ?_, fun b o e => ?_, ?_⟩
              · rw [List.length_map]
                exact small1000 (Nat.le_trans fgtI_le (by omega))
              · rw [upd_ne (ne_of_none e nD)]
                exact sm _ _ e
              · rw [upd_same, fgtI_out ho, List.map_append]
                rfl
            · refine if_f (decide_eq_false fun u => c ?_) ?_
              · have u1 := V.int.inj u
                rw [e0, eb] at u1
                omega
              · rw [fgtI_in (decide_eq_false c)]
                exact ⟨sm, eD⟩
          · rintro H2 ⟨sm, eD⟩
            have hle : (fgtI i.toNat ms ms.length).length ≤ ms.length := fgtI_le
            refine ⟨.ref D, rfl, D, _, rfl, .inl (SqL.of eD), by show 1 ≤ sizeLine; decide, fun p np => ?_⟩
            refine ⟨.ref D, rfl, p, D, _, _, rfl, rfl, upd_same, (upd_ne (ne_of_none eD np)).trans eD, ?_, fun p2 np2 => q _ p2 ?_⟩
            · rw [List.length_map]
              exact Nat.le_of_lt (small1000 (by show 1 + (fgtI i.toNat ms ms.length).length ≤ 1000; omega))
            · rw [upd_same, fgt_yes h0 hp eo h1 c1' c2, List.length_map]
              rfl
end
/-! ### what the top has written -/
theorem all_mk {P : Program} {w : World} {K : PySem.W.Frag} {h : Heap} {mg : Str → Option Value} {fa f1 f2 : Addr} (X : K.In h) (G : h.Ns mainGlobals mg) (hfa : mg "forgot" = some (.ref fa))
    {od1 an1 od2 an2 : Option Addr} {sl1 sl2 : Array (Option Value)} {oc1 kV1 dc1 pm1 cd1 ct1 oc2 kV2 dc2 pm2 cd2 ct2 : Value} {tk1 tk2 tk3 tk4 tk5 : Tok}
    (a1 : PySem.W.nsIn K mainGlobals "are_weights" = some (some (.ref f1))) (l1 : K.lookup f1 = some ⟨oc1, od1, .func (PySem.W.fnOf "are_weights" "are_weights" (defArgs sW) (defBody sW) (defScope sW) .none kV1 dc1 pm1 an1 cd1 ct1), sl1⟩) (c1 : PySem.W.codeIn K cd1 "are_weights" = true) (k1 : PySem.W.keepIn K (.ref f1) = true)
    (a2 : PySem.W.nsIn K mainGlobals "forgot" = some (some (.ref f2))) (l2 : K.lookup f2 = some ⟨oc2, od2, .func (PySem.W.fnOf "forgot" "forgot" (defArgs sF) (defBody sF) (defScope sF) .none kV2 dc2 pm2 an2 cd2 ct2), sl2⟩) (c2 : PySem.W.codeIn K cd2 "forgot" = true) (k2 : PySem.W.keepIn K (.ref f2) = true)
    (g1 : PySem.W.nsIn K mainGlobals "MOST_THINGS" = some (some (.int 5 tk1))) (g2 : PySem.W.nsIn K mainGlobals "MOST_WEIGHT" = some (some (.int 1000 tk2))) (g3 : PySem.W.nsIn K mainGlobals "NOT_AS_TOLD" = some (some (.int (-22) tk3))) (g4 : PySem.W.nsIn K mainGlobals "NO_SUCH_THING" = some (some (.int (-2) tk4))) (g5 : PySem.W.nsIn K mainGlobals "NO_THING_LEFT" = some (some (.int (-33) tk5)))
    (z1 : PySem.W.nsIn K mainGlobals "len" = some none) (z2 : PySem.W.nsIn K mainGlobals "all" = some none) (z3 : PySem.W.nsIn K mainGlobals "range" = some none) (z4 : PySem.W.nsIn K mainGlobals "zip" = some none) (z5 : PySem.W.nsIn K mainGlobals "sum" = some none) :
    ∃ fd : FuncData, (∀ (s : Shared) (us : List Value), us.length = (["n", "i", "m"] : List Str).length → BindsTo s fd ⟨us, []⟩ ((["n", "i", "m"] : List Str).zip us)) ∧ ∀ base : Heap, K.In base → base.Ns mainGlobals mg → FnOk P w K mg base CX0 2 fa fd ["n", "i", "m"] (spF K) := by
  have e := hfa.symm.trans (PySem.W.mg_of X G a2)
  cases e
  have T : Txt mg := ⟨⟨_, PySem.W.mg_of X G g1⟩, ⟨_, PySem.W.mg_of X G g2⟩, ⟨_, PySem.W.mg_of X G g3⟩, PySem.W.mg_none_of X G z1, PySem.W.mg_none_of X G z2, PySem.W.mg_none_of X G z3, PySem.W.mg_none_of X G z4, PySem.W.mg_none_of X G z5⟩
  have F1 := fun_mk (st := sW) l1 c1 k1
  have F2 := fun_mk (st := sF) l2 c2 k2
  have b1 := F1.binds (ps := ["n", "row"]) fun _ _ _ _ _ _ us hl => match us, hl with | [_, _], _ => rfl
  exact ⟨PySem.W.fnOf "forgot" "forgot" (defArgs sF) (defBody sF) (defScope sF) .none kV2 dc2 pm2 an2 cd2 ct2, fun s us hu => match us, hu with | [_, _, _], _ => .of_eq rfl, fun base _ _ => ok_f F2 T ⟨F1, b1, PySem.W.mg_of X G a1⟩ ⟨_, PySem.W.mg_of X G g4⟩ ⟨_, PySem.W.mg_of X G g5⟩⟩
end Wt
open PySem PySem.W PyProof.Rows
set_option maxRecDepth 100000 in
set_option maxHeartbeats 8000000 in
theorem PySem.Challenge.cw_weightstogether_s09_forgot_holds : PySem.Challenge.rw_weightstogether_s09_forgot.Holds := by
  w_on; k_headS; (case hw => exact ⟨[.int 0, .int 0, .list []], by decide +kernel, by decide +kernel⟩)
  k_fillS
  refine L2.walk_specK (r := PySem.Challenge.rw_weightstogether_s09_forgot) (k := 2) (CX := L2.CX0) (ps := ["n", "i", "m"]) (sp := Wt.spF) (by decide +kernel) rfl rfl ⟨rfl, by decide, by decide⟩ (fun w h Y => PySem.W.kIn_of Y) ?F ?S (fun _ _ _ _ z => z)
  case F =>
    intro w mg fa h Y KX G hmg
    refine' Wt.all_mk KX G hmg ?a1 ?l1 ?c1 ?k1 ?a2 ?l2 ?c2 ?k2 ?g1 ?g2 ?g3 ?g4 ?g5 ?z1 ?z2 ?z3 ?z4 ?z5
    (case a1 => k_is)
    (case l1 => k_is)
    (case c1 => k_is)
    (case k1 => k_is)
    (case a2 => k_is)
    (case l2 => k_is)
    (case c2 => k_is)
    (case k2 => k_is)
    (case g1 => k_is)
    (case g2 => k_is)
    (case g3 => k_is)
    (case g4 => k_is)
    (case g5 => k_is)
    (case z1 => k_is)
    (case z2 => k_is)
    (case z3 => k_is)
    (case z4 => k_is)
    (case z5 => k_is)
  case S =>
    intro K H xs a hO hwi hask hx
    obtain ⟨n, i, m1, u⟩ := a
    cases hx with
    | cons h1 r1 =>
      cases h1
      cases r1 with
      | cons h2 r2 =>
        cases h2
        cases r2 with
        | cons h3 r3 =>
          cases r3
          cases h3 with
          | lst s1 d1 =>
            have e1 := L2.ints_dw m1 _ d1
            subst e1
            have q : (Codec.inInt 0 4294967295 n && (Codec.inInt 0 4294967295 i && ((Codec.inLen 0 40 m1 && m1.all (Codec.inInt 0 4294967295)) && true))) = true := hwi
            simp only [Bool.and_eq_true] at q
            exact ⟨n, i, _, m1, rfl, s1, (Codec.inNat_iff.mp q.2.2.1.1).2, ⟨(Codec.inInt_iff.mp q.1).1, (Codec.inInt_iff.mp q.2.1).1⟩, fun x hx => (Codec.inInt_iff.mp (List.all_eq_true.mp q.2.2.1.2 x hx)).1, fun H' p hp => .lst (L2.SqL.of hp) (L2.dw_ints _)⟩
