import PyProof.Rows.All
import Wide.All
import OpenK.AllK
import Wide.FinOn
import PyProof.EqAt
import PyProof.EqKinds
import PyProof.TupleCall
import KE.BitLaws
import KE.OsGo
import KE.OsArgs
import PyProof.P3In
import PySem.Challenge.RW_framelink_s01_answers
set_option Elab.async false
set_option linter.all false
set_option maxRecDepth 100000
section
namespace FL
open Sf82
/-! ### bits and bytes -/
theorem xor_and (a b : Nat) : (a ^^^ b) + 2 * (a &&& b) = a + b := by
  induction a using Nat.strongRecOn generalizing b with
  | ind a ih =>
    by_cases h : a = 0
    · subst h; simp
    · have e := ih (a / 2) (by omega) (b / 2)
      have x1 : (a ^^^ b) / 2 = a / 2 ^^^ b / 2 := Nat.xor_div_two
      have x2 : (a &&& b) / 2 = a / 2 &&& b / 2 := Nat.and_div_two
      have x3 : decide ((a ^^^ b) % 2 = 1) = (decide (a % 2 = 1) ^^ decide (b % 2 = 1)) := by
        rw [← Nat.testBit_zero, ← Nat.testBit_zero, ← Nat.testBit_zero, Nat.testBit_xor]
      have x4 : decide ((a &&& b) % 2 = 1) = (decide (a % 2 = 1) && decide (b % 2 = 1)) := by
        rw [← Nat.testBit_zero, ← Nat.testBit_zero, ← Nat.testBit_zero, Nat.testBit_and]
      rw [← x1, ← x2] at e
      generalize (a ^^^ b) = x at *
      generalize (a &&& b) = y at *
      rcases Nat.mod_two_eq_zero_or_one a with h1 | h1 <;> rcases Nat.mod_two_eq_zero_or_one b with h2 | h2 <;> simp [h1, h2] at x3 x4 <;> omega
def stp (x : Nat) : Nat := x / 2 ^^^ (if x % 2 = 1 then 0x82F63B78 else 0)
theorem stp_eq (x : Nat) : stp x = if x % 2 = 1 then x / 2 ^^^ 0x82F63B78 else x / 2 := by
  unfold stp
  split <;> simp
theorem bitsOn_stp : ∀ (n x : Nat), bitsOn (n + 1) x = stp (bitsOn n x)
  | 0, x => by
    show bitsOn 0 _ = _
    rw [stp_eq]; rfl
  | n + 1, x => by
    show bitsOn (n + 1) _ = stp (bitsOn n _)
    exact bitsOn_stp n _
theorem bitsOn_step (n x : Nat) : bitsOn (n + 1) x = bitsOn n (stp x) := by
  show bitsOn n _ = _
  rw [stp_eq]
theorem stp_lt {x : Nat} (h : x < 2 ^ 32) : stp x < 2 ^ 32 := by
  unfold stp
  refine Nat.xor_lt_two_pow (by omega) ?_
  split <;> decide
theorem bitsOn_lt : ∀ (n : Nat) {x : Nat}, x < 2 ^ 32 → bitsOn n x < 2 ^ 32
  | 0, x, h => h
  | n + 1, x, h => by rw [bitsOn_stp]; exact stp_lt (bitsOn_lt n h)
def crcF (x : Nat) (c : UInt8) : Nat := bitsOn 8 (x ^^^ c.toNat)
def crcAcc (b : Bytes) : Nat := b.foldl crcF 0xFFFFFFFF
theorem crc_eq (b : Bytes) : crc b = crcAcc b ^^^ 0xFFFFFFFF := rfl
theorem crcF_lt {x : Nat} (c : UInt8) (h : x < 2 ^ 32) : crcF x c < 2 ^ 32 :=
  bitsOn_lt 8 (Nat.xor_lt_two_pow h (Nat.lt_trans (UInt8.toNat_lt c) (by decide)))
theorem fold_lt : ∀ (b : Bytes) {x : Nat}, x < 2 ^ 32 → b.foldl crcF x < 2 ^ 32
  | [], x, h => h
  | c :: r, x, h => fold_lt r (crcF_lt c h)
theorem crc_lt (b : Bytes) : crc b < 2 ^ 32 := Nat.xor_lt_two_pow (fold_lt b (by decide)) (by decide)
theorem crcAcc_take {b : Bytes} {i : Nat} {c : UInt8} (h : b[i]? = some c) : crcAcc (b.take (i + 1)) = crcF (crcAcc (b.take i)) c := by
  unfold crcAcc
  rw [List.take_add_one, h]
  simp [List.foldl_append]
theorem crcAcc_lt (b : Bytes) : crcAcc b < 2 ^ 32 := fold_lt b (by decide)
def numF (x : Nat) (c : UInt8) : Nat := 256 * x + c.toNat
theorem number_eq (b : Bytes) : number b = b.foldl numF 0 := rfl
theorem number_take {b : Bytes} {i : Nat} {c : UInt8} (h : b[i]? = some c) : number (b.take (i + 1)) = number (b.take i) * 256 + c.toNat := by
  rw [number_eq, number_eq, List.take_add_one, h]
  simp [List.foldl_append, numF]
  omega
theorem be_length : ∀ (n x : Nat), (be n x).length = n
  | 0, _ => rfl
  | n + 1, x => by show (be n x).length + 1 = n + 1; rw [be_length]
theorem be_get : ∀ (n x k : Nat), k < n → (be n x)[k]? = some (UInt8.ofNat (x / 256 ^ (n - 1 - k) % 256))
  | n + 1, x, 0, _ => by simp [be]
  | n + 1, x, k + 1, h => by
    show (be n x)[k]? = _
    rw [be_get n x k (by omega), show n + 1 - 1 - (k + 1) = n - 1 - k by omega]
theorem fold_be : ∀ (n x a : Nat), (be n x).foldl numF a = a * 256 ^ n + x % 256 ^ n
  | 0, x, a => by simp [be, Nat.mod_one]
  | n + 1, x, a => by
    show (be n x).foldl numF (numF a (UInt8.ofNat (x / 256 ^ n % 256))) = _
    rw [fold_be n x]
    unfold numF
    have e : (UInt8.ofNat (x / 256 ^ n % 256)).toNat = x / 256 ^ n % 256 := by
      rw [UInt8.toNat_ofNat']
      exact Nat.mod_eq_of_lt (Nat.mod_lt _ (by decide))
    rw [e, Nat.pow_succ, Nat.mod_mul]
    generalize 256 ^ n = p
    rw [Nat.add_mul, Nat.mul_assoc, Nat.mul_comm 256 (a * p), Nat.mul_assoc a p 256]
    rw [Nat.mul_comm (x / p % 256) p]
    omega
theorem number_be (n x : Nat) : number (be n x) = x % 256 ^ n := by
  rw [number_eq, fold_be]; simp
theorem fold_lin : ∀ (b : Bytes) (a : Nat), b.foldl numF a = a * 256 ^ b.length + b.foldl numF 0
  | [], a => by simp
  | c :: r, a => by
    show r.foldl numF (numF a c) = _ + r.foldl numF (numF 0 c)
    rw [fold_lin r, fold_lin r (numF 0 c)]
    unfold numF
    rw [List.length_cons, Nat.pow_succ]
    generalize 256 ^ r.length = p
    rw [Nat.add_mul, Nat.mul_zero, Nat.zero_add, Nat.mul_comm 256 a, Nat.mul_assoc, Nat.mul_comm 256 p]
    omega
theorem number_lt : ∀ (b : Bytes), number b < 256 ^ b.length
  | [] => by decide
  | c :: r => by
    have h := number_lt r
    rw [number_eq] at h ⊢
    show r.foldl numF (numF 0 c) < _
    rw [fold_lin]
    have hc := UInt8.toNat_lt c
    have e0 : numF 0 c = c.toNat := by simp [numF]
    rw [e0, List.length_cons, Nat.pow_succ]
    generalize 256 ^ r.length = p at *
    have : c.toNat * p + p ≤ 256 * p := by
      rw [← Nat.succ_mul]
      exact Nat.mul_le_mul_right _ (by omega)
    omega
theorem be_mod : ∀ (n x y : Nat), x % 256 ^ n = y % 256 ^ n → be n x = be n y
  | 0, _, _, _ => rfl
  | n + 1, x, y, h => by
    show UInt8.ofNat (x / 256 ^ n % 256) :: be n x = UInt8.ofNat (y / 256 ^ n % 256) :: be n y
    rw [Nat.pow_succ] at h
    have h1 : x % 256 ^ n = y % 256 ^ n := by
      have := congrArg (· % 256 ^ n) h
      simpa [Nat.mod_mul_right_mod] using this
    have h2 : x / 256 ^ n % 256 = y / 256 ^ n % 256 := by
      rw [Nat.mod_mul, Nat.mod_mul, h1] at h
      have hp : 0 < 256 ^ n := Nat.pow_pos (by decide)
      exact Nat.eq_of_mul_eq_mul_left hp (by omega)
    rw [be_mod n x y h1, h2]
theorem be_number : ∀ (b : Bytes), be b.length (number b) = b
  | [] => rfl
  | c :: r => by
    have e : number (c :: r) = c.toNat * 256 ^ r.length + number r := by
      rw [number_eq, number_eq]
      show r.foldl numF (numF 0 c) = _
      rw [fold_lin]
      simp [numF]
    have hl := number_lt r
    have hp : 0 < 256 ^ r.length := Nat.pow_pos (by decide)
    show UInt8.ofNat (number (c :: r) / 256 ^ r.length % 256) :: be r.length (number (c :: r)) = c :: r
    have e1 : number (c :: r) / 256 ^ r.length % 256 = c.toNat := by
      rw [e, Nat.add_comm, Nat.add_mul_div_right _ _ hp, Nat.div_eq_of_lt hl, Nat.zero_add]
      exact Nat.mod_eq_of_lt (UInt8.toNat_lt c)
    have e2 : be r.length (number (c :: r)) = be r.length (number r) := by
      refine be_mod _ _ _ ?_
      rw [e, Nat.add_comm, Nat.add_mul_mod_self_right]
    rw [e1, e2, be_number r]
    simp
/-- the sum's two tests are one -/
theorem sum_iff {c : Nat} {l : Bytes} (hc : c < 2 ^ 32) (hl : l.length = 4) : number l = c ↔ be 4 c = l := by
  constructor
  · intro h
    rw [← h, ← hl, be_number]
  · intro h
    rw [← h, number_be]
    exact Nat.mod_eq_of_lt (by simpa using hc)
end FL
end
section
namespace FL
open Sf82
/-! ### one of several changed -/
theorem changed_get {α : Type} (l : List α) (k j : Nat) (f : α → α) : (changed l k f)[j]? = if j = k then (l[j]?).map f else l[j]? := by
  unfold changed
  rw [List.getElem?_map, List.getElem?_zipIdx]
  cases h : l[j]? with
  | none => simp
  | some x =>
    by_cases e : j = k
    · simp [e]
    · simp [e]
theorem changed_length {α : Type} (l : List α) (k : Nat) (f : α → α) : (changed l k f).length = l.length := by
  unfold changed; simp
theorem changed_id {α : Type} (l : List α) (k : Nat) (f : α → α) (h : ∀ x, f x = x) : changed l k f = l := by
  refine List.ext_getElem? fun j => ?_
  rw [changed_get]
  split
  · cases l[j]? <;> simp [h]
  · rfl
theorem changed_two {α : Type} (l : List α) (k : Nat) (f g : α → α) : changed (changed l k f) k g = changed l k fun x => g (f x) := by
  refine List.ext_getElem? fun j => ?_
  rw [changed_get, changed_get, changed_get]
  split
  · cases l[j]? <;> rfl
  · rfl
theorem changed_set {α : Type} (l : List α) (k : Nat) (f : α → α) (x : α) (h : l[k]? = some x) : changed l k f = l.set k (f x) := by
  refine List.ext_getElem? fun j => ?_
  have hk : k < l.length := (List.getElem?_eq_some_iff.mp h).1
  rw [changed_get, List.getElem?_set]
  by_cases e : j = k
  · subst e
    rw [if_pos rfl, if_pos rfl, if_pos hk, h]
    rfl
  · rw [if_neg e, if_neg (Ne.symm e)]
theorem set_changed {α : Type} (l : List α) (k : Nat) (x y : α) (h : l[k]? = some x) : l.set k y = changed l k fun _ => y := (changed_set l k (fun _ => y) x h).symm
theorem count_zero (s : S) (k : Nat) : s.counted k 0 = s := by
  unfold S.counted
  rw [changed_id s.count k (fun x => x + 0) (fun x => rfl)]
theorem count_add (s : S) (k a b : Nat) : (s.counted k a).counted k b = s.counted k (a + b) := by
  unfold S.counted
  show ({ s with count := _ } : S) = { s with count := _ }
  rw [changed_two]
  congr 1
  congr 1
  funext x
  exact Nat.add_assoc x a b

/-! ### time passes, one queue after another -/
/-- what a queue keeps -/
def freshQ (s : S) (now q : Nat) (x : Queue) : Queue := { x with items := s.fresh now q x.items }
def lost (s : S) (now q : Nat) (x : Queue) : Nat := x.items.length - (s.fresh now q x.items).length
theorem fresh_le (s : S) (now q : Nat) (l : List Item) : (s.fresh now q l).length ≤ l.length := by
  unfold S.fresh
  split
  · exact Nat.le_refl _
  · cases l with
    | nil => exact Nat.le_refl _
    | cons i r =>
      show ((if s.handed = some q ∨ now ≤ i.since + s.life then [i] else []) ++ r.filter _).length ≤ r.length + 1
      rw [List.length_append]
      have h := List.length_filter_le (fun (j : Item) => decide (now ≤ j.since + s.life)) r
      split <;> simp <;> omega
def later (s : S) (now : Nat) : S := { s with may := min (1000 * s.burst) (s.may + s.rate * (now - s.last)), last := now }
/-- a queue's old frames gone -/
def remOld (s : S) (q : Nat) : S := ({ s with queues := changed s.queues q (freshQ s s.last q) } : S).counted 8 (((s.queues[q]?).map (lost s s.last q)).getD 0)
/-- as far as the i-th queue -/
def partQ (s : S) (now i : Nat) : List Queue := s.queues.zipIdx.map fun x => if x.2 < i then freshQ s now x.2 x.1 else x.1
def partN (s : S) (now i : Nat) : Nat := ((s.queues.zipIdx.take i).map fun x => lost s now x.2 x.1).sum
def part (s : S) (now i : Nat) : S := ({ later s now with queues := partQ s now i } : S).counted 8 (partN s now i)
theorem partQ_get (s : S) (now i j : Nat) : (partQ s now i)[j]? = (s.queues[j]?).map fun x => if j < i then freshQ s now j x else x := by
  unfold partQ
  rw [List.getElem?_map, List.getElem?_zipIdx]
  cases s.queues[j]? <;> simp
theorem partQ_length (s : S) (now i : Nat) : (partQ s now i).length = s.queues.length := by
  unfold partQ; simp
theorem part_zero (s : S) (now : Nat) : part s now 0 = later s now := by
  unfold part
  have e1 : partQ s now 0 = s.queues := by
    refine List.ext_getElem? fun j => ?_
    rw [partQ_get]
    cases s.queues[j]? <;> simp
  have e2 : partN s now 0 = 0 := by unfold partN; simp
  rw [e1, e2, count_zero]
  rfl
theorem fresh_same {s t : S} (h1 : t.life = s.life) (h2 : t.handed = s.handed) (now q : Nat) (l : List Item) : t.fresh now q l = s.fresh now q l := by
  unfold S.fresh
  rw [h1, h2]
theorem freshQ_same {s t : S} (h1 : t.life = s.life) (h2 : t.handed = s.handed) (now q : Nat) : freshQ t now q = freshQ s now q := by
  funext x
  unfold freshQ
  rw [fresh_same h1 h2]
theorem lost_same {s t : S} (h1 : t.life = s.life) (h2 : t.handed = s.handed) (now q : Nat) : lost t now q = lost s now q := by
  funext x
  unfold lost
  rw [fresh_same h1 h2]
theorem part_step {s : S} {now i : Nat} (hi : i < s.queues.length) : remOld (part s now i) i = part s now (i + 1) := by
  have hl : (part s now i).life = s.life := rfl
  have hh : (part s now i).handed = s.handed := rfl
  have hn : (part s now i).last = now := rfl
  have hq : (part s now i).queues = partQ s now i := rfl
  unfold remOld
  rw [hn, freshQ_same hl hh, lost_same hl hh, hq]
  have hx : s.queues[i]? = some s.queues[i] := List.getElem?_eq_getElem hi
  have e1 : changed (partQ s now i) i (freshQ s now i) = partQ s now (i + 1) := by
    refine List.ext_getElem? fun j => ?_
    rw [changed_get, partQ_get, partQ_get]
    cases s.queues[j]? with
    | none => simp
    | some x =>
      by_cases e : j = i
      · subst e; simp
      · rw [if_neg e]
        have : (j < i) = (j < i + 1) := by apply propext; omega
        simp [this]
  have e2 : (((partQ s now i)[i]?).map (lost s now i)).getD 0 = lost s now i s.queues[i] := by
    rw [partQ_get, hx]; simp
  have e3 : partN s now i + lost s now i s.queues[i] = partN s now (i + 1) := by
    unfold partN
    have hz : s.queues.zipIdx[i]? = some (s.queues[i], i) := by rw [List.getElem?_zipIdx, hx]; simp
    rw [List.take_add_one, hz]
    simp
  rw [e1, e2]
  show (({ later s now with queues := partQ s now (i + 1) } : S).counted 8 (partN s now i)).counted 8 _ = ({ later s now with queues := partQ s now (i + 1) } : S).counted 8 (partN s now (i + 1))
  rw [count_add, e3]
theorem sum_lost : ∀ (l : List (Queue × Nat)) (s : S) (now : Nat), (l.map fun x => lost s now x.2 x.1).sum = (l.map fun x => x.1.items.length).sum - (l.map fun x => (freshQ s now x.2 x.1).items.length).sum ∧ (l.map fun x => (freshQ s now x.2 x.1).items.length).sum ≤ (l.map fun x => x.1.items.length).sum
  | [], _, _ => ⟨rfl, Nat.le_refl _⟩
  | x :: r, s, now => by
    obtain ⟨h1, h2⟩ := sum_lost r s now
    have h3 : (freshQ s now x.2 x.1).items.length ≤ x.1.items.length := fresh_le s now x.2 x.1.items
    simp only [List.map_cons, List.sum_cons]
    have h4 : lost s now x.2 x.1 = x.1.items.length - (freshQ s now x.2 x.1).items.length := rfl
    omega
theorem part_all (s : S) (now : Nat) : part s now s.queues.length = s.tick now := by
  have e1 : partQ s now s.queues.length = s.queues.zipIdx.map fun (x : Queue × Nat) => { x.1 with items := s.fresh now x.2 x.1.items } := by
    unfold partQ
    refine List.map_congr_left fun x hx => ?_
    have := List.snd_lt_of_mem_zipIdx hx
    rw [if_pos (by simpa using this)]
    rfl
  have e2 : partN s now s.queues.length = (s.queues.map fun (x : Queue) => x.items.length).sum - ((s.queues.zipIdx.map fun (x : Queue × Nat) => ({ x.1 with items := s.fresh now x.2 x.1.items } : Queue)).map fun (x : Queue) => x.items.length).sum := by
    unfold partN
    have ht : s.queues.zipIdx.take s.queues.length = s.queues.zipIdx := by rw [List.take_of_length_le]; simp
    rw [ht, (sum_lost s.queues.zipIdx s now).1]
    have e3 : (s.queues.zipIdx.map fun x => x.1.items.length) = s.queues.map fun (x : Queue) => x.items.length := by
      have : s.queues = s.queues.zipIdx.map Prod.fst := by simp
      conv => rhs; rw [this, List.map_map]
      rfl
    rw [e3, List.map_map]
    rfl
  unfold part S.tick
  rw [e1, e2]
  rfl
theorem tick_life0 (s : S) (now : Nat) (h : s.life = 0) : s.tick now = later s now := by
  rw [← part_all]
  have hf : ∀ q l, s.fresh now q l = l := fun q l => by unfold S.fresh; rw [if_pos h]
  have e1 : partQ s now s.queues.length = s.queues := by
    refine List.ext_getElem? fun j => ?_
    rw [partQ_get]
    cases s.queues[j]? with
    | none => rfl
    | some x =>
      have : freshQ s now j x = x := by unfold freshQ; rw [hf]
      simp [this]
  have e2 : partN s now s.queues.length = 0 := by
    unfold partN
    have : ∀ l : List (Queue × Nat), (l.map fun x => lost s now x.2 x.1).sum = 0 := by
      intro l
      induction l with
      | nil => rfl
      | cons x r ih =>
        rw [List.map_cons, List.sum_cons, ih]
        unfold lost
        rw [hf]
        omega
    exact this _
  unfold part
  rw [e1, e2, count_zero]
  rfl
end FL
end
section
namespace FL
open Sf82
/-! ### whose turn it is, step by step -/
/-- the queue that is on gets what it is due; whether it's its turn -/
def tried (s : S) : Bool × S := match s.queues[s.turn]? with
  | none => (false, s)
  | some x => match x.items with
    | [] => (false, { s with queues := s.queues.set s.turn { x with credit := 0 } })
    | i :: _ =>
      let c := if s.given = true then x.credit else x.credit + QUANTUM * x.weight
      (decide (i.bytes.length ≤ c), { s with queues := s.queues.set s.turn { x with credit := c }, given := true })
def onward (s : S) : S := { s with turn := (s.turn + 1) % s.queues.length, given := false }
theorem tried_len (s : S) : (tried s).2.queues.length = s.queues.length := by
  unfold tried
  cases s.queues[s.turn]? with
  | none => rfl
  | some x =>
    dsimp only
    cases x.items with
    | nil => simp
    | cons i r => simp
theorem tried_turn (s : S) : (tried s).2.turn = s.turn := by
  unfold tried
  cases s.queues[s.turn]? with
  | none => rfl
  | some x =>
    dsimp only
    cases x.items with
    | nil => rfl
    | cons i r => rfl
theorem pick_tried {f : Nat} {s : S} (h : s.turn < s.queues.length) : S.pick (f + 1) s = if (tried s).1 = true then (some s.turn, (tried s).2) else S.pick f (onward (tried s).2) := by
  obtain ⟨x, hx⟩ : ∃ x, s.queues[s.turn]? = some x := ⟨_, List.getElem?_eq_getElem h⟩
  obtain ⟨w, c, l⟩ := x
  unfold tried onward
  rw [S.pick, hx]
  dsimp only
  cases l with
  | nil => simp
  | cons i r =>
    dsimp only
    by_cases hc : i.bytes.length ≤ (if s.given = true then c else c + QUANTUM * w)
    · simp [hc]
    · simp [hc]
/-- how many tries are left at most, by the j-th queue -/
def mu (s : S) (j : Nat) : Nat := s.queues.length * ((1773 - ((s.queues[j]?).map (·.credit)).getD 0) / 256 + (if s.turn = j ∧ s.given = true then 1 else 0)) + (j + s.queues.length - s.turn) % s.queues.length
structure Fair (s : S) (j : Nat) : Prop where
  on : s.turn < s.queues.length
  there : ∃ x i r, s.queues[j]? = some x ∧ x.items = i :: r ∧ i.bytes.length ≤ 1518 ∧ 1 ≤ x.weight
theorem dist_on {n j t : Nat} (ht : t < n) (hj : j < n) (h : t ≠ j) : (j + n - (t + 1) % n) % n + 1 = (j + n - t) % n := by
  rcases Nat.lt_or_ge (t + 1) n with h1 | h1
  · rw [Nat.mod_eq_of_lt h1]
    rcases Nat.lt_or_ge t j with h2 | h2
    · have e1 : j + n - (t + 1) = (j - (t + 1)) + n := by omega
      have e2 : j + n - t = (j - t) + n := by omega
      rw [e1, e2, Nat.add_mod_right, Nat.add_mod_right, Nat.mod_eq_of_lt (by omega), Nat.mod_eq_of_lt (by omega)]
      omega
    · rw [Nat.mod_eq_of_lt (by omega), Nat.mod_eq_of_lt (by omega)]
      omega
  · have e : t + 1 = n := by omega
    rw [e, Nat.mod_self, Nat.sub_zero, Nat.add_mod_right, Nat.mod_eq_of_lt hj]
    have e2 : j + n - t = j + 1 := by omega
    rw [e2, Nat.mod_eq_of_lt (by omega)]
theorem mu_falls {s : S} {j : Nat} (F : Fair s j) (h : (tried s).1 = false) : Fair (onward (tried s).2) j ∧ mu (onward (tried s).2) j < mu s j := by
  obtain ⟨on, x, i, r, hx, hi, hl, hw⟩ := F
  have hj : j < s.queues.length := (List.getElem?_eq_some_iff.mp hx).1
  have hn : (tried s).2.queues.length = s.queues.length := tried_len s
  have ht : (tried s).2.turn = s.turn := tried_turn s
  have hpos : 0 < s.queues.length := by omega
  have on' : (s.turn + 1) % s.queues.length < s.queues.length := Nat.mod_lt _ hpos
  have eon : (onward (tried s).2).turn = (s.turn + 1) % s.queues.length := by
    show ((tried s).2.turn + 1) % (tried s).2.queues.length = _
    rw [hn, ht]
  have elen : (onward (tried s).2).queues.length = s.queues.length := hn
  have egiv : (onward (tried s).2).given = false := rfl
  by_cases e : s.turn = j
  · -- the queue itself was tried, and failed
    subst e
    have q : (tried s) = (decide (i.bytes.length ≤ (if s.given = true then x.credit else x.credit + QUANTUM * x.weight)), { s with queues := s.queues.set s.turn { x with credit := (if s.given = true then x.credit else x.credit + QUANTUM * x.weight) }, given := true }) := by
      unfold tried
      rw [hx]
      dsimp only
      rw [hi]
    generalize hc : (if s.given = true then x.credit else x.credit + QUANTUM * x.weight) = c at q
    have hlt : c < i.bytes.length := by
      rw [q] at h
      have := of_decide_eq_false h
      omega
    have hget : (onward (tried s).2).queues[s.turn]? = some { x with credit := c } := by
      show (tried s).2.queues[s.turn]? = _
      rw [q]
      exact List.getElem?_set_self on
    refine ⟨⟨by rw [eon, elen]; exact on', { x with credit := c }, i, r, hget, hi, hl, hw⟩, ?_⟩
    unfold mu
    rw [eon, elen, hget, egiv, hx]
    simp only [Option.map_some, Option.getD_some, Bool.false_eq_true, and_false, if_false, Nat.add_zero, true_and]
    have d0 : (s.turn + s.queues.length - s.turn) % s.queues.length = 0 := by
      rw [show s.turn + s.queues.length - s.turn = s.queues.length by omega, Nat.mod_self]
    rw [d0]
    have d1 : (s.turn + s.queues.length - (s.turn + 1) % s.queues.length) % s.queues.length < s.queues.length := Nat.mod_lt _ hpos
    generalize (s.turn + s.queues.length - (s.turn + 1) % s.queues.length) % s.queues.length = d at *
    have key : (1773 - c) / 256 + 1 ≤ (1773 - x.credit) / 256 + (if s.given = true then 1 else 0) := by
      cases hg : s.given with
      | true =>
        rw [hg] at hc
        simp at hc
        simp
        omega
      | false =>
        rw [hg] at hc
        simp [QUANTUM] at hc
        simp
        have : x.credit + 256 ≤ c := by
          have := Nat.mul_le_mul_left 256 hw
          omega
        omega
    have key2 := Nat.mul_le_mul_left s.queues.length key
    rw [Nat.mul_add, Nat.mul_one] at key2
    omega
  · -- another
    have hget : (onward (tried s).2).queues[j]? = some x := by
      show (tried s).2.queues[j]? = _
      unfold tried
      cases s.queues[s.turn]? with
      | none => exact hx
      | some y =>
        dsimp only
        cases y.items with
        | nil => rw [List.getElem?_set_ne e]; exact hx
        | cons a b => dsimp only; rw [List.getElem?_set_ne e]; exact hx
    refine ⟨⟨by rw [eon, elen]; exact on', x, i, r, hget, hi, hl, hw⟩, ?_⟩
    unfold mu
    rw [eon, elen, hget, egiv, hx]
    simp only [Option.map_some, Option.getD_some, Bool.false_eq_true, and_false, if_false, Nat.add_zero]
    have d := dist_on on hj e
    have hif : (if s.turn = j ∧ s.given = true then 1 else 0) = 0 := if_neg fun q => e q.1
    rw [hif]
    simp only [Nat.add_zero]
    omega
theorem mu_first {s : S} {j : Nat} (h8 : s.queues.length ≤ 8) (hp : 0 < s.queues.length) : mu s j < 100 := by
  unfold mu
  have h1 : (j + s.queues.length - s.turn) % s.queues.length < s.queues.length := Nat.mod_lt _ hp
  have h2 : (1773 - ((s.queues[j]?).map (·.credit)).getD 0) / 256 + (if s.turn = j ∧ s.given = true then 1 else 0) ≤ 7 := by
    have : (1773 - ((s.queues[j]?).map (·.credit)).getD 0) / 256 ≤ 6 := by omega
    split <;> omega
  have h3 := Nat.mul_le_mul h8 h2
  omega
theorem not_idle {s : S} (h : ¬ (s.queues.all fun (x : Queue) => x.items.isEmpty) = true) : ∃ (j : Nat) (x : Queue) (i : Item) (r : List Item), s.queues[j]? = some x ∧ x.items = i :: r := by
  rw [List.all_eq_true] at h
  have : ∃ x ∈ s.queues, x.items.isEmpty = false := by
    refine Classical.byContradiction fun q => h fun x hx => ?_
    refine Classical.byContradiction fun q2 => q ⟨x, hx, by simpa using q2⟩
  obtain ⟨x, hx, he⟩ := this
  obtain ⟨j, hj⟩ := List.getElem?_of_mem hx
  cases hi : x.items with
  | nil => rw [hi] at he; cases he
  | cons i r => exact ⟨j, x, i, r, hj, hi⟩
end FL
end
section
namespace FL
open Sf82
/-! ### ends as they are -/
structure ItemOk (s : S) (i : Item) : Prop where
  lo : 19 ≤ i.bytes.length
  hi : i.bytes.length ≤ 1518
  since : i.since ≤ s.last
structure QueueOk (s : S) (x : Queue) : Prop where
  w1 : 1 ≤ x.weight
  w64 : x.weight ≤ 64
  few : x.items.length ≤ s.each
  items : ∀ i ∈ x.items, ItemOk s i
structure Good (s : S) : Prop where
  n1 : 1 ≤ s.queues.length
  n8 : s.queues.length ≤ 8
  on : s.turn < s.queues.length
  e1 : 1 ≤ s.each
  e64 : s.each ≤ 64
  qs : ∀ x ∈ s.queues, QueueOk s x
  life : s.life ≤ 3600000
  rate : s.rate < 2 ^ 32
  b1 : 1518 ≤ s.burst
  b2 : s.burst ≤ 16777216
  may : s.may ≤ 1000 * s.burst
  still : s.rate = 0 → s.may = 1000 * s.burst
  last : s.last < 2 ^ 63
  me : s.me.length = 6
  gs : s.groups.length ≤ 16
  gl : ∀ g ∈ s.groups, g.length = 6
  cnt : s.count.length = 10
  out : ∀ q, s.handed = some q → q = s.turn ∧ ∃ x i r, s.queues[q]? = some x ∧ x.items = i :: r ∧ i.bytes.length ≤ x.credit ∧ (s.rate ≠ 0 → 1000 * i.bytes.length ≤ s.may)
theorem Good.open_ {s : S} (g : Good s) : s.queues ≠ [] := by
  intro e
  have := g.n1
  rw [e] at this
  simp at this
theorem Good.isEmpty {s : S} (g : Good s) : s.queues.isEmpty = false := by
  cases h : s.queues with
  | nil => exact absurd h g.open_
  | cons _ _ => rfl
theorem Good.at_ {s : S} (g : Good s) {j : Nat} {x : Queue} (h : s.queues[j]? = some x) : QueueOk s x := g.qs x (List.mem_of_getElem? h)
theorem good_counted {s : S} (g : Good s) (k n : Nat) : Good (s.counted k n) := by
  obtain ⟨h1, h2, h3, h4, h5, h6, h7, h8, h9, h10, h11, h12, h13, h14, h15, h16, h17, h18⟩ := g
  exact ⟨h1, h2, h3, h4, h5, fun x hx => let ⟨a, b, c, d⟩ := h6 x hx; ⟨a, b, c, fun i hi => let ⟨a, b, c⟩ := d i hi; ⟨a, b, c⟩⟩, h7, h8, h9, h10, h11, h12, h13, h14, h15, h16, by rw [show (s.counted k n).count = changed s.count k (fun (x : Nat) => x + n) from rfl, changed_length]; exact h17, h18⟩
theorem fresh_sub (s : S) (now q : Nat) (l : List Item) : ∀ i ∈ s.fresh now q l, i ∈ l := by
  unfold S.fresh
  split
  · exact fun i h => h
  · cases l with
    | nil => exact fun i h => h
    | cons a r =>
      intro i h
      have h : i ∈ (if s.handed = some q ∨ now ≤ a.since + s.life then [a] else []) ++ r.filter _ := h
      rcases List.mem_append.mp h with h | h
      · split at h
        · rw [List.mem_singleton.mp h]; exact List.mem_cons_self
        · cases h
      · exact List.mem_cons_of_mem _ (List.mem_filter.mp h).1
theorem tick_get (s : S) (now j : Nat) : (s.tick now).queues[j]? = (s.queues[j]?).map (freshQ s now j) := by
  rw [← part_all]
  show (partQ s now s.queues.length)[j]? = _
  rw [partQ_get]
  cases h : s.queues[j]? with
  | none => rfl
  | some x =>
    have := (List.getElem?_eq_some_iff.mp h).1
    simp [this]
theorem tick_length (s : S) (now : Nat) : (s.tick now).queues.length = s.queues.length := by
  show (s.queues.zipIdx.map _).length = _
  simp
theorem tick_may (s : S) (now : Nat) : (s.tick now).may = min (1000 * s.burst) (s.may + s.rate * (now - s.last)) := rfl
theorem tick_last (s : S) (now : Nat) : (s.tick now).last = now := rfl
theorem good_tick {s : S} {now : Nat} (g : Good s) (h1 : s.last ≤ now) (h2 : now < 2 ^ 63) : Good (s.tick now) := by
  have hl := tick_length s now
  refine ⟨by rw [hl]; exact g.n1, by rw [hl]; exact g.n8, by rw [hl]; exact g.on, g.e1, g.e64, fun x hx => ?_, g.life, g.rate, g.b1, g.b2, Nat.min_le_left _ _, fun h0 => ?_, h2, g.me, g.gs, g.gl, ?_, fun q hq => ?_⟩
  · obtain ⟨j, hj⟩ := List.getElem?_of_mem hx
    rw [tick_get] at hj
    cases hy : s.queues[j]? with
    | none => rw [hy] at hj; cases hj
    | some y =>
      rw [hy] at hj
      have e : freshQ s now j y = x := Option.some.inj hj
      subst e
      obtain ⟨a, b, c, d⟩ := g.at_ hy
      refine ⟨a, b, Nat.le_trans (fresh_le s now j y.items) c, fun i hi => ?_⟩
      obtain ⟨p, q, r⟩ := d i (fresh_sub s now j y.items i hi)
      exact ⟨p, q, Nat.le_trans r h1⟩
  · have h0 : s.rate = 0 := h0
    show min (1000 * s.burst) (s.may + s.rate * (now - s.last)) = 1000 * s.burst
    rw [h0, g.still h0, Nat.zero_mul]
    exact Nat.min_self _
  · rw [show (s.tick now).count = changed s.count 8 (fun (x : Nat) => x + _) from rfl, changed_length]; exact g.cnt
  · have hq : s.handed = some q := hq
    obtain ⟨e, x, i, r, hx, hi, hc, hm⟩ := g.out q hq
    refine ⟨e, freshQ s now q x, i, ?_⟩
    have hf : ∃ r', s.fresh now q x.items = i :: r' := by
      unfold S.fresh
      rw [hi]
      by_cases h0 : s.life = 0
      · rw [if_pos h0]; exact ⟨r, rfl⟩
      · rw [if_neg h0]
        dsimp only
        rw [if_pos (Or.inl hq)]
        exact ⟨_, rfl⟩
    obtain ⟨r', hr⟩ := hf
    refine ⟨r', by rw [tick_get, hx]; rfl, hr, hc, fun hn => ?_⟩
    have := hm hn
    show 1000 * i.bytes.length ≤ min (1000 * s.burst) (s.may + s.rate * (now - s.last))
    have := g.may
    rw [Nat.le_min]
    constructor <;> omega
/-! ### turns leave the frames as they are -/
/-- what tries change -/
structure Tried (s t : S) : Prop where
  len : t.queues.length = s.queues.length
  get : ∀ (j : Nat) (x : Queue), s.queues[j]? = some x → ∃ c, t.queues[j]? = some { x with credit := c }
  eq : t = { s with queues := t.queues, turn := t.turn, given := t.given }
theorem Tried.refl (s : S) : Tried s s := ⟨rfl, fun j x h => ⟨x.credit, h⟩, rfl⟩
theorem Tried.trans {s t u : S} (a : Tried s t) (b : Tried t u) : Tried s u :=
  ⟨b.len.trans a.len, fun j x h => by
    obtain ⟨c, h1⟩ := a.get j x h
    obtain ⟨d, h2⟩ := b.get j _ h1
    exact ⟨d, h2⟩, by
    have e1 := a.eq
    have e2 := b.eq
    rw [e1] at e2
    exact e2⟩
theorem tried_ok (s : S) : Tried s (tried s).2 := by
  unfold tried
  cases h : s.queues[s.turn]? with
  | none => exact Tried.refl s
  | some x =>
    have hk := (List.getElem?_eq_some_iff.mp h).1
    obtain ⟨w0, c0, l0⟩ := x
    dsimp only
    have gen : ∀ (c : Nat) (j : Nat) (y : Queue), s.queues[j]? = some y → ∃ d, (s.queues.set s.turn ⟨w0, c, l0⟩)[j]? = some { y with credit := d } := fun c j y hy => by
      by_cases e : s.turn = j
      · subst e
        rw [h] at hy
        cases hy
        exact ⟨c, List.getElem?_set_self hk⟩
      · exact ⟨y.credit, by rw [List.getElem?_set_ne e]; exact hy⟩
    cases l0 with
    | nil => exact ⟨by simp, gen 0, rfl⟩
    | cons i r => exact ⟨by simp, gen _, rfl⟩
theorem onward_ok (s : S) : Tried s (onward s) := ⟨rfl, fun j x h => ⟨x.credit, h⟩, rfl⟩
theorem good_tried {s t : S} (T : Tried s t) (g : Good s) (hh : s.handed = none) (on : t.turn < t.queues.length) : Good t := by
  have e := T.eq
  have hl := T.len
  have hr : t.rate = s.rate := by rw [e]
  have hla : t.last = s.last := by rw [e]
  have hea : t.each = s.each := by rw [e]
  refine ⟨by rw [hl]; exact g.n1, by rw [hl]; exact g.n8, on, by rw [hea]; exact g.e1, by rw [hea]; exact g.e64, fun x hx => ?_, by rw [e]; exact g.life, by rw [hr]; exact g.rate, by rw [e]; exact g.b1, by rw [e]; exact g.b2, by rw [e]; exact g.may, by rw [e]; exact g.still, by rw [hla]; exact g.last, by rw [e]; exact g.me, by rw [e]; exact g.gs, by rw [e]; exact g.gl, by rw [e]; exact g.cnt, fun q hq => ?_⟩
  · obtain ⟨j, hj⟩ := List.getElem?_of_mem hx
    have hj' : j < s.queues.length := by rw [← hl]; exact (List.getElem?_eq_some_iff.mp hj).1
    obtain ⟨c, hc⟩ := T.get j _ (List.getElem?_eq_getElem hj')
    rw [hj] at hc
    cases hc
    obtain ⟨a, b, c, d⟩ := g.at_ (List.getElem?_eq_getElem hj')
    exact ⟨a, b, by rw [hea]; exact c, fun i hi => let ⟨p, q, r⟩ := d i hi; ⟨p, q, by rw [hla]; exact r⟩⟩
  · have : t.handed = s.handed := by rw [e]
    rw [this, hh] at hq
    cases hq
/-- the turn's end: f tries are enough -/
theorem pick_ok : ∀ (f : Nat) {s : S} {j : Nat}, Fair s j → mu s j < f → ∃ t x i r, S.pick f s = (some t.turn, t) ∧ Tried s t ∧ t.turn < t.queues.length ∧ t.given = true ∧ t.queues[t.turn]? = some x ∧ x.items = i :: r ∧ i.bytes.length ≤ x.credit
  | 0, s, j, _, h => absurd h (Nat.not_lt_zero _)
  | f + 1, s, j, F, h => by
    rw [pick_tried F.on]
    cases hb : (tried s).1 with
    | true =>
      rw [if_pos rfl]
      obtain ⟨x, hx⟩ : ∃ x, s.queues[s.turn]? = some x := ⟨_, List.getElem?_eq_getElem F.on⟩
      have ht := tried_turn s
      have hl := tried_len s
      cases hi : x.items with
      | nil =>
        unfold tried at hb
        rw [hx] at hb
        dsimp only at hb
        rw [hi] at hb
        cases hb
      | cons i r =>
        have q : (tried s) = (decide (i.bytes.length ≤ (if s.given = true then x.credit else x.credit + QUANTUM * x.weight)), { s with queues := s.queues.set s.turn { x with credit := (if s.given = true then x.credit else x.credit + QUANTUM * x.weight) }, given := true }) := by
          unfold tried
          rw [hx]
          dsimp only
          rw [hi]
        refine ⟨(tried s).2, { x with credit := (if s.given = true then x.credit else x.credit + QUANTUM * x.weight) }, i, r, by rw [ht], tried_ok s, by rw [ht, hl]; exact F.on, by rw [q], ?_, hi, ?_⟩
        · rw [ht, q]
          exact List.getElem?_set_self F.on
        · rw [q] at hb
          exact of_decide_eq_true hb
    | false =>
      rw [if_neg (by simp)]
      obtain ⟨F', lt⟩ := mu_falls F hb
      obtain ⟨t, x, i, r, h1, h2, h3⟩ := pick_ok f F' (by omega)
      exact ⟨t, x, i, r, h1, ((tried_ok s).trans (onward_ok _)).trans h2, h3⟩
theorem fair_of {s : S} {j : Nat} {x : Queue} {i : Item} {r : List Item} (g : Good s) (hx : s.queues[j]? = some x) (hi : x.items = i :: r) : Fair s j := by
  obtain ⟨a, b, c, d⟩ := g.at_ hx
  exact ⟨g.on, x, i, r, hx, hi, (d i (by rw [hi]; exact List.mem_cons_self)).hi, a⟩
end FL
end
section
namespace FL
open Sf82
/-- a queue of a good end changed -/
theorem good_with {s : S} {q : Nat} {f : Queue → Queue} (g : Good s) (hf : ∀ x, s.queues[q]? = some x → QueueOk s (f x))
    (ho : s.handed = some q → ∀ x i r, s.queues[q]? = some x → x.items = i :: r → i.bytes.length ≤ x.credit → ∃ r', (f x).items = i :: r' ∧ i.bytes.length ≤ (f x).credit) : Good (s.with_ q f) := by
  have hl : (s.with_ q f).queues.length = s.queues.length := changed_length _ _ _
  have hget : ∀ j, (s.with_ q f).queues[j]? = if j = q then (s.queues[j]?).map f else s.queues[j]? := fun j => changed_get _ _ _ _
  refine ⟨by rw [hl]; exact g.n1, by rw [hl]; exact g.n8, by rw [hl]; exact g.on, g.e1, g.e64, fun x hx => ?_, g.life, g.rate, g.b1, g.b2, g.may, g.still, g.last, g.me, g.gs, g.gl, g.cnt, fun k hk => ?_⟩
  · obtain ⟨j, hj⟩ := List.getElem?_of_mem hx
    rw [hget] at hj
    have back : ∀ y, QueueOk s y → QueueOk (s.with_ q f) y := fun y h => ⟨h.w1, h.w64, h.few, fun i hi => let ⟨a, b, c⟩ := h.items i hi; ⟨a, b, c⟩⟩
    split at hj
    · rename_i e
      subst e
      cases hy : s.queues[j]? with
      | none => rw [hy] at hj; cases hj
      | some y =>
        rw [hy] at hj
        have e : f y = x := Option.some.inj hj
        subst e
        exact back _ (hf y hy)
    · exact back _ (g.at_ hj)
  · have hk : s.handed = some k := hk
    obtain ⟨e, x, i, r, hx, hi, hc, hm⟩ := g.out k hk
    by_cases hkq : k = q
    · obtain ⟨r', h1, h2⟩ := ho (by rw [hk, hkq]) x i r (by rw [← hkq]; exact hx) hi hc
      exact ⟨e, f x, i, r', by rw [hget, if_pos hkq, hx]; rfl, h1, h2, hm⟩
    · exact ⟨e, x, i, r, by rw [hget, if_neg hkq]; exact hx, hi, hc, hm⟩
theorem with_get (s : S) (q j : Nat) (f : Queue → Queue) : (s.with_ q f).queues[j]? = if j = q then (s.queues[j]?).map f else s.queues[j]? := changed_get _ _ _ _
theorem with_length (s : S) (q : Nat) (f : Queue → Queue) : (s.with_ q f).queues.length = s.queues.length := changed_length _ _ _
theorem queue_eq {s : S} {q : Nat} {x : Queue} (h : s.queues[q]? = some x) : s.queue q = x.items := by
  unfold S.queue
  rw [h]
  rfl
theorem has_lt {s : S} {q : Int} (h : s.has q = true) : ∃ x, s.queues[q.toNat]? = some x ∧ 0 ≤ q := by
  unfold S.has at h
  simp only [Bool.and_eq_true, decide_eq_true_eq] at h
  have : q.toNat < s.queues.length := by omega
  exact ⟨_, List.getElem?_eq_getElem this, h.1⟩
theorem timeOk_of {s : S} {now : Nat} (h : s.timeOk now = true) : s.last ≤ now ∧ now < 2 ^ 63 := by
  unfold S.timeOk TIMES at h
  simp only [Bool.and_eq_true, decide_eq_true_eq] at h
  exact h.2
theorem timeOk_iff {s : S} (g : Good s) (now : Nat) : s.timeOk now = true ↔ s.last ≤ now ∧ now < 2 ^ 63 := by
  unfold S.timeOk TIMES
  simp [g.isEmpty]
theorem frame_length (t f : Bytes) (k : Nat) (b : Bytes) : (frame t f k b).length = t.length + f.length + b.length + 6 := by
  unfold frame
  simp [be_length]
  omega
theorem not_false_of {b : Bool} (h : ¬ b = false) : b = true := by cases b <;> simp at h ⊢
theorem within_of {z : Int} {lo hi : Nat} (h : within z lo hi = true) : (lo : Int) ≤ z ∧ z ≤ (hi : Int) := by
  unfold within at h
  simpa using h
/-- an end, or none -/
def Live (s : S) : Prop := s = closed ∨ Good s
theorem live_open {s : S} (l : Live s) {now : Nat} {me : Bytes} {q e l' r b : Int} : Live (does s (.open_ now me q e l' r b)).1 := by
  simp only [does]
  split
  · rename_i h
    obtain ⟨h1, h2, h3, h4, h5, h6, h7, h8, h9⟩ := h
    have h4 := within_of h4
    have h5 := within_of h5
    have h6 := within_of h6
    have h9 := within_of h9
    have hq : (List.replicate q.toNat (⟨1, 0, []⟩ : Queue)).length = q.toNat := List.length_replicate
    refine .inr ⟨?_, ?_, ?_, ?_, ?_, fun x hx => ?_, ?_, ?_, ?_, ?_, Nat.le_refl _, fun _ => rfl, h1, h2, Nat.zero_le _, fun g hg => ?_, rfl, fun k hk => ?_⟩
    · show 1 ≤ (List.replicate q.toNat (⟨1, 0, []⟩ : Queue)).length; omega
    · show (List.replicate q.toNat (⟨1, 0, []⟩ : Queue)).length ≤ 8; omega
    · show 0 < (List.replicate q.toNat (⟨1, 0, []⟩ : Queue)).length; omega
    · show 1 ≤ e.toNat; omega
    · show e.toNat ≤ 64; omega
    · have hx : x ∈ List.replicate q.toNat (⟨1, 0, []⟩ : Queue) := hx
      rw [(List.mem_replicate.mp hx).2]
      exact ⟨Nat.le_refl _, by show 1 ≤ 64; omega, Nat.zero_le _, fun i hi => by cases hi⟩
    · show l'.toNat ≤ 3600000; omega
    · show r.toNat < 2 ^ 32; omega
    · show 1518 ≤ b.toNat; omega
    · show b.toNat ≤ 16777216; omega
    · cases hg
    · cases hk
  · exact l
theorem good_ids {s : S} (g : Good s) (n : Nat) : Good { s with ids := n } :=
  ⟨g.n1, g.n8, g.on, g.e1, g.e64, fun x hx => let ⟨a, b, c, d⟩ := g.qs x hx; ⟨a, b, c, fun i hi => let ⟨p, q, r⟩ := d i hi; ⟨p, q, r⟩⟩, g.life, g.rate, g.b1, g.b2, g.may, g.still, g.last, g.me, g.gs, g.gl, g.cnt, g.out⟩
theorem good_weight {s : S} (g : Good s) (q w : Int) : Good (does s (.weight q w)).1 := by
  simp only [does]
  split
  · exact g
  · rename_i h
    have hw := within_of (not_false_of fun q' => h (.inr q'))
    refine good_with g (fun x hx => ?_) fun hh x i r hx hi hc => ⟨r, hi, hc⟩
    obtain ⟨a, b, c, d⟩ := g.at_ hx
    exact ⟨by show 1 ≤ w.toNat; omega, by show w.toNat ≤ 64; omega, c, d⟩
theorem good_put {s : S} (g : Good s) (now : Nat) (q : Int) (t : Bytes) (k : Int) (b : Bytes) : Good (does s (.put now q t k b)).1 := by
  simp only [does]
  split
  · exact g
  · rename_i h
    split
    · exact g
    · rename_i h7
      have ht := timeOk_of (not_false_of fun z => h (.inl z))
      have hq := not_false_of fun z => h (.inr (.inl z))
      have hl : t.length = 6 := Classical.byContradiction fun z => h (.inr (.inr (.inl z)))
      have hb : b ≠ [] := fun z => h (.inr (.inr (.inr (.inr z))))
      have gu := good_tick g ht.1 ht.2
      split
      · exact good_counted gu _ _
      · rename_i h5
        refine good_ids (s := (s.tick now).with_ q.toNat fun x => { x with items := x.items ++ [⟨(s.tick now).ids, now, frame t s.me k.toNat b⟩] }) ?_ _
        refine good_with gu (fun x hx => ?_) fun hh x i r hx hi hc => ⟨r ++ [⟨(s.tick now).ids, now, frame t s.me k.toNat b⟩], by show x.items ++ _ = _; rw [hi]; rfl, hc⟩
        obtain ⟨a, b', c, d⟩ := gu.at_ hx
        rw [queue_eq hx] at h5
        have he : (s.tick now).each = s.each := rfl
        refine ⟨a, b', ?_, fun i hi => ?_⟩
        · show (x.items ++ [_]).length ≤ s.each
          rw [List.length_append, List.length_singleton]
          omega
        · have hi : i ∈ x.items ++ [_] := hi
          rcases List.mem_append.mp hi with hi | hi
          · exact d i hi
          · rw [List.mem_singleton.mp hi]
            have hbl : 0 < b.length := List.length_pos_iff.mpr hb
            have h7 : ¬ 1500 < b.length := h7
            refine ⟨?_, ?_, Nat.le_refl _⟩
            · show 19 ≤ (frame t s.me k.toNat b).length
              rw [frame_length, hl, g.me]; omega
            · show (frame t s.me k.toNat b).length ≤ 1518
              rw [frame_length, hl, g.me]; omega
theorem good_next {s : S} (g : Good s) (now : Nat) : Good (does s (.next now)).1 := by
  simp only [does]
  split
  · exact g
  · rename_i h
    split
    · exact g
    · rename_i hh
      have hh : s.handed = none := Classical.byContradiction hh
      have ht := timeOk_of (not_false_of h)
      have gu := good_tick g ht.1 ht.2
      split
      · exact gu
      · rename_i hi
        obtain ⟨j, x, i, r, hx, hxi⟩ := not_idle hi
        obtain ⟨t, y, i', r', hp, T, ton, tg, hy, hyi, hc⟩ := pick_ok FUEL (fair_of gu hx hxi) (mu_first gu.n8 gu.n1)
        have gt := good_tried T gu hh ton
        rw [hp]
        dsimp only
        rw [queue_eq hy, hyi]
        dsimp only
        split
        · rename_i hw
          have hmay : t.rate ≠ 0 → 1000 * i'.bytes.length ≤ t.may := fun hr => by
            unfold S.when_ at hw
            split at hw
            · rename_i h; rcases h with h | h
              · exact absurd h hr
              · exact h
            · rename_i h
              have hlast : t.last = now := by rw [T.eq]; rfl
              have : 1 ≤ (1000 * i'.bytes.length - t.may + t.rate - 1) / t.rate := by
                rw [Nat.le_div_iff_mul_le (by omega)]
                omega
              omega
          exact ⟨gt.n1, gt.n8, gt.on, gt.e1, gt.e64, fun x hx => let ⟨a, b, c, d⟩ := gt.qs x hx; ⟨a, b, c, fun i hi => let ⟨p, q, r⟩ := d i hi; ⟨p, q, r⟩⟩, gt.life, gt.rate, gt.b1, gt.b2, gt.may, gt.still, gt.last, gt.me, gt.gs, gt.gl, gt.cnt, fun q hq => by
            cases hq
            exact ⟨rfl, y, i', r', hy, hyi, hc, hmay⟩⟩
        · exact gt
theorem good_went {s : S} (g : Good s) (now : Nat) (ok : Int) : Good (does s (.went now ok)).1 := by
  simp only [does]
  split
  · exact g
  · rename_i h
    have ht := timeOk_of (not_false_of fun z => h (.inl z))
    have gu := good_tick g ht.1 ht.2
    split
    · exact g
    · rename_i q hq
      have free : ∀ (m : Nat), m ≤ 1000 * s.burst → (s.rate = 0 → m = 1000 * s.burst) → Good ({ s.tick now with handed := none, may := m } : S) := fun m h1 h2 =>
        ⟨gu.n1, gu.n8, gu.on, gu.e1, gu.e64, fun x hx => let ⟨a, b, c, d⟩ := gu.qs x hx; ⟨a, b, c, fun i hi => let ⟨p, q, r⟩ := d i hi; ⟨p, q, r⟩⟩, gu.life, gu.rate, gu.b1, gu.b2, h1, h2, gu.last, gu.me, gu.gs, gu.gl, gu.cnt, fun q hq => by cases hq⟩
      split
      · exact good_counted (free _ gu.may gu.still) _ _
      · obtain ⟨e, x, i, r, hx, hi, hc, hm⟩ := gu.out q hq
        rw [queue_eq hx, hi]
        dsimp only
        refine good_counted (good_counted (good_with (free _ ?_ ?_) (fun y hy => ?_) fun hh => ?_) _ _) _ _
        · split
          · exact gu.may
          · exact Nat.le_trans (Nat.sub_le _ _) gu.may
        · intro h0
          rw [if_pos (show (s.tick now).rate = 0 from h0)]
          exact gu.still h0
        · have hy : (s.tick now).queues[q]? = some y := hy
          rw [hx] at hy
          cases hy
          obtain ⟨a, b, c, d⟩ := gu.at_ hx
          rw [hi] at c
          exact ⟨a, b, Nat.le_trans (Nat.le_succ _) c, fun k hk => let ⟨p, q, r⟩ := d k (by rw [hi]; exact List.mem_cons_of_mem _ hk); ⟨p, q, r⟩⟩
        · cases hh
theorem good_came {s : S} (g : Good s) (b : Bytes) : Good (does s (.came b)).1 := by
  simp only [does]
  split
  · exact g
  · split
    · exact good_counted g _ _
    · split
      · exact good_counted (good_counted g _ _) _ _
      · exact good_counted g _ _
theorem good_groups {s : S} (g : Good s) (gs : List Bytes) (h : gs.length ≤ 16) (hl : ∀ x ∈ gs, x.length = 6) : Good { s with groups := gs } :=
  ⟨g.n1, g.n8, g.on, g.e1, g.e64, fun x hx => let ⟨a, b, c, d⟩ := g.qs x hx; ⟨a, b, c, fun i hi => let ⟨p, q, r⟩ := d i hi; ⟨p, q, r⟩⟩, g.life, g.rate, g.b1, g.b2, g.may, g.still, g.last, g.me, h, hl, g.cnt, g.out⟩
theorem good_join {s : S} (g : Good s) (x : Bytes) : Good (does s (.join x)).1 := by
  simp only [does]
  split
  · exact g
  · rename_i h
    split
    · exact g
    · split
      · exact g
      · rename_i h16
        refine good_groups g _ (by rw [List.length_append, List.length_singleton]; omega) fun y hy => ?_
        rcases List.mem_append.mp hy with hy | hy
        · exact g.gl y hy
        · rw [List.mem_singleton.mp hy]
          exact Classical.byContradiction fun z => h (.inr z)
theorem good_leave {s : S} (g : Good s) (x : Bytes) : Good (does s (.leave x)).1 := by
  simp only [does]
  split
  · exact g
  · split
    · exact g
    · exact good_groups g _ (Nat.le_trans (List.length_erase_le ..) g.gs) fun y hy => g.gl y (List.mem_of_mem_erase hy)
theorem good_hear {s : S} (g : Good s) (a : Int) : Good (does s (.hear a)).1 := by
  simp only [does]
  split
  · exact g
  · exact ⟨g.n1, g.n8, g.on, g.e1, g.e64, fun x hx => let ⟨a, b, c, d⟩ := g.qs x hx; ⟨a, b, c, fun i hi => let ⟨p, q, r⟩ := d i hi; ⟨p, q, r⟩⟩, g.life, g.rate, g.b1, g.b2, g.may, g.still, g.last, g.me, g.gs, g.gl, g.cnt, g.out⟩
theorem good_waits {s : S} (g : Good s) (now : Nat) (q : Int) : Good (does s (.waits now q)).1 := by
  simp only [does]
  split
  · exact g
  · rename_i h
    have ht := timeOk_of (not_false_of fun z => h (.inl z))
    exact good_tick g ht.1 ht.2
theorem good_due {s : S} (g : Good s) (now : Nat) : Good (does s (.due now)).1 := by
  simp only [does]
  split
  · exact g
  · rename_i h
    have ht := timeOk_of (not_false_of h)
    exact good_tick g ht.1 ht.2
theorem good_drop {s : S} (g : Good s) (q : Int) : Good (does s (.drop q)).1 := by
  simp only [does]
  split
  · exact g
  · refine good_counted (good_with g (fun x hx => ?_) fun hh x i r hx hi hc => ?_) _ _
    · obtain ⟨a, b, c, d⟩ := g.at_ hx
      rw [queue_eq hx]
      refine ⟨a, b, ?_, fun i hi => d i ?_⟩
      · show (if _ then x.items.take 1 else []).length ≤ _
        split
        · exact Nat.le_trans (List.length_take_le' ..) c
        · exact Nat.zero_le _
      · have hi : i ∈ (if _ then x.items.take 1 else []) := hi
        split at hi
        · exact List.mem_of_mem_take hi
        · cases hi
    · refine ⟨[], ?_, hc⟩
      show (if _ then _ else _) = _
      rw [if_pos hh, queue_eq hx, hi]
      rfl
theorem closed_has (q : Int) : closed.has q = false := by
  unfold S.has
  show (decide (0 ≤ q) && decide (q < ((0 : Nat) : Int))) = false
  rw [Bool.and_eq_false_iff]
  by_cases h : 0 ≤ q
  · right; exact decide_eq_false (by omega)
  · left; exact decide_eq_false h
theorem closed_time (now : Nat) : closed.timeOk now = false := rfl
theorem closed_weight (q w : Int) : does closed (.weight q w) = (closed, says (-1)) := by
  simp only [does]; rw [if_pos (Or.inl (closed_has q))]
theorem closed_put (now : Nat) (q : Int) (t : Bytes) (k : Int) (b : Bytes) : does closed (.put now q t k b) = (closed, says (-1)) := by
  simp only [does]; rw [if_pos (Or.inl (closed_time now))]
theorem closed_next (now : Nat) : does closed (.next now) = (closed, says (-1)) := by
  simp only [does]; rw [if_pos (closed_time now)]
theorem closed_went (now : Nat) (ok : Int) : does closed (.went now ok) = (closed, says (-1)) := by
  simp only [does]; rw [if_pos (Or.inl (closed_time now))]
theorem closed_came (b : Bytes) : does closed (.came b) = (closed, says (-1)) := by
  simp only [does]; rw [if_pos (show closed.queues = [] from rfl)]
theorem closed_join (b : Bytes) : does closed (.join b) = (closed, says (-1)) := by
  simp only [does]; rw [if_pos (Or.inl (show closed.queues = [] from rfl))]
theorem closed_leave (b : Bytes) : does closed (.leave b) = (closed, says (-1)) := by
  simp only [does]; rw [if_pos (Or.inl (show closed.queues = [] from rfl))]
theorem closed_hear (a : Int) : does closed (.hear a) = (closed, says (-1)) := by
  simp only [does]; rw [if_pos (Or.inl (show closed.queues = [] from rfl))]
theorem closed_waits (now : Nat) (q : Int) : does closed (.waits now q) = (closed, says (-1)) := by
  simp only [does]; rw [if_pos (Or.inl (closed_time now))]
theorem closed_drop (q : Int) : does closed (.drop q) = (closed, says (-1)) := by
  simp only [does]; rw [if_pos (closed_has q)]
theorem closed_due (now : Nat) : does closed (.due now) = (closed, says (-1)) := by
  simp only [does]; rw [if_pos (closed_time now)]
theorem live_does {s : S} (l : Live s) (c : Call) : Live (does s c).1 := by
  cases c with
  | open_ now me q e l' r b => exact live_open l
  | counts => exact l
  | make t f k b => exact l
  | read b => exact l
  | weight q w => rcases l with rfl | g; (rw [closed_weight]; exact .inl rfl); exact .inr (good_weight g _ _)
  | put now q t k b => rcases l with rfl | g; (rw [closed_put]; exact .inl rfl); exact .inr (good_put g _ _ _ _ _)
  | next now => rcases l with rfl | g; (rw [closed_next]; exact .inl rfl); exact .inr (good_next g _)
  | went now ok => rcases l with rfl | g; (rw [closed_went]; exact .inl rfl); exact .inr (good_went g _ _)
  | came b => rcases l with rfl | g; (rw [closed_came]; exact .inl rfl); exact .inr (good_came g _)
  | join x => rcases l with rfl | g; (rw [closed_join]; exact .inl rfl); exact .inr (good_join g _)
  | leave x => rcases l with rfl | g; (rw [closed_leave]; exact .inl rfl); exact .inr (good_leave g _)
  | hear x => rcases l with rfl | g; (rw [closed_hear]; exact .inl rfl); exact .inr (good_hear g _)
  | waits now q => rcases l with rfl | g; (rw [closed_waits]; exact .inl rfl); exact .inr (good_waits g _ _)
  | drop q => rcases l with rfl | g; (rw [closed_drop]; exact .inl rfl); exact .inr (good_drop g _)
  | due now => rcases l with rfl | g; (rw [closed_due]; exact .inl rfl); exact .inr (good_due g _)
end FL
end
section
-- CHANGE: your row's module here, as the last of these rows
/-! THE HAND LAYER, for ints, bools, texts, own classes, lists, tuples, dicts, comprehensions, walks over dicts, enumerate, zip, reversed, texts, calls, loops. Paste it whole ahead of your own text; what your proof does not reach may be deleted. -/
namespace L2
open PySem PySem.Spec PyProof.Rows

/-- a key: an int or a str -/
abbrev Key := Sum Int Str
def keyIs : Key → Value → Bool
  | .inl k, v => Value.isInt k v
  | .inr x, v => Value.isStrOf x v
def keyH (w : World) : Key → Int
  | .inl k => hashInt k
  | .inr x => hashStr w x
theorem keyIs_shape : ∀ {k : Key} {v : Value}, keyIs k v = true → (∃ i t, k = Sum.inl i ∧ v = Value.int i t) ∨ (∃ x t, k = Sum.inr x ∧ v = Value.str x t)
  | .inl i, v, h => by
    obtain ⟨t, e⟩ := Value.isInt_shape (k := i) (v := v) h
    exact .inl ⟨i, t, rfl, e⟩
  | .inr x, v, h => by
    obtain ⟨t, e⟩ := Value.isStrOf_shape (x := x) (v := v) h
    exact .inr ⟨x, t, rfl, e⟩
theorem keyIs_int (i : Int) (t : Tok) : keyIs (.inl i) (.int i t) = true := by simp [keyIs, Value.isInt]
theorem keyIs_str (x : Str) (t : Tok) : keyIs (.inr x) (.str x t) = true := by simp [keyIs, Value.isStrOf]
theorem key_ll (a b : Int) : decide ((Sum.inl a : Key) = Sum.inl b) = (a == b) := by
  by_cases e : a = b
  · subst e; simp
  · have h : ¬ (Sum.inl a : Key) = Sum.inl b := fun q => e (Sum.inl.inj q)
    rw [decide_eq_false h]
    exact (beq_eq_false_iff_ne.mpr e).symm
theorem key_rr (a b : Str) : decide ((Sum.inr a : Key) = Sum.inr b) = decide (a = b) := by
  by_cases e : a = b
  · subst e; simp
  · have h : ¬ (Sum.inr a : Key) = Sum.inr b := fun q => e (Sum.inr.inj q)
    rw [decide_eq_false h, decide_eq_false e]
theorem key_lr (a : Int) (b : Str) : decide ((Sum.inl a : Key) = Sum.inr b) = false := decide_eq_false (fun q => nomatch q)
theorem key_rl (a : Str) (b : Int) : decide ((Sum.inr a : Key) = Sum.inl b) = false := decide_eq_false (fun q => nomatch q)

def mixKind (prog : Program) (w : World) : PySem.KeyKind prog w Key where
  is := keyIs
  hash := keyH w
  inj := fun v a b ha hb => by
    rcases keyIs_shape ha with ⟨i, t, rfl, rfl⟩ | ⟨x, t, rfl, rfl⟩
    · rcases keyIs_shape hb with ⟨j, u, rfl, e⟩ | ⟨y, u, rfl, e⟩
      · injection e with e1 _; rw [e1]
      · exact nomatch e
    · rcases keyIs_shape hb with ⟨j, u, rfl, e⟩ | ⟨y, u, rfl, e⟩
      · exact nomatch e
      · injection e with e1 _; rw [e1]
  byValue := fun k v h => by
    rcases keyIs_shape h with ⟨i, t, rfl, rfl⟩ | ⟨x, t, rfl, rfl⟩ <;> rfl
  pyHash := fun hv h => by
    rcases keyIs_shape hv with ⟨i, t, rfl, rfl⟩ | ⟨x, t, rfl, rfl⟩
    · exact wpAny_pyHash_int h
    · exact wpAny_pyHash_str h
  eqBool := fun hu hv h => by
    rcases keyIs_shape hu with ⟨i, t, rfl, rfl⟩ | ⟨x, t, rfl, rfl⟩
    · rcases keyIs_shape hv with ⟨j, u, rfl, rfl⟩ | ⟨y, u, rfl, rfl⟩
      · rw [key_ll] at h; exact wpAny_eqBool_int h
      · rw [key_lr] at h; exact SeqAt.EqAt.int_str i t y u _ _ _ _ h
    · rcases keyIs_shape hv with ⟨j, u, rfl, rfl⟩ | ⟨y, u, rfl, rfl⟩
      · rw [key_rl] at h; exact SeqAt.EqAt.str_int x t j u _ _ _ _ h
      · rw [key_rr] at h; exact wpAny_eqBool_str h
  «strs» := fun k x t v h => by
    rcases keyIs_shape h with ⟨i, u, rfl, e⟩ | ⟨y, u, rfl, e⟩
    · exact nomatch e
    · injection e with e1 _
      subst e1
      cases v <;> rfl

theorem mixKind_int (prog : Program) (w : World) (i : Int) (t : Tok) : (mixKind prog w).is (.inl i) (.int i t) = true := keyIs_int i t
theorem mixKind_str (prog : Program) (w : World) (x : Str) (t : Tok) : (mixKind prog w).is (.inr x) (.str x t) = true := keyIs_str x t
end L2

namespace L2
open PySem PySem.Spec PyProof.Rows

/-- a value, without the heap -/
inductive V where
  | non | bl (b : Bool) | int (i : Int) | str (x : Str) | byt (b : Array UInt8) | flt (b : UInt64) | ref (a : Addr) | ty (n : String)
  deriving DecidableEq

def RelV : V → Value → Prop
  | .non, u => u = Value.none
  | .bl b, u => u = Value.bool b
  | .int i, u => ∃ t, u = Value.int i t
  | .str x, u => ∃ t, u = Value.str x t
  | .byt b, u => ∃ t, u = Value.bytes b t
  | .flt b, u => ∃ t, u = Value.float b t
  | .ref a, u => u = Value.ref a
  | .ty n, u => u = Value.type n

abbrev Vals : List V → List Value → Prop := Paired RelV
theorem Vals.length {xs : List V} {us : List Value} (r : Vals xs us) : xs.length = us.length := Paired.length r
theorem Vals.get : ∀ {xs : List V} {us : List Value} {i : Nat} {x : V}, Vals xs us → xs[i]? = some x → ∃ u, us[i]? = some u ∧ RelV x u
  | _, _, _, _, .nil, e => by simp at e
  | _, _, 0, _, .cons r _, e => by simp at e; subst e; exact ⟨_, rfl, r⟩
  | _, _, i + 1, x, .cons _ t, e => by
    obtain ⟨u, h1, h2⟩ := Vals.get (i := i) (x := x) t (by simpa using e)
    exact ⟨u, by simpa using h1, h2⟩
theorem Vals.set {x : V} {u : Value} (r : RelV x u) : ∀ {xs : List V} {us : List Value} (i : Nat), Vals xs us → Vals (xs.set i x) (us.set i u)
  | _, _, _, .nil => .nil
  | _, _, 0, .cons _ t => .cons r t
  | _, _, i + 1, .cons q t => .cons q (Vals.set r i t)
theorem Vals.append : ∀ {xs ys : List V} {us ws : List Value}, Vals xs us → Vals ys ws → Vals (xs ++ ys) (us ++ ws)
  | _, _, _, _, .nil, s => s
  | _, _, _, _, .cons r t, s => .cons r (Vals.append t s)
theorem Vals.take : ∀ {xs : List V} {us : List Value} (n : Nat), Vals xs us → Vals (xs.take n) (us.take n)
  | _, _, 0, _ => .nil
  | _, _, _ + 1, .nil => .nil
  | _, _, n + 1, .cons r t => .cons r (Vals.take n t)
theorem Vals.drop : ∀ {xs : List V} {us : List Value} (n : Nat), Vals xs us → Vals (xs.drop n) (us.drop n)
  | _, _, 0, r => r
  | _, _, _ + 1, .nil => .nil
  | _, _, n + 1, .cons _ t => Vals.drop n t

def RelO : Option V → Option Value → Prop
  | some v, some u => RelV v u
  | none, none => True
  | _, _ => False
def KV {κ : Type} : List (κ × V) → List (κ × Value) → Prop := Paired fun (p : κ × V) (q : κ × Value) => p.1 = q.1 ∧ RelV p.2 q.2

/-- a key of a dict (00_mix): an int or a text -/
def kV : Key → V
  | .inl i => .int i
  | .inr x => .str x

/-- what stands at a tracked address -/
inductive HO where
  /-- a list -/
  | lst (xs : List V)
  /-- a tuple (never changes) -/
  | tup (xs : List V)
  /-- a dict whose keys are ints and texts; one whose keys are tuples of ints and texts (the empty one is both) -/
  | dK (kvs : List (Key × V)) | dT (kvs : List (List Key × V))
  /-- a set of ints: its members, its size -/
  | set (S : Int → Bool) (n : Nat)
  /-- an instance of the class at C, its dict at dx, its attributes -/
  | ins (C dx : Addr) (fs : List (Str × V))
  /-- the dict of the instance at x -/
  | own (x : Addr)
  /-- the dict of an exception -/
  | xd (fs : List (Str × V))
  /-- a bound method, f of x -/
  | met (f x : Addr)
  /-- a range object lo, lo + 1, .. below hi -/
  | rng (lo hi : Int)
  /-- a thing that is known to the object (the script; a dict while a loop walks it): read, never written while it is so -/
  | frz (o : Obj) (u : HO)
  /-- a code object's table -/
  | tbl (ps : Array Value)
  /-- any other thing, by what is true of its one object (a def of one's own: SetO a S n := HO.ext fun h => ..) -/
  | ext (φ : Heap → Prop)

abbrev Hp := Addr → Option HO
def upd (H : Hp) (a : Addr) (o : HO) : Hp := fun b => if b = a then some o else H b
theorem upd_same {H : Hp} {a : Addr} {o : HO} : upd H a o a = some o := by unfold upd; rw [if_pos rfl]
theorem upd_ne {H : Hp} {a b : Addr} {o : HO} (h : b ≠ a) : upd H a o b = H b := by unfold upd; rw [if_neg h]
theorem upd_upd {H : Hp} {a : Addr} {o u : HO} : upd (upd H a o) a u = upd H a u := by
  funext b; unfold upd; split <;> rfl
/-- two objects of different content stand apart -/
theorem ne_of {H : Hp} {a b : Addr} {o u : HO} (h : H a = some o) (h' : H b = some u) (d : o ≠ u) : a ≠ b := by
  intro e; subst e; rw [h] at h'; exact d (Option.some.inj h')
theorem ne_of_none {H : Hp} {a b : Addr} {o : HO} (h : H a = some o) (h' : H b = none) : a ≠ b := by
  intro e; subst e; rw [h] at h'; cases h'

section
variable (P : Program) (w : World)
def ObjOk (H : Hp) (h : Heap) (a : Addr) : HO → Prop
  | .lst xs => xs.length ≤ sizeLine ∧ ∃ (its : List Value) (n : Nat), Vals xs its ∧ h.get? a = some { cls := .type "list", data := .seq its.toArray n }
  | .tup xs => xs.length ≤ sizeLine ∧ ∃ its : List Value, Vals xs its ∧ IsTup h a its.toArray
  | .dK kvs => kvs.length ≤ sizeLine ∧ (a == sysModules) = false ∧ ∃ vs, KV kvs vs ∧ h.DictOf (mixKind P w) a vs
  | .dT kvs => kvs.length ≤ sizeLine ∧ (a == sysModules) = false ∧ ∃ xs : List (List Key × Addr × Value),
      Paired (fun (p : List Key × V) (q : List Key × Addr × Value) => p.1 = q.1 ∧ H q.2.1 = some (.tup (p.1.map kV)) ∧ RelV p.2 q.2.2) kvs xs ∧
      ∃ o es ep, h.get? a = some o ∧ o.ExactDict ∧ o.data = .dict es ep ∧ es.toList = xs.map (entryOfKey (tupleKind (mixKind P w))) ∧ (xs.map (·.1)).Nodup
  | .set S n => h.SetOf (intKind P w) a S n
  | .ins C dx fs => H dx = some (.own a) ∧ fs.length ≤ 1000 ∧ dx ≠ a ∧ h.get? a = some (PySem.W.instObj C dx) ∧
      ∃ mA, h.Ns1 dx mA ∧ (∀ f, RelO (fs.lookup f) (mA f)) ∧ PySem.Within mA (fs.map (·.1))
  | .own _ => ∃ o, h.get? a = some o
  | .xd fs => ∃ mA, h.Ns1 a mA ∧ ∀ f, RelO (fs.lookup f) (mA f)
  | .rng lo hi => ∃ t u v, h.get? a = some { cls := .type "range", data := .fields #[.int lo t, .int hi u, .int 1 v] }
  | .frz o u => h.get? a = some o ∧ ObjOk H h a u
  | .tbl ps => h.get? a = some { cls := .none, data := .fields ps }
  | .met f x => h.get? a = some (PySem.W.methodObj (.ref f) (.ref x))
  | .ext φ => φ h ∧ (∃ o, h.get? a = some o) ∧ ∀ h1 h2 : Heap, φ h1 → (∀ o, h1.get? a = some o → h2.get? a = some o) → φ h2
/-- the abstract heap is held -/
def HOk (H : Hp) (h : Heap) : Prop := ∀ a o, H a = some o → ObjOk P w H h a o
end

section
variable {P : Program} {w : World} {H H' : Hp} {h h' : Heap} {a : Addr} {o : HO}
theorem ObjOk.lt (x : ObjOk P w H h a o) : a < h.objs.size := by
  cases o with
  | lst xs => obtain ⟨_, _, _, _, e⟩ := x; exact Heap.lt_size e
  | tup xs => obtain ⟨_, _, _, p⟩ := x; exact p.lt
  | dK kvs => obtain ⟨_, _, _, _, o, _, _, e, _⟩ := x; exact Heap.lt_size e
  | dT kvs => obtain ⟨_, _, _, _, o, _, _, e, _⟩ := x; exact Heap.lt_size e
  | set S n => obtain ⟨o, _, _, _, e, _⟩ := x; exact Heap.lt_size e
  | ins C dx fs => obtain ⟨_, _, _, e, _⟩ := x; exact Heap.lt_size e
  | own y => obtain ⟨_, e⟩ := x; exact Heap.lt_size e
  | xd fs => obtain ⟨_, ⟨_, _, _, e, _⟩, _⟩ := x; exact Heap.lt_size e
  | rng lo hi => obtain ⟨_, _, _, e⟩ := x; exact Heap.lt_size e
  | frz ob u => obtain ⟨e, _⟩ := x; exact Heap.lt_size e
  | tbl ps => exact Heap.lt_size (show h.get? a = some _ from x)
  | met f y => exact Heap.lt_size (show h.get? a = some _ from x)
  | ext φ => obtain ⟨_, ⟨_, e⟩, _⟩ := x; exact Heap.lt_size e
theorem Paired.mapP {α β : Type} {F G : α → β → Prop} : ∀ {l₁ : List α} {l₂ : List β}, Paired F l₁ l₂ → (∀ a b, F a b → G a b) → Paired G l₁ l₂
  | _, _, .nil, _ => .nil
  | _, _, .cons r t, f => .cons (f _ _ r) (Paired.mapP t f)
/-- what an object's description leans on: its own object, its own dict, the tuples -/
theorem ObjOk.stay (x : ObjOk P w H h a o) (k : ∀ b u, (b = a ∨ H b = some (.own a)) → h.get? b = some u → h'.get? b = some u)
    (ho : ∀ b, H b = some (.own a) → H' b = some (.own a)) (ht : ∀ b xs, H b = some (.tup xs) → H' b = some (.tup xs)) : ObjOk P w H' h' a o := by
  induction o with
  | lst xs => obtain ⟨z, its, n, r, e⟩ := x; exact ⟨z, its, n, r, k _ _ (.inl rfl) e⟩
  | tup xs => obtain ⟨z, its, r, ob, e, c⟩ := x; exact ⟨z, its, r, ob, k _ _ (.inl rfl) e, c⟩
  | dK kvs => obtain ⟨z, y, vs, r, ob, es, ep, e, c⟩ := x; exact ⟨z, y, vs, r, ob, es, ep, k _ _ (.inl rfl) e, c⟩
  | dT kvs =>
    obtain ⟨z, y, xs, r, ob, es, ep, e, c⟩ := x
    exact ⟨z, y, xs, Paired.mapP r fun p q z => ⟨z.1, ht _ _ z.2.1, z.2.2⟩, ob, es, ep, k _ _ (.inl rfl) e, c⟩
  | set S n => obtain ⟨ob, es, ep, t, e, c⟩ := x; exact ⟨ob, es, ep, t, k _ _ (.inl rfl) e, c⟩
  | ins C dx fs =>
    obtain ⟨d, z, ne, e, mA, ⟨od, es, ep, e2, c⟩, r⟩ := x
    exact ⟨ho _ d, z, ne, k _ _ (.inl rfl) e, mA, ⟨od, es, ep, k _ _ (.inr d) e2, c⟩, r⟩
  | own y => obtain ⟨ob, e⟩ := x; exact ⟨ob, k _ _ (.inl rfl) e⟩
  | xd fs => obtain ⟨mA, ⟨od, es, ep, e, c⟩, r⟩ := x; exact ⟨mA, ⟨od, es, ep, k _ _ (.inl rfl) e, c⟩, r⟩
  | rng lo hi => obtain ⟨t, u, v, e⟩ := x; exact ⟨t, u, v, k _ _ (.inl rfl) e⟩
  | frz ob u ih => obtain ⟨e, q⟩ := x; exact ⟨k _ _ (.inl rfl) e, ih q⟩
  | tbl ps =>
    have e : h.get? a = some { cls := .none, data := .fields ps } := x
    show h'.get? a = some { cls := .none, data := .fields ps }
    exact k a _ (.inl rfl) e
  | met f y =>
    have e : h.get? a = some (PySem.W.methodObj (.ref f) (.ref y)) := x
    show h'.get? a = some (PySem.W.methodObj (.ref f) (.ref y))
    exact k a _ (.inl rfl) e
  | ext φ => obtain ⟨p, ⟨o, e⟩, st⟩ := x; exact ⟨st _ _ p fun o q => k _ _ (.inl rfl) q, ⟨o, k _ _ (.inl rfl) e⟩, st⟩
theorem HOk.lt (x : HOk P w H h) (e : H a = some o) : a < h.objs.size := (x a o e).lt
theorem HOk.fresh (x : HOk P w H h) (e : h.objs.size ≤ a) : H a = none := by
  cases q : H a with
  | none => rfl
  | some u => exact absurd (Nat.lt_of_lt_of_le (x.lt q) e) (Nat.lt_irrefl _)
/-- every object of the heap is kept -/
theorem HOk.kept (x : HOk P w H h) (k : ∀ b u, h.get? b = some u → h'.get? b = some u) : HOk P w H h' := fun a o e =>
  (x a o e).stay (fun b u _ q => k b u q) (fun _ q => q) fun _ _ q => q
/-- a new object is laid and tracked -/
theorem HOk.laid (x : HOk P w H h) (k : ∀ b u, h.get? b = some u → h'.get? b = some u) (hp : h.objs.size ≤ a) (new : ObjOk P w (upd H a o) h' a o) : HOk P w (upd H a o) h' := fun b u e => by
  have hn := x.fresh hp
  by_cases hb : b = a
  · subst hb; rw [upd_same] at e; cases e; exact new
  · rw [upd_ne hb] at e
    exact (x b u e).stay (fun c v _ q => k c v q) (fun c q => by rw [upd_ne (ne_of_none q hn)]; exact q) fun c xs q => by rw [upd_ne (ne_of_none q hn)]; exact q
end

/-- what may be read as u: it is u, or a known u -/
def Rd (H : Hp) (a : Addr) (u : HO) : Prop := H a = some u ∨ ∃ o, H a = some (.frz o u)
theorem Rd.ok {P : Program} {w : World} {H : Hp} {h : Heap} {a : Addr} {u : HO} (r : Rd H a u) (x : HOk P w H h) : ObjOk P w H h a u := by
  rcases r with r | ⟨o, r⟩
  · exact x a u r
  · obtain ⟨_, q⟩ := x a _ r
    exact q
/-- what may be written -/
def Mut : Option HO → Prop
  | some (.lst _) => True
  | some (.dK _) => True
  | some (.dT _) => True
  | some (.set _ _) => True
  | some (.ins _ _ _) => True
  | some (.ext _) => True
  | _ => False
section
variable {P : Program} {w : World} {H : Hp} {h h' : Heap} {x e : Addr} {o' : HO}
/-- the object at e is changed: x itself, or the dict of the instance x -/
theorem HOk.write (ok : HOk P w H h) (mu : Mut (H x)) (he : e = x ∨ H e = some (.own x)) (k : ∀ b u, b ≠ e → h.get? b = some u → h'.get? b = some u) (heo : ∃ u, h'.get? e = some u)
    (new : ObjOk P w (upd H x o') h' x o') : HOk P w (upd H x o') h' := fun b u q => by
  have nown : ∀ c y, H c = some (.own y) → c ≠ x := fun c y r z => by subst z; rw [r] at mu; exact mu
  have ntup : ∀ c xs, H c = some (.tup xs) → c ≠ x := fun c xs r z => by subst z; rw [r] at mu; exact mu
  by_cases hb : b = x
  · subst hb; rw [upd_same] at q; cases q; exact new
  · rw [upd_ne hb] at q
    by_cases hbe : b = e
    · have q' : H b = some (.own x) := by
        rcases he with z | z
        · exact absurd (hbe.trans z) hb
        · rw [hbe]; exact z
      rw [q] at q'; cases q'
      obtain ⟨v, hv⟩ := heo
      exact ⟨v, by rw [hbe]; exact hv⟩
    · refine (ok b u q).stay (fun c v hc r => k c v ?_ r) (fun c r => by rw [upd_ne (nown c b r)]; exact r) fun c xs r => by rw [upd_ne (ntup c xs r)]; exact r
      rcases hc with rfl | hc
      · exact hbe
      · rintro rfl
        rcases he with z | z
        · exact nown c b hc z
        · rw [hc] at z; cases z; exact hb rfl
end

/-! ### kept unless tracked; of the frames at fs (the callers') the slots may change (an exception that passes writes there); of the records at ex (iterators) nothing is said -/
structure Un (fs ex : List Addr) (H H' : Hp) (h h' : Heap) : Prop where
  keep : ∀ b o, h.get? b = some o → H b = none → b ∉ fs → b ∉ ex → h'.get? b = some o
  slot : ∀ b o, h.get? b = some o → H b = none → b ∈ fs → b ∉ ex → ∃ sl, h'.get? b = some { o with slots := sl }
  free : ∀ b o, h.get? b = some o → H b = none → b ∉ ex → H' b = none
  there : ∀ b o, h.get? b = some o → b ∉ ex → ∃ o', h'.get? b = some o'
  tups : ∀ b xs, H b = some (.tup xs) → H' b = some (.tup xs)
  frzs : ∀ b o u, H b = some (.frz o u) → H' b = some (.frz o u)
  tbls : ∀ b ps, H b = some (.tbl ps) → ∃ more, H' b = some (.tbl (ps ++ more))
section
variable {fs fs' ex ex' : List Addr} {H H1 H2 : Hp} {h h1 h2 h' : Heap} {a x e : Addr} {o : HO}
theorem Un.any (u : Un fs ex H H1 h h1) {b : Addr} {ob : Obj} (q : h.get? b = some ob) (n : H b = none) (hx : b ∉ ex) : ∃ sl, h1.get? b = some { ob with slots := sl } := by
  by_cases hb : b ∈ fs
  · exact u.slot b ob q n hb hx
  · exact ⟨ob.slots, u.keep b ob q n hb hx⟩
theorem Un.kept (k : ∀ b u, h.get? b = some u → h'.get? b = some u) : Un fs ex H H h h' :=
  ⟨fun b ob q _ _ _ => k b ob q, fun b ob q _ _ _ => ⟨ob.slots, k b ob q⟩, fun _ _ _ n _ => n, fun b ob q _ => ⟨ob, k b ob q⟩, fun _ _ q => q, fun _ _ _ q => q, fun _ ps q => ⟨#[], by rw [q]; simp⟩⟩
theorem Un.refl : Un fs ex H H h h := Un.kept fun _ _ q => q
theorem Un.laid (k : ∀ b u, h.get? b = some u → h'.get? b = some u) (hp : h.objs.size ≤ a) (hn : H a = none) : Un fs ex H (upd H a o) h h' where
  keep := fun b u q _ _ _ => k b u q
  slot := fun b u q _ _ _ => ⟨u.slots, k b u q⟩
  free := fun b u q n _ => by rw [upd_ne (Nat.ne_of_lt (Nat.lt_of_lt_of_le (Heap.lt_size q) hp))]; exact n
  there := fun b u q _ => ⟨u, k b u q⟩
  tups := fun b xs q => by rw [upd_ne (ne_of_none q hn)]; exact q
  frzs := fun b u xs q => by rw [upd_ne (ne_of_none q hn)]; exact q
  tbls := fun b ps q => ⟨#[], by rw [upd_ne (ne_of_none q hn), q]; simp⟩
theorem Un.write (mu : Mut (H x)) (he : e = x ∨ H e = some (.own x)) (k : ∀ b u, b ≠ e → h.get? b = some u → h'.get? b = some u) (heo : ∃ u, h'.get? e = some u) : Un fs ex H (upd H x o) h h' := by
  have hx : ∀ b, H b = none → b ≠ x := fun b n z => by subst z; rw [n] at mu; exact mu
  have hb : ∀ b, H b = none → b ≠ e := fun b n z => by
    subst z
    rcases he with r | r
    · exact hx b n r
    · rw [n] at r; cases r
  have hm : ∀ b u, H b = some u → ¬ Mut (some u) → b ≠ x := fun b u q nm z => by subst z; rw [q] at mu; exact nm mu
  refine ⟨fun b u q n _ _ => k b u (hb b n) q, fun b u q n _ _ => ⟨u.slots, k b u (hb b n) q⟩, fun b u q n _ => by rw [upd_ne (hx b n)]; exact n, fun b u q _ => ?_,
    fun b xs q => by rw [upd_ne (hm b _ q fun z => z)]; exact q, fun b u xs q => by rw [upd_ne (hm b _ q fun z => z)]; exact q, fun b ps q => ⟨#[], by rw [upd_ne (hm b _ q fun z => z), q]; simp⟩⟩
  by_cases hbe : b = e
  · subst hbe; exact heo
  · exact ⟨u, k b u hbe q⟩
end

/-! ### the heap without what is tracked -/
def trk (h : Heap) (H : Hp) : List Addr := (List.range h.objs.size).filter fun a => (H a).isSome
def hidT (h : Heap) (H : Hp) : Heap := PySem.W.hideAll h (trk h H)
theorem hidT_size (h : Heap) (H : Hp) : (hidT h H).objs.size = h.objs.size := PySem.W.hideAll_size _ _
theorem hidT_get {h : Heap} {H : Hp} {b : Addr} {o : Obj} (e : h.get? b = some o) (n : H b = none) : (hidT h H).get? b = some o :=
  PySem.W.hideAll_get _ e fun hm => by
    have q : (H b).isSome = true := (List.mem_filter.mp hm).2
    rw [n] at q; simp at q
theorem of_hidT {h : Heap} {H : Hp} {b : Addr} {o : Obj} (e : (hidT h H).get? b = some o) : h.get? b = some o ∧ H b = none := by
  have e' : h.get? b = some o := PySem.W.of_hideAll (trk h H) e
  refine ⟨e', ?_⟩
  cases q : H b with
  | none => rfl
  | some x =>
    have hm : b ∈ trk h H := List.mem_filter.mpr ⟨List.mem_range.mpr (Heap.lt_size e'), by simp [q]⟩
    have z : (hidT h H).get? b = none := PySem.W.hideAll_none (trk h H) hm
    rw [z] at e; cases e

/-! ### OpenK's ledger, filled with every new object but one -/
end L2

namespace L2
open PySem PySem.Spec PyProof.Rows

/-- the module's facts, over the base: the heap at the law's entry without what is tracked there -/
structure Mod (K : PySem.W.Frag) (mg : Str → Option Value) (base : Heap) : Prop where
  kin : K.In base
  glob : base.Ns mainGlobals mg
  blt : ∃ mb, base.Ns builtinsNs mb ∧ ∀ x : Str, x ≠ "__name__" → mb x = bootBuiltins x
  nolimit : base.NoLimit

/-- the context: a def's body (or a comprehension's block) running. base: fixed through the whole law; s₀, H₀: the entry; outer: the frames whose slots others may change (a def's callers); stack: all frames that run;
   ex: iterators that were made ahead of the entry and are walked here (a comprehension's); fn: the names whose cells were made at the entry (a def: all; a comprehension's block: its own); calm: not within an except suite; pn: pins that every state bears; xe: what is wanted of an exception that leaves the code -/
structure Cx where
  prog : Program
  w : World
  K : PySem.W.Frag
  mg : Str → Option Value
  base : Heap
  A : Around
  N : List Str
  s_0 : Shared
  H_0 : Hp
  env : Env
  outer : List Env
  stack : List Env
  ex : List Addr
  fn : Str → Bool
  calm : Bool
  pn : List (Addr × Obj)
  xe : Value → Shared → Prop
/-- the callers' frames -/
def frs (l : List Env) : List Addr := l.filterMap (·.frame)
abbrev Cx.fs (X : Cx) : List Addr := frs X.outer

def Vis (sc : Scope) (x : Str) : Prop := sc.names.lookup x = some .local ∨ sc.names.lookup x = some .cell ∨ sc.names.lookup x = some .free
def Loc (sc : Scope) (x : Str) : Prop := sc.names.lookup x = some .local ∨ sc.names.lookup x = some .cell
def Look (env : Env) (h : Heap) (m : Str → Option Value) (x : Str) (u : Value) : Prop :=
  (env.kindOf x = some .local ∧ m x = some u) ∨ ((env.kindOf x = some .cell ∨ env.kindOf x = some .free) ∧ ∃ c, env.cells.lookup x = some c ∧ h.IsCell c (some u))

structure Cx.Ok (X : Cx) : Prop where
  mod : Mod X.K X.mg X.base
  kind : X.env.scope.kind = .function
  glob : X.env.globals = mainGlobals
  blt : X.env.builtins = builtinsNs
  above : X.s_0.heap.objs.size ≤ X.env.locals
  inj : ∀ x y c, X.env.cells.lookup x = some c → X.env.cells.lookup y = some c → x = y
  has : ∀ x, (X.env.kindOf x = some .cell ∨ X.env.kindOf x = some .free) → ∃ c, X.env.cells.lookup x = some c
  cab : ∀ x c, X.fn x = true → X.env.cells.lookup x = some c → X.s_0.heap.objs.size ≤ c
  hd : X.calm = true → X.A.handled = none
  frames : X.A.frames = some X.stack
  stk : X.stack = X.outer ∨ (X.stack = X.env :: X.outer ∧ X.env.frame = some X.env.locals)
  exf : ∀ b ∈ X.ex, b ≠ X.env.locals ∧ ∀ x c, X.env.cells.lookup x = some c → c ≠ b
  bs : ∀ b o, X.base.get? b = some o → X.s_0.heap.get? b = some o ∧ X.H_0 b = none
  bsz : X.base.objs.size ≤ X.s_0.heap.objs.size
  noex : ∀ b o, X.base.get? b = some o → b ∉ X.ex
  exfs : ∀ b ∈ X.ex, b ∉ X.fs
  funs : X.s_0.heap.FunFrames X.base X.outer
  frf : ∀ b ∈ X.fs, X.H_0 b = none

structure Inv (X : Cx) (pins : List (Addr × Obj)) (σ : List (Option V)) (H : Hp) (s : Shared) : Prop where
  ok : X.Ok
  os : s.os = X.s_0.os
  bare : AllBare s.gens
  base : Un X.fs X.ex X.H_0 H X.s_0.heap s.heap
  loc : ∃ m, s.heap.Ns X.env.locals m ∧ ∀ (i : Nat) (x : Str) (v : V), X.N[i]? = some x → σ[i]? = some (some v) → Vis X.env.scope x → ∃ u, RelV v u ∧ Look X.env s.heap m x u
  cell : ∀ x c, X.env.cells.lookup x = some c → ∃ v, s.heap.IsCell c v
  free : H X.env.locals = none
  freeC : ∀ x c, X.env.cells.lookup x = some c → H c = none
  pin : ∀ p ∈ X.pn ++ pins, s.heap.get? p.1 = some p.2 ∧ H p.1 = none ∧ p.1 ≠ X.env.locals ∧ p.1 ∉ X.fs ∧ ∀ v, p.2.data ≠ .cell v
  hok : HOk X.prog X.w H s.heap
  len : σ.length = X.N.length

section
variable {X : Cx} {pins : List (Addr × Obj)} {σ : List (Option V)} {H H' : Hp} {s : Shared} {h' : Heap}

theorem Cx.Ok.nofr (ok : X.Ok) {b : Addr} {o : Obj} (e : X.base.get? b = some o) : b ∉ X.fs := fun hb => by
  have := (ok.funs.mem hb).1
  rw [e] at this; cases this
theorem Inv.bs (I : Inv X pins σ H s) : ∀ b o, X.base.get? b = some o → s.heap.get? b = some o ∧ H b = none := fun b o e =>
  ⟨I.base.keep b o (I.ok.bs b o e).1 (I.ok.bs b o e).2 (I.ok.nofr e) (I.ok.noex b o e), I.base.free b o (I.ok.bs b o e).1 (I.ok.bs b o e).2 (I.ok.noex b o e)⟩
theorem Inv.bk (I : Inv X pins σ H s) : ∀ b o, X.base.get? b = some o → s.heap.get? b = some o := fun b o e => (I.bs b o e).1
theorem Inv.mod (I : Inv X pins σ H s) : Mod X.K X.mg X.base := I.ok.mod
theorem Inv.kIn (I : Inv X pins σ H s) : X.K.In s.heap := I.ok.mod.kin.keeps I.bk
theorem Inv.lt (I : Inv X pins σ H s) : X.env.locals < s.heap.objs.size := let ⟨_, hn, _⟩ := I.loc; hn.lt
theorem Inv.sz (I : Inv X pins σ H s) : X.s_0.heap.objs.size ≤ s.heap.objs.size := Nat.le_trans I.ok.above (Nat.le_of_lt I.lt)
theorem Inv.nofs (I : Inv X pins σ H s) {a : Addr} (h : s.heap.objs.size ≤ a) : a ∉ X.fs := fun hb => by
  obtain ⟨_, o, ho, _⟩ := I.ok.funs.mem hb
  exact absurd (Nat.lt_of_lt_of_le (Heap.lt_size ho) (Nat.le_trans I.sz h)) (Nat.lt_irrefl _)
theorem Inv.cne (I : Inv X pins σ H s) : ∀ x c, X.env.cells.lookup x = some c → c ≠ X.env.locals := fun x c e z => by
  obtain ⟨v, o, ho, hd⟩ := I.cell x c e
  obtain ⟨m, ⟨o', es, ep, ho', hd', _⟩, _⟩ := I.loc
  rw [z, ho'] at ho; cases ho; rw [hd'] at hd; cases hd
theorem Inv.funs (I : Inv X pins σ H s) : s.heap.FunFrames X.base X.outer := by
  have all : ∀ (l : List Env), (∀ b ∈ frs l, b ∈ X.fs) → X.s_0.heap.FunFrames X.base l → s.heap.FunFrames X.base l := by
    intro l
    induction l with
    | nil => intro _ _; trivial
    | cons env r ih =>
      intro hs hl
      obtain ⟨hk, ⟨L, o, hf, hn, ho, hd⟩, hr⟩ := hl
      have hL : L ∈ X.fs := hs L (by unfold frs; rw [List.filterMap_cons, hf]; exact List.mem_cons_self)
      obtain ⟨sl, e⟩ := I.base.slot L o ho (I.ok.frf L hL) hL fun z => I.ok.exfs L z hL
      exact ⟨hk, ⟨L, _, hf, hn, e, hd⟩, ih (fun b hb => hs b (by unfold frs; rw [List.filterMap_cons, hf]; exact List.mem_cons_of_mem _ hb)) hr⟩
  exact all X.outer (fun _ hb => hb) I.ok.funs

/-- the frames that run, for a call -/
theorem Inv.stack (I : Inv X pins σ H s) : s.heap.FunFrames X.base X.stack := by
  rcases I.ok.stk with e | ⟨e, hf⟩
  · rw [e]; exact I.funs
  · rw [e]
    obtain ⟨m, hn, _⟩ := I.loc
    refine .cons (by rw [I.ok.kind]; decide) hf hn ?_ I.funs
    exact Heap.get?_none_of_le (Nat.le_trans I.ok.bsz I.ok.above)
theorem Inv.stkSub (I : Inv X pins σ H s) : ∀ b ∈ frs X.stack, b ∈ X.env.locals :: X.fs := fun b hb => by
  rcases I.ok.stk with e | ⟨e, hf⟩
  · rw [e] at hb; exact List.mem_cons_of_mem _ hb
  · rw [e] at hb
    unfold frs at hb
    rw [List.filterMap_cons, hf] at hb
    exact hb
theorem Inv.stkFree (I : Inv X pins σ H s) : ∀ b ∈ frs X.stack, H b = none := fun b hb => by
  rcases List.mem_cons.mp (I.stkSub b hb) with e | hb
  · rw [e]; exact I.free
  · obtain ⟨_, o, ho, _⟩ := I.ok.funs.mem hb
    exact I.base.free b o ho (I.ok.frf b hb) fun z => I.ok.exfs b z hb

/-- THE STEP: the untracked objects but the frame and the records at ch are kept (the callers' frames up to slots), the frame's map is kept, the new abstract heap is held -/
theorem Inv.step {g' : Array GenState} {t' : Nat} {d' : Drawn} {ch : List Addr} (I : Inv X pins σ H s)
    (hch : ∀ b ∈ ch, (b ∈ X.ex ∨ X.s_0.heap.objs.size ≤ b) ∧ b ≠ X.env.locals ∧ (∀ x c, X.env.cells.lookup x = some c → c ≠ b) ∧ ∀ p ∈ X.pn ++ pins, p.1 ≠ b)
    (keep : ∀ b o, b ≠ X.env.locals → b ∉ X.fs → b ∉ ch → s.heap.get? b = some o → H b = none → h'.get? b = some o)
    (slot : ∀ b o, b ≠ X.env.locals → b ∈ X.fs → b ∉ ch → s.heap.get? b = some o → H b = none → ∃ sl, h'.get? b = some { o with slots := sl }) (free : ∀ b o, b ∉ ch → s.heap.get? b = some o → H b = none → H' b = none)
    (there : ∀ b o, b ∉ ch → s.heap.get? b = some o → ∃ o', h'.get? b = some o')
    (tups : ∀ b xs, H b = some (.tup xs) → H' b = some (.tup xs)) (frzs : ∀ b o u, H b = some (.frz o u) → H' b = some (.frz o u)) (tbls : ∀ b ps, H b = some (.tbl ps) → ∃ more, H' b = some (.tbl (ps ++ more)))
    (ns : ∀ m, s.heap.Ns X.env.locals m → h'.Ns X.env.locals m) (hok : HOk X.prog X.w H' h') (hg : AllBare g') :
    Inv X pins σ H' { s with heap := h', gens := g', drawn := d', toks := t' } := by
  have neL : ∀ b o, X.s_0.heap.get? b = some o → b ≠ X.env.locals := fun b o e => Nat.ne_of_lt (Nat.lt_of_lt_of_le (Heap.lt_size e) I.ok.above)
  have neC : ∀ b o, X.s_0.heap.get? b = some o → b ∉ X.ex → b ∉ ch := fun b o e hx hb => by
    rcases (hch b hb).1 with z | z
    · exact hx z
    · exact absurd (Nat.lt_of_lt_of_le (Heap.lt_size e) z) (Nat.lt_irrefl _)
  have cellK : ∀ x c, X.env.cells.lookup x = some c → ∀ v, s.heap.IsCell c v → h'.IsCell c v := fun x c e v ⟨o, ho, hd⟩ => by
    have nch : c ∉ ch := fun z => (hch c z).2.2.1 x c e rfl
    by_cases hc : c ∈ X.fs
    · obtain ⟨sl, q⟩ := slot c o (I.cne x c e) hc nch ho (I.freeC x c e)
      exact ⟨_, q, hd⟩
    · exact ⟨o, keep c o (I.cne x c e) hc nch ho (I.freeC x c e), hd⟩
  refine ⟨I.ok, I.os, hg, ⟨fun b o e n hb hx => ?_, fun b o e n hb hx => ?_, fun b o e n hx => ?_, fun b o e hx => ?_, fun b xs e => tups b xs (I.base.tups b xs e), fun b o xs e => frzs b o xs (I.base.frzs b o xs e), fun b ps e => ?_⟩, ?_, fun x c e => ?_, ?_, fun x c e => ?_, fun p hp => ?_, hok, I.len⟩
  · exact keep b o (neL b o e) hb (neC b o e hx) (I.base.keep b o e n hb hx) (I.base.free b o e n hx)
  · obtain ⟨sl, e1⟩ := I.base.slot b o e n hb hx
    obtain ⟨sl', e2⟩ := slot b _ (neL b o e) hb (neC b o e hx) e1 (I.base.free b o e n hx)
    exact ⟨sl', e2⟩
  · obtain ⟨o', e1⟩ := I.base.there b o e hx
    exact free b o' (neC b o e hx) e1 (I.base.free b o e n hx)
  · obtain ⟨o', e1⟩ := I.base.there b o e hx
    exact there b o' (neC b o e hx) e1
  · obtain ⟨m1, e1⟩ := I.base.tbls b ps e
    obtain ⟨m2, e2⟩ := tbls b _ e1
    exact ⟨m1 ++ m2, by rw [e2, Array.append_assoc]⟩
  · obtain ⟨m, hn, hl⟩ := I.loc
    refine ⟨m, ns m hn, fun i x v e1 e2 e3 => ?_⟩
    obtain ⟨u, r, l⟩ := hl i x v e1 e2 e3
    refine ⟨u, r, ?_⟩
    rcases l with l | ⟨k, c, e, z⟩
    · exact .inl l
    · exact .inr ⟨k, c, e, cellK x c e _ z⟩
  · obtain ⟨v, z⟩ := I.cell x c e
    exact ⟨v, cellK x c e v z⟩
  · obtain ⟨m, ⟨o, _, _, ho, _⟩, _⟩ := I.loc
    exact free _ o (fun z => (hch _ z).2.1 rfl) ho I.free
  · obtain ⟨v, o, ho, hd⟩ := I.cell x c e
    exact free c o (fun z => (hch c z).2.2.1 x c e rfl) ho (I.freeC x c e)
  · obtain ⟨e, n, ne, nf, d⟩ := I.pin p hp
    have nch : p.1 ∉ ch := fun z => (hch p.1 z).2.2.2 p hp rfl
    exact ⟨keep p.1 p.2 ne nf nch e n, free p.1 p.2 nch e n, ne, nf, d⟩
/-- .. where the frame's own object is kept too -/
theorem Inv.un {t' : Nat} (I : Inv X pins σ H s) (u : Un X.fs [] H H' s.heap h') (hok : HOk X.prog X.w H' h') : Inv X pins σ H' { s with heap := h', toks := t' } := by
  obtain ⟨m, ⟨o, es, ep, ho, r⟩, _⟩ := id I.loc
  obtain ⟨sl, hL⟩ := u.any ho I.free (by simp)
  exact I.step (g' := s.gens) (d' := s.drawn) (ch := []) (fun _ z => nomatch z) (fun b o _ hb _ e n => u.keep b o e n hb (by simp)) (fun b o _ hb _ e n => u.slot b o e n hb (by simp)) (fun b o _ e n => u.free b o e n (by simp)) (fun b o _ e => u.there b o e (by simp)) u.tups u.frzs u.tbls (fun m' hm => by
    obtain ⟨o', es', ep', ho', r'⟩ := hm
    rw [ho] at ho'; cases ho'
    exact ⟨_, es', ep', hL, r'⟩) hok I.bare
/-- behind a call (or a comprehension's block): the slots of this frame may have changed too, the records at ch may have turned -/
theorem Inv.call {g' : Array GenState} {t' : Nat} {d' : Drawn} {ch : List Addr} (I : Inv X pins σ H s) (u : Un (frs X.stack) ch H H' s.heap h') (hok : HOk X.prog X.w H' h') (hg : AllBare g')
    (hch : ∀ b ∈ ch, (b ∈ X.ex ∨ X.s_0.heap.objs.size ≤ b) ∧ b ≠ X.env.locals ∧ (∀ x c, X.env.cells.lookup x = some c → c ≠ b) ∧ ∀ p ∈ X.pn ++ pins, p.1 ≠ b) :
    Inv X pins σ H' { s with heap := h', gens := g', drawn := d', toks := t' } := by
  obtain ⟨m, ⟨o, es, ep, ho, r⟩, _⟩ := id I.loc
  obtain ⟨sl, hL⟩ := u.any ho I.free fun z => (hch _ z).2.1 rfl
  exact I.step (ch := ch) hch (fun b o hL hb hc e n => u.keep b o e n (fun z => (List.mem_cons.mp (I.stkSub b z)).elim hL hb) hc) (fun b o _ _ hc e n => u.any e n hc) (fun b o hc e n => u.free b o e n hc) (fun b o hc e => u.there b o e hc) u.tups u.frzs u.tbls (fun m' hm => by
    obtain ⟨o', es', ep', ho', r'⟩ := hm
    rw [ho] at ho'; cases ho'
    exact ⟨_, es', ep', hL, r'⟩) hok hg
/-- an untracked record of ours (an iterator) has turned -/
theorem Inv.turned {t' : Nat} {it : Addr} (I : Inv X pins σ H s) (k : ∀ b o, b ≠ it → s.heap.get? b = some o → h'.get? b = some o) (hn : H it = none) (hL : it ≠ X.env.locals)
    (h1 : it ∈ X.ex ∨ X.s_0.heap.objs.size ≤ it) (h2 : ∀ x c, X.env.cells.lookup x = some c → c ≠ it) (h3 : ∀ p ∈ X.pn ++ pins, p.1 ≠ it) : Inv X pins σ H { s with heap := h', toks := t' } := by
  have nit : ∀ b u, H b = some u → b ≠ it := fun b u e z => by rw [z, hn] at e; cases e
  refine I.step (g' := s.gens) (d' := s.drawn) (ch := [it]) (fun b hb => ?_) (fun b o _ _ hc e _ => k b o (fun z => hc (by simp [z])) e) (fun b o _ _ hc e _ => ⟨o.slots, k b o (fun z => hc (by simp [z])) e⟩) (fun _ _ _ _ n => n)
    (fun b o hc e => ⟨o, k b o (fun z => hc (by simp [z])) e⟩) (fun _ _ e => e) (fun _ _ _ e => e) (fun b ps e => ⟨#[], by rw [e]; simp⟩) (fun m hm => ?_) (fun b u e => ?_) I.bare
  · have e : b = it := by simpa using hb
    subst e
    exact ⟨h1, hL, h2, h3⟩
  · obtain ⟨o, es, ep, ho, r⟩ := hm
    exact ⟨o, es, ep, k _ o (Ne.symm hL) ho, r⟩
  · refine (I.hok b u e).stay (fun c v hc q => k c v ?_ q) (fun _ q => q) fun _ _ q => q
    rcases hc with z | z
    · rw [z]; exact nit b u e
    · exact nit c _ z
theorem Inv.tok (I : Inv X pins σ H s) (t : Nat) : Inv X pins σ H { s with toks := t } := I.un (h' := s.heap) (t' := t) Un.refl I.hok
/-- all objects kept -/
theorem Inv.kept {t' : Nat} (I : Inv X pins σ H s) (k : ∀ b u, s.heap.get? b = some u → h'.get? b = some u) : Inv X pins σ H { s with heap := h', toks := t' } := I.un (Un.kept k) (I.hok.kept k)
/-- a new object laid and tracked -/
theorem Inv.laid {a : Addr} {o : HO} {t' : Nat} (I : Inv X pins σ H s) (k : ∀ b u, s.heap.get? b = some u → h'.get? b = some u) (hp : s.heap.objs.size ≤ a) (new : ObjOk X.prog X.w (upd H a o) h' a o) :
    Inv X pins σ (upd H a o) { s with heap := h', toks := t' } := I.un (Un.laid k hp (I.hok.fresh hp)) (I.hok.laid k hp new)
/-- an object written -/
theorem Inv.write {x e : Addr} {o : HO} {t' : Nat} (I : Inv X pins σ H s) (mu : Mut (H x)) (he : e = x ∨ H e = some (.own x)) (k : ∀ b u, b ≠ e → s.heap.get? b = some u → h'.get? b = some u) (heo : ∃ u, h'.get? e = some u)
    (new : ObjOk X.prog X.w (upd H x o) h' x o) : Inv X pins σ (upd H x o) { s with heap := h', toks := t' } := I.un (Un.write mu he k heo) (I.hok.write mu he k heo new)
/-- forgetting slots, pins -/
theorem Inv.weak {σ' : List (Option V)} (I : Inv X pins σ H s) (hl : σ'.length = σ.length) (w : ∀ (i : Nat) v, σ'[i]? = some (some v) → σ[i]? = some (some v)) : Inv X pins σ' H s :=
  ⟨I.ok, I.os, I.bare, I.base, let ⟨m, hn, hl'⟩ := I.loc; ⟨m, hn, fun i x v e1 e2 e3 => hl' i x v e1 (w i v e2) e3⟩, I.cell, I.free, I.freeC, I.pin, I.hok, hl.trans I.len⟩
theorem Inv.pins_of {pins' : List (Addr × Obj)} (I : Inv X pins σ H s) (h : ∀ p ∈ pins', s.heap.get? p.1 = some p.2 ∧ H p.1 = none ∧ p.1 ≠ X.env.locals ∧ p.1 ∉ X.fs ∧ ∀ v, p.2.data ≠ .cell v) : Inv X pins' σ H s :=
  ⟨I.ok, I.os, I.bare, I.base, I.loc, I.cell, I.free, I.freeC, fun p hp => (List.mem_append.mp hp).elim (fun z => I.pin p (List.mem_append_left _ z)) (h p), I.hok, I.len⟩

theorem nodup_ix {N : List Str} (hN : N.Nodup) {i j : Nat} {x : Str} (a : N[i]? = some x) (b : N[j]? = some x) : i = j := by
  obtain ⟨h1, e1⟩ := List.getElem?_eq_some_iff.mp a
  obtain ⟨h2, e2⟩ := List.getElem?_eq_some_iff.mp b
  exact (List.getElem_inj hN).mp (e1.trans e2.symm)

/-- a name is stored; what changed -/
theorem store_ok2 {M : Model} {A : Around} {E : Value → Shared → Prop} {i : Nat} {x : Str} {v : V} {u : Value} {Q : Unit → Shared → Prop} (I : Inv X pins σ H s) (hN : X.N.Nodup) (hi : X.N[i]? = some x) (hx : Loc X.env.scope x) (r : RelV v u)
    (h : ∀ s', Inv X pins (σ.set i (some v)) H s' → (∃ a, Heap.SameBut a s.heap s'.heap ∧ (a = X.env.locals ∨ X.env.cells.lookup x = some a)) → Q () s') (hf : X.fn x = true ∨ X.env.scope.names.lookup x = some .local := by first | exact .inl rfl | exact .inr rfl | assumption) : wpAny M A (storeName X.env x u) Q E s := by
  obtain ⟨m, hn, hl⟩ := id I.loc
  have hcls : (X.env.scope.kind == .class || (X.env.scope.kind == .module && X.env.locals != X.env.globals)) = false := by rw [I.ok.kind]; rfl
  have hiσ : i < σ.length := by rw [I.len]; exact (List.getElem?_eq_some_iff.mp hi).1
  have cne := I.cne
  have tracked : ∀ {a : Addr} {h' : Heap}, (∃ o, s.heap.get? a = some o ∧ H a = none) → Heap.SameBut a s.heap h' → HOk X.prog X.w H h' := fun {a h'} ha hs b ob e => by
    obtain ⟨_, _, hfree⟩ := ha
    refine (I.hok b ob e).stay (fun c w' hc q => (hs.2 c ?_).trans q) (fun _ q => q) fun _ _ q => q
    rintro rfl
    rcases hc with rfl | hc
    · rw [hfree] at e; cases e
    · rw [hfree] at hc; cases hc
  rcases hx with hk | hk
  · refine wpAny_storeName_local hk hn (fun h' hn' hs => ?_) hcls
    obtain ⟨oL, _, _, hoL, _⟩ := id hn
    refine h _ ⟨I.ok, I.os, I.bare, ⟨fun b o e n hb hx => ?_, fun b o e n hb hx => ?_, I.base.free, fun b o e hx => ?_, I.base.tups, I.base.frzs, I.base.tbls⟩, ⟨_, hn', fun j y v' e1 e2 e3 => ?_⟩, fun y c e => ?_, I.free, I.freeC, fun p hp => ?_, tracked ⟨oL, hoL, I.free⟩ hs, by simpa using I.len⟩ ⟨_, hs, .inl rfl⟩
    · exact (hs.2 b (Nat.ne_of_lt (Nat.lt_of_lt_of_le (Heap.lt_size e) I.ok.above))).trans (I.base.keep b o e n hb hx)
    · obtain ⟨sl, e1⟩ := I.base.slot b o e n hb hx
      exact ⟨sl, (hs.2 b (Nat.ne_of_lt (Nat.lt_of_lt_of_le (Heap.lt_size e) I.ok.above))).trans e1⟩
    · obtain ⟨o', e1⟩ := I.base.there b o e hx
      exact ⟨o', (hs.2 b (Nat.ne_of_lt (Nat.lt_of_lt_of_le (Heap.lt_size e) I.ok.above))).trans e1⟩
    · by_cases hj : j = i
      · subst hj
        rw [hi] at e1; cases e1
        rw [List.getElem?_set_self hiσ] at e2
        cases e2
        exact ⟨u, r, .inl ⟨hk, by simp⟩⟩
      · rw [List.getElem?_set_ne (Ne.symm hj)] at e2
        obtain ⟨u', r', q⟩ := hl j y v' e1 e2 e3
        refine ⟨u', r', ?_⟩
        rcases q with ⟨k, e⟩ | ⟨k, c, e, z⟩
        · refine .inl ⟨k, ?_⟩
          have : y ≠ x := fun e => hj (nodup_ix hN e1 (e ▸ hi))
          simp [this, e]
        · exact .inr ⟨k, c, e, z.sameBut hs (cne y c e)⟩
    · obtain ⟨w', z⟩ := I.cell y c e
      exact ⟨w', z.sameBut hs (cne y c e)⟩
    · obtain ⟨e, n, ne, nf, d⟩ := I.pin p hp
      exact ⟨(hs.2 p.1 ne).trans e, n, ne, nf, d⟩
  · have hfn : X.fn x = true := by
      rcases hf with z | z
      · exact z
      · rw [z] at hk; cases hk
    obtain ⟨c, hc⟩ := I.ok.has x (.inl hk)
    obtain ⟨w', z⟩ := I.cell x c hc
    refine wpAny_storeName_cell I.ok.kind hk hc z (fun h' hc' hs => ?_)
    obtain ⟨oc, hoc, hocd⟩ := id z
    refine h { s with heap := h' } ⟨I.ok, I.os, I.bare, ⟨fun b o e n hb hx => ?_, fun b o e n hb hx => ?_, I.base.free, fun b o e hx => ?_, I.base.tups, I.base.frzs, I.base.tbls⟩, ⟨m, hn.sameBut hs (Ne.symm (cne x c hc)), fun j y v' e1 e2 e3 => ?_⟩, fun y c' e => ?_, I.free, I.freeC, fun p hp => ?_, tracked ⟨oc, hoc, I.freeC x c hc⟩ hs, by simpa using I.len⟩ ⟨c, hs, .inr hc⟩
    · exact (hs.2 b (Nat.ne_of_lt (Nat.lt_of_lt_of_le (Heap.lt_size e) (I.ok.cab x c hfn hc)))).trans (I.base.keep b o e n hb hx)
    · obtain ⟨sl, e1⟩ := I.base.slot b o e n hb hx
      exact ⟨sl, (hs.2 b (Nat.ne_of_lt (Nat.lt_of_lt_of_le (Heap.lt_size e) (I.ok.cab x c hfn hc)))).trans e1⟩
    · obtain ⟨o', e1⟩ := I.base.there b o e hx
      exact ⟨o', (hs.2 b (Nat.ne_of_lt (Nat.lt_of_lt_of_le (Heap.lt_size e) (I.ok.cab x c hfn hc)))).trans e1⟩
    · by_cases hj : j = i
      · subst hj
        rw [hi] at e1; cases e1
        rw [List.getElem?_set_self hiσ] at e2
        cases e2
        exact ⟨u, r, .inr ⟨.inl hk, c, hc, hc'⟩⟩
      · rw [List.getElem?_set_ne (Ne.symm hj)] at e2
        obtain ⟨u', r', q⟩ := hl j y v' e1 e2 e3
        refine ⟨u', r', ?_⟩
        rcases q with q | ⟨k, c', e, z'⟩
        · exact .inl q
        · refine .inr ⟨k, c', e, z'.sameBut hs ?_⟩
          rintro rfl
          exact hj (nodup_ix hN e1 (I.ok.inj _ _ _ e hc ▸ hi))
    · by_cases hcc : c' = c
      · subst hcc; exact ⟨_, hc'⟩
      · obtain ⟨w2, z2⟩ := I.cell y c' e
        exact ⟨w2, z2.sameBut hs hcc⟩
    · obtain ⟨e, n, ne, nf, d⟩ := I.pin p hp
      refine ⟨(hs.2 p.1 ?_).trans e, n, ne, nf, d⟩
      intro q
      rw [q, hoc] at e
      have q' : oc = p.2 := Option.some.inj e
      exact d w' (by rw [← q']; exact hocd)
theorem store_ok {M : Model} {A : Around} {E : Value → Shared → Prop} {i : Nat} {x : Str} {v : V} {u : Value} {Q : Unit → Shared → Prop} (I : Inv X pins σ H s) (hN : X.N.Nodup) (hi : X.N[i]? = some x) (hx : Loc X.env.scope x) (r : RelV v u)
    (h : ∀ s', Inv X pins (σ.set i (some v)) H s' → Q () s') (hf : X.fn x = true ∨ X.env.scope.names.lookup x = some .local := by first | exact .inl rfl | exact .inr rfl | assumption) : wpAny M A (storeName X.env x u) Q E s :=
  store_ok2 I hN hi hx r (fun s' I' _ => h s' I') hf
/-- behind a call or a block, the state as it is -/
theorem Inv.call' {s' : Shared} {ch : List Addr} (I : Inv X pins σ H s) (ho : s'.os = s.os) (u : Un (frs X.stack) ch H H' s.heap s'.heap) (hok : HOk X.prog X.w H' s'.heap) (hg : AllBare s'.gens)
    (hch : ∀ b ∈ ch, (b ∈ X.ex ∨ X.s_0.heap.objs.size ≤ b) ∧ b ≠ X.env.locals ∧ (∀ x c, X.env.cells.lookup x = some c → c ≠ b) ∧ ∀ p ∈ X.pn ++ pins, p.1 ≠ b) : Inv X pins σ H' s' := by
  obtain ⟨h', g', d', t', o'⟩ := s'
  have e : o' = s.os := ho
  subst e
  exact I.call (g' := g') (t' := t') (d' := d') u hok hg hch
end

/-! ### the judgements -/
/-- an exception: its class, its own dict's address (where it has one), the abstract heap behind it -/
abbrev XK := Value → Option Addr → Hp → Prop
abbrev St := List (Option V)
abbrev VK := V → Hp → Prop
/-- an expression's reading; a test's; an argument list's -/
abbrev TE := St → Hp → VK → Prop
abbrev TT := St → Hp → (Bool → Hp → Prop) → Prop
abbrev TA := St → Hp → (List V → Hp → Prop) → Prop
/-- what is wanted behind a statement -/
structure Ends where
  nx : St → Hp → Prop
  rt : VK
  bk : St → Hp → Prop := fun _ _ => False
  ct : St → Hp → Prop := fun _ _ => False
abbrev TS := Ends → St → Hp → Prop

def EP (X : Cx) (pins : List (Addr × Obj)) (σ : St) (Q : VK) (u : Value) (s' : Shared) : Prop := ∃ v H', Inv X pins σ H' s' ∧ RelV v u ∧ Q v H'
def TP (X : Cx) (pins : List (Addr × Obj)) (σ : St) (Q : Bool → Hp → Prop) (b : Bool) (s' : Shared) : Prop := ∃ H', Inv X pins σ H' s' ∧ Q b H'
def AP (X : Cx) (pins : List (Addr × Obj)) (σ : St) (Q : List V → Hp → Prop) (us : List Value) (s' : Shared) : Prop := ∃ vs H', Inv X pins σ H' s' ∧ Vals vs us ∧ Q vs H'
def SP (X : Cx) (pins : List (Addr × Obj)) (D : Ends) (f : Flow) (s' : Shared) : Prop :=
  match f with
  | .next => ∃ σ' H', Inv X pins σ' H' s' ∧ D.nx σ' H'
  | .brk => ∃ σ' H', Inv X pins σ' H' s' ∧ D.bk σ' H'
  | .cont => ∃ σ' H', Inv X pins σ' H' s' ∧ D.ct σ' H'
  | .ret u => ∃ v σ' H', Inv X pins σ' H' s' ∧ RelV v u ∧ D.rt v H'

def PE (X : Cx) (e : Expr) (t : TE) : Prop :=
  ∀ (pins : List (Addr × Obj)) (s : Shared) (σ : St) (H : Hp) (Q : VK), Inv X pins σ H s → t σ H Q → wpAny (model X.prog X.w) X.A (eval e X.env) (EP X pins σ Q) X.xe s
def PT (X : Cx) (e : Expr) (t : TT) : Prop :=
  ∀ (pins : List (Addr × Obj)) (s : Shared) (σ : St) (H : Hp) (Q : Bool → Hp → Prop), Inv X pins σ H s → t σ H Q → wpAny (model X.prog X.w) X.A (isTrue e X.env (eval e X.env)) (TP X pins σ Q) X.xe s
/-- a test whatever its 'whole' is (and, or) -/
def PW (X : Cx) (e : Expr) (t : TT) : Prop :=
  ∀ (whole : Sem Value) (pins : List (Addr × Obj)) (s : Shared) (σ : St) (H : Hp) (Q : Bool → Hp → Prop), Inv X pins σ H s → t σ H Q → wpAny (model X.prog X.w) X.A (isTrue e X.env whole) (TP X pins σ Q) X.xe s
theorem PW.pt {X : Cx} {e : Expr} {t : TT} (h : PW X e t) : PT X e t := h _
/-- an argument list (no star), from the left -/
def PA (X : Cx) (es : List Expr) (t : TA) : Prop :=
  ∀ (pos : Pos) (pins : List (Addr × Obj)) (s : Shared) (σ : St) (H : Hp) (Q : List V → Hp → Prop), Inv X pins σ H s → t σ H Q → wpAny (model X.prog X.w) X.A (spliced (backTo pos (starEach es X.env))) (AP X pins σ Q) X.xe s
def PS (X : Cx) (st : Stmt) (t : TS) : Prop :=
  ∀ (pins : List (Addr × Obj)) (s : Shared) (σ : St) (H : Hp) (D : Ends), Inv X pins σ H s → t D σ H → wpAny (model X.prog X.w) X.A (exec st X.env) (SP X pins D) X.xe s
def PSs (X : Cx) (st : List Stmt) (t : TS) : Prop :=
  ∀ (pins : List (Addr × Obj)) (s : Shared) (σ : St) (H : Hp) (D : Ends), Inv X pins σ H s → t D σ H → wpAny (model X.prog X.w) X.A (execs st X.env) (SP X pins D) X.xe s
/-- weaken the end -/
theorem thn {α : Type} {t : Sem α} {Q Q' : α → Shared → Prop} {M : Model} {A : Around} {E : Value → Shared → Prop} {s : Shared} (h : wpAny M A t Q E s) (hQ : ∀ a s, Q a s → Q' a s) : wpAny M A t Q' E s := wpAny_mono h hQ fun _ _ x => x
end L2

namespace L2
open PySem PySem.Spec PyProof.Rows
section
variable {X : Cx}


/-! ### names and constants -/
def tVar (i : Nat) : TE := fun σ H Q => ∃ v, σ[i]? = some (some v) ∧ Q v H
def tC (v : V) : TE := fun _ H Q => Q v H
theorem pe_var {i : Nat} {x : Str} {pos : Pos} (hN : X.N[i]? = some x) (hv : Vis X.env.scope x) (hd : (x == ("__debug__" : Str)) = false := by decide) (hcd : (x == ("__classdict__" : Str)) = false := by decide) : PE X (.Name x pos) (tVar i) := by
  intro pins s σ H Q I h
  obtain ⟨v, e, h⟩ := h
  obtain ⟨m, hn, hl⟩ := I.loc
  obtain ⟨u, r, l⟩ := hl i x v hN e hv
  have fin : EP X pins σ Q u s := ⟨v, H, I, r, h⟩
  rcases l with ⟨hk, hm⟩ | ⟨hk, c, hc, hcell⟩
  · exact wpAny_Name (wpAny_loadName_local I.ok.kind hk hn hm fin) hd
  · rcases hk with hk | hk
    · exact wpAny_Name (wpAny_loadName_cell I.ok.kind hk hc hcell fin) hd
    · exact wpAny_Name (wpAny_loadName_free I.ok.kind hk hc hcell fin hcd) hd
theorem pe_int {i j pos} : PE X (.Constant (.int i) j pos) (tC (.int i)) := fun _ _ _ H _ I h => wpAny_Constant_int ⟨.int i, H, I.tok _, ⟨_, rfl⟩, h⟩
theorem pe_bl {b j pos} : PE X (.Constant (.bool b) j pos) (tC (.bl b)) := fun _ _ _ H _ I h => Constant_bool ⟨.bl b, H, I, rfl, h⟩
theorem pe_non {j pos} : PE X (.Constant .none j pos) (tC .non) := fun _ _ _ H _ I h => Constant_none ⟨.non, H, I, rfl, h⟩

/-- a global name of the def -/
def Gl (X : Cx) (x : Str) : Prop := X.env.kindOf x = some .globalImplicit
theorem ld_glob {E : Value → Shared → Prop} {pins : List (Addr × Obj)} {s : Shared} {σ : St} {H : Hp} {x : Str} {u : Value} {pos : Pos} {Q : Value → Shared → Prop} (I : Inv X pins σ H s) (hg : Gl X x) (hm : X.mg x = some u) (h : Q u s)
    (hd : (x == ("__debug__" : Str)) = false := by decide) : wpAny (model X.prog X.w) X.A (eval (.Name x pos) X.env) Q E s :=
  Calls.Name_function_global I.ok.kind hg (Calls.loadGlobal_global (by rw [I.ok.glob]; exact I.mod.glob.keeps I.bk) hm h) hd
theorem ld_blt {E : Value → Shared → Prop} {pins : List (Addr × Obj)} {s : Shared} {σ : St} {H : Hp} {x : Str} {u : Value} {pos : Pos} {Q : Value → Shared → Prop} (I : Inv X pins σ H s) (hg : Gl X x) (hm : X.mg x = none) (hv : bootBuiltins x = some u) (h : Q u s)
    (hn : x ≠ "__name__" := by decide) (hd : (x == ("__debug__" : Str)) = false := by decide) : wpAny (model X.prog X.w) X.A (eval (.Name x pos) X.env) Q E s := by
  obtain ⟨mb, h1, h2⟩ := I.mod.blt
  exact Calls.Name_function_global I.ok.kind hg (Calls.loadGlobal_builtin (by rw [I.ok.glob]; exact I.mod.glob.keeps I.bk) hm (by rw [I.ok.blt]; exact h1.keeps I.bk) ((h2 x hn).trans hv) h) hd
/-- a module's constant, a class, a function, as a value -/
theorem pe_glob {x : Str} {v : V} {u : Value} {pos : Pos} (hg : Gl X x) (hm : X.mg x = some u) (r : RelV v u) (hd : (x == ("__debug__" : Str)) = false := by decide) : PE X (.Name x pos) (tC v) :=
  fun _ _ _ H _ I h => ld_glob I hg hm ⟨v, H, I, r, h⟩ hd

/-! ### arithmetic -/
variable {a b : Expr} {ta tb : TE} {pos : Pos}

/-! ### comparisons -/
/-- a comparison as a value, as a test -/
def tB (t : TE) : TT := fun σ H Q => t σ H fun x H1 => ∃ c, x = .bl c ∧ Q c H1
/-- an expression whose value is a bool, as a test -/
theorem pt_val {e : Expr} {t : TE} (h : PE X e t) (he : ∀ whole, isTrue e X.env whole = (do let v ← whole; standAt e.pos; holding [v] (truthy v)) := by intro _; rfl) : PT X e (tB t) := by
  intro pins s σ H Q I hw
  refine isTrue_plain (thn (h pins s σ H _ I hw) fun v s1 ⟨x, H1, I1, r1, q1⟩ => ?_) (he _)
  obtain ⟨d, rfl, q⟩ := q1
  cases r1
  exact wpAny_truthy_bool ⟨H1, I1, q⟩

/-! ### and, or, not -/
variable {tA tB' : TT} {rest : List Expr}
def tAnd (t u : TT) : TT := fun σ H Q => t σ H fun c H1 => if c = true then u σ H1 Q else Q false H1
def tOr (t u : TT) : TT := fun σ H Q => t σ H fun c H1 => if c = true then Q true H1 else u σ H1 Q
def tNot (t : TT) : TT := fun σ H Q => t σ H fun c H1 => Q (!c) H1
theorem pw_and1 (ha : PT X a tA) : PW X (.BoolOp .And [a] pos) tA := by
  intro wh pins s σ H Q I h
  refine isTrue_and (thn (ha pins s σ H Q I h) fun c s1 e => ?_)
  cases c with
  | true => exact isTrue_and_nil e
  | false => exact e
theorem pw_or1 (ha : PT X a tA) : PW X (.BoolOp .Or [a] pos) tA := by
  intro wh pins s σ H Q I h
  refine isTrue_or (thn (ha pins s σ H Q I h) fun c s1 e => ?_)
  cases c with
  | false => exact isTrue_or_nil e
  | true => exact e
theorem pw_and (ha : PT X a tA) (hb : PW X (.BoolOp .And (b :: rest) pos) tB') : PW X (.BoolOp .And (a :: b :: rest) pos) (tAnd tA tB') := by
  intro wh pins s σ H Q I h
  refine isTrue_and (thn (ha pins s σ H _ I h) fun c s1 ⟨H1, I1, q1⟩ => ?_)
  cases c with
  | true => exact hb wh pins s1 σ H1 Q I1 q1
  | false => exact ⟨H1, I1, q1⟩
theorem pw_or (ha : PT X a tA) (hb : PW X (.BoolOp .Or (b :: rest) pos) tB') : PW X (.BoolOp .Or (a :: b :: rest) pos) (tOr tA tB') := by
  intro wh pins s σ H Q I h
  refine isTrue_or (thn (ha pins s σ H _ I h) fun c s1 ⟨H1, I1, q1⟩ => ?_)
  cases c with
  | true => exact ⟨H1, I1, q1⟩
  | false => exact hb wh pins s1 σ H1 Q I1 q1
theorem pt_not (ha : PT X a tA) : PT X (.UnaryOp .Not a pos) (tNot tA) := by
  intro pins s σ H Q I h
  exact isTrue_not (ha pins s σ H (fun c H1 => Q (!c) H1) I h)
def tOrV (ta tb : TE) : TE := fun σ H Q => ta σ H fun x H1 => ∃ c, x = .bl c ∧ if c = true then Q (.bl true) H1 else tb σ H1 Q
theorem pe_one {op} {t : TE} (h : PE X a t) : PE X (.BoolOp op [a] pos) t := fun pins s σ H Q I hw => BoolOp_one (h pins s σ H Q I hw)
theorem pe_or (ha : PE X a ta) (hb : PE X (.BoolOp .Or (b :: rest) pos) tb) : PE X (.BoolOp .Or (a :: b :: rest) pos) (tOrV ta tb) := by
  intro pins s σ H Q I h
  refine BoolOp_or (thn (ha pins s σ H _ I h) fun v s1 ⟨x, H1, I1, r1, q1⟩ => ?_)
  obtain ⟨c, rfl, q1⟩ := q1
  cases r1
  refine wpAny_truthy_bool ?_
  cases c with
  | false => exact hb pins s1 σ H1 Q I1 q1
  | true => exact ⟨.bl true, H1, I1, rfl, q1⟩
/-- a if t else b -/
def tIf (t : TT) (ta tb : TE) : TE := fun σ H Q => t σ H fun c H1 => if c = true then ta σ H1 Q else tb σ H1 Q
theorem pe_ifExp {c : Expr} (hc : PT X c tA) (ha : PE X a ta) (hb : PE X b tb) : PE X (.IfExp c a b pos) (tIf tA ta tb) := by
  intro pins s σ H Q I h
  refine wpAny_IfExp (thn (hc pins s σ H _ I h) fun d s1 ⟨H1, I1, q1⟩ => ?_)
  cases d with
  | true => exact ha pins s1 σ H1 Q I1 q1
  | false => exact hb pins s1 σ H1 Q I1 q1
end
end L2

namespace L2
open PySem PySem.Spec PyProof.Rows

/-! ### a list, a tuple that is read: tracked, frozen, or an object of the module -/
def SqL (K : PySem.W.Frag) (H : Hp) (a : Addr) (xs : List V) : Prop :=
  Rd H a (.lst xs) ∨
    ∃ (o : Obj) (its : Array Value) (n : Nat), K.lookup a = some o ∧ o.cls = .type "list" ∧ o.dict = none ∧ o.data = .seq its n ∧ its.size ≤ sizeLine ∧ Vals xs its.toList
def SqT (K : PySem.W.Frag) (H : Hp) (a : Addr) (xs : List V) : Prop :=
  Rd H a (.tup xs) ∨
    ∃ (o : Obj) (its : Array Value) (n : Nat), K.lookup a = some o ∧ o.cls = .type "tuple" ∧ o.data = .seq its n ∧ its.size ≤ sizeLine ∧ Vals xs its.toList
def absV : Value → Option V
  | .none => some .non
  | .bool b => some (.bl b)
  | .int i _ => some (.int i)
  | .str x _ => some (.str x)
  | .bytes b _ => some (.byt b)
  | .float b _ => some (.flt b)
  | .ref a => some (.ref a)
  | .type n => some (.ty n)
  | _ => none
theorem RelV.abs {x : V} {u : Value} (r : RelV x u) : absV u = some x := by
  cases x with
  | non => cases r; rfl
  | bl _ => cases r; rfl
  | int _ => obtain ⟨t, rfl⟩ := r; rfl
  | str _ => obtain ⟨t, rfl⟩ := r; rfl
  | byt _ => obtain ⟨t, rfl⟩ := r; rfl
  | flt _ => obtain ⟨t, rfl⟩ := r; rfl
  | ref _ => cases r; rfl
  | ty _ => cases r; rfl
theorem RelV.inj {x y : V} {u : Value} (r : RelV x u) (q : RelV y u) : x = y := Option.some.inj (r.abs.symm.trans q.abs)
theorem Vals.inj : ∀ {xs ys : List V} {us : List Value}, Vals xs us → Vals ys us → xs = ys
  | _, _, _, .nil, .nil => rfl
  | _, _, _, .cons r t, .cons r' t' => by rw [r.inj r', Vals.inj t t']
section
variable {X : Cx} {pins : List (Addr × Obj)} {σ : St} {H : Hp} {s : Shared} {a : Addr} {xs ys : List V}
theorem SqL.of {K : PySem.W.Frag} (h : H a = some (.lst xs)) : SqL K H a xs := .inl (.inl h)
theorem Inv.list (I : Inv X pins σ H s) (h : SqL X.K H a xs) : ∃ its : List Value, Vals xs its ∧ PlainL s.heap a its.toArray ∧ xs.length ≤ sizeLine := by
  rcases h with h | ⟨o, its, n, hk, hc, hd, hs, hz, r⟩
  · obtain ⟨z, its, n, r, e⟩ := h.ok I.hok
    exact ⟨its, r, ⟨_, n, e, rfl, rfl, rfl⟩, z⟩
  · refine ⟨its.toList, r, ⟨o, n, I.kIn a o hk, hc, hd, by simpa using hs⟩, ?_⟩
    have e := r.length
    simp only [Array.length_toList] at e
    omega
theorem Inv.tuple (I : Inv X pins σ H s) (h : SqT X.K H a xs) : ∃ its : List Value, Vals xs its ∧ IsTup s.heap a its.toArray ∧ xs.length ≤ sizeLine := by
  rcases h with h | ⟨o, its, n, hk, hc, hs, hz, r⟩
  · obtain ⟨z, its, r, p⟩ := h.ok I.hok
    exact ⟨its, r, p, z⟩
  · refine ⟨its.toList, r, ⟨o, I.kIn a o hk, hc, n, by simpa using hs⟩, ?_⟩
    have e := r.length
    simp only [Array.length_toList] at e
    omega
theorem Inv.list_inj (I : Inv X pins σ H s) (h : SqL X.K H a xs) (h' : SqL X.K H a ys) : xs = ys := by
  obtain ⟨its, r, ⟨o, n, e, _, _, d⟩, _⟩ := I.list h
  obtain ⟨its', r', ⟨o', n', e', _, _, d'⟩, _⟩ := I.list h'
  rw [e] at e'; cases e'
  rw [d] at d'
  injection d' with d1 _
  have : its = its' := by simpa using congrArg Array.toList d1
  subst this
  exact r.inj r'
end

/-! ### another wish about exceptions -/
abbrev Cx.wish (X : Cx) (E : Value → Shared → Prop) : Cx := { X with xe := E }
/-- no exception leaves -/
abbrev Cx.nox (X : Cx) : Cx := X.wish fun _ _ => False
theorem Cx.Ok.wish {X : Cx} (ok : X.Ok) (E : Value → Shared → Prop) : (X.wish E).Ok :=
  ⟨ok.mod, ok.kind, ok.glob, ok.blt, ok.above, ok.inj, ok.has, ok.cab, ok.hd, ok.frames, ok.stk, ok.exf, ok.bs, ok.bsz, ok.noex, ok.exfs, ok.funs, ok.frf⟩
theorem Cx.Ok.unwish {X : Cx} {E : Value → Shared → Prop} (ok : (X.wish E).Ok) : X.Ok :=
  ⟨ok.mod, ok.kind, ok.glob, ok.blt, ok.above, ok.inj, ok.has, ok.cab, ok.hd, ok.frames, ok.stk, ok.exf, ok.bs, ok.bsz, ok.noex, ok.exfs, ok.funs, ok.frf⟩
section
variable {X : Cx} {pins : List (Addr × Obj)} {σ : St} {H : Hp} {s : Shared} {E : Value → Shared → Prop}
theorem Inv.wish (I : Inv X pins σ H s) (E : Value → Shared → Prop) : Inv (X.wish E) pins σ H s := ⟨I.ok.wish E, I.os, I.bare, I.base, I.loc, I.cell, I.free, I.freeC, I.pin, I.hok, I.len⟩
theorem Inv.unwish (I : Inv (X.wish E) pins σ H s) : Inv X pins σ H s := ⟨I.ok.unwish, I.os, I.bare, I.base, I.loc, I.cell, I.free, I.freeC, I.pin, I.hok, I.len⟩
theorem SP.unwish {D : Ends} {f : Flow} {s' : Shared} (h : SP (X.wish E) pins D f s') : SP X pins D f s' := by
  cases f with
  | next => obtain ⟨σ', H', I, q⟩ := h; exact ⟨σ', H', I.unwish, q⟩
  | brk => obtain ⟨σ', H', I, q⟩ := h; exact ⟨σ', H', I.unwish, q⟩
  | cont => obtain ⟨σ', H', I, q⟩ := h; exact ⟨σ', H', I.unwish, q⟩
  | ret u => obtain ⟨v, σ', H', I, r, q⟩ := h; exact ⟨v, σ', H', I.unwish, r, q⟩
theorem PSs.nox {st : List Stmt} {t : TS} (h : PSs X.nox st t) : PSs X st t := fun pins s σ H D I hw =>
  wpAny_mono (h pins s σ H D (I.wish _) hw) (fun _ _ q => q.unwish) fun _ _ z => False.elim z
end

/-! ### blocks and small statements -/
section
variable {X : Cx} {st : Stmt} {rest : List Stmt} {t u : TS} {e : Expr} {te : TE} {pos : Pos}
def tNext : TS := fun D σ H => D.nx σ H
def tSeq (t u : TS) : TS := fun D σ H => t { D with nx := u D } σ H
theorem pss_nil : PSs X [] tNext := fun _ _ σ H _ I h => wpAny_execs_nil ⟨σ, H, I, h⟩
theorem pss_cons (h1 : PS X st t) (h2 : PSs X rest u) : PSs X (st :: rest) (tSeq t u) := by
  intro pins s σ H D I h
  refine wpAny_execs_cons (thn (h1 pins s σ H { D with nx := u D } I h) fun f s1 q => ?_)
  cases f with
  | next =>
    obtain ⟨σ', H', I', q⟩ := q
    exact h2 pins s1 σ' H' D I' q
  | ret v => exact q
  | brk => exact q
  | cont => exact q
theorem pss_one (h1 : PS X st t) : PSs X [st] t := by
  intro pins s σ H D I h
  refine wpAny_execs_cons (thn (h1 pins s σ H D I h) fun f s1 q => ?_)
  cases f with
  | next => exact wpAny_execs_nil q
  | ret v => exact q
  | brk => exact q
  | cont => exact q
/-- in a def's body nothing is shown -/
theorem Inv.quiet {pins : List (Addr × Obj)} {σ : St} {H : Hp} {s : Shared} (I : Inv X pins σ H s) : interactive X.env = false := by simp [interactive, I.ok.kind]
/-- an expression whose value is dropped -/
def tDrop (te : TE) : TS := fun D σ H => te σ H fun _ H1 => D.nx σ H1
theorem ps_expr (he : PE X e te) (hs : swapsWith e none pos.line X.env = pure false := by rfl) : PS X (.Expr e pos) (tDrop te) := by
  intro pins s σ H D I h
  exact wpAny_Expr_any (thn (he pins s σ H _ I h) fun v s1 ⟨x, H1, I1, r1, q1⟩ => ⟨σ, H1, I1, q1⟩) I.quiet hs
def tRet (te : TE) : TS := fun D σ H => te σ H D.rt
theorem ps_ret (he : PE X e te) : PS X (.Return (some e) pos) (tRet te) := by
  intro pins s σ H D I h
  exact wpAny_Return_some (thn (he pins s σ H _ I h) fun v s1 ⟨x, H1, I1, r1, q1⟩ => ⟨x, σ, H1, I1, r1, q1⟩)
def tIfS (c : TT) (t u : TS) : TS := fun D σ H => c σ H fun b H1 => if b = true then t D σ H1 else u D σ H1
theorem ps_if {c : Expr} {a b : List Stmt} {tc : TT} (hc : PT X c tc) (ha : PSs X a t) (hb : PSs X b u) : PS X (.If c a b pos) (tIfS tc t u) := by
  intro pins s σ H D I h
  refine wpAny_If (thn (hc pins s σ H _ I h) fun d s1 ⟨H1, I1, q1⟩ => ?_)
  cases d with
  | true => exact ha pins s1 σ H1 D I1 q1
  | false => exact hb pins s1 σ H1 D I1 q1
end

/-! ### targets -/
abbrev TG := V → St → Hp → (St → Hp → Prop) → Prop
def PG (X : Cx) (target : Expr) (t : TG) : Prop :=
  ∀ (pins : List (Addr × Obj)) (s : Shared) (σ : St) (H : Hp) (v : V) (u : Value) (Q : St → Hp → Prop), Inv X pins σ H s → RelV v u → t v σ H Q →
    wpAny (model X.prog X.w) X.A (assign target X.env u) (fun _ s' => ∃ σ' H', Inv X pins σ' H' s' ∧ Q σ' H') X.xe s
/-- o[i] = v, by values -/
abbrev TSet := V → V → V → Hp → (Hp → Prop) → Prop
def PSet (X : Cx) (t : TSet) : Prop :=
  ∀ (pins : List (Addr × Obj)) (s : Shared) (σ : St) (H : Hp) (o i v : V) (ov iv u : Value) (Q : Hp → Prop), Inv X pins σ H s → RelV o ov → RelV i iv → RelV v u → t o i v H Q →
    wpAny (model X.prog X.w) X.A (setItem ov iv u) (fun _ s' => ∃ H', Inv X pins σ H' s' ∧ Q H') X.xe s
/-- a op= b, by values -/
abbrev TIp := V → V → Hp → VK → Prop
def PIp (X : Cx) (op : Operator) (t : TIp) : Prop :=
  ∀ (pins : List (Addr × Obj)) (s : Shared) (σ : St) (H : Hp) (x y : V) (v u : Value) (Q : VK), Inv X pins σ H s → RelV x v → RelV y u → t x y H Q →
    wpAny (model X.prog X.w) X.A (inplaceOp op v u) (EP X pins σ Q) X.xe s
section
variable {X : Cx} {pos : Pos}
def gName (i : Nat) : TG := fun v σ H Q => Q (σ.set i (some v)) H
theorem pg_name {i : Nat} {x : Str} (hN : X.N.Nodup) (hi : X.N[i]? = some x) (hx : Loc X.env.scope x) (hf : X.fn x = true ∨ X.env.scope.names.lookup x = some .local := by first | exact .inl rfl | exact .inr rfl | assumption) : PG X (.Name x pos) (gName i) := by
  intro pins s σ H v u Q I r h
  exact wpAny_assign_Name (store_ok I hN hi hx r (fun s' I' => ⟨_, H, I', h⟩) hf)
/-- o[i] = .. -/
def gSub (to ti : TE) (t : TSet) : TG := fun v σ H Q => to σ H fun o H1 => ti σ H1 fun i H2 => t o i v H2 fun H3 => Q σ H3
theorem pg_sub {o i : Expr} {to ti : TE} {t : TSet} (ho : PE X o to) (hi : PE X i ti) (hs : PSet X t)
    (ha : ∀ v, assign (.Subscript o i pos) X.env v = (do
      let ov ← holding [v] (eval o X.env)
      let iv ← holding [v, ov] (eval i X.env)
      standAt pos
      holding [v, ov, iv] (setItem ov iv v)
      release [v, ov, iv] []) := by intro _; rfl) : PG X (.Subscript o i pos) (gSub to ti t) := by
  intro pins s σ H v u Q I r h
  rw [ha]
  refine wpAny_bind (wpAny_holding (thn (ho pins s σ H _ I h) fun ov s1 ⟨x, H1, I1, r1, q1⟩ => ?_))
  refine wpAny_bind (wpAny_holding (thn (hi pins s1 σ H1 _ I1 q1) fun iv s2 ⟨y, H2, I2, r2, q2⟩ => ?_))
  refine wpAny_bind (wpAny_standAt (wpAny_bind (wpAny_holding (thn (hs pins s2 σ H2 x y v ov iv u _ I2 r1 r2 r q2) fun _ s3 ⟨H3, I3, q3⟩ => ?_))))
  exact wpAny_release ⟨σ, H3, I3, q3⟩
/-- target = value -/
def tAsg (te : TE) (g : TG) : TS := fun D σ H => te σ H fun x H1 => g x σ H1 D.nx
theorem ps_asg {tg e : Expr} {te : TE} {g : TG} (he : PE X e te) (hg : PG X tg g) (hs : swapsWithSole [tg] e pos.line X.env = pure false := by rfl) (hw : swappedStores [tg] e X.env = pure none := by rfl)
    (h1 : (assignEach [tg] X.env).map (·.2) = [assign tg X.env] := by rfl) : PS X (.Assign [tg] e pos) (tAsg te g) := by
  intro pins s σ H D I h
  refine wpAny_Assign_stores (thn (he pins s σ H _ I h) fun v s1 ⟨x, H1, I1, r1, q1⟩ => ?_) hs hw
  rw [h1]
  exact thn (hg pins s1 σ H1 x v _ I1 r1 q1) fun _ s2 q => q
/-- name = value -/
theorem ps_set {i : Nat} {x : Str} {e : Expr} {te : TE} {pos' : Pos} (hN : X.N.Nodup) (hi : X.N[i]? = some x) (hx : Loc X.env.scope x) (he : PE X e te) (hs : swapsWith e (some (.Name x pos')) pos.line X.env = pure false := by rfl) (hf : X.fn x = true ∨ X.env.scope.names.lookup x = some .local := by first | exact .inl rfl | exact .inr rfl | assumption) :
    PS X (.Assign [.Name x pos'] e pos) (tAsg te (gName i)) := by
  intro pins s σ H D I h
  refine wpAny_Assign_Name (thn (he pins s σ H _ I h) fun v s1 ⟨y, H1, I1, r1, q1⟩ => ?_) hs
  exact store_ok I1 hN hi hx r1 (fun s2 I2 => ⟨_, H1, I2, q1⟩) hf
/-- o[i] op= e -/
def tAugS (to ti te : TE) (tget : V → V → Hp → VK → Prop) (tip : TIp) (tset : TSet) : TS := fun D σ H => to σ H fun o H1 => ti σ H1 fun i H2 => tget o i H2 fun x H3 => te σ H3 fun y H4 => tip x y H4 fun z H5 => tset o i z H5 fun H6 => D.nx σ H6
/-- o[i], by values -/
def PGet (X : Cx) (t : V → V → Hp → VK → Prop) : Prop :=
  ∀ (pins : List (Addr × Obj)) (s : Shared) (σ : St) (H : Hp) (o i : V) (ov iv : Value) (Q : VK), Inv X pins σ H s → RelV o ov → RelV i iv → t o i H Q →
    wpAny (model X.prog X.w) X.A (getItem ov iv) (EP X pins σ Q) X.xe s
theorem ps_augS {o i e : Expr} {to ti te : TE} {tget : V → V → Hp → VK → Prop} {tip : TIp} {tset : TSet} {op : Operator} {tpos : Pos} (ho : PE X o to) (hi : PE X i ti) (hg : PGet X tget) (he : PE X e te) (hp : PIp X op tip) (hs : PSet X tset)
    (ha : ∀ ov iv new, augStore i ov iv new = (do holding [new, ov, iv] (setItem ov iv new); release [new, ov, iv] []; pure .next) := by intros; rfl) : PS X (.AugAssign (.Subscript o i tpos) op e pos) (tAugS to ti te tget tip tset) := by
  intro pins s σ H D I h
  refine wpAny_AugAssign_SubscriptAny (thn (ho pins s σ H _ I h) fun ov s1 ⟨x1, H1, I1, r1, q1⟩ => ?_) ha
  refine thn (hi pins s1 σ H1 _ I1 q1) fun iv s2 ⟨x2, H2, I2, r2, q2⟩ => ?_
  refine thn (hg pins s2 σ H2 x1 x2 ov iv _ I2 r1 r2 q2) fun old s3 ⟨x3, H3, I3, r3, q3⟩ => ?_
  refine thn (he pins s3 σ H3 _ I3 q3) fun v s4 ⟨x4, H4, I4, r4, q4⟩ => ?_
  refine thn (hp pins s4 σ H4 x3 x4 old v _ I4 r3 r4 q4) fun new s5 ⟨x5, H5, I5, r5, q5⟩ => ?_
  exact thn (hs pins s5 σ H5 x1 x2 x5 ov iv new _ I5 r1 r2 r5 q5) fun _ s6 ⟨H6, I6, q6⟩ => ⟨σ, H6, I6, q6⟩
/-- ints -/
def ipI (f : Int → Int → Int) : TIp := fun x y H Q => ∃ i j, x = .int i ∧ y = .int j ∧ Q (.int (f i j)) H
theorem ip_add : PIp X .Add (ipI fun i j => i + j) := by
  intro pins s σ H x y v u Q I r1 r2 h
  obtain ⟨i, j, e1, e2, q⟩ := h
  subst e1; subst e2
  obtain ⟨t, rfl⟩ := r1
  obtain ⟨t', rfl⟩ := r2
  exact iadd_int ⟨.int _, H, I.tok _, ⟨_, rfl⟩, q⟩
theorem ip_sub : PIp X .Sub (ipI fun i j => i - j) := by
  intro pins s σ H x y v u Q I r1 r2 h
  obtain ⟨i, j, e1, e2, q⟩ := h
  subst e1; subst e2
  obtain ⟨t, rfl⟩ := r1
  obtain ⟨t', rfl⟩ := r2
  exact isub_int ⟨.int _, H, I.tok _, ⟨_, rfl⟩, q⟩
end

/-! ### while -/
section
variable {X : Cx} {pos : Pos}
/-- the invariant W with its measure -/
def tWhile (c : TT) (tb : TS) : TS := fun D σ H => ∃ W : Nat → St → Hp → Prop, (∃ m, W m σ H) ∧ ∀ m σ H, W m σ H →
  c σ H fun b H1 => if b = true then ∃ N : St → Hp → Prop, (∀ σ' H', N σ' H' → ∃ m', m' < m ∧ W m' σ' H') ∧ tb { D with nx := N, ct := N, bk := D.nx } σ H1 else D.nx σ H1
theorem ps_while {c : Expr} {body : List Stmt} {tc : TT} {tb : TS} (hp : PassesOwn (model X.prog X.w) X.A X.env X.xe) (hc : PT X c tc) (hb : PSs X body tb) : PS X (.While c body [] pos) (tWhile tc tb) := by
  intro pins s σ H D I h
  obtain ⟨W, ⟨m0, w0⟩, turn⟩ := h
  refine wpAny_While (codeAny_whileLoop (fun n s' => ∃ σ' H', Inv X pins σ' H' s' ∧ W n σ' H') ?_ m0 ⟨σ, H, I, w0⟩)
  rintro n s1 ⟨σ1, H1, I1, w1⟩
  refine wpAny_passesOwn hp (thn (hc pins s1 σ1 H1 _ I1 (turn n σ1 H1 w1)) fun b s2 ⟨H2, I2, q2⟩ => ?_)
  cases b with
  | true =>
    obtain ⟨N, hN, q2⟩ := q2
    rw [if_pos rfl]
    refine wpAny_passesOwn hp (thn (hb pins s2 σ1 H2 _ I2 q2) fun f s3 q3 => ?_)
    cases f with
    | next =>
      obtain ⟨σ3, H3, I3, n3⟩ := q3
      obtain ⟨m', hm, w3⟩ := hN σ3 H3 n3
      exact ⟨m', hm, σ3, H3, I3, w3⟩
    | cont =>
      obtain ⟨σ3, H3, I3, n3⟩ := q3
      obtain ⟨m', hm, w3⟩ := hN σ3 H3 n3
      exact ⟨m', hm, σ3, H3, I3, w3⟩
    | brk => exact q3
    | ret v => exact q3
  | false =>
    rw [if_neg Bool.false_ne_true]
    exact wpAny_execs_nil ⟨σ1, H2, I2, q2⟩
end

/-! ### what a loop or a comprehension walks -/
/-- at turn i: it yields x (the heap may grow), or it stops -/
structure It where
  go : Nat → Hp → Prop
  yld : Nat → Hp → V → Hp → Prop
  stop : Nat → Hp → Prop
/-- the iterator's own objects may turn: they are not the frame's, not pinned, younger than the entry (or a comprehension's own) -/
def FpOk (X : Cx) (pins : List (Addr × Obj)) (H : Hp) (b : Addr) : Prop :=
  H b = none ∧ b ≠ X.env.locals ∧ b ∉ X.fs ∧ (b ∈ X.ex ∨ X.s_0.heap.objs.size ≤ b) ∧ (∀ x c, X.env.cells.lookup x = some c → c ≠ b) ∧ ∀ p ∈ X.pn ++ pins, p.1 ≠ b
theorem Inv.fpOk {X : Cx} {pins : List (Addr × Obj)} {σ : St} {H H' : Hp} {s : Shared} {b : Addr} (I : Inv X pins σ H s) (hb : s.heap.objs.size ≤ b) (hn : H' b = none) : FpOk X pins H' b := by
  refine ⟨hn, Nat.ne_of_gt (Nat.lt_of_lt_of_le I.lt hb), I.nofs hb, .inr (Nat.le_trans I.sz hb), fun x c e z => ?_, fun p hp z => ?_⟩
  · obtain ⟨v, q⟩ := I.cell x c e
    exact absurd (Nat.lt_of_lt_of_le q.lt (by rw [z]; exact hb)) (Nat.lt_irrefl _)
  · exact absurd (Nat.lt_of_lt_of_le (Heap.lt_size (I.pin p hp).1) (by rw [z]; exact hb)) (Nat.lt_irrefl _)
structure Turn (P : Program) (w : World) (K : PySem.W.Frag) (tg : Expr) (J : It) (fp : List Addr) (it : Addr) (tn : Nat → Heap → Prop) : Prop where
  mem : it ∈ fp
  obj : ∀ i h, tn i h → ∀ b ∈ fp, ∃ o, h.get? b = some o ∧ ∀ v, o.data ≠ .cell v
  keep : ∀ i h h', tn i h → (∀ b ∈ fp, ∀ o, h.get? b = some o → h'.get? b = some o) → tn i h'
  item : ∀ (X : Cx), X.prog = P → X.w = w → X.K = K → X.calm = true → ∀ (i : Nat) (pins : List (Addr × Obj)) (s : Shared) (σ : St) (H : Hp) (E : Value → Shared → Prop), Inv X pins σ H s → (∀ b ∈ fp, FpOk X pins H b) → tn i s.heap → J.go i H →
    wpAny (model P w) X.A (pyNext (.ref it)) (fun r s1 => ∃ u, r = some u ∧
      wpAny (model P w) X.A (letOwnedTupleGo tg (.ref it) u) (fun _ s2 => ∃ x H', Inv X pins σ H' s2 ∧ RelV x u ∧ J.yld i H x H' ∧ tn (i + 1) s2.heap ∧ ∀ b ∈ fp, H' b = none) E s1) E s
  done : ∀ (X : Cx), X.prog = P → X.w = w → X.K = K → X.calm = true → ∀ (i : Nat) (pins : List (Addr × Obj)) (s : Shared) (σ : St) (H : Hp) (E : Value → Shared → Prop), Inv X pins σ H s → (∀ b ∈ fp, FpOk X pins H b) → tn i s.heap → J.stop i H →
    wpAny (model P w) X.A (pyNext (.ref it)) (fun r s1 => r = none ∧ Inv X pins σ H s1) E s
  self : ∀ (A : Around) (i : Nat) (s : Shared) (Q : Value → Shared → Prop) (E : Value → Shared → Prop), tn i s.heap → Q (.ref it) s → wpAny (model P w) A (pyIter (.ref it)) Q E s
abbrev TI := St → Hp → (It → Hp → Prop) → Prop
/-- an iterator has come -/
def PIE (X : Cx) (pins : List (Addr × Obj)) (σ : St) (tg : Expr) (R : It → Hp → Prop) (itv : Value) (s2 : Shared) : Prop :=
  ∃ (it : Addr) (fp : List Addr) (tn : Nat → Heap → Prop) (J : It) (H' : Hp), itv = .ref it ∧ Inv X pins σ H' s2 ∧ Turn X.prog X.w X.K tg J fp it tn ∧ tn 0 s2.heap ∧ (∀ b ∈ fp, FpOk X pins H' b) ∧ R J H'
def PI (X : Cx) (tg iter : Expr) (wi : TI) : Prop :=
  ∀ (pins : List (Addr × Obj)) (s : Shared) (σ : St) (H : Hp) (R : It → Hp → Prop), Inv X pins σ H s → wi σ H R →
    wpAny (model X.prog X.w) X.A (eval iter X.env) (fun v s1 => wpAny (model X.prog X.w) X.A (pyIter v) (PIE X pins σ tg R) X.xe s1) X.xe s

/-- the step ahead of the store is nothing for an iterator that keeps no tuple -/
theorem go_of {M : Model} {A : Around} {E : Value → Shared → Prop} {s : Shared} {tg : Expr} {it : Addr} {u : Value} {o : Obj} {n : String} {vs : Array Value} {Q : Unit → Shared → Prop} (ho : s.heap.get? it = some o) (hc : o.cls = .type n) (hd : o.data = .fields vs)
    (hn : ["enumerate", "zip", "dict_itemiterator", "dict_reverseitemiterator", "odict_iterator", "itertools.zip_longest", "itertools.pairwise"].contains n = false) (hQ : Q () s) : wpAny M A (letOwnedTupleGo tg (.ref it) u) Q E s := by
  unfold letOwnedTupleGo
  cases tg <;> first
    | exact wpAny_pure hQ
    | (cases u <;> first
        | exact wpAny_pure hQ
        | (refine wpAny_bind (wpAny_load ho ?_)
           rw [hc, hd]
           show wpAny M A (if (["enumerate", "zip", "dict_itemiterator", "dict_reverseitemiterator", "odict_iterator", "itertools.zip_longest", "itertools.pairwise"].contains n && vs[0]? == some (rawInt _)) = true then _ else _) Q E s
           rw [if_neg (by intro h; rw [hn, Bool.false_and] at h; cases h)]
           exact wpAny_pure hQ))

/-- the list at a, as it stands at each turn (a loop may append to it) -/
def Itl (K : PySem.W.Frag) (a : Addr) : It :=
  ⟨fun i H => ∃ xs x, SqL K H a xs ∧ xs[i]? = some x, fun i H x H' => H' = H ∧ ∀ xs, SqL K H a xs → xs[i]? = some x, fun i H => ∃ xs, SqL K H a xs ∧ xs.length ≤ i⟩
/-- lo, lo + 1, .. (n of them) -/
def Itr (lo : Int) (n : Nat) : It := ⟨fun i _ => i < n, fun i H x H' => H' = H ∧ x = .int (lo + i), fun i _ => n ≤ i⟩
theorem turn_list {P : Program} {w : World} {K : PySem.W.Frag} {tg : Expr} (a it : Addr) : Turn P w K tg (Itl K a) [it] it (fun i h => h.IsListIter it a i) where
  mem := by simp
  obj := fun i h st b hb => by
    have e : b = it := by simpa using hb
    subst e
    obtain ⟨o, e, c, d⟩ := st
    exact ⟨o, e, fun v z => by rw [d] at z; cases z⟩
  keep := fun i h h' st k => st.at fun o e => k it (by simp) o e
  item := by
    intro X hP hw hK hc i pins s σ H E I hf st hg
    subst hP hw hK
    obtain ⟨xs, x, hq, hx⟩ := hg
    obtain ⟨its, rv, p, hz⟩ := I.list hq
    obtain ⟨u, hu, ru⟩ := rv.get hx
    obtain ⟨f0, f1, f2, f3, f4, f5⟩ := hf it (by simp)
    refine wpAny_pyNext_list_item st p.isList (x := u) (by simpa using hu) fun h' st' sb => ?_
    have I1 : Inv X pins σ H { s with heap := h' } := I.turned (t' := s.toks) (fun b o hb e => (sb.2 b hb).trans e) f0 f1 f3 f4 f5
    obtain ⟨o, e, c, d⟩ := id st'
    exact ⟨u, rfl, go_of (s := { s with heap := h' }) e c d (by decide) ⟨x, H, I1, ru, ⟨rfl, fun ys hy => by rw [I.list_inj hy hq]; exact hx⟩, st', fun b hb => (hf b hb).1⟩⟩
  done := by
    intro X hP hw hK hc i pins s σ H E I hf st hg
    subst hP hw hK
    obtain ⟨xs, hq, hx⟩ := hg
    obtain ⟨its, rv, p, hz⟩ := I.list hq
    obtain ⟨f0, f1, f2, f3, f4, f5⟩ := hf it (by simp)
    have hl := rv.length
    exact wpAny_pyNext_list_end (I.ok.hd hc) st p.isList (by simp; omega) fun h' eb => ⟨rfl, I.turned (t' := s.toks) (fun b o hb e => eb b o hb e) f0 f1 f3 f4 f5⟩
  self := fun _ _ _ _ _ st h => wpAny_pyIter_listiter st h
theorem turn_range {P : Program} {w : World} {K : PySem.W.Frag} {tg : Expr} (it : Addr) (lo : Int) (n : Nat) : Turn P w K tg (Itr lo n) [it] it (fun i h => IsRangeIter h it (lo + (i : Nat) * 1) ((n : Int) - (i : Nat)) 1) where
  mem := by simp
  obj := fun i h st b hb => by
    have e : b = it := by simpa using hb
    subst e
    exact ⟨_, st, fun v z => by
      have z' : Data.fields _ = Data.cell v := z
      cases z'⟩
  keep := fun i h h' st k => k it (by simp) _ st
  item := by
    intro X hP hw hK hc i pins s σ H E I hf st hg
    subst hP hw hK
    obtain ⟨f0, f1, f2, f3, f4, f5⟩ := hf it (by simp)
    have W := Walks.range (prog := X.prog) (w := X.w) (I.ok.hd hc) it lo 1 n
    refine W.item i s _ _ hg st fun v h' tk hv st' kk => ?_
    obtain ⟨t, rfl⟩ := hv
    have I1 : Inv X pins σ H { s with heap := h', toks := tk } := I.turned (fun b o hb e => kk b o (by simpa using hb) e) f0 f1 f3 f4 f5
    refine ⟨_, rfl, go_of (s := { s with heap := h', toks := tk }) (n := "range_iterator") st' rfl rfl (by decide) ⟨.int (lo + i), H, I1, ⟨t, ?_⟩, ⟨rfl, rfl⟩, st', fun b hb => (hf b hb).1⟩⟩
    rw [Int.mul_one]
  done := by
    intro X hP hw hK hc i pins s σ H E I hf st hg
    subst hP hw hK
    obtain ⟨f0, f1, f2, f3, f4, f5⟩ := hf it (by simp)
    exact wpAny_pyNext_range_end (I.ok.hd hc) st (by have : n ≤ i := hg; omega) fun h' eb => ⟨rfl, I.turned (t' := s.toks) (fun b o hb e => eb b o hb e) f0 f1 f3 f4 f5⟩
  self := fun _ _ _ _ _ st h => wpAny_pyIter_rangeiter st h
end L2

namespace L2
open PySem PySem.Spec PyProof.Rows
section
variable {X : Cx} {tg : Expr}
def iList (K : PySem.W.Frag) (tl : TE) : TI := fun σ H R => tl σ H fun x H1 => ∃ a, x = .ref a ∧ (∃ xs, SqL K H1 a xs) ∧ R (Itl K a) H1
theorem pi_list {l : Expr} {tl : TE} (hl : PE X l tl) : PI X tg l (iList X.K tl) := by
  intro pins s σ H R I h
  refine thn (hl pins s σ H _ I h) fun v s1 ⟨x, H1, I1, r1, q1⟩ => ?_
  obtain ⟨a, e, ⟨xs, hq⟩, q⟩ := q1
  subst e
  cases r1
  obtain ⟨its, rv, p, hz⟩ := I1.list hq
  refine wpAny_pyIter_list p.isList ?_
  refine ⟨s1.heap.objs.size, [s1.heap.objs.size], _, _, H1, rfl, I1.kept (t' := s1.toks) fun b o e => Heap.get?_push_of_some _ e, turn_list a _, ⟨_, Heap.get?_push_size _ rfl, rfl, rfl⟩, fun b hb => ?_, q⟩
  have e : b = s1.heap.objs.size := by simpa using hb
  subst e
  exact I1.fpOk (Nat.le_refl _) (I1.hok.fresh (Nat.le_refl _))
/-- a range object just made, walked -/
theorem range_it {pins : List (Addr × Obj)} {σ : St} {H : Hp} {s : Shared} {R : It → Hp → Prop} {E : Value → Shared → Prop} {lo hi : Int} {t u v : Tok} {tk : Nat} (I : Inv X pins σ H s) (h1 : -(2 ^ 62) ≤ lo) (h2 : lo < 2 ^ 62) (h3 : -(2 ^ 62) ≤ hi) (h4 : hi < 2 ^ 62)
    (q : R (Itr lo (hi - lo).toNat) H) : wpAny (model X.prog X.w) X.A (pyIter (.ref s.heap.objs.size)) (PIE X pins σ tg R) E { s with heap := s.heap.push { cls := .type "range", data := .fields #[.int lo t, .int hi u, .int 1 v] }, toks := tk } := by
  refine wpAny_pyIter_range (IsRange.new ..) (small_one h1 h2 h3 h4) ?_
  have I1 : Inv X pins σ H { s with heap := s.heap.push { cls := .type "range", data := .fields #[.int lo t, .int hi u, .int 1 v] }, toks := tk } := I.kept fun b o e => Heap.get?_push_of_some _ e
  refine ⟨(s.heap.push { cls := .type "range", data := .fields #[.int lo t, .int hi u, .int 1 v] }).objs.size, [(s.heap.push { cls := .type "range", data := .fields #[.int lo t, .int hi u, .int 1 v] }).objs.size], _, _, H, rfl,
    I1.kept (t' := tk) fun b o e => Heap.get?_push_of_some _ e, turn_range _ lo (hi - lo).toNat, ?_, fun b hb => ?_, q⟩
  · have e1 : lo + ((0 : Nat) : Int) * 1 = lo := by simp
    have e2 : (((hi - lo).toNat : Nat) : Int) - ((0 : Nat) : Int) = Builtin.Range.rangeSize lo hi 1 := by rw [rangeSize_one]; split <;> omega
    show IsRangeIter _ _ (lo + ((0 : Nat) : Int) * 1) ((((hi - lo).toNat : Nat) : Int) - ((0 : Nat) : Int)) 1
    rw [e1, e2]
    exact Heap.get?_push_size _ rfl
  · have e : b = (s.heap.push { cls := .type "range", data := .fields #[.int lo t, .int hi u, .int 1 v] }).objs.size := by simpa using hb
    subst e
    exact I1.fpOk (Nat.le_refl _) (I1.hok.fresh (Nat.le_refl _))
def iRng1 (ta : TA) : TI := fun σ H R => ta σ H fun vs H1 => ∃ j : Int, vs = [.int j] ∧ -(2 ^ 62) ≤ j ∧ j < 2 ^ 62 ∧ R (Itr 0 j.toNat) H1
theorem pi_range1 {a : Expr} {ta : TA} {p pos : Pos} (hg : Gl X "range") (hm : X.mg "range" = none) (ha : PA X [a] ta) (hs : starEach [a] X.env = [(false, eval a X.env)] := by rfl) : PI X tg (.Call (.Name "range" p) [a] [] pos) (iRng1 ta) := by
  intro pins s σ H R I h
  refine Call_ (ld_blt I hg hm boot_range (PyProof.Rows.callWith_type1 (thn (ha pos pins s σ H _ I h) fun us s1 ⟨vs, H1, I1, r1, q1⟩ => ?_) hs rfl))
  obtain ⟨j, e, q1, q2, q⟩ := q1
  subst e
  cases r1 with
  | cons r rr =>
    cases rr
    obtain ⟨t, rfl⟩ := r
    exact call_range_1 (range_it I1 (by omega) (by omega) q1 q2 (by simpa using q))

/-! ### for -/
/-- W: the invariant by the turn and a measure; N: what the body is to reach -/
def tFor (wi : TI) (g : TG) (tb : TS) : TS := fun D σ H => wi σ H fun J H1 => ∃ W : Nat → Nat → St → Hp → Prop, (∃ m, W 0 m σ H1) ∧ ∀ i m σ H, W i m σ H →
  (J.stop i H ∧ D.nx σ H) ∨ (J.go i H ∧ ∃ N : St → Hp → Prop, (∀ σ' H', N σ' H' → ∃ m', m' < m ∧ W (i + 1) m' σ' H') ∧ ∀ x H', J.yld i H x H' → g x σ H' fun σ2 H2 => tb { D with nx := N, ct := N, bk := D.nx } σ2 H2)
/-- the records at fp as they stand -/
def pinsAt (fp : List Addr) (h : Heap) : List (Addr × Obj) := fp.filterMap fun b => (h.get? b).map fun o => (b, o)
theorem mem_pinsAt {fp : List Addr} {h : Heap} {b : Addr} {o : Obj} (hb : b ∈ fp) (e : h.get? b = some o) : (b, o) ∈ pinsAt fp h := List.mem_filterMap.mpr ⟨b, hb, by rw [e]; rfl⟩
theorem of_pinsAt {fp : List Addr} {h : Heap} {p : Addr × Obj} (hp : p ∈ pinsAt fp h) : p.1 ∈ fp ∧ h.get? p.1 = some p.2 := by
  obtain ⟨b, hb, e⟩ := List.mem_filterMap.mp hp
  cases q : h.get? b with
  | none => rw [q] at e; cases e
  | some o =>
    rw [q] at e
    have e' : (b, o) = p := Option.some.inj e
    subst e'
    exact ⟨hb, q⟩
theorem Inv.pinned {pins : List (Addr × Obj)} {σ : St} {H : Hp} {s : Shared} {fp : List Addr} (I : Inv X pins σ H s) (hf : ∀ b ∈ fp, FpOk X pins H b) (ho : ∀ b ∈ fp, ∃ o, s.heap.get? b = some o ∧ ∀ v, o.data ≠ .cell v) : Inv X (pins ++ pinsAt fp s.heap) σ H s :=
  I.pins_of fun p hp => (List.mem_append.mp hp).elim (fun z => I.pin p (List.mem_append_right _ z)) fun z => by
    obtain ⟨hb, e⟩ := of_pinsAt z
    obtain ⟨f0, f1, f2, _⟩ := hf p.1 hb
    obtain ⟨o, e', d⟩ := ho p.1 hb
    rw [e] at e'; cases e'
    exact ⟨e, f0, f1, f2, d⟩
theorem Inv.unpinned {pins pl : List (Addr × Obj)} {σ : St} {H : Hp} {s : Shared} (I : Inv X (pins ++ pl) σ H s) : Inv X pins σ H s := I.pins_of fun p hp => I.pin p (List.mem_append_right _ (List.mem_append_left _ hp))
theorem ps_for {iter : Expr} {body : List Stmt} {wi : TI} {g : TG} {tb : TS} {pos : Pos} (hp : PassesOwn (model X.prog X.w) X.A X.env X.xe) (hc : X.calm = true) (hi : PI X tg iter wi) (hg : PG X tg g) (hb : PSs X body tb)
    (hs : ∀ x, foldedSetIterable iter X.env x = pure x := by intro _; rfl) : PS X (.For tg iter body [] pos) (tFor wi g tb) := by
  intro pins s σ H D I h
  refine wpAny_For (thn (hi pins s σ H _ I h) fun v s1 h1 => thn h1 fun itv s2 h2 => ?_) hs
  obtain ⟨it, fp, tn, J, H2, e, I2, T, st2, f2, W, ⟨m0, w0⟩, turn⟩ := h2
  subst e
  -- what stays true of the iterator's objects through the loop
  have stat : ∀ {H' : Hp}, (∀ b ∈ fp, H' b = none) → ∀ b ∈ fp, FpOk X pins H' b := fun hn b hb => ⟨hn b hb, (f2 b hb).2⟩
  refine codeAny_forLoop_any (fun n s' => ∃ i σ' H', Inv X pins σ' H' s' ∧ tn i s'.heap ∧ (∀ b ∈ fp, H' b = none) ∧ W i n σ' H') ?_ m0 ⟨0, σ, H2, I2, st2, fun b hb => (f2 b hb).1, w0⟩
  rintro n s3 ⟨i, σ3, H3, I3, st3, fr3, w3⟩
  rcases turn i n σ3 H3 w3 with ⟨stop, qn⟩ | ⟨go, N, hN, step⟩
  · refine wpAny_passesOwn hp (thn (T.done X rfl rfl rfl hc i pins s3 σ3 H3 X.xe I3 (stat fr3) st3 stop) fun r s4 ⟨hr, I4⟩ => ?_)
    subst hr
    exact wpAny_execs_nil ⟨σ3, H3, I4, qn⟩
  · refine wpAny_passesOwn hp (thn (T.item X rfl rfl rfl hc i pins s3 σ3 H3 X.xe I3 (stat fr3) st3 go) fun r s4 ⟨u, hr, h4⟩ => ?_)
    subst hr
    refine wpAny_passesOwn hp (thn h4 fun _ s5 ⟨x, H5, I5, r5, y5, st5, fr5⟩ => ?_)
    have I5' := I5.pinned (stat fr5) (T.obj _ _ st5)
    refine wpAny_passesOwn hp (thn (hg _ s5 σ3 H5 x u _ I5' r5 (step x H5 y5)) fun _ s6 ⟨σ6, H6, I6, q6⟩ => ?_)
    refine wpAny_passesOwn hp (thn (hb _ s6 σ6 H6 _ I6 q6) fun f s7 q7 => ?_)
    have again : ∀ {σ7 : St} {H7 : Hp}, Inv X (pins ++ pinsAt fp s5.heap) σ7 H7 s7 → N σ7 H7 → ∃ m, m < n ∧ ∃ i σ' H', Inv X pins σ' H' s7 ∧ tn i s7.heap ∧ (∀ b ∈ fp, H' b = none) ∧ W i m σ' H' := fun {σ7 H7} I7 n7 => by
      obtain ⟨m', hm, w7⟩ := hN σ7 H7 n7
      refine ⟨m', hm, i + 1, σ7, H7, I7.unpinned, T.keep _ _ _ st5 fun b hb o e => (I7.pin (b, o) (List.mem_append_right _ (List.mem_append_right _ (mem_pinsAt hb e)))).1, fun b hb => ?_, w7⟩
      obtain ⟨o, e, d⟩ := T.obj _ _ st5 b hb
      exact (I7.pin (b, o) (List.mem_append_right _ (List.mem_append_right _ (mem_pinsAt hb e)))).2.1
    cases f with
    | next => obtain ⟨σ7, H7, I7, n7⟩ := q7; exact again I7 n7
    | cont => obtain ⟨σ7, H7, I7, n7⟩ := q7; exact again I7 n7
    | brk => obtain ⟨σ7, H7, I7, q7⟩ := q7; exact ⟨σ7, H7, I7.unpinned, q7⟩
    | ret v => obtain ⟨x7, σ7, H7, I7, r7, q7⟩ := q7; exact ⟨x7, σ7, H7, I7.unpinned, r7, q7⟩
end

/-! ### the forms one uses -/
/-- over a list that the body leaves as it is -/
theorem for_list {K : PySem.W.Frag} {a : Addr} {xs : List V} {g : TG} {tb : TS} {D : Ends} {σ : St} {H : Hp} (Pv : Nat → St → Hp → Prop) (h0 : Pv 0 σ H) (hl : ∀ i σ H, i ≤ xs.length → Pv i σ H → SqL K H a xs)
    (hs : ∀ i x σ H, xs[i]? = some x → Pv i σ H → g x σ H fun σ2 H2 => tb { D with nx := Pv (i + 1), ct := Pv (i + 1), bk := D.nx } σ2 H2) (hd : ∀ σ H, Pv xs.length σ H → D.nx σ H) :
    ∃ W : Nat → Nat → St → Hp → Prop, (∃ m, W 0 m σ H) ∧ ∀ i m σ H, W i m σ H →
      ((Itl K a).stop i H ∧ D.nx σ H) ∨ ((Itl K a).go i H ∧ ∃ N : St → Hp → Prop, (∀ σ' H', N σ' H' → ∃ m', m' < m ∧ W (i + 1) m' σ' H') ∧ ∀ x H', (Itl K a).yld i H x H' → g x σ H' fun σ2 H2 => tb { D with nx := N, ct := N, bk := D.nx } σ2 H2) := by
  refine ⟨fun i m σ H => m = xs.length - i ∧ i ≤ xs.length ∧ Pv i σ H, ⟨xs.length, by simp, Nat.zero_le _, h0⟩, ?_⟩
  rintro i m σ H ⟨rfl, hi, p⟩
  have q := hl i σ H hi p
  by_cases hlt : i < xs.length
  · refine .inr ⟨⟨xs, xs[i], q, by simp [hlt]⟩, Pv (i + 1), fun σ' H' p' => ⟨xs.length - (i + 1), by omega, rfl, hlt, p'⟩, fun x H' y => ?_⟩
    obtain ⟨e, y⟩ := y
    subst e
    exact hs i x σ _ (y xs q) p
  · have e : i = xs.length := by omega
    subst e
    exact .inl ⟨⟨xs, q, Nat.le_refl _⟩, hd σ H p⟩
theorem for_range {lo : Int} {n : Nat} {g : TG} {tb : TS} {D : Ends} {σ : St} {H : Hp} (Pv : Nat → St → Hp → Prop) (h0 : Pv 0 σ H)
    (hs : ∀ i σ H, i < n → Pv i σ H → g (.int (lo + i)) σ H fun σ2 H2 => tb { D with nx := Pv (i + 1), ct := Pv (i + 1), bk := D.nx } σ2 H2) (hd : ∀ σ H, Pv n σ H → D.nx σ H) :
    ∃ W : Nat → Nat → St → Hp → Prop, (∃ m, W 0 m σ H) ∧ ∀ i m σ H, W i m σ H →
      ((Itr lo n).stop i H ∧ D.nx σ H) ∨ ((Itr lo n).go i H ∧ ∃ N : St → Hp → Prop, (∀ σ' H', N σ' H' → ∃ m', m' < m ∧ W (i + 1) m' σ' H') ∧ ∀ x H', (Itr lo n).yld i H x H' → g x σ H' fun σ2 H2 => tb { D with nx := N, ct := N, bk := D.nx } σ2 H2) := by
  refine ⟨fun i m σ H => m = n - i ∧ i ≤ n ∧ Pv i σ H, ⟨n, by simp, Nat.zero_le _, h0⟩, ?_⟩
  rintro i m σ H ⟨rfl, hi, p⟩
  by_cases hlt : i < n
  · refine .inr ⟨hlt, Pv (i + 1), fun σ' H' p' => ⟨n - (i + 1), by omega, rfl, hlt, p'⟩, fun x H' y => ?_⟩
    obtain ⟨e, y⟩ := y
    subst e y
    exact hs i σ _ hlt p
  · have e : i = n := by omega
    subst e
    exact .inl ⟨Nat.le_refl _, hd σ H p⟩
end L2

namespace L2
open PySem PySem.Spec PyProof.Rows

abbrev R2 := V → V → Hp → VK → Prop
/-- a two-place operation on values: f is binaryOp op, inplaceOp op or compareOp op -/
def OpR (X : Cx) (f : Value → Value → Sem Value) (r : R2) : Prop :=
  ∀ (pins : List (Addr × Obj)) (s : Shared) (σ : St) (H : Hp) (x y : V) (v u : Value) (Q : VK), Inv X pins σ H s → RelV x v → RelV y u → r x y H Q →
    wpAny (model X.prog X.w) X.A (f v u) (EP X pins σ Q) X.xe s
/-- a call of a value that is known (a builtin, a type) with values -/
def CallR (X : Cx) (f : Value) (r : List V → Hp → VK → Prop) : Prop :=
  ∀ (pins : List (Addr × Obj)) (s : Shared) (σ : St) (H : Hp) (xs : List V) (us : List Value) (Q : VK), Inv X pins σ H s → Vals xs us → r xs H Q →
    wpAny (model X.prog X.w) X.A (call f us) (EP X pins σ Q) X.xe s
/-- a value's truth -/
def TruR (X : Cx) (r : V → Hp → (Bool → Hp → Prop) → Prop) : Prop :=
  ∀ (pins : List (Addr × Obj)) (s : Shared) (σ : St) (H : Hp) (x : V) (v : Value) (Q : Bool → Hp → Prop), Inv X pins σ H s → RelV x v → r x H Q →
    wpAny (model X.prog X.w) X.A (truthy v) (TP X pins σ Q) X.xe s

def tOp (r : R2) (ta tb : TE) : TE := fun σ H Q => ta σ H fun x H1 => tb σ H1 fun y H2 => r x y H2 Q
/-- ints in, under C, and a value out -/
def rI (C : Int → Int → Prop) (g : Int → Int → V) : R2 := fun x y H Q => ∃ i j, x = .int i ∧ y = .int j ∧ C i j ∧ Q (g i j) H
def rI0 (g : Int → Int → V) : R2 := fun x y H Q => ∃ i j, x = .int i ∧ y = .int j ∧ Q (g i j) H

section
variable {X : Cx} {a b c : Expr} {ta tb tc : TE} {pos : Pos}

theorem binT (ha : PE X a ta) (hb : PE X b tb) {pins : List (Addr × Obj)} {s : Shared} {σ : St} {H : Hp} {R : V → V → Hp → Prop} (I : Inv X pins σ H s)
    (h : ta σ H fun x H1 => tb σ H1 fun y H2 => R x y H2) {Q : Value → Shared → Prop} {f : Value → Value → Sem Value}
    (hf : ∀ v u s2 x y H2, Inv X pins σ H2 s2 → RelV x v → RelV y u → R x y H2 → wpAny (model X.prog X.w) X.A (f v u) Q X.xe s2) :
    wpAny (model X.prog X.w) X.A (eval a X.env) (fun v s₁ => wpAny (model X.prog X.w) X.A (eval b X.env) (fun u s₂ => wpAny (model X.prog X.w) X.A (f v u) Q X.xe s₂) X.xe s₁) X.xe s := by
  refine thn (ha pins s σ H _ I h) fun v s1 ⟨x, H1, I1, r1, q1⟩ => ?_
  refine thn (hb pins s1 σ H1 _ I1 q1) fun u s2 ⟨y, H2, I2, r2, q2⟩ => ?_
  exact hf v u s2 x y H2 I2 r1 r2 q2

theorem pe_op {op : Operator} {r : R2} (ho : OpR X (binaryOp op) r) (ha : PE X a ta) (hb : PE X b tb) : PE X (.BinOp a op b pos) (tOp r ta tb) := by
  intro pins s σ H Q I h
  exact wpAny_BinOp (binT ha hb I h fun v u s2 x y H2 I2 rx ry q => ho pins s2 σ H2 x y v u Q I2 rx ry q)

/-! ### ints -/
theorem opI {f : Value → Value → Sem Value} {C : Int → Int → Prop} {g : Int → Int → Int}
    (rule : ∀ (i j : Int) (t u : Tok) (s : Shared) (Q : Value → Shared → Prop) (E : Value → Shared → Prop), C i j → Q (.int (g i j) s.toks) { s with toks := s.toks + 1 } → wpAny (model X.prog X.w) X.A (f (.int i t) (.int j u)) Q E s) :
    OpR X f (rI C fun i j => .int (g i j)) := by
  intro pins s σ H x y v u Q I rx ry h
  obtain ⟨i, j, rfl, rfl, hc, q⟩ := h
  obtain ⟨t, rfl⟩ := rx
  obtain ⟨t', rfl⟩ := ry
  exact rule i j t t' s _ _ hc ⟨.int (g i j), H, I.tok _, ⟨_, rfl⟩, q⟩
theorem opI0 {f : Value → Value → Sem Value} {g : Int → Int → Int}
    (rule : ∀ (i j : Int) (t u : Tok) (s : Shared) (Q : Value → Shared → Prop) (E : Value → Shared → Prop), Q (.int (g i j) s.toks) { s with toks := s.toks + 1 } → wpAny (model X.prog X.w) X.A (f (.int i t) (.int j u)) Q E s) :
    OpR X f (rI0 fun i j => .int (g i j)) := by
  intro pins s σ H x y v u Q I rx ry h
  obtain ⟨i, j, rfl, rfl, q⟩ := h
  obtain ⟨t, rfl⟩ := rx
  obtain ⟨t', rfl⟩ := ry
  exact rule i j t t' s _ _ ⟨.int (g i j), H, I.tok _, ⟨_, rfl⟩, q⟩
theorem opB0 {f : Value → Value → Sem Value} {g : Int → Int → Bool}
    (rule : ∀ (i j : Int) (t u : Tok) (s : Shared) (Q : Value → Shared → Prop) (E : Value → Shared → Prop), Q (.bool (g i j)) s → wpAny (model X.prog X.w) X.A (f (.int i t) (.int j u)) Q E s) :
    OpR X f (rI0 fun i j => .bl (g i j)) := by
  intro pins s σ H x y v u Q I rx ry h
  obtain ⟨i, j, rfl, rfl, q⟩ := h
  obtain ⟨t, rfl⟩ := rx
  obtain ⟨t', rfl⟩ := ry
  exact rule i j t t' s _ _ ⟨.bl (g i j), H, I, rfl, q⟩

def CMul (i j : Int) : Prop := (-(2 ^ 64) < i ∧ i < 2 ^ 64) ∨ (-(2 ^ 64) < j ∧ j < 2 ^ 64)
theorem CMul.ok {i j : Int} (h : CMul i j) : IntMulOk i j := by
  rcases h with ⟨h1, h2⟩ | ⟨h1, h2⟩
  · exact .of_left (intBits_le_64 h1 h2)
  · exact .of_right (intBits_le_64 h1 h2)
theorem two_pow_nn (k : Nat) : (0 : Int) ≤ 2 ^ k := by
  rw [two_pow_cast]
  exact Int.natCast_nonneg _

theorem op_add : OpR X (binaryOp .Add) (rI0 fun i j => .int (i + j)) := opI0 fun _ _ _ _ _ _ _ q => add_int q
theorem op_sub : OpR X (binaryOp .Sub) (rI0 fun i j => .int (i - j)) := opI0 fun _ _ _ _ _ _ _ q => sub_int q
theorem op_mul : OpR X (binaryOp .Mult) (rI CMul fun i j => .int (i * j)) := opI fun _ _ _ _ _ _ _ hc q => mul_int q hc.ok
/-- % by a positive divisor of any size -/
theorem op_mod : OpR X (binaryOp .Mod) (rI (fun _ j => 0 < j) fun i j => .int (i % j)) := opI fun i j _ _ _ _ _ hc q => by
  have h1 : (0 : Int) < j := hc
  exact mod_int' (by omega) (by rw [Int.fmod_eq_emod_of_nonneg i (by omega)]; exact q)
theorem op_shr : OpR X (binaryOp .RShift) (rI (fun _ j => 0 ≤ j) fun i j => .int (i / 2 ^ j.toNat)) := opI fun i j _ _ _ _ _ hc q =>
  rshift_int hc (by rw [Int.fdiv_eq_ediv_of_nonneg i (two_pow_nn _)]; exact q)
theorem op_and : OpR X (binaryOp .BitAnd) (rI0 fun i j => .int (Builtin.bitAnd i j)) := opI0 fun _ _ _ _ _ _ _ q => and_int q
theorem op_xor : OpR X (binaryOp .BitXor) (rI0 fun i j => .int (Builtin.bitXor i j)) := opI0 fun _ _ _ _ _ _ _ q => xor_int q



/-! ### bools among ints: n += (a < b) -/
end

/-! ### comparisons -/
/-- the scalars that == tells apart as data does -/
def scal : V → V → Bool
  | .non, .non => true | .non, .int _ => true | .int _, .non => true | .non, .bl _ => true | .bl _, .non => true | .non, .str _ => true | .str _, .non => true
  | .int _, .int _ => true | .bl _, .bl _ => true | .str _, .str _ => true | .byt _, .byt _ => true
  | .int _, .str _ => true | .str _, .int _ => true | .bl _, .str _ => true | .str _, .bl _ => true
  | _, _ => false
def rEq : R2 := fun x y H Q => scal x y = true ∧ Q (.bl (decide (x = y))) H

theorem dec_int {i j : Int} : decide (V.int i = V.int j) = (i == j) := by
  rw [Bool.eq_iff_iff]
  simp
theorem dec_bl {i j : Bool} : decide (V.bl i = V.bl j) = (i == j) := by
  rw [Bool.eq_iff_iff]
  simp
theorem dec_str {i j : Str} : decide (V.str i = V.str j) = (i == j) := by
  rw [Bool.eq_iff_iff]
  simp
theorem dec_byt {i j : Array UInt8} : decide (V.byt i = V.byt j) = (i.toList == j.toList) := by
  rw [Bool.eq_iff_iff]
  cases i
  cases j
  simp

section
variable {X : Cx} {a b c : Expr} {ta tb tc : TE} {pos : Pos}
theorem fin_bl {pins : List (Addr × Obj)} {σ : St} {H : Hp} {s : Shared} {Q : VK} {k k' : Bool} (I : Inv X pins σ H s) (q : Q (.bl k) H) (e : k = k') : EP X pins σ Q (.bool k') s := by
  subst e
  exact ⟨.bl k, H, I, rfl, q⟩
theorem op_eq : OpR X (compareOp .Eq) rEq := by
  intro pins s σ H x y v u Q I rx ry h
  obtain ⟨hs, q⟩ := h
  cases x with
  | non =>
    cases rx
    cases y with
    | non => cases ry; exact PySem.EqNone.eq_none_none (fin_bl I q (by simp))
    | bl j => cases ry; exact PySem.EqNone.eq_none_bool (fin_bl I q (by simp))
    | int j => obtain ⟨t', rfl⟩ := ry; exact PySem.EqNone.eq_none_int (fin_bl I q (by simp))
    | str j => obtain ⟨t', rfl⟩ := ry; exact PySem.EqNone.eq_none_str (fin_bl I q (by simp))
    | _ => exact absurd (show false = true from hs) Bool.false_ne_true
  | bl i =>
    cases rx
    cases y with
    | non => cases ry; exact PySem.EqNone.eq_bool_none (fin_bl I q (by simp))
    | bl j => cases ry; exact eq_bool (fin_bl I q dec_bl)
    | str j => obtain ⟨t', rfl⟩ := ry; exact PySem.EqMixed.eq_bool_str (fin_bl I q (by simp))
    | _ => exact absurd (show false = true from hs) Bool.false_ne_true
  | int i =>
    obtain ⟨t, rfl⟩ := rx
    cases y with
    | non => cases ry; exact PySem.EqNone.eq_int_none (fin_bl I q (by simp))
    | int j => obtain ⟨t', rfl⟩ := ry; exact eq_int (fin_bl I q dec_int)
    | str j => obtain ⟨t', rfl⟩ := ry; exact PySem.EqMixed.eq_int_str (fin_bl I q (by simp))
    | _ => exact absurd (show false = true from hs) Bool.false_ne_true
  | str i =>
    obtain ⟨t, rfl⟩ := rx
    cases y with
    | non => cases ry; exact PySem.EqNone.eq_str_none (fin_bl I q (by simp))
    | bl j => cases ry; exact PySem.EqMixed.eq_str_bool (fin_bl I q (by simp))
    | int j => obtain ⟨t', rfl⟩ := ry; exact PySem.EqMixed.eq_str_int (fin_bl I q (by simp))
    | str j => obtain ⟨t', rfl⟩ := ry; exact eq_str (fin_bl I q dec_str)
    | _ => exact absurd (show false = true from hs) Bool.false_ne_true
  | byt i =>
    obtain ⟨t, rfl⟩ := rx
    cases y with
    | byt j => obtain ⟨t', rfl⟩ := ry; exact PySem.W.eq_bytes (fin_bl I q dec_byt)
    | _ => exact absurd (show false = true from hs) Bool.false_ne_true
  | _ => cases y <;> exact absurd (show false = true from hs) Bool.false_ne_true

theorem op_lt : OpR X (compareOp .Lt) (rI0 fun i j => .bl (decide (i < j))) := opB0 fun _ _ _ _ _ _ _ q => lt_int q
theorem op_le : OpR X (compareOp .LtE) (rI0 fun i j => .bl (decide (i ≤ j))) := opB0 fun _ _ _ _ _ _ _ q => le_int q
theorem op_gt : OpR X (compareOp .Gt) (rI0 fun i j => .bl (decide (j < i))) := opB0 fun _ _ _ _ _ _ _ q => gt_int q
theorem op_ge : OpR X (compareOp .GtE) (rI0 fun i j => .bl (decide (j ≤ i))) := opB0 fun _ _ _ _ _ _ _ q => ge_int q

/-- is None, is not None: the right side a value none -/
theorem op_isN : OpR X (compareOp .Is) (fun x y H Q => y = .non ∧ Q (.bl (decide (x = .non))) H) := by
  intro pins s σ H x y v u Q I rx ry h
  obtain ⟨rfl, q⟩ := h
  cases ry
  refine is_none_gen (fin_bl I q ?_)
  cases x <;> first
    | (cases rx; rfl)
    | (obtain ⟨t, rfl⟩ := rx; rfl)
theorem op_notN : OpR X (compareOp .IsNot) (fun x y H Q => y = .non ∧ Q (.bl (!decide (x = .non))) H) := by
  intro pins s σ H x y v u Q I rx ry h
  obtain ⟨rfl, q⟩ := h
  cases ry
  refine isnot_none_gen (fin_bl I q ?_)
  cases x <;> first
    | (cases rx; rfl)
    | (obtain ⟨t, rfl⟩ := rx; rfl)



theorem nomark (b : Expr) {op : CmpOp} (h : op ≠ .In := by decide) (h2 : op ≠ .NotIn := by decide) : behindInMarks op b = false := by
  have e1 : (op == CmpOp.In) = false := by cases op <;> first | rfl | exact absurd rfl h
  have e2 : (op == CmpOp.NotIn) = false := by cases op <;> first | rfl | exact absurd rfl h2
  cases b <;> simp [behindInMarks, e1, e2]
/-- a comparison as a value; hm: nomark b, or (for in, not in) by with_unfolding_all rfl -/
theorem pe_cmpR {op : CmpOp} {r : R2} (ho : OpR X (compareOp op) r) (ha : PE X a ta) (hb : PE X b tb) (hm : behindInMarks op b = false) : PE X (.Compare a [op] [b] pos) (tOp r ta tb) := by
  intro pins s σ H Q I h
  exact wpAny_Compare1 (binT ha hb I h fun v u s2 x y H2 I2 rx ry q => ho pins s2 σ H2 x y v u Q I2 rx ry q) hm
/-- a reading of a value as a test -/
def tTest (t : TE) : TT := fun σ H Q => t σ H fun x H' => ∃ k, x = .bl k ∧ Q k H'
theorem pt_cmpR {op : CmpOp} {r : R2} (ho : OpR X (compareOp op) r) (ha : PE X a ta) (hb : PE X b tb) (hm : behindInMarks op b = false) : PT X (.Compare a [op] [b] pos) (tTest (tOp r ta tb)) := by
  intro pins s σ H Q I h
  refine wpAny_isTrue_Compare1 (thn (ha pins s σ H _ I h) fun v s1 ⟨x, H1, I1, r1, q1⟩ => thn (hb pins s1 σ H1 _ I1 q1) fun u s2 ⟨y, H2, I2, r2, q2⟩ =>
    thn (ho pins s2 σ H2 x y v u _ I2 r1 r2 q2) fun c s3 ⟨z, H3, I3, r3, k, e, q3⟩ => ?_) hm
  subst e
  cases r3
  exact wpAny_truthy_bool ⟨H3, I3, q3⟩
/-- a op1 b op2 c -/
def tChain (r r' : R2) (ta tb tc : TE) : TE := fun σ H Q => ta σ H fun x H1 => tb σ H1 fun y H2 => r x y H2 fun z H3 => ∃ k, z = .bl k ∧
  (if k = true then tc σ H3 fun w' H4 => r' y w' H4 Q else Q (.bl false) H3)
theorem pe_chain {op op' : CmpOp} {r r' : R2} (ho : OpR X (compareOp op) r) (ho' : OpR X (compareOp op') r') (ha : PE X a ta) (hb : PE X b tb) (hc : PE X c tc)
    (hm : lastMarks [op, op'] [b, c] = false := by with_unfolding_all rfl) : PE X (.Compare a [op, op'] [b, c] pos) (tChain r r' ta tb tc) := by
  intro pins s σ H Q I h
  refine Compare_chain (thn (ha pins s σ H _ I h) fun v s1 ⟨x, H1, I1, r1, q1⟩ => chain_link (thn (hb pins s1 σ H1 _ I1 q1) fun u s2 ⟨y, H2, I2, r2, q2⟩ =>
    thn (ho pins s2 σ H2 x y v u _ I2 r1 r2 q2) fun d s3 ⟨z, H3, I3, r3, k, e, q3⟩ => ?_)) hm
  subst e
  cases r3
  refine wpAny_truthy_bool ?_
  cases k with
  | false => exact ite_ff ⟨.bl false, H3, I3, rfl, q3⟩
  | true => exact ite_tt (chain_last (thn (hc pins s3 σ H3 _ I3 q3) fun w' s4 ⟨z', H4, I4, r4, q4⟩ => ho' pins s4 σ H4 y z' u w' Q I4 r2 r4 q4))
theorem pt_chain {op op' : CmpOp} {r r' : R2} (ho : OpR X (compareOp op) r) (ho' : OpR X (compareOp op') r') (ha : PE X a ta) (hb : PE X b tb) (hc : PE X c tc)
    (hm : lastMarks [op, op'] [b, c] = false := by with_unfolding_all rfl) : PT X (.Compare a [op, op'] [b, c] pos) (tTest (tChain r r' ta tb tc)) := by
  intro pins s σ H Q I h
  refine isTrue_chain (thn (ha pins s σ H _ I h) fun v s1 ⟨x, H1, I1, r1, q1⟩ => test_link (thn (hb pins s1 σ H1 _ I1 q1) fun u s2 ⟨y, H2, I2, r2, q2⟩ =>
    thn (ho pins s2 σ H2 x y v u _ I2 r1 r2 q2) fun d s3 ⟨z, H3, I3, r3, k, e, q3⟩ => ?_)) hm
  subst e
  cases r3
  refine wpAny_truthy_bool ?_
  cases k with
  | false =>
    obtain ⟨k', e', q'⟩ := q3
    cases e'
    exact ite_ff ⟨H3, I3, q'⟩
  | true =>
    refine ite_tt (test_last (thn (hc pins s3 σ H3 _ I3 q3) fun w' s4 ⟨z', H4, I4, r4, q4⟩ => thn (ho' pins s4 σ H4 y z' u w' _ I4 r2 r4 q4) fun d' s5 ⟨z2, H5, I5, r5, k2, e2, q5⟩ => ?_))
    subst e2
    cases r5
    exact wpAny_truthy_bool ⟨H5, I5, q5⟩

/-! ### truth -/
/-- a value's truth by the abstract heap -/
def TruV (K : PySem.W.Frag) (x : V) (H : Hp) (k : Bool) : Prop :=
  match x with
  | .non => k = false
  | .bl b => k = b
  | .int i => k = (i != 0)
  | .str y => y.length ≤ sizeLine ∧ k = ((y.length : Int) != 0)
  | .byt y => y.size ≤ sizeLine ∧ k = ((y.size : Int) != 0)
  | .ref p => (∃ xs, SqL K H p xs ∧ k = !xs.isEmpty) ∨ (∃ xs, SqT K H p xs ∧ k = !xs.isEmpty) ∨ ∃ kvs, H p = some (.dK kvs) ∧ k = !kvs.isEmpty
  | _ => False
theorem isEmpty_kv {κ : Type} {kvs : List (κ × V)} {vs : List (κ × Value)} (r : KV kvs vs) : (!vs.isEmpty) = !kvs.isEmpty := by
  cases r <;> rfl
theorem isEmpty_of {xs : List V} {its : List Value} (r : Vals xs its) : (!its.toArray.isEmpty) = !xs.isEmpty := by
  cases r <;> simp
theorem line63 : (sizeLine : Nat) < 2 ^ 63 := by rw [sizeLine_eq]; decide
theorem tru_ok : TruR X (fun x H Q => ∃ k, TruV X.K x H k ∧ Q k H) := by
  intro pins s σ H x v Q I rx h
  obtain ⟨k, e, q⟩ := h
  have hl := line63
  have hs : sizeLine = 16777216 := sizeLine_eq
  cases x with
  | non =>
    cases rx
    have e' : k = false := e
    subst e'
    exact truthy_none ⟨H, I, q⟩
  | bl b =>
    cases rx
    have e' : k = b := e
    subst e'
    exact wpAny_truthy_bool ⟨H, I, q⟩
  | int i =>
    obtain ⟨t, rfl⟩ := rx
    have e' : k = (i != 0) := e
    subst e'
    exact PySem.P.truthy_int ⟨H, I, q⟩
  | str y =>
    obtain ⟨t, rfl⟩ := rx
    obtain ⟨hy, e'⟩ : y.length ≤ sizeLine ∧ k = ((y.length : Int) != 0) := e
    subst e'
    exact PySem.P.truthy_str (by omega) ⟨H, I.tok _, q⟩
  | byt y =>
    obtain ⟨t, rfl⟩ := rx
    obtain ⟨hy, e'⟩ : y.size ≤ sizeLine ∧ k = ((y.size : Int) != 0) := e
    subst e'
    exact PySem.W.truthy_bytes (by omega) ⟨H, I.tok _, q⟩
  | ref p =>
    cases rx
    have e' : (∃ xs, SqL X.K H p xs ∧ k = !xs.isEmpty) ∨ (∃ xs, SqT X.K H p xs ∧ k = !xs.isEmpty) ∨ ∃ kvs, H p = some (.dK kvs) ∧ k = !kvs.isEmpty := e
    rcases e' with ⟨xs, hx, e'⟩ | ⟨xs, hx, e'⟩ | ⟨kvs, hx, e'⟩
    · subst e'
      obtain ⟨its, r, pl, hz⟩ := I.list hx
      have hlen := r.length
      exact wpAny_truthy_list pl.isList (by simp only [List.size_toArray]; omega) ⟨H, I.tok _, by rw [isEmpty_of r]; exact q⟩
    · subst e'
      obtain ⟨its, r, pl, hz⟩ := I.tuple hx
      have hlen := r.length
      exact truthy_tuple pl (by simp only [List.size_toArray]; omega) ⟨H, I.tok _, by rw [isEmpty_of r]; exact q⟩
    · subst e'
      obtain ⟨hz, hS, vs, r, m⟩ : kvs.length ≤ sizeLine ∧ (p == sysModules) = false ∧ ∃ vs, KV kvs vs ∧ s.heap.DictOf (mixKind X.prog X.w) p vs := I.hok p _ hx
      have hlen : kvs.length = vs.length := Paired.length r
      exact wpAny_truthy_dict hS m (by omega) ⟨H, I.tok _, by rw [isEmpty_kv r]; exact q⟩
  | _ => exact (show False from e).elim
/-- any expression whose test is its value's truth (a name, a call, a subscript, a field ..: he by fun _ => rfl) -/
theorem pt_truth (ha : PE X a ta) (he : ∀ whole, isTrue a X.env whole = (do let v ← whole; standAt a.pos; holding [v] (truthy v))) :
    PT X a (fun σ H Q => ta σ H fun x H' => ∃ k, TruV X.K x H' k ∧ Q k H') := by
  intro pins s σ H Q I h
  exact isTrue_plain (thn (ha pins s σ H _ I h) fun v s1 ⟨x, H1, I1, r1, q1⟩ => tru_ok pins s1 σ H1 x v Q I1 r1 q1) (he _)

/-! ### strs and bytes -/


/-! ### scalar builtins, by CallR -/
theorem vals1 {x : V} {us : List Value} (r : Vals [x] us) : ∃ u, us = [u] ∧ RelV x u := by
  cases r with
  | cons r1 r2 => cases r2; exact ⟨_, rfl, r1⟩
theorem vals2 {x y : V} {us : List Value} (r : Vals [x, y] us) : ∃ u w', us = [u, w'] ∧ RelV x u ∧ RelV y w' := by
  cases r with
  | cons r1 r2 =>
    cases r2 with
    | cons r3 r4 => cases r4; exact ⟨_, _, rfl, r1, r3⟩
theorem call_min2 (hc : X.calm = true) : CallR X (.builtin "min") (fun xs H Q => ∃ i j, xs = [.int i, .int j] ∧ Q (.int (if j < i then j else i)) H) := by
  intro pins s σ H xs us Q I r h
  obtain ⟨i, j, rfl, q⟩ := h
  obtain ⟨u, w', rfl, ⟨t, rfl⟩, ⟨t', rfl⟩⟩ := vals2 r
  refine min_two_ints (I.ok.hd hc) fun h' tk k => ⟨_, H, I.kept k, ?_, q⟩
  by_cases hj : j < i
  · rw [if_pos hj, if_pos hj]; exact ⟨_, rfl⟩
  · rw [if_neg hj, if_neg hj]; exact ⟨_, rfl⟩
end
end L2

namespace L2
open PySem PySem.Spec PyProof.Rows

/-! ### an instance, its attributes a map -/
structure ObjM (h : Heap) (x dx C : Addr) (mA : Str → Option Value) : Prop where
  obj : h.get? x = some (PySem.W.instObj C dx)
  ns : h.Ns1 dx mA
  ne : dx ≠ x

theorem lookIn_ns {h : Heap} {dx : Addr} {mA : Str → Option Value} (n : h.Ns1 dx mA) : ∃ od, h.get? dx = some od ∧ ∀ name, PySem.W.lookIn name od = some (mA name) := by
  obtain ⟨o, es, ep, ho, hd, hk, _, hm⟩ := n
  refine ⟨o, ho, fun name => ?_⟩
  have e := hm name
  unfold nsFind findBy at e
  rw [← Array.find?_toList] at e
  unfold PySem.W.lookIn
  rw [hd]
  dsimp only
  split
  · rename_i y q
    rw [q] at e
    exact congrArg some e
  · rename_i q
    rw [q] at e
    have a : es.toList.any (·.refKey) = false := by
      rw [List.any_eq_false]
      intro y hy
      obtain ⟨z, t, hkey⟩ := hk y (Array.mem_toList_iff.mp hy)
      simp [DictEntry.refKey, hkey]
    have a' : ¬ es.toList.any (·.refKey) = true := by rw [a]; exact Bool.false_ne_true
    rw [if_neg a']
    exact congrArg some e

theorem ObjM.look {h : Heap} {x dx C : Addr} {mA : Str → Option Value} (I : ObjM h x dx C mA) : ∃ od, PySem.W.InstAt h x (PySem.W.instObj C dx) C (some od) ∧ ∀ name, PySem.W.lookIn name od = some (mA name) :=
  let ⟨od, ho, hl⟩ := lookIn_ns I.ns
  ⟨od, ⟨I.obj, rfl, rfl, ho⟩, hl⟩

section
variable {prog : Program} {w : World} {A : Around} {E : Value → Shared → Prop} {s : Shared} {K : PySem.W.Frag} {x dx C f : Addr} {mA : Str → Option Value} {name : Str} {v : Value}

theorem get_map {expr : Bool} {Q : Value → Shared → Prop} (X : K.In s.heap) (I : ObjM s.heap x dx C mA) (hg : PySem.W.plainGet K C name = true) (hh : PySem.W.hasDictIn K C = true)
    (ha : PySem.W.findIn K (.ref C) name = some none) (hv : mA name = some v) (hv' : PySem.W.handedIn v = true) (h : Q v { s with toks := s.toks + 1 }) :
    wpAny (model prog w) A (getAttr (.ref x) name expr) Q E s := by
  obtain ⟨od, J, hl⟩ := I.look
  exact PySem.W.get_value X J (PySem.W.plainGet_of hg).1 (PySem.W.findObj_own hh ha rfl (by rw [hl, hv])) hv' h


theorem get_meth {pl : Sem Bool} {Q : Value × List Value → Shared → Prop} (X : K.In s.heap) (I : ObjM s.heap x dx C mA) (hg : PySem.W.plainGet K C name = true)
    (hf : PySem.W.findIn K (.ref C) name = some (some (.ref f))) (ht : PySem.W.isFn K (.ref f) = true) (hv : mA name = none) (h : Q (.ref f, [.ref x]) s) :
    wpAny (model prog w) A (getMethod (.ref x) name pl) Q E s := by
  obtain ⟨od, J, hl⟩ := I.look
  exact PySem.W.method_fn X J (PySem.W.plainGet_of hg).1 (PySem.W.plainGet_of hg).2 hf (beq_iff_eq.mp ht) (by show (PySem.W.lookIn name od).map (·.isSome) = some false; rw [hl, hv]; rfl) h

theorem set_map {ns : List Str} {Q : Unit → Shared → Prop} (X : K.In s.heap) (I : ObjM s.heap x dx C mA)
    (hs : PySem.W.findIn K (.ref C) "__setattr__" = some (some (.builtin "object.__setattr__"))) (hp : PySem.W.plainOver K C = true) (ht : PySem.W.takerIn K C name = some none) (hh : PySem.W.hasDictIn K C = true)
    (hw : PySem.Within mA ns) (hsz : ns.length ≤ sizeLine)
    (h : ∀ h', ObjM h' x dx C (fun y => if y = name then some v else mA y) → Heap.SameBut dx s.heap h' → Q () { s with heap := h', toks := s.toks + 2 }) :
    wpAny (model prog w) A (setAttr (.ref x) name v) Q E s := by
  obtain ⟨od, J, hl⟩ := I.look
  refine PySem.W.set_plain X J hs (PySem.W.osa_open (s := { s with toks := s.toks + 1 }) (r := none) X J hp ht fun b => ?_)
  obtain ⟨cd, hc, hd'⟩ := PySem.W.any_some hh
  have hx : s.heap.get? x = some ⟨.ref C, some dx, .plain, #[]⟩ := I.obj
  refine wpAny_bind (wpAny_pure (wpAny_bind (wpAny_bind (wpAny_loadPart hx (wpAny_bind (PySem.W.Looks.here (s := { s with toks := s.toks + 1 }) (PySem.W.looks_clsIn X hc) ?_))))))
  rw [hd']
  refine wpAny_pure (a := some dx) (wpAny_bind (wpAny_pure (wpAny_bind ?_)))
  refine wpAny_nsSet1 (s := { s with toks := s.toks + 1 }) I.ns fun h' hn2 hs2 => ?_
  obtain ⟨oD, esD, epD, hoD, hdD, hcD⟩ := hn2.count (PySem.Within.cons name v hw)
  refine wpAny_bind (wpAny_lookBehind hoD (by rw [hdD]; exact pastItsLine_dict (Nat.le_trans hcD (by rw [List.length_cons]; omega))) ?_)
  exact wpAny_pure (h _ ⟨(hs2.2 _ (Ne.symm I.ne)).trans I.obj, hn2, I.ne⟩ hs2)

/-- C(..): the dict at the heap's end, the instance behind it; then its __init__ -/
theorem make_map {R : Result → Shared → Prop} {vs : List Value} {kw : List (Str × Value)} (X : K.In s.heap) (hm : PySem.W.makesIn K C = true)
    (hi : PySem.W.findIn K (.ref C) "__init__" = some (some (.ref f))) (hf : PySem.W.typeIn K (.ref f) = some (.type "function"))
    (h : codeAny (model prog w) (A.under (.builtin "type.__call__" ⟨.ref C :: vs, kw⟩)) (.call (.ref f) ⟨.ref (s.heap.objs.size + 1) :: vs, kw⟩) (PySem.W.InitBack (s.heap.objs.size + 1) R)
      { s with heap := (s.heap.push PySem.W.emptyDict).push (PySem.W.instObj C s.heap.objs.size) }) :
    codeAny (model prog w) A (.call (.ref C) ⟨vs, kw⟩) R s := by
  obtain ⟨hh, g, d, t, os⟩ := s
  exact PySem.W.make_core (PySem.W.makes_of X hm) (PySem.W.looks_findIn X hi) (fun self => PySem.W.bind_fn X self hf) (.inl rfl) h
end

/-! ### the attributes as a list of pairs -/
def putF (f : Str) (v : V) : List (Str × V) → List (Str × V)
  | [] => [(f, v)]
  | (g, x) :: r => if g = f then (g, v) :: r else (g, x) :: putF f v r
theorem lookup_putF (f g : Str) (v : V) : ∀ fs : List (Str × V), (putF f v fs).lookup g = if g = f then some v else fs.lookup g
  | [] => by
    show List.lookup g [(f, v)] = _
    by_cases h : g = f
    · have hb : (g == f) = true := beq_iff_eq.mpr h
      simp only [List.lookup, hb, if_pos h]
    · have hb : (g == f) = false := beq_eq_false_iff_ne.mpr h
      simp only [List.lookup, hb, if_neg h]
  | (k, x) :: r => by
    have ih := lookup_putF f g v r
    rw [show putF f v ((k, x) :: r) = (if k = f then (k, v) :: r else (k, x) :: putF f v r) from rfl]
    by_cases hk : k = f
    · rw [if_pos hk]
      by_cases h : g = k
      · have hb : (g == k) = true := beq_iff_eq.mpr h
        simp only [List.lookup, hb, if_pos (h.trans hk)]
      · have hb : (g == k) = false := beq_eq_false_iff_ne.mpr h
        simp only [List.lookup, hb, if_neg (fun e : g = f => h (e.trans hk.symm))]
    · rw [if_neg hk]
      by_cases h : g = k
      · have hb : (g == k) = true := beq_iff_eq.mpr h
        simp only [List.lookup, hb, if_neg (fun e : g = f => hk (h.symm.trans e))]
      · have hb : (g == k) = false := beq_eq_false_iff_ne.mpr h
        simp only [List.lookup, hb]
        exact ih
theorem keys_putF (f : Str) (v : V) : ∀ fs : List (Str × V), f ∈ (putF f v fs).map (·.1) ∧ ∀ g, g ∈ fs.map (·.1) → g ∈ (putF f v fs).map (·.1)
  | [] => ⟨by simp [putF], fun g h => by simp at h⟩
  | (k, x) :: r => by
    obtain ⟨i1, i2⟩ := keys_putF f v r
    rw [show putF f v ((k, x) :: r) = (if k = f then (k, v) :: r else (k, x) :: putF f v r) from rfl]
    by_cases hk : k = f
    · rw [if_pos hk]
      subst hk
      exact ⟨by simp, fun g h => by simpa using h⟩
    · rw [if_neg hk]
      refine ⟨?_, fun g h => ?_⟩
      · rw [List.map_cons]
        exact List.mem_cons_of_mem _ i1
      · rw [List.map_cons] at h ⊢
        rcases List.mem_cons.mp h with e | e
        · exact List.mem_cons.mpr (.inl e)
        · exact List.mem_cons_of_mem _ (i2 g e)
theorem length_putF (f : Str) (v : V) : ∀ fs : List (Str × V), (putF f v fs).length ≤ fs.length + 1
  | [] => by simp [putF]
  | (k, x) :: r => by
    have ih := length_putF f v r
    rw [show putF f v ((k, x) :: r) = (if k = f then (k, v) :: r else (k, x) :: putF f v r) from rfl]
    by_cases hk : k = f
    · rw [if_pos hk, List.length_cons, List.length_cons]; omega
    · rw [if_neg hk, List.length_cons, List.length_cons]; omega

theorem RelO.some_of {v : V} {o : Option Value} (r : RelO (some v) o) : ∃ u, o = some u ∧ RelV v u := by
  cases o with
  | none => exact (show False from r).elim
  | some u => exact ⟨u, rfl, r⟩
theorem RelO.none_of {o : Option Value} (r : RelO none o) : o = none := by
  cases o with
  | none => rfl
  | some u => exact (show False from r).elim
theorem handed_of {v : V} {u : Value} (r : RelV v u) : PySem.W.handedIn u = true := by
  cases v with
  | non => cases (show u = Value.none from r); rfl
  | bl b => cases (show u = Value.bool b from r); rfl
  | int i => obtain ⟨t, e⟩ := (show ∃ t, u = Value.int i t from r); cases e; rfl
  | str x => obtain ⟨t, e⟩ := (show ∃ t, u = Value.str x t from r); cases e; rfl
  | byt b => obtain ⟨t, e⟩ := (show ∃ t, u = Value.bytes b t from r); cases e; rfl
  | flt b => obtain ⟨t, e⟩ := (show ∃ t, u = Value.float b t from r); cases e; rfl
  | ref a => cases (show u = Value.ref a from r); rfl
  | ty n => cases (show u = Value.type n from r); rfl

section
variable {P : Program} {w : World} {H H' : Hp} {h h' : Heap} {a C dx : Addr} {fs fs' : List (Str × V)}
theorem ins_get (hok : HOk P w H h) (e : H a = some (.ins C dx fs)) : ∃ mA, ObjM h a dx C mA ∧ (∀ f, RelO (fs.lookup f) (mA f)) ∧ PySem.Within mA (fs.map (·.1)) ∧ fs.length ≤ 1000 ∧ H dx = some (.own a) := by
  obtain ⟨d, z, ne, ob, mA, n, r, q⟩ := (show ObjOk P w H h a (.ins C dx fs) from hok a _ e)
  exact ⟨mA, ⟨ob, n, ne⟩, r, q, z, d⟩
end

/-! ### what of the text a class must have -/
structure Cls (K : PySem.W.Frag) (C : Addr) : Prop where
  pg : PySem.W.plainGet K C Str.empty = true
  hd : PySem.W.hasDictIn K C = true
  po : PySem.W.plainOver K C = true
  sa : PySem.W.findIn K (.ref C) "__setattr__" = some (some (.builtin "object.__setattr__"))
theorem Cls.get {K : PySem.W.Frag} {C : Addr} (c : Cls K C) (f : Str) : PySem.W.plainGet K C f = true := c.pg
/-- no class of it has the name -/
def NoAttr (K : PySem.W.Frag) (C : Addr) (f : Str) : Prop := PySem.W.findIn K (.ref C) f = some none
theorem NoAttr.taker {K : PySem.W.Frag} {C : Addr} {f : Str} (n : NoAttr K C f) : PySem.W.takerIn K C f = some none := by
  unfold PySem.W.takerIn
  rw [show PySem.W.findIn K (.ref C) f = some none from n]
  rfl
/-- a method: a plain def of the class or of one above it -/
structure Meth (K : PySem.W.Frag) (C : Addr) (m : Str) (f : Addr) : Prop where
  at_ : PySem.W.findIn K (.ref C) m = some (some (.ref f))
  fn : PySem.W.isFn K (.ref f) = true
  kp : PySem.W.keepIn K (.ref f) = true

section
variable {X : Cx} {pins : List (Addr × Obj)} {σ : St} {H : Hp} {s : Shared} {a C dx : Addr} {fs : List (Str × V)} {f : Str} {v : V} {A : Around} {E : Value → Shared → Prop}

theorem getattr_ok {b : Bool} {Q : Value → Shared → Prop} (I : Inv X pins σ H s) (e : H a = some (.ins C dx fs)) (c : Cls X.K C) (n : NoAttr X.K C f) (l : fs.lookup f = some v)
    (h : ∀ u s', Inv X pins σ H s' → RelV v u → Q u s') : wpAny (model X.prog X.w) A (getAttr (.ref a) f b) Q E s := by
  obtain ⟨mA, O, r, _, _, _⟩ := ins_get I.hok e
  obtain ⟨u, hu, ru⟩ := RelO.some_of (v := v) (o := mA f) (by rw [← l]; exact r f)
  exact get_map I.kIn O (c.get f) c.hd n hu (handed_of ru) (h u _ (I.tok _) ru)


theorem getmeth_ok {m : Str} {g : Addr} {pl : Sem Bool} {Q : Value × List Value → Shared → Prop} (I : Inv X pins σ H s) (e : H a = some (.ins C dx fs)) (c : Cls X.K C) (k : Meth X.K C m g) (l : fs.lookup m = none)
    (h : Q (.ref g, [.ref a]) s) : wpAny (model X.prog X.w) A (getMethod (.ref a) m pl) Q E s := by
  obtain ⟨mA, O, r, _, _, _⟩ := ins_get I.hok e
  have hn : mA m = none := RelO.none_of (by rw [← l]; exact r m)
  exact get_meth I.kIn O (c.get m) k.at_ k.fn hn h

theorem setattr_ok {y : V} {u : Value} {Q : Unit → Shared → Prop} (I : Inv X pins σ H s) (e : H a = some (.ins C dx fs)) (c : Cls X.K C) (n : NoAttr X.K C f) (hl : fs.length < 1000) (ry : RelV y u)
    (h : ∀ s', Inv X pins σ (upd H a (.ins C dx (putF f y fs))) s' → Q () s') : wpAny (model X.prog X.w) A (setAttr (.ref a) f u) Q E s := by
  obtain ⟨mA, O, r, wi, _, ho⟩ := ins_get I.hok e
  have hz : (fs.map (·.1)).length ≤ sizeLine := by rw [List.length_map, sizeLine_eq]; omega
  refine set_map I.kIn O c.sa c.po n.taker c.hd wi hz fun h' O' sb => h _ ?_
  have hd : ∃ o, h'.get? dx = some o := let ⟨o, _, _, e', _⟩ := O'.ns; ⟨o, e'⟩
  refine I.write (x := a) (e := dx) (by rw [e]; exact True.intro) (.inr ho) (fun b q hb z => (sb.2 b hb).trans z) hd ?_
  refine ⟨by rw [upd_ne O.ne]; exact ho, ?_, O.ne, O'.obj, _, O'.ns, fun g => ?_, fun g hg => ?_⟩
  · have := length_putF f y fs; omega
  · show RelO ((putF f y fs).lookup g) (if g = f then some u else mA g)
    rw [lookup_putF]
    by_cases q : g = f
    · rw [if_pos q, if_pos q]; exact ry
    · rw [if_neg q, if_neg q]; exact r g
  · by_cases q : g = f
    · rw [q]; exact (keys_putF f y fs).1
    · refine (keys_putF f y fs).2 g (wi g fun z => hg ?_)
      show (if g = f then some u else mA g) = none
      rw [if_neg q]; exact z

/-- a new instance, tracked, without attributes -/
theorem Inv.made (I : Inv X pins σ H s) : Inv X pins σ (upd (upd H s.heap.objs.size (.own (s.heap.objs.size + 1))) (s.heap.objs.size + 1) (.ins C s.heap.objs.size []))
    { s with heap := (s.heap.push PySem.W.emptyDict).push (PySem.W.instObj C s.heap.objs.size) } := by
  have e1 : (s.heap.push PySem.W.emptyDict).get? s.heap.objs.size = some PySem.W.emptyDict := Heap.get?_push_size s.heap rfl
  have e2 : ((s.heap.push PySem.W.emptyDict).push (PySem.W.instObj C s.heap.objs.size)).get? (s.heap.objs.size + 1) = some (PySem.W.instObj C s.heap.objs.size) := by
    have := Heap.get?_push_size (s.heap.push PySem.W.emptyDict) (o := PySem.W.instObj C s.heap.objs.size) rfl
    rwa [Heap.size_push] at this
  have e3 : (s.heap.push PySem.W.emptyDict).Ns s.heap.objs.size (fun _ => none) := ⟨PySem.W.emptyDict, #[], _, e1, rfl, (fun e he => absurd he (by simp)), fun _ => rfl⟩
  have I1 := I.laid (a := s.heap.objs.size) (o := .own (s.heap.objs.size + 1)) (h' := s.heap.push PySem.W.emptyDict) (t' := s.toks) (fun b u q => Heap.get?_push_of_some _ q) (Nat.le_refl _) ⟨_, e1⟩
  refine I1.laid (a := s.heap.objs.size + 1) (o := .ins C s.heap.objs.size []) (t' := s.toks) (fun b u q => Heap.get?_push_of_some _ q) (Nat.le_of_eq (Heap.size_push _ _)) ?_
  have ne : s.heap.objs.size ≠ s.heap.objs.size + 1 := Nat.ne_of_lt (Nat.lt_succ_self _)
  refine ⟨by rw [upd_ne ne, upd_same], Nat.zero_le _, ne, e2, fun _ => none, (Heap.Ns1.of_empty e3).at fun o q => Heap.get?_push_of_some _ q, fun _ => True.intro, fun y hy => absurd rfl hy⟩

/-- e.f where nothing but the object is asked: through attributeBase (super) and the last hold -/
theorem attr_of {prog : Program} {w : World} {env : Env} {e : Expr} {f : Str} {pos : Pos} {s : Shared} {Q : Value → Shared → Prop} (hb : attributeBase e f env (eval e env) = eval e env)
    (h : wpAny (model prog w) A (eval e env) (fun o s₁ => wpAny (model prog w) A (getAttr o f true) Q E s₁) E s) : wpAny (model prog w) A (eval (.Attribute e f pos) env) Q E s :=
  Attribute_any_ h (by rw [arm_eval_Attribute, hb])
end

/-! ### readings and rules -/
/-- e.f, an attribute of the instance -/
def tFld (K : PySem.W.Frag) (ta : TE) (f : Str) : TE := fun σ H Q => ta σ H fun x H1 => ∃ a C dx fs v, x = .ref a ∧ H1 a = some (.ins C dx fs) ∧ Cls K C ∧ NoAttr K C f ∧ fs.lookup f = some v ∧ Q v H1
/-- e.f = value -/
def sFld (K : PySem.W.Frag) (ta tv : TE) (f : Str) : TS := fun D σ H => tv σ H fun y H1 => ta σ H1 fun x H2 => ∃ a C dx fs, x = .ref a ∧ H2 a = some (.ins C dx fs) ∧ Cls K C ∧ NoAttr K C f ∧ fs.length < 1000 ∧
  D.nx σ (upd H2 a (.ins C dx (putF f y fs)))
/-- an augmented operator on two values -/
def InOp (X : Cx) (op : Operator) (rd : V → V → Hp → VK → Prop) : Prop :=
  ∀ (pins : List (Addr × Obj)) (s : Shared) (σ : St) (H : Hp) (x y : V) (u v : Value) (Q : VK), Inv X pins σ H s → RelV x u → RelV y v → rd x y H Q → wpAny (model X.prog X.w) X.A (inplaceOp op u v) (EP X pins σ Q) X.xe s
/-- e.f op= value -/
def sFldAug (K : PySem.W.Frag) (ta tv : TE) (rd : V → V → Hp → VK → Prop) (f : Str) : TS := fun D σ H => ta σ H fun x H1 => ∃ a C dx fs v, x = .ref a ∧ H1 a = some (.ins C dx fs) ∧ Cls K C ∧ NoAttr K C f ∧ fs.lookup f = some v ∧
  tv σ H1 fun y H2 => rd v y H2 fun z H3 => ∃ dx' fs', H3 a = some (.ins C dx' fs') ∧ fs'.length < 1000 ∧ D.nx σ (upd H3 a (.ins C dx' (putF f z fs')))

section
variable {X : Cx} {o e value : Expr} {f : Str} {pos pos' tpos : Pos} {ta tv : TE}
theorem pe_fld (he : PE X e ta) (hb : attributeBase e f X.env (eval e X.env) = eval e X.env) : PE X (.Attribute e f pos) (tFld X.K ta f) := by
  intro pins s σ H Q I h
  refine attr_of hb (thn (he pins s σ H _ I h) fun u s1 ⟨x, H1, I1, rx, a, C, dx, fs, v, ex, ea, c, n, l, q⟩ => ?_)
  subst ex
  obtain rfl : u = Value.ref a := rx
  exact getattr_ok I1 ea c n l fun u' s2 I2 ru => ⟨v, H1, I2, ru, q⟩
theorem ps_fld (ha : PE X o ta) (hv : PE X value tv) (hs : swapsWith value (some (.Attribute o f pos')) pos.line X.env = pure false) : PS X (.Assign [.Attribute o f pos'] value pos) (sFld X.K ta tv f) := by
  intro pins s σ H D I h
  refine plainObj_wpAny_Assign_Attribute (thn (hv pins s σ H _ I h) fun u s1 ⟨y, H1, I1, ry, q⟩ => thn (ha pins s1 σ H1 _ I1 q) fun ov s2 ⟨x, H2, I2, rx, a, C, dx, fs, ex, ea, c, n, l, q2⟩ => ?_) hs
  subst ex
  obtain rfl : ov = Value.ref a := rx
  exact setattr_ok I2 ea c n l ry fun s3 I3 => ⟨σ, _, I3, q2⟩
theorem ps_fldaug {op : Operator} {rd : V → V → Hp → VK → Prop} (ha : PE X o ta) (hv : PE X value tv) (hop : InOp X op rd) : PS X (.AugAssign (.Attribute o f tpos) op value pos) (sFldAug X.K ta tv rd f) := by
  intro pins s σ H D I h
  refine wpAny_AugAssign_AttributeAny (thn (ha pins s σ H _ I h) fun ov s1 ⟨x, H1, I1, rx, a, C, dx, fs, v, ex, ea, c, n, l, q⟩ => ?_)
  subst ex
  obtain rfl : ov = Value.ref a := rx
  refine getattr_ok I1 ea c n l fun u s2 I2 ru => thn (hv pins s2 σ H1 _ I2 q) fun w3 s3 ⟨y, H2, I3, ry, q3⟩ => thn (hop pins s3 σ H2 v y u w3 _ I3 ru ry q3) fun w4 s4 ⟨z, H3, I4, rz, dx', fs', ea', l', q4⟩ => ?_
  exact setattr_ok I4 ea' c n l' rz fun s5 I5 => ⟨σ, _, I5, q4⟩
def rAdd : V → V → Hp → VK → Prop := fun x y H Q => ∃ i j, x = .int i ∧ y = .int j ∧ Q (.int (i + j)) H
def rSub : V → V → Hp → VK → Prop := fun x y H Q => ∃ i j, x = .int i ∧ y = .int j ∧ Q (.int (i - j)) H
theorem in_add : InOp X .Add rAdd := by
  rintro pins s σ H x y u v Q I rx ry ⟨i, j, rfl, rfl, q⟩
  obtain ⟨t, rfl⟩ := (show ∃ t, u = Value.int i t from rx)
  obtain ⟨t', rfl⟩ := (show ∃ t', v = Value.int j t' from ry)
  exact PyProof.Rows.iadd_int ⟨.int (i + j), H, I.tok _, ⟨_, rfl⟩, q⟩
theorem in_sub : InOp X .Sub rSub := by
  rintro pins s σ H x y u v Q I rx ry ⟨i, j, rfl, rfl, q⟩
  obtain ⟨t, rfl⟩ := (show ∃ t, u = Value.int i t from rx)
  obtain ⟨t', rfl⟩ := (show ∃ t', v = Value.int j t' from ry)
  exact PyProof.Rows.isub_int ⟨.int (i - j), H, I.tok _, ⟨_, rfl⟩, q⟩

end

/-! ### isinstance -/
section
variable {X : Cx} {pins : List (Addr × Obj)} {σ : St} {H : Hp} {s : Shared} {A : Around} {E : Value → Shared → Prop} {Q : Value → Shared → Prop} {c : Value} {b : Bool}
end
end L2

namespace L2
open PySem PySem.Spec PyProof.Rows

/-! ### room -/
structure Room (k : Nat) (A : Around) : Prop where
  hd : A.handled = none
  dp : A.depth + 3 * k + 5 < recursionLimit
  un : A.units + 16 * k + 200 < cLine
theorem Room.mono {j k : Nat} {A : Around} (r : Room k A) (h : j ≤ k) : Room j A := ⟨r.hd, by have := r.dp; omega, by have := r.un; omega⟩
theorem Room.deeper {k : Nat} {A : Around} (r : Room (k + 1) A) (env : Env) : Room k (A.deeper env) :=
  ⟨r.hd, by have := r.dp; show A.depth + 1 + 3 * k + 5 < _; omega, by have := r.un; show A.units + 3 + 16 * k + 200 < _; omega⟩
theorem make_depth {A : Around} {C : Addr} {us : List Value} {kw : List (Str × Value)} : (A.under (.builtin "type.__call__" ⟨.ref C :: us, kw⟩)).depth = A.depth + 1 := by
  first | rfl | simp [Around.under, Code.weight, Code.isCreation, Code.isGuard, Code.isCaller, Code.frames, Code.isFrame, guardIds]
theorem make_units {A : Around} {C : Addr} {us : List Value} {kw : List (Str × Value)} : (A.under (.builtin "type.__call__" ⟨.ref C :: us, kw⟩)).units = A.units + 1 := by
  first | rfl | simp [Around.under, Code.cUnits, Code.frames, Code.isFrame]
theorem Room.make {k : Nat} {A : Around} (r : Room (k + 1) A) (C : Addr) (us : List Value) (kw : List (Str × Value)) : Room k (A.under (.builtin "type.__call__" ⟨.ref C :: us, kw⟩)) :=
  ⟨r.hd, by have := r.dp; rw [make_depth]; omega, by have := r.un; rw [make_units]; omega⟩
theorem Room.depth {k : Nat} {A : Around} (r : Room k A) : A.depth < recursionLimit := by have := r.dp; omega

/-! ### argument lists and displays -/
def tNil : TA := fun _ H Q => Q [] H
def tCons (ta : TE) (tr : TA) : TA := fun σ H Q => ta σ H fun x H1 => tr σ H1 fun xs H2 => Q (x :: xs) H2
section
variable {X : Cx} {e : Expr} {es : List Expr} {te : TE} {t : TA} {pos : Pos}
theorem pa_nil : PA X [] tNil := fun _ _ _ _ H Q I h => Calls.spliced_nil ⟨[], H, I, .nil, h⟩
theorem pa_cons (ha : PE X e te) (hr : PA X es t) (hs : starEach (e :: es) X.env = (false, eval e X.env) :: starEach es X.env := by rfl) : PA X (e :: es) (tCons te t) := by
  intro pos pins s σ H Q I h
  rw [hs]
  show wpAny _ _ (spliced ((false, eval e X.env) :: backTo pos (starEach es X.env))) _ _ s
  refine Calls.spliced_cons (thn (ha pins s σ H _ I h) fun u s1 ⟨x, H1, I1, r1, q1⟩ => ?_)
  exact thn (hr pos pins s1 σ H1 _ I1 q1) fun us s2 ⟨xs, H2, I2, r2, q2⟩ => ⟨x :: xs, H2, I2, .cons r1 r2, q2⟩

def tLst (t : TA) : TE := fun σ H Q => t σ H fun xs H1 => xs.length ≤ sizeLine ∧ ∀ p, H1 p = none → Q (.ref p) (upd H1 p (.lst xs))
theorem pe_lst (h : PA X es t) : PE X (.List es pos) (tLst t) := by
  intro pins s σ H Q I hq
  refine wpAny_List_spliced (thn (h pos pins s σ H _ I hq) fun us s1 ⟨xs, H1, I1, r, z, q⟩ => ⟨by rw [← r.length]; exact z, ?_⟩)
  have hf : H1 s1.heap.objs.size = none := I1.hok.fresh (Nat.le_refl _)
  refine ⟨.ref s1.heap.objs.size, upd H1 s1.heap.objs.size (.lst xs), I1.laid (t' := s1.toks) (fun b u e => Heap.get?_push_of_some _ e) (Nat.le_refl _) ?_, rfl, q _ hf⟩
  exact ⟨z, us, 0, r, Heap.get?_push_size _ rfl⟩
end

/-! ### what a def promises -/
/-- a def's promise: the bound arguments in the parameters' order, the heap, the wanted end, the wanted exception -/
abbrev Sp := List V → Hp → VK → XK → Prop
/-- how an exception lies behind a call (file 08 gives it): the callers' frames, abstract heap and state ahead of the call, the wish, the exception, the state -/
abbrev CXT := List Env → Hp → Shared → XK → Value → Shared → Prop

/-- the state at a call -/
structure Env0 (P : Program) (w : World) (K : PySem.W.Frag) (mg : Str → Option Value) (base : Heap) (A : Around) (outer : List Env) (s : Shared) (H : Hp) : Prop where
  frames : A.frames = some outer
  mod : Mod K mg base
  bs : ∀ b o, base.get? b = some o → s.heap.get? b = some o ∧ H b = none
  bsz : base.objs.size ≤ s.heap.objs.size
  funs : s.heap.FunFrames base outer
  frf : ∀ b ∈ frs outer, H b = none
  hok : HOk P w H s.heap
  bare : AllBare s.gens
/-- a call's end -/
def CE (outer : List Env) (P : Program) (w : World) (H : Hp) (s : Shared) (Q : VK) (u : Value) (s' : Shared) : Prop :=
  ∃ v H', s'.os = s.os ∧ AllBare s'.gens ∧ Un (frs outer) [] H H' s.heap s'.heap ∧ HOk P w H' s'.heap ∧ RelV v u ∧ Q v H'
def CR (CX : CXT) (outer : List Env) (P : Program) (w : World) (H : Hp) (s : Shared) (Q : VK) (E : XK) (r : Result) (s' : Shared) : Prop :=
  match r with
  | .ok (.ret u) => CE outer P w H s Q u s'
  | .ok _ => False
  | .error e => CX outer H s E e s'
structure FnOk (P : Program) (w : World) (K : PySem.W.Frag) (mg : Str → Option Value) (base : Heap) (CX : CXT) (k : Nat) (f : Addr) (fd : FuncData) (ps : List Str) (sp : Sp) : Prop where
  len : ∀ vs H Q E, sp vs H Q E → vs.length = ps.length
  run : ∀ (A : Around) (outer : List Env) (s : Shared) (H : Hp) (args : Args) (us : List Value) (vs : List V) (Q : VK) (E : XK), Room k A → Env0 P w K mg base A outer s H → BindsTo s fd args (ps.zip us) → Vals vs us → sp vs H Q E →
    codeAny (model P w) A (.call (.ref f) args) (CR CX outer P w H s Q E) s

theorem Env0.make {P : Program} {w : World} {K : PySem.W.Frag} {mg : Str → Option Value} {base : Heap} {A : Around} {outer : List Env} {s : Shared} {H : Hp} (e : Env0 P w K mg base A outer s H) (C : Addr) (us : List Value) (kw : List (Str × Value)) :
    Env0 P w K mg base (A.under (.builtin "type.__call__" ⟨.ref C :: us, kw⟩)) outer s H := ⟨by first | exact e.frames | (simpa [Around.under, Code.envs, Code.isFrame, pushEnvs] using e.frames), e.mod, e.bs, e.bsz, e.funs, e.frf, e.hok, e.bare⟩

section
variable {X : Cx} {pins : List (Addr × Obj)} {σ : St} {H : Hp} {s s' : Shared}
/-- from a body: what a callee wants -/
theorem Inv.env0 (I : Inv X pins σ H s) : Env0 X.prog X.w X.K X.mg X.base X.A X.stack s H :=
  ⟨I.ok.frames, I.ok.mod, I.bs, Nat.le_trans I.ok.bsz I.sz, I.stack, I.stkFree, I.hok, I.bare⟩
/-- behind a call -/
theorem Inv.after {Q : VK} {u : Value} (I : Inv X pins σ H s) (h : CE X.stack X.prog X.w H s Q u s') : EP X pins σ Q u s' := by
  obtain ⟨v, H', os, bare, un, hok, r, q⟩ := h
  obtain ⟨hh, g, d, t, os'⟩ := s'
  obtain rfl : os' = s.os := os
  exact ⟨v, H', I.call (h' := hh) (g' := g) (d' := d) (t' := t) (ch := []) un hok bare (fun b z => absurd z (by simp)), r, q⟩
end

/-! ### calls -/
/-- f(..): the written arguments, then the defaults dvs; E: what is wanted of an exception -/
def tCall (sp : Sp) (dvs : List V) (E : XK) (t : TA) : TE := fun σ H Q => t σ H fun vs H1 => sp (vs ++ dvs) H1 Q E
/-- o.m(..) of an instance of the class at C -/
def tMeth (C : Addr) (m : Str) (sp : Sp) (dvs : List V) (E : XK) (ta : TE) (t : TA) : TE := fun σ H Q => ta σ H fun x H1 => ∃ a dx fs, x = .ref a ∧ H1 a = some (.ins C dx fs) ∧ fs.lookup m = none ∧
  t σ H1 fun vs H2 => sp (x :: (vs ++ dvs)) H2 Q E
/-- C(..): a new instance and its dict, then __init__ -/
def tMake (C : Addr) (sp : Sp) (dvs : List V) (E : XK) (t : TA) : TE := fun σ H Q => t σ H fun vs H1 => ∀ x dx, H1 x = none → H1 dx = none → dx ≠ x →
  sp (.ref x :: (vs ++ dvs)) (upd (upd H1 dx (.own x)) x (.ins C dx [])) (fun v H2 => v = .non ∧ Q (.ref x) H2) E

/-- how the parameters are bound: us the positional arguments, kw the keywords' values by name, ds the defaults that fill up -/
def Binds (K : PySem.W.Frag) (fd : FuncData) (ps : List Str) (ds : List Value) : Prop :=
  ∀ (s : Shared) (us : List Value), K.In s.heap → (us ++ ds).length = ps.length → BindsTo s fd ⟨us, []⟩ (ps.zip (us ++ ds))
/-- every parameter is given -/
theorem Binds.all {K : PySem.W.Frag} {fd : FuncData} {ps : List Str} (h : ∀ us : List Value, us.length = ps.length → bindArgs fd ⟨us, []⟩ = pure (ps.zip us)) : Binds K fd ps [] := fun s us _ hl => by
  rw [List.append_nil] at hl ⊢
  exact .of_eq (h us hl)

/-- an exception of a callee reaches what this body wants of exceptions -/
def Passes (CX : CXT) (X : Cx) (E : XK) : Prop := ∀ (pins : List (Addr × Obj)) (σ : St) (H : Hp) (s : Shared) (e : Value) (s' : Shared), Inv X pins σ H s → CX X.stack H s E e s' → X.xe e s'

section
variable {X : Cx} {CX : CXT} {k : Nat} {f C : Addr} {fd : FuncData} {ps : List Str} {sp : Sp} {dvs : List V} {ds : List Value} {E : XK} {x m : Str} {p pos apos : Pos} {e o : Expr} {es : List Expr} {ta : TE} {t : TA}

/-- the callee runs -/
theorem run_fn {pins : List (Addr × Obj)} {σ : St} {H : Hp} {s : Shared} {Q : VK} {us : List Value} {vs : List V} (F : FnOk X.prog X.w X.K X.mg X.base CX k f fd ps sp) (hr : Room k X.A) (hb : Binds X.K fd ps ds) (hd : Vals dvs ds) (hx : Passes CX X E)
    (I : Inv X pins σ H s) (r : Vals vs us) (h : sp (vs ++ dvs) H Q E) : wpAny (model X.prog X.w) X.A (call (.ref f) us) (EP X pins σ Q) X.xe s := by
  have r2 : Vals (vs ++ dvs) (us ++ ds) := r.append hd
  have hl : (us ++ ds).length = ps.length := by rw [← r2.length]; exact F.len _ _ _ _ h
  refine wpAny_call (codeAny_mono (F.run X.A X.stack s H ⟨us, []⟩ (us ++ ds) (vs ++ dvs) Q E hr I.env0 (hb s us I.kIn hl) r2 h) fun r s' hq => ?_)
  cases r with
  | error e => exact hx pins σ H s e s' I hq
  | ok fl =>
    cases fl with
    | ret u => exact I.after hq
    | next => exact False.elim hq
    | brk => exact False.elim hq
    | cont => exact False.elim hq

theorem pe_call (F : FnOk X.prog X.w X.K X.mg X.base CX k f fd ps sp) (hr : Room k X.A) (hg : Gl X x) (hm : X.mg x = some (.ref f)) (hk : PySem.W.keepIn X.K (.ref f) = true) (hb : Binds X.K fd ps ds) (hd : Vals dvs ds) (hx : Passes CX X E)
    (ha : PA X (e :: es) t) (hdb : (x == ("__debug__" : Str)) = false := by decide) (he : starEach (e :: es) X.env = (false, eval e X.env) :: starEach es X.env := by rfl) (hpl : (backTo pos (starEach es X.env)).any (·.1) = false := by rfl) :
    PE X (.Call (.Name x p) (e :: es) [] pos) (tCall sp dvs E t) := by
  intro pins s σ H Q I h
  refine wpAny_Call_Name_kw (ld_glob I hg hm ?_ hdb)
  refine PySem.W.callWith_K (h₀ := X.base) I.ok.mod.kin hk (thn (ha pos pins s σ H _ I h) fun us s1 ⟨vs, H1, I1, r, q⟩ => ⟨I1.kIn, ?_⟩) he hpl
  exact run_fn F hr hb hd hx I1 r q
theorem pe_call0 (F : FnOk X.prog X.w X.K X.mg X.base CX k f fd ps sp) (hr : Room k X.A) (hg : Gl X x) (hm : X.mg x = some (.ref f)) (hk : PySem.W.keepIn X.K (.ref f) = true) (hb : Binds X.K fd ps ds) (hd : Vals dvs ds) (hx : Passes CX X E)
    (hdb : (x == ("__debug__" : Str)) = false := by decide) : PE X (.Call (.Name x p) [] [] pos) (tCall sp dvs E tNil) := by
  intro pins s σ H Q I h
  refine wpAny_Call_Name_kw (ld_glob I hg hm ?_ hdb)
  exact PySem.W.callWith_K0 I.kIn hk (run_fn (us := []) F hr hb hd hx I .nil h)

/-- o.m(e, ..) -/
theorem pe_meth {pl : Sem Bool} (he : PE X o ta) (c : Cls X.K C) (hm : Meth X.K C m f) (F : FnOk X.prog X.w X.K X.mg X.base CX k f fd ps sp) (hr : Room k X.A) (hb : Binds X.K fd ps ds) (hd : Vals dvs ds) (hx : Passes CX X E) (ha : PA X (e :: es) t)
    (hst : starEach (e :: es) X.env = (false, eval e X.env) :: starEach es X.env := by rfl) (hpl : (backTo pos (starEach es X.env)).any (·.1) = false := by rfl)
    (ht : eval (.Call (.Attribute o m apos) (e :: es) [] pos) X.env = (do
      let ov ← eval o X.env
      standAt apos.atName
      let (f, first) ← holding [ov] (getMethod ov m pl)
      callWith pos f first (backTo pos (starEach (e :: es) X.env)) (backToKw pos (keywordEach [] X.env))) := by rfl) :
    PE X (.Call (.Attribute o m apos) (e :: es) [] pos) (tMeth C m sp dvs E ta t) := by
  intro pins s σ H Q I h
  refine PySem.W.methodCall_KW (pl := pl) (thn (he pins s σ H _ I h) fun u s1 ⟨x, H1, I1, rx, a, dx, fs, ex, ea, l, q⟩ => ?_) ht
  subst ex
  obtain rfl : u = Value.ref a := rx
  refine getmeth_ok I1 ea c hm l ?_
  refine PySem.W.callWith_K (first := [.ref a]) (h₀ := X.base) I.ok.mod.kin hm.kp (thn (ha pos pins s1 σ H1 _ I1 q) fun us s2 ⟨vs, H2, I2, r, q2⟩ => ⟨I2.kIn, ?_⟩) hst hpl
  exact run_fn (us := .ref a :: us) (vs := .ref a :: vs) F hr hb hd hx I2 (.cons rfl r) q2
/-- o.m() -/
theorem pe_meth0 {pl : Sem Bool} (he : PE X o ta) (c : Cls X.K C) (hm : Meth X.K C m f) (F : FnOk X.prog X.w X.K X.mg X.base CX k f fd ps sp) (hr : Room k X.A) (hb : Binds X.K fd ps ds) (hd : Vals dvs ds) (hx : Passes CX X E)
    (ht : eval (.Call (.Attribute o m apos) [] [] pos) X.env = (do
      let ov ← eval o X.env
      standAt apos.atName
      let (f, first) ← holding [ov] (getMethod ov m pl)
      callWith pos f first (backTo pos (starEach [] X.env)) (backToKw pos (keywordEach [] X.env))) := by rfl) :
    PE X (.Call (.Attribute o m apos) [] [] pos) (tMeth C m sp dvs E ta tNil) := by
  intro pins s σ H Q I h
  refine PySem.W.methodCall_KW (pl := pl) (thn (he pins s σ H _ I h) fun u s1 ⟨x, H1, I1, rx, a, dx, fs, ex, ea, l, q⟩ => ?_) ht
  subst ex
  obtain rfl : u = Value.ref a := rx
  refine getmeth_ok I1 ea c hm l ?_
  exact PySem.W.callWith_K0 (first := [.ref a]) I1.kIn hm.kp (run_fn (us := [.ref a]) (vs := [.ref a]) F hr hb hd hx I1 (.cons rfl .nil) q)

/-- what a class must have to be made -/
structure Mk (K : PySem.W.Frag) (C f : Addr) : Prop where
  makes : PySem.W.makesIn K C = true
  init : PySem.W.findIn K (.ref C) "__init__" = some (some (.ref f))
  fn : PySem.W.isFn K (.ref f) = true
  kp : PySem.W.keepIn K (.ref C) = true

theorem run_make {pins : List (Addr × Obj)} {σ : St} {H : Hp} {s : Shared} {Q : VK} {us : List Value} {vs : List V} (M : Mk X.K C f) (F : FnOk X.prog X.w X.K X.mg X.base CX k f fd ps sp) (hr : Room (k + 1) X.A) (hb : Binds X.K fd ps ds) (hd : Vals dvs ds)
    (hx : Passes CX X E) (I : Inv X pins σ H s) (r : Vals vs us)
    (h : ∀ x dx, H x = none → H dx = none → dx ≠ x → sp (.ref x :: (vs ++ dvs)) (upd (upd H dx (.own x)) x (.ins C dx [])) (fun v H2 => v = .non ∧ Q (.ref x) H2) E) :
    wpAny (model X.prog X.w) X.A (call (.ref C) us) (EP X pins σ Q) X.xe s := by
  have hq := h (s.heap.objs.size + 1) s.heap.objs.size (I.hok.fresh (Nat.le_succ _)) (I.hok.fresh (Nat.le_refl _)) (Nat.ne_of_lt (Nat.lt_succ_self _))
  have I2 := Inv.made (C := C) I
  have r2 : Vals (V.ref (s.heap.objs.size + 1) :: (vs ++ dvs)) (Value.ref (s.heap.objs.size + 1) :: (us ++ ds)) := .cons rfl (r.append hd)
  have hl : (Value.ref (s.heap.objs.size + 1) :: us ++ ds).length = ps.length := by
    have e := r2.length
    rw [F.len _ _ _ _ hq] at e
    exact e.symm
  refine wpAny_call (make_map (f := f) I.kIn M.makes M.init (beq_iff_eq.mp M.fn) (codeAny_mono (F.run _ X.stack _ _ ⟨Value.ref (s.heap.objs.size + 1) :: us, []⟩ (Value.ref (s.heap.objs.size + 1) :: (us ++ ds)) _ _ E (hr.make C us [])
    (I2.env0.make C us []) (hb _ (Value.ref (s.heap.objs.size + 1) :: us) I2.kIn hl) r2 hq) fun r s' hq' => ?_))
  cases r with
  | error e => exact hx pins σ _ _ e s' I2 hq'
  | ok fl =>
    cases fl with
    | ret u =>
      obtain ⟨v, H', I3, rv, ev, q3⟩ := I2.after hq'
      subst ev
      exact ⟨rv, ⟨V.ref (s.heap.objs.size + 1), H', I3, rfl, q3⟩⟩
    | next => exact False.elim hq'
    | brk => exact False.elim hq'
    | cont => exact False.elim hq'
theorem pe_make (M : Mk X.K C f) (F : FnOk X.prog X.w X.K X.mg X.base CX k f fd ps sp) (hr : Room (k + 1) X.A) (hg : Gl X x) (hm : X.mg x = some (.ref C)) (hb : Binds X.K fd ps ds) (hd : Vals dvs ds) (hx : Passes CX X E)
    (ha : PA X (e :: es) t) (hdb : (x == ("__debug__" : Str)) = false := by decide) (he : starEach (e :: es) X.env = (false, eval e X.env) :: starEach es X.env := by rfl) (hpl : (backTo pos (starEach es X.env)).any (·.1) = false := by rfl) :
    PE X (.Call (.Name x p) (e :: es) [] pos) (tMake C sp dvs E t) := by
  intro pins s σ H Q I h
  refine wpAny_Call_Name_kw (ld_glob I hg hm ?_ hdb)
  refine PySem.W.callWith_K (h₀ := X.base) I.ok.mod.kin M.kp (thn (ha pos pins s σ H _ I h) fun us s1 ⟨vs, H1, I1, r, q⟩ => ⟨I1.kIn, ?_⟩) he hpl
  exact run_make M F hr hb hd hx I1 r q
theorem pe_make0 (M : Mk X.K C f) (F : FnOk X.prog X.w X.K X.mg X.base CX k f fd ps sp) (hr : Room (k + 1) X.A) (hg : Gl X x) (hm : X.mg x = some (.ref C)) (hb : Binds X.K fd ps ds) (hd : Vals dvs ds) (hx : Passes CX X E)
    (hdb : (x == ("__debug__" : Str)) = false := by decide) : PE X (.Call (.Name x p) [] [] pos) (tMake C sp dvs E tNil) := by
  intro pins s σ H Q I h
  refine wpAny_Call_Name_kw (ld_glob I hg hm ?_ hdb)
  exact PySem.W.callWith_K0 I.kIn M.kp (run_make (us := []) M F hr hb hd hx I .nil h)
end

/-! ### keywords -/
section
variable {X : Cx} {CX : CXT} {k : Nat} {f C : Addr} {fd : FuncData} {ps ks : List Str} {sp : Sp} {E : XK} {x m : Str} {p pos apos kpos : Pos} {e o : Expr} {es : List Expr} {kws : List Keyword} {te ta : TE} {t tk : TA} {nm : Option Str}

variable {g : List Value → List Value → List Value} {gV : List V → List V → List V}
end

/-! ### a def's body keeps its promise -/
/-- names: the parameters first -/
structure FnScope (N P : List Str) (sc : Scope) : Prop where
  kind : sc.kind = .function
  co : sc.isCoroutine = false
  gen : sc.isGenerator = false
  nd : N.Nodup
  pre : N.take P.length = P
  par : ∀ x ∈ P, sc.names.lookup x = some .local ∨ sc.names.lookup x = some .cell
  nofree : ∀ y ∈ sc.names, y.2 ≠ .free

theorem bindL_out {kindOf : Str → Option NameKind} {x : Str} : ∀ {binds : List (Str × Value)} {m : Str → Option Value}, (∀ v, (x, v) ∉ binds) → bindL kindOf binds m x = m x
  | [], _, _ => rfl
  | (n, v) :: r, m, h => by
    unfold bindL
    rw [bindL_out fun w hw => h w (List.mem_cons_of_mem _ hw)]
    split
    · have : x ≠ n := by rintro rfl; exact h v List.mem_cons_self
      simp [this]
    · rfl
theorem bindC_out {kindOf : Str → Option NameKind} {x : Str} : ∀ {binds : List (Str × Value)} {m : Str → Option Value}, (∀ v, (x, v) ∉ binds) → bindC kindOf binds m x = m x
  | [], _, _ => rfl
  | (n, v) :: r, m, h => by
    unfold bindC
    rw [bindC_out fun w hw => h w (List.mem_cons_of_mem _ hw)]
    split
    · rfl
    · have : x ≠ n := by rintro rfl; exact h v List.mem_cons_self
      simp [this]
theorem bindL_get {kindOf : Str → Option NameKind} {x : Str} {v : Value} : ∀ {P : List Str} {vs : List Value} {i : Nat} {m : Str → Option Value}, P.Nodup → P[i]? = some x → vs[i]? = some v → kindOf x = some .local →
    bindL kindOf (P.zip vs) m x = some v
  | [], _, _, _, _, h, _, _ => by simp at h
  | _ :: _, [], _, _, _, _, h, _ => by simp at h
  | p :: P, w :: vs, 0, m, nd, h1, h2, hk => by
    simp at h1 h2; subst h1; subst h2
    show bindL kindOf ((p, w) :: P.zip vs) m p = _
    unfold bindL
    rw [bindL_out fun v hv => (List.nodup_cons.mp nd).1 (List.of_mem_zip hv).1, if_pos hk]
    simp
  | p :: P, w :: vs, i + 1, m, nd, h1, h2, hk => by
    show bindL kindOf ((p, w) :: P.zip vs) m x = _
    unfold bindL
    exact bindL_get (i := i) (List.nodup_cons.mp nd).2 (by simpa using h1) (by simpa using h2) hk
theorem bindC_get {kindOf : Str → Option NameKind} {x : Str} {v : Value} : ∀ {P : List Str} {vs : List Value} {i : Nat} {m : Str → Option Value}, P.Nodup → P[i]? = some x → vs[i]? = some v → kindOf x ≠ some .local →
    bindC kindOf (P.zip vs) m x = some v
  | [], _, _, _, _, h, _, _ => by simp at h
  | _ :: _, [], _, _, _, _, h, _ => by simp at h
  | p :: P, w :: vs, 0, m, nd, h1, h2, hk => by
    simp at h1 h2; subst h1; subst h2
    show bindC kindOf ((p, w) :: P.zip vs) m p = _
    unfold bindC
    rw [bindC_out fun v hv => (List.nodup_cons.mp nd).1 (List.of_mem_zip hv).1, if_neg hk]
    simp
  | p :: P, w :: vs, i + 1, m, nd, h1, h2, hk => by
    show bindC kindOf ((p, w) :: P.zip vs) m x = _
    unfold bindC
    exact bindC_get (i := i) (List.nodup_cons.mp nd).2 (by simpa using h1) (by simpa using h2) hk

/-- the names' values at the entry -/
def start (N : List Str) (vs : List V) : St := vs.map some ++ List.replicate (N.length - vs.length) none

/-- the context of a def's body, at its entry; an exception leaves the frame, then lies as CX says -/
def cxOf (CX : CXT) (P : Program) (w : World) (K : PySem.W.Frag) (mg : Str → Option Value) (base : Heap) (N : List Str) (qual : Str) (scope : Scope) (f : Addr) (cd : Value) (A : Around) (outer : List Env) (s : Shared) (H : Hp) (E : XK) : Cx where
  prog := P
  w := w
  K := K
  mg := mg
  base := base
  A := A.deeper (envOfC qual scope s.heap.objs.size f cd)
  N := N
  s_0 := s
  H_0 := H
  env := envOfC qual scope s.heap.objs.size f cd
  outer := outer
  stack := envOfC qual scope s.heap.objs.size f cd :: outer
  ex := []
  calm := true
  fn := fun _ => true
  pn := []
  xe := fun e s' => wpAny (model P w) (A.deeper (envOfC qual scope s.heap.objs.size f cd)) (leaving (envOfC qual scope s.heap.objs.size f cd) e) (fun _ s'' => CX outer H s E e s'') (fun e' s'' => CX outer H s E e' s'') s'

theorem cell_has {sc : Scope} {n : Nat} {x : Str} (h : sc.names.lookup x = some .cell) : ∃ c, (cellsFrom n sc.names []).lookup x = some c := by
  have q := PySem.W.cellsFrom_some sc.names n [] (.inl h)
  exact Option.isSome_iff_exists.mp q

theorem inv_start {CX : CXT} {P : Program} {w : World} {K : PySem.W.Frag} {mg : Str → Option Value} {base : Heap} {N ps : List Str} {qual : Str} {scope : Scope} {f : Addr} {cd : Value} {A : Around} {outer : List Env} {s s1 : Shared} {H : Hp} {E : XK} {us : List Value} {vs : List V}
    (S : FnScope N ps scope) (hd : A.handled = none) (e0 : Env0 P w K mg base A outer s H) (hl : vs.length = ps.length) (r : Vals vs us)
    (x : InCallC s s.heap.objs.size (bindL (envOfC qual scope s.heap.objs.size f cd).kindOf (ps.zip us) fun _ => none) (cellsFrom (s.heap.objs.size + 1) scope.names []) (bindC (envOfC qual scope s.heap.objs.size f cd).kindOf (ps.zip us) fun _ => none) s1) :
    Inv (cxOf CX P w K mg base N qual scope f cd A outer s H E) [] (start N vs) H s1 := by
  have hpl : ps.length ≤ N.length := by have := congrArg List.length S.pre; rw [List.length_take] at this; omega
  obtain ⟨h1, tk, rfl, hk⟩ := x.done
  have noA : ∀ b : Addr, b ∉ (cxOf CX P w K mg base N qual scope f cd A outer s H E).ex := fun b z => absurd (show b ∈ ([] : List Addr) from z) (by simp)
  refine ⟨⟨e0.mod, S.kind, rfl, rfl, Nat.le_refl _, fun y z c h1 h2 => ?_, fun y hy => ?_, fun y c _ h => ?_, fun _ => hd, Around.frames_deeper e0.frames, .inr ⟨rfl, rfl⟩, fun b z => absurd z (noA b), e0.bs, e0.bsz, fun b _ _ => noA b, fun b z => absurd z (noA b), e0.funs, e0.frf⟩,
    rfl, e0.bare, Un.kept hk, ⟨_, x.toInCall.ns, fun i y v h1 h2 h3 => ?_⟩, fun y c h => ⟨_, x.cell y c h⟩, e0.hok.fresh (Nat.le_refl _), fun y c h => ?_, fun p hp => absurd (show p ∈ ([] : List (Addr × Obj)) from hp) (by simp), e0.hok.kept hk, ?_⟩
  · exact name_of_addr x.apart (PySem.mem_of_lookup h1) (PySem.mem_of_lookup h2)
  · have hy : scope.names.lookup y = some .cell ∨ scope.names.lookup y = some .free := hy
    rcases hy with hy | hy
    · exact cell_has hy
    · exact absurd rfl (S.nofree _ (PySem.mem_of_lookup hy))
  · exact Nat.le_of_lt (x.above y c (PySem.mem_of_lookup h))
  · have hi : i < vs.length := by
      unfold start at h2
      by_cases hi : i < vs.length
      · exact hi
      · rw [List.getElem?_append_right (by simpa using hi)] at h2
        rw [List.getElem?_replicate] at h2
        split at h2 <;> cases h2
    have ha : vs[i]? = some v := by
      unfold start at h2
      rw [List.getElem?_append_left (by simpa using hi), List.getElem?_map] at h2
      cases e : vs[i]? with
      | none => rw [e] at h2; cases h2
      | some a => rw [e] at h2; cases h2; rfl
    obtain ⟨u, hu, rv⟩ := r.get ha
    have hp : ps[i]? = some y := by
      rw [← S.pre, List.getElem?_take_of_lt (by omega)]; exact h1
    have ndP : ps.Nodup := by rw [← S.pre]; exact S.nd.sublist (List.take_sublist _ _)
    refine ⟨u, rv, ?_⟩
    rcases S.par y (List.mem_of_getElem? hp) with k | k
    · exact .inl ⟨k, bindL_get ndP hp hu k⟩
    · obtain ⟨c, e⟩ := cell_has (n := s.heap.objs.size + 1) k
      refine .inr ⟨.inl k, c, e, ?_⟩
      have q := x.cell y c e
      rw [bindC_get ndP hp hu (by show scope.names.lookup y ≠ _; rw [k]; decide)] at q
      exact q
  · exact e0.hok.fresh (Nat.le_of_lt (x.above y c (PySem.mem_of_lookup h)))
  · unfold start
    show _ = N.length
    rw [List.length_append, List.length_map, List.length_replicate]
    omega

/-- THE RULE: a def (or a method) of the text, by its body. The body's reading t is chosen for each entry; it is run at the parameters' values -/
theorem fn_of {CX : CXT} {P : Program} {w : World} {K : PySem.W.Frag} {mg : Str → Option Value} {base : Heap} {k : Nat} {f : Addr} {name qual : Str} {params : Arguments} {body : List Stmt} {scope : Scope} {dV kV doc pm cdv ct oc : Value} {an od : Option Addr}
    {osl : Array (Option Value)} {N ps : List Str} {sp : Sp} (lk : K.lookup f = some ⟨oc, od, .func (PySem.W.fnOf name qual params body scope dV kV doc pm an cdv ct), osl⟩) (hcd : PySem.W.codeIn K cdv qual = true) (S : FnScope N ps scope)
    (len : ∀ vs H Q E, sp vs H Q E → vs.length = ps.length)
    (hbody : ∀ (A : Around) (outer : List Env) (s : Shared) (H : Hp) (vs : List V) (Q : VK) (E : XK), Room k (A.deeper (envOfC qual scope s.heap.objs.size f cdv)) → sp vs H Q E →
      ∃ t, PSs (cxOf CX P w K mg base N qual scope f cdv A outer s H E) body t ∧ t { nx := fun _ H' => Q .non H', rt := Q } (start N vs) H) :
    FnOk P w K mg base CX (k + 1) f (PySem.W.fnOf name qual params body scope dV kV doc pm an cdv ct) ps sp := by
  refine ⟨len, fun A outer s H args us vs Q E hr e0 hb r hsp => ?_⟩
  have hl := len _ _ _ _ hsp
  have KX : K.In s.heap := e0.mod.kin.keeps fun b o e => (e0.bs b o e).1
  have lim : s.heap.NoLimit := e0.mod.nolimit.keeps fun b o e => (e0.bs b o e).1
  have hkind : ∀ y ∈ ps.zip us, scope.names.lookup y.1 = some .local ∨ (scope.names.lookup y.1 = some .cell ∧ ((cellsFrom (s.heap.objs.size + 1) scope.names []).lookup y.1).isSome = true) := fun ⟨n, v⟩ hy => by
    rcases S.par n (List.of_mem_zip hy).1 with q | q
    · exact .inl q
    · exact .inr ⟨q, PySem.W.cellsFrom_some _ _ _ (.inl q)⟩
  refine codeAny_call_function hr.depth (KX _ _ lk) rfl S.co S.gen rfl (PySem.W.codeRec_of KX hcd) (hb _ _ _ _ ?_)
  refine wpAny_newFunctionEnv_cells S.kind hkind fun env he s1 x => ?_
  subst he
  refine ⟨lim.keeps x.toInCall.keep, codeAny_func ?_⟩
  obtain ⟨t, ht, hq⟩ := hbody A outer s H vs Q E (hr.deeper _) hsp
  have I : Inv (cxOf CX P w K mg base N qual scope f cdv A outer s H E) [] (start N vs) H s1 := inv_start S hr.hd e0 hl r x
  refine wpAny_mono (ht [] s1 (start N vs) H _ I hq) (fun fl s' hs => ?_) fun e s' hs => hs
  have fin : ∀ {σ' : St} {H' : Hp} {v : V} {u : Value}, Inv (cxOf CX P w K mg base N qual scope f cdv A outer s H E) [] σ' H' s' → RelV v u → Q v H' → CE outer P w H s Q u s' :=
    fun {σ' H' v u} J rv q => ⟨v, H', J.os, J.bare, J.base, J.hok, rv, q⟩
  cases fl with
  | ret u =>
    obtain ⟨v, σ', H', J, rv, q⟩ := hs
    exact fin J rv q
  | next =>
    obtain ⟨σ', H', J, q⟩ := hs
    exact fin (v := V.non) (u := Value.none) J rfl q
  | brk =>
    obtain ⟨_, _, _, q⟩ := hs
    exact False.elim q
  | cont =>
    obtain ⟨_, _, _, q⟩ := hs
    exact False.elim q
end L2

namespace L2
open PySem PySem.Spec PyProof.Rows
section
variable {X : Cx} {x : Str} {p pos : Pos} {e : Expr} {es : List Expr} {t : TA} {id T : String} {r : List V → Hp → VK → Prop}

def tCB (r : List V → Hp → VK → Prop) (t : TA) : TE := fun σ H Q => t σ H fun vs H1 => r vs H1 Q
/-- f(e, ..), f a built-in function -/
theorem pe_callB (hc : CallR X (.builtin id) r) (hg : Gl X x) (hm : X.mg x = none) (hv : bootBuiltins x = some (.builtin id)) (ha : PA X (e :: es) t) (hn : x ≠ "__name__" := by decide) (hdb : (x == ("__debug__" : Str)) = false := by decide)
    (he : starEach (e :: es) X.env = (false, eval e X.env) :: starEach es X.env := by rfl) (hpl : (backTo pos (starEach es X.env)).any (·.1) = false := by rfl) : PE X (.Call (.Name x p) (e :: es) [] pos) (tCB r t) := by
  intro pins s σ H Q I h
  refine wpAny_Call_Name_kw (ld_blt I hg hm hv ?_ hn hdb)
  exact PyProof.Rows.callWith_builtin1 (thn (ha pos pins s σ H _ I h) fun us s1 ⟨vs, H1, I1, r1, q1⟩ => hc pins s1 σ H1 vs us Q I1 r1 q1) he hpl
/-- T(e, ..), T a built-in type -/
theorem pe_callTy (hc : CallR X (.type T) r) (hg : Gl X x) (hm : X.mg x = none) (hv : bootBuiltins x = some (.type T)) (ha : PA X (e :: es) t) (hn : x ≠ "__name__" := by decide) (hdb : (x == ("__debug__" : Str)) = false := by decide)
    (he : starEach (e :: es) X.env = (false, eval e X.env) :: starEach es X.env := by rfl) (hpl : (backTo pos (starEach es X.env)).any (·.1) = false := by rfl) : PE X (.Call (.Name x p) (e :: es) [] pos) (tCB r t) := by
  intro pins s σ H Q I h
  refine wpAny_Call_Name_kw (ld_blt I hg hm hv ?_ hn hdb)
  exact PyProof.Rows.callWith_type1 (thn (ha pos pins s σ H _ I h) fun us s1 ⟨vs, H1, I1, r1, q1⟩ => hc pins s1 σ H1 vs us Q I1 r1 q1) he hpl
end
end L2

namespace HT
open PySem PyProof.Rows



section
open PySem.SeqAt
open PySem.AutoSeq1 (wpAny_loadPart')
open PySem.MeetsSeq PySem.MeetsSeq2 PySem.MeetsSeq3

end

section
variable {prog : Program} {w : World} {A : Around} {E : Value → Shared → Prop} {s : Shared}



/-! ### t[a:b], not the whole -/
/-- a slice's bound as a place among n (d where it is left out) -/
def sIx (n d : Nat) : Option Int → Nat
  | none => d
  | some v => if v < 0 then (v + (n : Int)).toNat else min v.toNat n
theorem sIx_none (n d : Nat) : sIx n d none = d := rfl
theorem sIx_nat (n d k : Nat) : sIx n d (some (k : Int)) = min k n := by
  show (if (k : Int) < 0 then ((k : Int) + (n : Int)).toNat else min (k : Int).toNat n) = min k n
  rw [if_neg (by omega), Int.toNat_natCast]

end
end HT

namespace L2
open PySem PySem.Spec PyProof.Rows

/-! ### the parts of a slice -/
abbrev TO := St → Hp → (Option Int → Hp → Prop) → Prop
/-- a slice's part (left out, or an int) -/
def PO (X : Cx) (e : Option Expr) (t : TO) : Prop :=
  ∀ (pins : List (Addr × Obj)) (s : Shared) (σ : St) (H : Hp) (Q : Option Int → Hp → Prop), Inv X pins σ H s → t σ H Q →
    wpAny (model X.prog X.w) X.A (evalPart e X.env) (fun u s' => ∃ o H', Inv X pins σ H' s' ∧ IsPart u o ∧ Q o H') X.xe s
def tNoPart : TO := fun _ H Q => Q none H
def tPart (t : TE) : TO := fun σ H Q => t σ H fun x H1 => ∃ i, x = .int i ∧ Q (some i) H1

theorem intsAre_of {ns : List Int} : ∀ {us : List Value}, Vals (ns.map V.int) us → IntsAre us ns := by
  induction ns with
  | nil => intro us r; rw [List.map_nil] at r; cases r; exact .nil
  | cons n ns ih =>
    intro us r
    rw [List.map_cons] at r
    cases r with
    | cons r1 r2 =>
      obtain ⟨t, e⟩ := r1
      subst e
      exact .cons n t (ih r2)

section
variable {X : Cx} {e : Expr} {te : TE} {lo hi : Option Expr} {tl th : TO} {pos p2 : Pos}

theorem po_none : PO X none tNoPart := by
  intro pins s σ H Q I h
  rw [evalPart_none]
  exact wpAny_pure ⟨none, H, I, .none, h⟩
theorem po_some (h : PE X e te) : PO X (some e) (tPart te) := by
  intro pins s σ H Q I hw
  rw [evalPart_some]
  refine thn (h pins s σ H _ I hw) fun u s1 ⟨x, H1, I1, r1, q1⟩ => ?_
  obtain ⟨i, rfl, q⟩ := q1
  obtain ⟨t, rfl⟩ := r1
  exact ⟨some i, H1, I1, .int i t, q⟩

/-- what a slice of a value is, by values: the slice object stands at sl -/
def SlR (X : Cx) (r : V → Option Int → Option Int → Hp → VK → Prop) : Prop :=
  ∀ (pins : List (Addr × Obj)) (s : Shared) (σ : St) (H : Hp) (x : V) (v vl vu : Value) (lo hi : Option Int) (sl : Addr) (Q : VK), Inv X pins σ H s → RelV x v → s.heap.IsSliceOf sl vl vu .none → IsPart vl lo → IsPart vu hi → r x lo hi H Q →
    ∃ T id, typeLookup (.type T) "__getitem__" = pure (some (.builtin id)) ∧ s.TypeIs v T ∧ wpAny (model X.prog X.w) X.A (getItem v (.ref sl)) (EP X pins σ Q) X.xe s
def tSl (r : V → Option Int → Option Int → Hp → VK → Prop) (te : TE) (tl th : TO) : TE := fun σ H Q => te σ H fun x H1 => tl σ H1 fun l H2 => th σ H2 fun u H3 => r x l u H3 Q
/-- a[lo:hi], any a -/
theorem pe_slice {r : V → Option Int → Option Int → Hp → VK → Prop} (hr : SlR X r) (he : PE X e te) (hl : PO X lo tl) (hu : PO X hi th) : PE X (.Subscript e (.Slice lo hi none p2) pos) (tSl r te tl th) := by
  intro pins s σ H Q I h
  refine Subscript_ (thn (he pins s σ H _ I h) fun v s1 ⟨x, H1, I1, r1, q1⟩ => ?_)
  refine wpAny_Slice (thn (hl pins s1 σ H1 _ I1 q1) fun vl s2 ⟨l, H2, I2, pl, q2⟩ => thn (hu pins s2 σ H2 _ I2 q2) fun vu s3 ⟨u, H3, I3, pu, q3⟩ => ?_)
  rw [evalPart_none]
  refine wpAny_pure ?_
  have I4 : Inv X pins σ H3 { s3 with heap := s3.heap.push { cls := .type "slice", data := .fields #[vl, vu, .none] } } := I3.kept (t' := s3.toks) fun b ob q => Heap.get?_push_of_some _ q
  obtain ⟨T, id, hT, ht, hg⟩ := hr pins { s3 with heap := s3.heap.push { cls := .type "slice", data := .fields #[vl, vu, .none] } } σ H3 x v vl vu l u s3.heap.objs.size Q I4 r1 (Heap.IsSliceOf.new ..) pl pu q3
  show wpAny (model X.prog X.w) X.A (subscriptTail e (.Slice lo hi none p2) v (.ref s3.heap.objs.size)) (EP X pins σ Q) X.xe { s3 with heap := s3.heap.push { cls := .type "slice", data := .fields #[vl, vu, .none] } }
  exact tail_any (ops := [.ref s3.heap.objs.size, v]) ht hT hg (by with_unfolding_all rfl)

/-- the items of xs[lo:hi] -/
def cutV (xs : List V) (lo hi : Option Int) : List V := (xs.drop (HT.sIx xs.length 0 lo)).take (HT.sIx xs.length xs.length hi - HT.sIx xs.length 0 lo)
theorem cutV_length (xs : List V) (lo hi : Option Int) : (cutV xs lo hi).length ≤ xs.length := by
  unfold cutV
  rw [List.length_take, List.length_drop]
  omega

/-! ### t < u, t + u -/
end
end L2

namespace L2
open PySem PySem.Spec PyProof.Rows

/-! ### places -/
/-- the place that an index of any sign means -/
def ixN (n : Nat) (i : Int) : Option Nat := if 0 ≤ i then (if i < n then some i.toNat else none) else if -(n : Int) ≤ i then some (i + n).toNat else none
def atI {α : Type} (xs : List α) (i : Int) : Option α := (ixN xs.length i).bind fun j => xs[j]?
theorem ixN_seq {n : Nat} {i : Int} {j : Nat} (h : ixN n i = some j) : seqIndex? i n = some j ∧ j < n ∧ -(n : Int) ≤ i ∧ i < n := by
  unfold ixN at h
  by_cases h0 : 0 ≤ i
  · rw [if_pos h0] at h
    by_cases h1 : i < n
    · rw [if_pos h1] at h
      have e : i.toNat = j := Option.some.inj h
      exact ⟨by rw [seqIndex_of h0 h1, e], by omega, by omega, h1⟩
    · rw [if_neg h1] at h; cases h
  · rw [if_neg h0] at h
    by_cases h1 : -(n : Int) ≤ i
    · rw [if_pos h1] at h
      have e : (i + n).toNat = j := Option.some.inj h
      exact ⟨by rw [seqIndex_neg (by omega) h1, e], by omega, h1, by omega⟩
    · rw [if_neg h1] at h; cases h
theorem atI_get {α : Type} {xs : List α} {i : Int} {v : α} (h : atI xs i = some v) : ∃ j, seqIndex? i xs.length = some j ∧ xs[j]? = some v ∧ j < xs.length ∧ -(xs.length : Int) ≤ i ∧ i < xs.length := by
  unfold atI at h
  cases e : ixN xs.length i with
  | none => rw [e] at h; cases h
  | some j =>
    rw [e] at h
    obtain ⟨h1, h2, h3, h4⟩ := ixN_seq e
    exact ⟨j, h1, h, h2, h3, h4⟩
theorem atI_nat {α : Type} {xs : List α} {j : Nat} {v : α} (h : xs[j]? = some v) : atI xs (j : Int) = some v := by
  have hj : j < xs.length := (List.getElem?_eq_some_iff.mp h).1
  have e : ixN xs.length (j : Int) = some j := by
    unfold ixN
    rw [if_pos (by omega), if_pos (by omega)]; simp
  unfold atI; rw [e]; exact h

/-! ### what may be subscripted -/
/-- what stands as an index of a plain subscript -/
def PlainIx (b : Expr) : Prop := ∀ o i, subscripted b false o i = operate [o, i] (getItem o i)
/-- a subscript by values -/
def IxR (X : Cx) (r : R2) : Prop :=
  ∀ (value slice : Expr) (pins : List (Addr × Obj)) (s : Shared) (σ : St) (H : Hp) (x y : V) (v u : Value) (Q : VK), Inv X pins σ H s → RelV x v → RelV y u → r x y H Q →
    subscripted slice false v u = operate [v, u] (getItem v u) → wpAny (model X.prog X.w) X.A (subscriptTail value slice v u) (EP X pins σ Q) X.xe s
/-- a call of a builtin's method by values: the receiver, the arguments -/
def MtR (X : Cx) (id : String) (r : V → List V → Hp → VK → Prop) : Prop :=
  ∀ (pins : List (Addr × Obj)) (s : Shared) (σ : St) (H : Hp) (x : V) (xs : List V) (v : Value) (us : List Value) (Q : VK), Inv X pins σ H s → RelV x v → Vals xs us → r x xs H Q →
    wpAny (model X.prog X.w) X.A (call (.builtin id) (v :: us)) (EP X pins σ Q) X.xe s
section
variable {X : Cx} {a b : Expr} {ta tb : TE} {pos : Pos}
/-- a[b] -/
theorem pe_ix {r : R2} (hr : IxR X r) (ha : PE X a ta) (hb : PE X b tb) (hs : PlainIx b) : PE X (.Subscript a b pos) (tOp r ta tb) := by
  intro pins s σ H Q I h
  exact Subscript_ (binT ha hb I h fun v u s2 x y H2 I2 rx ry q => hr a b pins s2 σ H2 x y v u Q I2 rx ry q (hs _ _))

def rIxL (K : PySem.W.Frag) : R2 := fun x y H Q => ∃ p xs i v, x = .ref p ∧ y = .int i ∧ SqL K H p xs ∧ atI xs i = some v ∧ Q v H
def rIxT (K : PySem.W.Frag) : R2 := fun x y H Q => ∃ p xs i v, x = .ref p ∧ y = .int i ∧ SqT K H p xs ∧ atI xs i = some v ∧ Q v H
theorem ix_list : IxR X (rIxL X.K) := by
  intro value slice pins s σ H x y v u Q I rx ry h hs
  obtain ⟨p, xs, i, z, rfl, rfl, hq, he, q⟩ := h
  cases rx
  obtain ⟨t, rfl⟩ := ry
  obtain ⟨its, r, pl, hz⟩ := I.list hq
  obtain ⟨j, h1, h2, h3, h4, h5⟩ := atI_get he
  obtain ⟨w, ew, rw'⟩ := r.get h2
  have hl := r.length
  have hn := line63
  have fin : EP X pins σ Q w s := ⟨z, H, I, rw', q⟩
  by_cases h0 : 0 ≤ i
  · have hj : i.toNat = j := by
      rw [seqIndex_of h0 h5] at h1
      exact Option.some.inj h1
    exact item_listR pl.isList h0 (by omega) (by rw [hj]; simpa using ew) fin hs
  · have hj : (i + (its.toArray.size : Int)).toNat = j := by
      rw [seqIndex_neg (by omega) h4] at h1
      rw [List.size_toArray, ← hl]
      exact Option.some.inj h1
    exact subscriptTail_builtinR (x := w) pl.isList.typeIs slot_list_getitem.lookup
      (wpAny_getItem_list_neg (Q := fun r s' => r = w ∧ EP X pins σ Q r s') pl.isList (by omega) (by rw [List.size_toArray] <;> omega) (by omega) (by rw [hj]; simpa using ew) ⟨rfl, fin⟩) hs
theorem ix_tup : IxR X (rIxT X.K) := by
  intro value slice pins s σ H x y v u Q I rx ry h hs
  obtain ⟨p, xs, i, z, rfl, rfl, hq, he, q⟩ := h
  cases rx
  obtain ⟨t, rfl⟩ := ry
  obtain ⟨its, r, pl, hz⟩ := I.tuple hq
  obtain ⟨j, h1, h2, h3, h4, h5⟩ := atI_get he
  obtain ⟨w, ew, rw'⟩ := r.get h2
  have hl := r.length
  have hn := line63
  have fin : EP X pins σ Q w s := ⟨z, H, I, rw', q⟩
  exact subscriptTail_builtinR (x := w) pl.typeIs slot_tuple_getitem.lookup
    (getItem_tuple (j := j) (Q := fun r s' => r = w ∧ EP X pins σ Q r s') pl (by omega) (by omega) (by rw [List.size_toArray, ← hl]; exact h1) (by simpa using ew) ⟨rfl, fin⟩) hs

/-! ### xs[i] = v, any sign -/
/-- the list's object behind a store -/
theorem mapSeq_set (its : List Value) (n j : Nat) (u : Value) : Obj.mapSeq (·.setIfInBounds j u) { cls := .type "list", data := .seq its.toArray n } = { cls := .type "list", data := .seq (its.set j u).toArray n } := by
  simp [Obj.mapSeq]
theorem Inv.lst {pins : List (Addr × Obj)} {σ : St} {H : Hp} {s : Shared} {p : Addr} {xs : List V} (I : Inv X pins σ H s) (h : H p = some (.lst xs)) :
    ∃ (its : List Value) (n : Nat), Vals xs its ∧ s.heap.get? p = some { cls := .type "list", data := .seq its.toArray n } ∧ xs.length ≤ sizeLine := by
  obtain ⟨z, its, n, r, e⟩ := I.hok p _ h
  exact ⟨its, n, r, e, z⟩
/-- the list at p is written by an update of its object -/
theorem Inv.lstUpd {pins : List (Addr × Obj)} {σ : St} {H : Hp} {s : Shared} {p : Addr} {xs ys : List V} {its its' : List Value} {n n' : Nat} {f : Obj → Obj} (I : Inv X pins σ H s) (h : H p = some (.lst xs))
    (ho : s.heap.get? p = some { cls := .type "list", data := .seq its.toArray n }) (hf : f { cls := .type "list", data := .seq its.toArray n } = { cls := .type "list", data := .seq its'.toArray n' }) (r : Vals ys its') (hz : ys.length ≤ sizeLine) (t : Nat) :
    Inv X pins σ (upd H p (.lst ys)) { s with heap := s.heap.update p f, toks := t } := by
  have e : (s.heap.update p f).get? p = some { cls := .type "list", data := .seq its'.toArray n' } := by
    rw [Heap.get?_update_self f ho (by rw [hf] <;> rfl), hf]
  refine I.write (x := p) (e := p) (by rw [h]; trivial) (.inl rfl) (fun b u hb q => (Heap.get?_update_other _ _ (Ne.symm hb)).trans q) ⟨_, e⟩ ?_
  exact ⟨hz, its', n', r, e⟩
def rSetL : V → V → V → Hp → (Hp → Prop) → Prop := fun o i v H Q => ∃ p xs k j, o = .ref p ∧ i = .int k ∧ H p = some (.lst xs) ∧ ixN xs.length k = some j ∧ Q (upd H p (.lst (xs.set j v)))
theorem set_list : PSet X rSetL := by
  intro pins s σ H o i v ov iv u Q I ro ri rv h
  obtain ⟨p, xs, k, j, rfl, rfl, hp, hj, q⟩ := h
  cases ro
  obtain ⟨t, rfl⟩ := ri
  obtain ⟨its, n, r, ho, hz⟩ := I.lst hp
  obtain ⟨h1, h2, h3, h4⟩ := ixN_seq hj
  have hl := r.length
  have hn := line63
  have I' : Inv X pins σ (upd H p (.lst (xs.set j v))) { s with heap := s.heap.update p (Obj.mapSeq (·.setIfInBounds j u)) } :=
    I.lstUpd hp ho (mapSeq_set its n j u) (r.set rv j) (by rw [List.length_set]; exact hz) s.toks
  by_cases h0 : 0 ≤ k
  · have hk : k.toNat = j := by
      rw [seqIndex_of h0 h4] at h1
      exact Option.some.inj h1
    exact PySem.W.ki_setAt ho h0 (by omega) (by rw [List.size_toArray, ← hl]; exact h4) (by rw [hk]; exact ⟨_, I', q⟩)
  · have hk : (k + (its.toArray.size : Int)).toNat = j := by
      rw [seqIndex_neg (by omega) h3] at h1
      rw [List.size_toArray, ← hl]
      exact Option.some.inj h1
    exact PySem.W.ki_setBack ho (by omega) (by rw [List.size_toArray, ← hl]; exact h3) (by omega) (by rw [hk]; exact ⟨_, I', q⟩)

/-! ### slices -/
theorem slice_bounds (lo hi : Option Int) (n : Nat) : (sliceBounds lo hi none n).1 = ((HT.sIx n 0 lo : Nat) : Int) ∧ (sliceBounds lo hi none n).2.1 = ((HT.sIx n n hi : Nat) : Int) ∧ (sliceBounds lo hi none n).2.2 = 1 := by
  refine ⟨?_, ?_, rfl⟩
  · cases lo with
    | none => simp [sliceBounds, HT.sIx]
    | some i =>
      simp only [sliceBounds, HT.sIx, Option.getD_none, show (1 : Int) > 0 by decide, if_true]
      by_cases h : i < 0
      · simp only [h, if_true] <;> omega
      · simp only [h, if_false] <;> omega
  · cases hi with
    | none => simp [sliceBounds, HT.sIx]
    | some i =>
      simp only [sliceBounds, HT.sIx, Option.getD_none, show (1 : Int) > 0 by decide, if_true]
      by_cases h : i < 0
      · simp only [h, if_true] <;> omega
      · simp only [h, if_false] <;> omega
theorem slicePick_cut (its : List Value) (lo hi : Option Int) : slicePick its.toArray lo hi none = ((its.drop (HT.sIx its.length 0 lo)).take (HT.sIx its.length its.length hi - HT.sIx its.length 0 lo)).toArray := by
  obtain ⟨h1, h2, h3⟩ := slice_bounds lo hi its.toArray.size
  unfold slicePick
  rw [h1, h2, h3]
  simp only [sliceRange_one, pick_run, List.size_toArray] <;> rfl
/-- xs[lo:hi] of a list: a new list -/
def rSlL (K : PySem.W.Frag) : V → Option Int → Option Int → Hp → VK → Prop := fun x lo hi H Q => ∃ a xs, x = .ref a ∧ SqL K H a xs ∧ ∀ p, H p = none → Q (.ref p) (upd H p (.lst (cutV xs lo hi)))
theorem sl_list : SlR X (rSlL X.K) := by
  intro pins s σ H x v vl vu lo hi sl Q I rx hs pl pu h
  obtain ⟨a, xs, rfl, hx, q⟩ := h
  cases rx
  obtain ⟨its, r, ht, hz⟩ := I.list hx
  have hlen := r.length
  refine ⟨"list", _, slot_list_getitem.lookup, ht.isList.typeIs, ?_⟩
  refine wpAny_getItem_list_slice ht.isList hs pl pu .none (by simp) ?_ (by rw [List.size_toArray] <;> omega)
  rw [slicePick_cut, ← hlen]
  refine ⟨.ref s.heap.objs.size, _, I.laid (t' := s.toks) (o := .lst (cutV xs lo hi)) (fun b ob q => Heap.get?_push_of_some _ q) (Nat.le_refl _) ?_, rfl, q _ (I.hok.fresh (Nat.le_refl _))⟩
  exact ⟨Nat.le_trans (cutV_length xs lo hi) hz, _, 0, (r.drop (HT.sIx xs.length 0 lo)).take (HT.sIx xs.length xs.length hi - HT.sIx xs.length 0 lo), Heap.get?_push_size _ rfl⟩

/-! ### in, not in: flat items -/

/-! ### len, list(x), tuple(x) of any list or tuple that is read -/
theorem call_len_seq : CallR X (.builtin "len") (fun xs H Q => ∃ p ys, xs = [.ref p] ∧ (SqL X.K H p ys ∨ SqT X.K H p ys) ∧ Q (.int ys.length) H) := by
  intro pins s σ H xs us Q I r h
  obtain ⟨p, ys, rfl, hq, q⟩ := h
  obtain ⟨u, rfl, rx⟩ := vals1 r
  cases rx
  have hn := line63
  rcases hq with hq | hq
  · obtain ⟨its, r', pl, hz⟩ := I.list hq
    have hlen := r'.length
    exact Calls.call_len_list pl.isList (by simp only [List.size_toArray] <;> omega) ⟨.int ys.length, H, I.tok _, ⟨s.toks + 1, by rw [List.size_toArray, hlen]⟩, q⟩
  · obtain ⟨its, r', pl, hz⟩ := I.tuple hq
    have hlen := r'.length
    exact len_tuple pl (by simp only [List.size_toArray] <;> omega) ⟨.int ys.length, H, I.tok _, ⟨s.toks + 1, by rw [List.size_toArray, hlen]⟩, q⟩
theorem call_list_of : CallR X (.type "list") (fun xs H Q => ∃ p ys, xs = [.ref p] ∧ (SqL X.K H p ys ∨ SqT X.K H p ys) ∧ ∀ l, H l = none → Q (.ref l) (upd H l (.lst ys))) := by
  intro pins s σ H xs us Q I r h
  obtain ⟨p, ys, rfl, hq, q⟩ := h
  obtain ⟨u, rfl, rx⟩ := vals1 r
  cases rx
  have fin : ∀ (its : List Value), Vals ys its → ys.length ≤ sizeLine → ∀ (h' : Heap) (c' : Nat), (∀ b o', s.heap.get? b = some o' → h'.get? b = some o') →
      h'.get? s.heap.objs.size = some { cls := .type "list", dict := none, data := .seq its.toArray c', slots := #[] } → EP X pins σ Q (.ref s.heap.objs.size) { s with heap := h' } := fun its r' hz h' c' kp e =>
    ⟨.ref s.heap.objs.size, _, I.laid (t' := s.toks) kp (Nat.le_refl _) (show ObjOk X.prog X.w _ h' _ (.lst ys) from ⟨hz, its, c', r', e⟩), rfl, q _ (I.hok.fresh (Nat.le_refl _))⟩
  rcases hq with hq | hq
  · obtain ⟨its, r', pl, hz⟩ := I.list hq
    have hlen := r'.length
    obtain ⟨o, ho, hc, n, hd⟩ := pl.isList
    exact call_list_seq p (.inl rfl) ho hc hd (fun h' c' kp e => fin its r' hz h' c' kp e) (by simp only [List.size_toArray] <;> omega)
  · obtain ⟨its, r', pl, hz⟩ := I.tuple hq
    have hlen := r'.length
    obtain ⟨o, ho, hc, n, hd⟩ := pl
    exact call_list_seq p (.inr rfl) ho hc hd (fun h' c' kp e => fin its r' hz h' c' kp e) (by simp only [List.size_toArray] <;> omega)
theorem call_tuple_of : CallR X (.type "tuple") (fun xs H Q => ∃ p ys, xs = [.ref p] ∧ ((SqL X.K H p ys ∧ ∀ l, H l = none → Q (.ref l) (upd H l (.tup ys))) ∨ (SqT X.K H p ys ∧ Q (.ref p) H))) := by
  intro pins s σ H xs us Q I r h
  obtain ⟨p, ys, rfl, h⟩ := h
  obtain ⟨u, rfl, rx⟩ := vals1 r
  cases rx
  rcases h with ⟨hq, q⟩ | ⟨hq, q⟩
  · obtain ⟨its, r', pl, hz⟩ := I.list hq
    have hlen := r'.length
    refine call_tuple_list pl.isList (fun h' kp => ?_) (by simp only [List.size_toArray] <;> omega)
    have I1 : Inv X pins σ H { s with heap := h' } := I.kept (t' := s.toks) kp
    have I2 : Inv X pins σ (upd H h'.objs.size (.tup ys)) { s with heap := h'.push { cls := .type "tuple", data := .seq its.toArray } } :=
      I1.laid (t' := s.toks) (fun b o e => Heap.get?_push_of_some _ e) (Nat.le_refl _) (show ObjOk X.prog X.w _ _ _ (.tup ys) from ⟨hz, its, r', IsTup.new _ _⟩)
    exact ⟨.ref h'.objs.size, _, I2, rfl, q _ (I1.hok.fresh (Nat.le_refl _))⟩
  · obtain ⟨its, r', pl, hz⟩ := I.tuple hq
    exact call_tuple_same pl ⟨.ref p, H, I, rfl, q⟩

/-! ### the call of a builtin's method: o.m(..) -/
/-- the value is of that builtin type -/
def tyV (K : PySem.W.Frag) (T : String) (x : V) (H : Hp) : Prop := match x with
  | .str _ => T = "str"
  | .int _ => T = "int"
  | .ref p => (T = "list" ∧ ∃ xs, SqL K H p xs) ∨ (T = "tuple" ∧ ∃ o, K.lookup p = some o ∧ o.cls = .type "tuple" ∧ o.dict = none) ∨
      (T = "dict" ∧ ((∃ kvs, H p = some (.dK kvs)) ∨ ∃ kvs, H p = some (.dT kvs))) ∨ (T = "set" ∧ ∃ S n, H p = some (.set S n))
  | _ => False
theorem tyV_is {pins : List (Addr × Obj)} {σ : St} {H : Hp} {s : Shared} {T : String} {x : V} {v : Value} (I : Inv X pins σ H s) (r : RelV x v) (ty : tyV X.K T x H) :
    s.TypeIs v T ∧ ∀ a, v = .ref a → ∃ ob, s.heap.get? a = some ob ∧ ob.dict = none := by
  cases x with
  | str z =>
    obtain ⟨t, rfl⟩ := r
    cases (show T = "str" from ty)
    exact ⟨typeIs_str s z t, fun _ e => nomatch e⟩
  | int i =>
    obtain ⟨t, rfl⟩ := r
    cases (show T = "int" from ty)
    exact ⟨typeIs_int s i t, fun _ e => nomatch e⟩
  | ref p =>
    cases r
    rcases ty with ⟨rfl, xs, hq⟩ | ⟨rfl, o, hk, hc, hd⟩ | ⟨rfl, hk⟩ | ⟨rfl, S, n, hk⟩
    · obtain ⟨its, _, pl, _⟩ := I.list hq
      refine ⟨pl.isList.typeIs, fun a e => ?_⟩
      cases e
      obtain ⟨o, n, e, c, hd, _⟩ := pl
      exact ⟨o, e, hd⟩
    · refine ⟨⟨o, I.kIn p o hk, hc⟩, fun a e => ?_⟩
      cases e
      exact ⟨o, I.kIn _ o hk, hd⟩
    · have z : ∃ o, s.heap.get? p = some o ∧ o.ExactDict := by
        rcases hk with ⟨kvs, hk⟩ | ⟨kvs, hk⟩
        · obtain ⟨_, _, _, _, o, _, _, e, ex, _⟩ := I.hok p _ hk
          exact ⟨o, e, ex⟩
        · obtain ⟨_, _, _, _, o, _, _, e, ex, _⟩ := I.hok p _ hk
          exact ⟨o, e, ex⟩
      obtain ⟨o, e, ex⟩ := z
      refine ⟨⟨o, e, ex.1⟩, fun a e2 => ?_⟩
      cases e2
      exact ⟨o, e, ex.2.1⟩
    · obtain ⟨o, _, _, _, e, ex, _⟩ := I.hok p _ hk
      refine ⟨⟨o, e, ex.1⟩, fun a e2 => ?_⟩
      cases e2
      exact ⟨o, e, ex.2.1⟩
  | _ => exact False.elim ty
def tBM (K : PySem.W.Frag) (T : String) (r : V → List V → Hp → VK → Prop) (to : TE) (t : TA) : TE := fun σ H Q => to σ H fun x H1 => tyV K T x H1 ∧ t σ H1 fun xs H2 => r x xs H2 Q
variable {o e : Expr} {es : List Expr} {to : TE} {t : TA} {name : Str} {apos cpos : Pos} {T id : String} {r : V → List V → Hp → VK → Prop}
theorem pe_bm (pa : PlainAttrs T) (slot : Slot T name id) (hty : typeOf (.builtin id) = pure (.type "method_descriptor")) (hm : MtR X id r) (ho : PE X o to) (ha : PA X (e :: es) t)
    (hbase : attributeBase o name X.env (eval o X.env) = eval o X.env := by rfl)
    (hfew : ((backTo cpos (starEach (e :: es) X.env)).all (fun x => !x.1) && (backToKw cpos (keywordEach [] X.env)).all (fun x => x.1.isSome)
      && decide ((e :: es).length + ([] : List Keyword).length + (if ([] : List Keyword).isEmpty then 0 else 1) < 30)) = true := by rfl)
    (hline : (apos.endLine == cpos.line) = true := by rfl) (hs : starEach (e :: es) X.env = (false, eval e X.env) :: starEach es X.env := by rfl) (hplain : (backTo cpos (starEach es X.env)).any (·.1) = false := by rfl) :
    PE X (.Call (.Attribute o name apos) (e :: es) [] cpos) (tBM X.K T r to t) := by
  intro pins s σ H Q I h
  refine wpAny_Call_method_late hbase hfew hline rfl (thn (ho pins s σ H _ I h) fun v s1 ⟨x, H1, I1, r1, ty, q1⟩ => ?_)
  obtain ⟨h1, h2⟩ := tyV_is I1 r1 ty
  refine ⟨T, id, pa, slot, hty, h1, h2, ?_⟩
  have hA := ha cpos pins s1 σ H1 _ I1 q1
  rw [hs] at hA ⊢
  refine Calls.callWith_builtin (by show (false || (backTo cpos (starEach es X.env)).any (·.1)) = false; rw [hplain] <;> rfl) (Calls.evalArgs_plain ?_)
  exact thn hA fun us s2 ⟨vs, H2, I2, r2, q2⟩ => hm pins s2 σ H2 x vs v us Q I2 r1 r2 q2
/- xs.append(e), list.index on a module's tuple .. are MtR facts of 06m -/
end
end L2

namespace L2
open PySem PySem.Spec PyProof.Rows

def MtM (X : Cx) (id : String) (r : V → List V → Hp → VK → Prop) : Prop :=
  ∀ (pins : List (Addr × Obj)) (s : Shared) (σ : St) (H : Hp) (x : V) (xs : List V) (v : Value) (us : List Value) (Q : VK), Inv X pins σ H s → RelV x v → Vals xs us → r x xs H Q →
    wpAny (model X.prog X.w) X.A (call (.builtin id) (v :: us)) (EP X pins σ Q) X.xe s

/-! ### lists of values -/
theorem Vals.one : ∀ {x : V} {us : List Value}, Vals [x] us → ∃ u, us = [u] ∧ RelV x u
  | _, _, .cons r .nil => ⟨_, rfl, r⟩
theorem Vals.eraseIdx : ∀ {xs : List V} {us : List Value} (i : Nat), Vals xs us → Vals (xs.eraseIdx i) (us.eraseIdx i)
  | _, _, _, .nil => .nil
  | _, _, 0, .cons _ t => t
  | _, _, i + 1, .cons r t => .cons r (Vals.eraseIdx i t)
theorem len_erase {α : Type} : ∀ (l : List α) (i : Nat), (l.eraseIdx i).length ≤ l.length
  | [], _ => Nat.le_refl _
  | _ :: _, 0 => Nat.le_succ _
  | _ :: r, i + 1 => Nat.succ_le_succ (len_erase r i)

section
variable {X : Cx} {pins : List (Addr × Obj)} {σ : St} {H : Hp} {s : Shared} {l b : Addr} {xs ys zs : List V}

/-! ### the two steps: a tracked list is rewritten, a new list is laid -/
theorem Inv.lset {its its' : List Value} {n : Nat} {f : Array Value → Array Value} {t' : Nat} (I : Inv X pins σ H s) (hH : H l = some (.lst xs))
    (e : s.heap.get? l = some { cls := .type "list", data := .seq its.toArray n }) (hf : f its.toArray = its'.toArray) (hv : Vals ys its') (hz : ys.length ≤ sizeLine) :
    Inv X pins σ (upd H l (.lst ys)) { s with heap := s.heap.update l (Obj.mapSeq f), toks := t' } := by
  have q := PySem.IsL.update e f
  rw [hf] at q
  refine I.write (x := l) (e := l) (by rw [hH]; exact trivial) (.inl rfl) (fun b' u hb hu => (Heap.get?_update_other s.heap (Obj.mapSeq f) (Ne.symm hb)).trans hu) ⟨_, q⟩ ?_
  exact ⟨hz, its', _, hv, q⟩
theorem Inv.lnew {its : List Value} {t' : Nat} (I : Inv X pins σ H s) (hv : Vals ys its) (hz : ys.length ≤ sizeLine) :
    Inv X pins σ (upd H s.heap.objs.size (.lst ys)) { s with heap := s.heap.push { cls := .type "list", data := .seq its.toArray }, toks := t' } :=
  I.laid (fun _ _ q => Heap.get?_push_of_some _ q) (Nat.le_refl _) ⟨hz, its, 0, hv, Heap.get?_push_size _ rfl⟩
theorem Inv.fresh (I : Inv X pins σ H s) : H s.heap.objs.size = none := I.hok.fresh (Nat.le_refl _)
theorem Inv.lstM (I : Inv X pins σ H s) (hH : H l = some (.lst xs)) : xs.length ≤ sizeLine ∧ ∃ (its : List Value) (n : Nat), Vals xs its ∧ xs.length = its.length ∧ s.heap.get? l = some { cls := .type "list", data := .seq its.toArray n } := by
  obtain ⟨z, its, n, r, e⟩ := I.hok l _ hH
  exact ⟨z, its, n, r, r.length, e⟩

theorem notLongL {n : Nat} (h : n ≤ sizeLine) : Builtin.List.listTooLong n = false := by
  unfold Builtin.List.listTooLong
  exact decide_eq_false (by omega)
end

section
variable {X : Cx}

/-! ### methods -/
def rAppend : V → List V → Hp → VK → Prop := fun x vs H Q => ∃ l xs y, x = .ref l ∧ vs = [y] ∧ H l = some (.lst xs) ∧ xs.length < sizeLine ∧ Q .non (upd H l (.lst (xs ++ [y])))
theorem mt_append : MtM X "list.append" rAppend := by
  intro pins s σ H x vs v us Q I rx rv h
  obtain ⟨l, xs, y, rfl, rfl, hH, hz, q⟩ := h
  cases rx
  obtain ⟨u, rfl, ru⟩ := rv.one
  obtain ⟨z, its, n, r, hl, e⟩ := I.lstM hH
  refine call_meets F.slot_list_append ⟨_, e, rfl⟩ F.entry_list_append (F.args_list_append_2 _ _) (PySem.list_append l its.toArray n u (by rw [List.size_toArray]; omega)) ⟨e, ?_⟩
  refine ⟨.non, _, I.lset (its' := its ++ [u]) hH e (by simp) (r.append (.cons ru .nil)) ?_, rfl, q⟩
  rw [List.length_append, List.length_singleton]
  omega

def rExtend : V → List V → Hp → VK → Prop := fun x vs H Q => ∃ l b xs zs, x = .ref l ∧ vs = [.ref b] ∧ H l = some (.lst xs) ∧ H b = some (.lst zs) ∧ xs.length + zs.length ≤ sizeLine ∧ Q .non (upd H l (.lst (xs ++ zs)))
theorem mt_extend : MtM X "list.extend" rExtend := by
  intro pins s σ H x vs v us Q I rx rv h
  obtain ⟨l, b, xs, zs, rfl, rfl, hH, hB, hz, q⟩ := h
  cases rx
  obtain ⟨u, rfl, ru⟩ := rv.one
  cases ru
  obtain ⟨z, its, n, r, hl, e⟩ := I.lstM hH
  obtain ⟨z2, its2, n2, r2, hl2, e2⟩ := I.lstM hB
  have hsz : its.toArray.size + its2.toArray.size ≤ sizeLine := by rw [List.size_toArray, List.size_toArray]; omega
  have hlong : ¬ (!its.toArray.isEmpty && Builtin.List.listTooLong (its.toArray.size + its2.toArray.size)) = true := by
    rw [notLongL hsz, Bool.and_false]
    exact Bool.false_ne_true
  refine call_meets F.slot_list_extend ⟨_, e, rfl⟩ F.entry_list_extend (F.args_list_extend_2 _ _)
    (AutoSeq1.list_extend_list_list_0 l its.toArray n b its2.toArray n2 hlong (by rw [List.size_toArray]; omega) (by omega)) ⟨e, e2, ?_⟩
  refine ⟨.non, _, I.lset (its' := its ++ its2) hH e (by simp) (r.append r2) ?_, rfl, q⟩
  rw [List.length_append]
  omega


def rPopAt : V → List V → Hp → VK → Prop := fun x vs H Q => ∃ l xs i k y, x = .ref l ∧ vs = [.int i] ∧ H l = some (.lst xs) ∧ -(2 ^ 63) ≤ i ∧ i < 2 ^ 63 ∧ seqIndex? i xs.length = some k ∧ xs[k]? = some y ∧ Q y (upd H l (.lst (xs.eraseIdx k)))
theorem mt_popAt : MtM X "list.pop" rPopAt := by
  intro pins s σ H x vs v us Q I rx rv h
  obtain ⟨l, xs, i, k, y, rfl, rfl, hH, h1, h2, hk, hy, q⟩ := h
  cases rx
  obtain ⟨u, rfl, ru⟩ := rv.one
  obtain ⟨t, rfl⟩ := ru
  obtain ⟨z, its, n, r, hl, e⟩ := I.lstM hH
  obtain ⟨w, hw, rw'⟩ := r.get hy
  refine call_meets F.slot_list_pop ⟨_, e, rfl⟩ F.entry_list_pop (F.args_list_pop_2 _ _)
    (MeetsSeq.list_pop_at l its.toArray n i t k w (fitsIndex_both h1 h2) (by rw [List.size_toArray, ← hl]; exact hk) (by rw [← Array.getElem?_toList]; exact hw) (by rw [List.size_toArray]; omega)) ⟨e, ?_⟩
  refine ⟨y, _, I.lset (its' := its.eraseIdx k) hH e ?_ (r.eraseIdx k) ?_, rw', q⟩
  · show its.toArray.eraseIdxIfInBounds k = (its.eraseIdx k).toArray
    rw [List.eraseIdxIfInBounds_toArray]
  · have := len_erase xs k
    omega



/-! ### list + list, list += list, list * int -/
def rCat : R2 := fun x y H Q => ∃ l b xs zs, x = .ref l ∧ y = .ref b ∧ H l = some (.lst xs) ∧ H b = some (.lst zs) ∧ xs.length + zs.length ≤ sizeLine ∧ ∀ p, H p = none → Q (.ref p) (upd H p (.lst (xs ++ zs)))
theorem op_cat : OpR X (binaryOp .Add) rCat := by
  intro pins s σ H x y v u Q I rx ry h
  obtain ⟨l, b, xs, zs, rfl, rfl, hH, hB, hz, q⟩ := h
  cases rx
  cases ry
  obtain ⟨z, its, n, r, hl, e⟩ := I.lstM hH
  obtain ⟨z2, its2, n2, r2, hl2, e2⟩ := I.lstM hB
  refine PySem.P.add_list e e2 ?_ (by rw [List.size_toArray, List.size_toArray]; omega)
  have ea : its.toArray ++ its2.toArray = (its ++ its2).toArray := by simp
  rw [ea]
  exact ⟨.ref _, _, I.lnew (t' := s.toks) (r.append r2) (by rw [List.length_append]; omega), rfl, q _ I.fresh⟩

/-! ### del xs[i] -/
end

/-! ### xs[a:b] = ys -/
section
variable {prog : Program} {w : World} {A : Around} {E : Value → Shared → Prop} {s : Shared}
set_option maxRecDepth 100000 in
end

section
variable {X : Cx}
end
end L2

namespace L2
open PySem PySem.Spec PyProof.Rows

theorem Vals.ints : ∀ {ns : List Int} {us : List Value}, Vals (ns.map V.int) us → IntsAre us ns
  | [], us, h => by
    rw [List.map_nil] at h
    cases h
    exact IntsAre.nil
  | n :: ns, us, h => by
    rw [List.map_cons] at h
    cases h with
    | cons r t =>
      obtain ⟨k, rfl⟩ := r
      exact IntsAre.cons n k (Vals.ints t)
theorem Vals.bls : ∀ {bs : List Bool} {us : List Value}, Vals (bs.map V.bl) us → us = bs.map Value.bool
  | [], us, h => by
    rw [List.map_nil] at h
    cases h
    rfl
  | b :: bs, us, h => by
    rw [List.map_cons] at h
    cases h with
    | cons r t =>
      cases r
      rw [Vals.bls t, List.map_cons]
theorem Vals.ref1 {a : Addr} {us : List Value} (r : Vals [V.ref a] us) : us = [Value.ref a] := by
  cases r with
  | cons r t =>
    cases t
    cases r
    rfl

/-! ### the library's walks over a list of ints, kept objects alone -/
section
variable {prog : Program} {w : World} {A : Around} {E : Value → Shared → Prop} {s : Shared} {l : Addr} {its : List Value} {ns : List Int} {Q : Value → Shared → Prop}
theorem sum_raw (hh : A.handled = none) (hl : s.heap.IsList l its.toArray) (hi : IntsAre its ns)
    (h : ∀ h' tk t', (∀ b o, s.heap.get? b = some o → h'.get? b = some o) → Q (.int ns.sum t') { s with heap := h', toks := tk }) : wpAny (model prog w) A (call (.builtin "sum") [.ref l]) Q E s := by
  obtain ⟨xs, e⟩ := hi.allInts.items
  have hn : numsOf (intItems xs).toList = ns := by rw [← e]; exact hi.numsOf
  rw [nums_intItems] at hn
  rw [e] at hl
  refine PySem.sum_intListG hh hl fun h' tk t' hk => ?_
  have := h h' tk t' hk
  rw [preSum_eq, List.take_of_length_le (by simp), hn]; exact this
theorem min_raw (hh : A.handled = none) (hl : s.heap.IsList l its.toArray) (hi : IntsAre its ns) (hne : 0 < ns.length)
    (h : ∀ h' tk M t', (∀ b o, s.heap.get? b = some o → h'.get? b = some o) → M ∈ ns → (∀ a, a ∈ ns → M ≤ a) → Q (.int M t') { s with heap := h', toks := tk }) : wpAny (model prog w) A (call (.builtin "min") [.ref l]) Q E s := by
  obtain ⟨xs, e⟩ := hi.allInts.items
  have hn : numsOf (intItems xs).toList = ns := by rw [← e]; exact hi.numsOf
  rw [nums_intItems] at hn
  subst hn
  rw [e] at hl
  have hsz : 0 < xs.size := by simpa using hne
  refine PySem.min_intList hh hl hsz fun v h' tk hv hk => ?_
  obtain ⟨t, rfl⟩ := intItems_at hv
  obtain ⟨h1, h2⟩ := argBest_lt (numAt xs) (xs.size - 1)
  refine h h' tk _ t hk ?_ fun a ha => ?_
  · rw [numAt_eq]; exact PySem.getD_mem (by rw [List.length_map, Array.length_toList]; omega)
  · obtain ⟨j, hj, rfl⟩ := mem_getD ha
    rw [List.length_map, Array.length_toList] at hj
    rw [← numAt_eq]; exact h2 j (by omega)
end

/-! ### the calls, by values (CallR of 03t; MtR of 06l) -/
section
variable {X : Cx}
/-- sum(xs) of a list of ints -/
def rSum (K : PySem.W.Frag) : List V → Hp → VK → Prop := fun vs H Q => ∃ (a : Addr) (ns : List Int), vs = [V.ref a] ∧ SqL K H a (ns.map V.int) ∧ Q (.int ns.sum) H
def rMin (K : PySem.W.Frag) : List V → Hp → VK → Prop := fun vs H Q => ∃ (a : Addr) (ns : List Int), vs = [V.ref a] ∧ SqL K H a (ns.map V.int) ∧ 0 < ns.length ∧ ∀ m, m ∈ ns → (∀ y, y ∈ ns → m ≤ y) → Q (.int m) H
theorem cr_sum (hc : X.calm = true) : CallR X (.builtin "sum") (rSum X.K) := by
  intro pins s σ H vs us Q I r h
  obtain ⟨a, ns, rfl, hs, q⟩ := h
  obtain ⟨its, rv, hl, _⟩ := I.list hs
  rw [Vals.ref1 r]
  exact sum_raw (I.ok.hd hc) hl.isList rv.ints fun h' tk t' hk => ⟨.int _, H, I.kept hk, ⟨_, rfl⟩, q⟩
theorem cr_min (hc : X.calm = true) : CallR X (.builtin "min") (rMin X.K) := by
  intro pins s σ H vs us Q I r h
  obtain ⟨a, ns, rfl, hs, hne, q⟩ := h
  obtain ⟨its, rv, hl, _⟩ := I.list hs
  rw [Vals.ref1 r]
  exact min_raw (I.ok.hd hc) hl.isList rv.ints hne fun h' tk m t' hk h1 h2 => ⟨.int _, H, I.kept hk, ⟨_, rfl⟩, q m h1 h2⟩

/-! sorted, sort (fewer than 64 items: the library's own bound) -/
end

/-! ### list.index, flat items -/
section
variable {X : Cx}
end

/-! ### type(x) of an own instance; is, is not of a module's class -/
section
variable {X : Cx}
end

/-! ### any(xs), all(xs) of a list of bools -/
theorem iter_any {prog : Program} {w : World} {A : Around} {E : Value → Shared → Prop} {s : Shared} {l : Addr} {items : Array Value} {Q : Value → Shared → Prop} (hl : s.heap.IsList l items)
    (h : ∀ s₂ : Shared, s₂ = { s with heap := s.heap.push { cls := .type "list_iterator", data := .fields #[.ref l, .int 0 0] } } →
      (s₂.heap.IsListIter s.heap.objs.size l 0 ∧ s₂.heap.IsList l items) → l ≠ s.heap.objs.size → Q (.ref s.heap.objs.size) s₂) : wpAny (model prog w) A (pyIter (.ref l)) Q E s := by
  have hlt : l < s.heap.objs.size := by obtain ⟨_, e, _⟩ := hl; exact Heap.lt_size e
  exact wpAny_pyIter_list hl (h _ rfl ⟨⟨_, Heap.get?_push_size _ rfl, rfl, rfl⟩, hl.push _⟩ (Nat.ne_of_lt hlt))
theorem truth_bools {prog : Program} {w : World} {A : Around} {bs : List Bool} {its : List Value} (e : its = bs.map Value.bool) :
    TruthOf prog w A (fun i v => its.toArray[i]? = some v) (fun i => bs.getD i false) := fun i v s Q E hv hq => by
  have hv' : its[i]? = some v := by simpa using hv
  rw [e, List.getElem?_map] at hv'
  obtain ⟨b, hb, rfl⟩ := Option.map_eq_some_iff.mp hv'
  have hg : bs.getD i false = b := by rw [List.getD_eq_getElem?_getD, hb] <;> rfl
  have hq' : Q (bs.getD i false) s := hq
  rw [hg] at hq'
  exact wpAny_truthy_bool hq'
theorem any_range : ∀ bs : List Bool, (List.range bs.length).any (fun i => bs.getD i false) = bs.any id
  | [] => rfl
  | b :: bs => by
    rw [List.length_cons, List.range_succ_eq_map, List.any_cons, List.any_map, List.any_cons, ← any_range bs]
    all_goals rfl
section
variable {X : Cx}
def rAny (K : PySem.W.Frag) : List V → Hp → VK → Prop := fun vs H Q => ∃ (a : Addr) (bs : List Bool), vs = [V.ref a] ∧ SqL K H a (bs.map V.bl) ∧ Q (.bl (bs.any id)) H
theorem cr_any (hc : X.calm = true) : CallR X (.builtin "any") (rAny X.K) := by
  intro pins s σ H vs us Q I r h
  obtain ⟨a, bs, rfl, hs, q⟩ := h
  obtain ⟨its, rv, hl, _⟩ := I.list hs
  rw [Vals.ref1 r]
  have hb := rv.bls
  refine call_any_walk (iter_any hl.isList fun s₂ e2 st hne => ?_)
  subst e2
  refine ⟨_, _, _, _, _, _, _, rfl, Walks.list (A := X.A.in1) (I.ok.hd hc) _ a hne its.toArray, st, truth_bools hb, fun h' tk hk => ?_⟩
  refine ⟨.bl _, H, I.kept fun b o eo => hk b o (fun hmem => ?_) (Heap.get?_push_of_some _ eo), ?_, q⟩
  · rcases List.mem_cons.mp hmem with e1 | hmem
    · exact absurd (e1 ▸ Heap.lt_size eo) (Nat.lt_irrefl _)
    · cases hmem
  · show Value.bool _ = Value.bool _
    rw [← any_range, hb, List.size_toArray, List.length_map]
end

/-! ### == and != of data at any depth: none, bools, ints, texts, lists, tuples -/
mutual
inductive Dp (K : PySem.W.Frag) (H : Hp) : V → PyData → Prop
  | non : Dp K H .non .none
  | bl (b : Bool) : Dp K H (.bl b) (.bool b)
  | int (i : Int) : Dp K H (.int i) (.int i)
  | str (x : Str) : Dp K H (.str x) (.str x)
  | lst {a : Addr} {xs : List V} {ds : List PyData} : SqL K H a xs → DpAll K H xs ds → Dp K H (.ref a) (.list ds)
  | tup {a : Addr} {xs : List V} {ds : List PyData} : SqT K H a xs → DpAll K H xs ds → Dp K H (.ref a) (.tuple ds)
inductive DpAll (K : PySem.W.Frag) (H : Hp) : List V → List PyData → Prop
  | nil : DpAll K H [] []
  | cons {v : V} {vs : List V} {d : PyData} {ds : List PyData} : Dp K H v d → DpAll K H vs ds → DpAll K H (v :: vs) (d :: ds)
end
section
variable {X : Cx} {pins : List (Addr × Obj)} {σ : St} {H : Hp} {s : Shared}
mutual
theorem Dp.reads (I : Inv X pins σ H s) : ∀ (d : PyData) (v : V) (u : Value), Dp X.K H v d → RelV v u → ∃ as, Reads s.heap u d as
  | .none, _, _, h, r => by
    cases h
    cases r
    exact ⟨_, Reads.none⟩
  | .bool b, _, _, h, r => by
    cases h
    cases r
    exact ⟨_, Reads.bool b⟩
  | .int i, _, _, h, r => by
    cases h
    obtain ⟨t, rfl⟩ := r
    exact ⟨_, Reads.int i t⟩
  | .str x, _, _, h, r => by
    cases h
    obtain ⟨t, rfl⟩ := r
    exact ⟨_, Reads.str x t⟩
  | .list ds, _, _, h, r => by
    cases h with
    | lst hs ha =>
      cases r
      obtain ⟨its, rv, ⟨o, n, ho, hc, _, hd⟩, _⟩ := I.list hs
      obtain ⟨as, hr⟩ := Dp.readsAll I ds _ its ha rv
      exact ⟨_, Reads.list ho hc hd hr⟩
  | .tuple ds, _, _, h, r => by
    cases h with
    | tup hs ha =>
      cases r
      obtain ⟨its, rv, ⟨o, ho, hc, n, hd⟩, _⟩ := I.tuple hs
      obtain ⟨as, hr⟩ := Dp.readsAll I ds _ its ha rv
      exact ⟨_, Reads.tuple ho hc hd hr⟩
  | .dict _, _, _, h, _ => by cases h
theorem Dp.readsAll (I : Inv X pins σ H s) : ∀ (ds : List PyData) (vs : List V) (us : List Value), DpAll X.K H vs ds → Vals vs us → ∃ as, ReadsAll s.heap us ds as
  | [], _, _, h, r => by
    cases h
    cases r
    exact ⟨_, ReadsAll.nil⟩
  | d :: ds, _, _, h, r => by
    cases h with
    | cons h1 h2 =>
      cases r with
      | cons r1 r2 =>
        obtain ⟨as, q1⟩ := Dp.reads I d _ _ h1 r1
        obtain ⟨bs, q2⟩ := Dp.readsAll I ds _ _ h2 r2
        exact ⟨_, ReadsAll.cons q1 q2⟩
end
end
section
variable {X : Cx}
def rEqD (K : PySem.W.Frag) : R2 := fun x y H Q => ∃ d e, Dp K H x d ∧ Dp K H y e ∧ SeqAt.shaped d = true ∧ SeqAt.shaped e = true ∧ Q (.bl (PyData.eqv d e)) H
theorem op_eqD (hu : X.A.units + 64 < cLine) : OpR X (compareOp .Eq) (rEqD X.K) := by
  intro pins s σ H x y v u Q I rx ry h
  obtain ⟨d, e, hd, he, sd, se, q⟩ := h
  obtain ⟨as, r1⟩ := Dp.reads I d x v hd rx
  obtain ⟨bs, r2⟩ := Dp.reads I e y u he ry
  exact SeqAt.compareEq_shaped r1 r2 sd se hu ⟨.bl _, H, I, rfl, q⟩
end
end L2

namespace L2
open PySem PySem.Spec PyProof.Rows
abbrev CellAt (h : Heap) (c : Addr) (v : Option Value) : Prop := h.IsCell c v
def relS (scope sc : Scope) : Scope :=
  { scope with names := scope.names.map fun (n, k) => if (k == .free && sc.kind == .function && sc.names.lookup n == some .cell) then (n, .cell) else (n, k) }

def cloFrom (cells : List (Str × Addr)) : List (Str × NameKind) → List (Str × Addr) → List (Str × Addr)
  | [], acc => acc
  | (n, k) :: r, acc => if k == .free then cloFrom cells r ((n, (cells.lookup n).getD 0) :: acc) else cloFrom cells r acc

theorem closure_loop (env : Env) (f : Str × NameKind → List (Str × Addr) → Sem (ForInStep (List (Str × Addr))))
    (hf : ∀ n k c, f (n, k) c = if k == .free then (do let a ← cellOf env n; pure (.yield ((n, a) :: c))) else pure (.yield c)) :
    ∀ (names : List (Str × NameKind)) (acc : List (Str × Addr)), (∀ y ∈ names, y.2 = .free → ∃ c, env.cells.lookup y.1 = some c) → forIn names acc f = pure (cloFrom env.cells names acc)
  | [], acc, _ => by rw [List.forIn_nil]; rfl
  | (n, k) :: r, acc, h => by
    rw [List.forIn_cons, hf]
    have ih := fun acc => closure_loop env f hf r acc fun y hy => h y (List.mem_cons_of_mem _ hy)
    unfold cloFrom
    by_cases hk : (k == NameKind.free) = true
    · rw [if_pos hk, if_pos hk]
      obtain ⟨c, hc⟩ := h (n, k) List.mem_cons_self (by simpa using hk)
      have e : cellOf env n = pure c := by unfold cellOf; rw [hc]
      rw [e]
      have e2 : (env.cells.lookup n).getD 0 = c := by rw [hc]; rfl
      rw [e2]
      exact ih _
    · rw [if_neg hk, if_neg hk]
      exact ih _
theorem closure_ok {scope : Scope} {env : Env} (h : ∀ y ∈ scope.names, y.2 = .free → ∃ c, env.cells.lookup y.1 = some c) : closureFor scope env = pure (cloFrom env.cells scope.names []) := by
  simp only [closureFor]
  rw [closure_loop env _ (fun n k c => rfl) scope.names [] h]
  rfl

theorem mem_lookup {α : Type} : ∀ {l : List (Str × α)} {n : Str} {c : α}, (n, c) ∈ l → ∃ c', l.lookup n = some c'
  | (k, v) :: r, n, c, h => by
    rw [List.lookup_cons]
    cases hb : n == k with
    | true => exact ⟨_, rfl⟩
    | false =>
      rcases List.mem_cons.mp h with e | h
      · cases e; simp at hb
      · exact mem_lookup h

theorem cloFrom_mem {cells : List (Str × Addr)} : ∀ {names : List (Str × NameKind)} {acc : List (Str × Addr)} {n : Str} {c : Addr}, (n, c) ∈ cloFrom cells names acc → (n, c) ∈ acc ∨ ((n, .free) ∈ names ∧ c = (cells.lookup n).getD 0)
  | [], _, _, _, h => .inl h
  | (m, k) :: r, acc, n, c, h => by
    unfold cloFrom at h
    split at h
    · rename_i hk
      have hk : k = .free := by simpa using hk
      rcases cloFrom_mem h with h | ⟨h1, h2⟩
      · rcases List.mem_cons.mp h with e | h
        · cases e; exact .inr ⟨hk ▸ List.mem_cons_self, rfl⟩
        · exact .inl h
      · exact .inr ⟨List.mem_cons_of_mem _ h1, h2⟩
    · rcases cloFrom_mem h with h | ⟨h1, h2⟩
      · exact .inl h
      · exact .inr ⟨List.mem_cons_of_mem _ h1, h2⟩
theorem cloFrom_acc {cells : List (Str × Addr)} : ∀ {names : List (Str × NameKind)} {acc : List (Str × Addr)} {p : Str × Addr}, p ∈ acc → p ∈ cloFrom cells names acc
  | [], _, _, h => h
  | (m, k) :: r, acc, p, h => by
    unfold cloFrom
    split
    · exact cloFrom_acc (List.mem_cons_of_mem _ h)
    · exact cloFrom_acc h
theorem cloFrom_has {cells : List (Str × Addr)} : ∀ {names : List (Str × NameKind)} {acc : List (Str × Addr)} {n : Str}, (n, .free) ∈ names → (n, (cells.lookup n).getD 0) ∈ cloFrom cells names acc
  | (m, k) :: r, acc, n, h => by
    unfold cloFrom
    rcases List.mem_cons.mp h with e | h
    · cases e
      exact cloFrom_acc List.mem_cons_self
    · split
      · exact cloFrom_has h
      · exact cloFrom_has h

theorem cells_mem : ∀ {names : List (Str × NameKind)} {h : Heap} {acc : List (Str × Addr)} {x : Str} {c : Addr}, (x, c) ∈ cellsFrom h.objs.size names acc →
    (x, c) ∈ acc ∨ ((x, .cell) ∈ names ∧ h.objs.size ≤ c ∧ CellAt (pushCells h names) c none)
  | [], _, _, _, _, h => .inl h
  | (n, k) :: r, h, acc, x, c, hm => by
    unfold cellsFrom at hm
    unfold pushCells
    split at hm
    · rename_i hk
      rw [if_pos hk]
      have hk : k = .cell := by simpa using hk
      rw [← Heap.size_push h { cls := .type "cell", data := .cell none }] at hm
      rcases cells_mem hm with hm | ⟨h1, h2, h3⟩
      · rcases List.mem_cons.mp hm with e | hm
        · cases e
          exact .inr ⟨hk ▸ List.mem_cons_self, Nat.le_refl _, _, pushCells_keeps r _ _ _ (Heap.get?_push_size _ rfl), rfl⟩
        · exact .inl hm
      · rw [Heap.size_push] at h2
        exact .inr ⟨List.mem_cons_of_mem _ h1, Nat.le_of_succ_le h2, h3⟩
    · rename_i hk
      rw [if_neg hk]
      rcases cells_mem hm with hm | ⟨h1, h2, h3⟩
      · exact .inl hm
      · exact .inr ⟨List.mem_cons_of_mem _ h1, h2, h3⟩
theorem cells_acc : ∀ {names : List (Str × NameKind)} {n : Nat} {acc : List (Str × Addr)} {p : Str × Addr}, p ∈ acc → p ∈ cellsFrom n names acc
  | [], _, _, _, h => h
  | (m, k) :: r, n, acc, p, h => by
    unfold cellsFrom
    split
    · exact cells_acc (List.mem_cons_of_mem _ h)
    · exact cells_acc h
theorem cells_has : ∀ {names : List (Str × NameKind)} {n : Nat} {acc : List (Str × Addr)} {x : Str}, (x, .cell) ∈ names → ∃ c, (x, c) ∈ cellsFrom n names acc
  | (m, k) :: r, n, acc, x, h => by
    unfold cellsFrom
    rcases List.mem_cons.mp h with e | h
    · cases e
      exact ⟨n, cells_acc List.mem_cons_self⟩
    · split
      · exact cells_has h
      · exact cells_has h
theorem cells_inj : ∀ {names : List (Str × NameKind)} {h : Heap} {acc : List (Str × Addr)} {x y : Str} {c : Addr}, (∀ p ∈ acc, p.2 < h.objs.size) → (∀ x y c, (x, c) ∈ acc → (y, c) ∈ acc → x = y) →
    (x, c) ∈ cellsFrom h.objs.size names acc → (y, c) ∈ cellsFrom h.objs.size names acc → x = y
  | [], _, _, _, _, _, _, hi, h1, h2 => hi _ _ _ h1 h2
  | (n, k) :: r, h, acc, x, y, c, hl, hi, h1, h2 => by
    unfold cellsFrom at h1 h2
    split at h1
    · rename_i hk
      rw [if_pos hk] at h2
      rw [← Heap.size_push h { cls := .type "cell", data := .cell none }] at h1 h2
      refine cells_inj (h := h.push _) (fun p hp => ?_) (fun x y c a b => ?_) h1 h2
      · rw [Heap.size_push]
        rcases List.mem_cons.mp hp with rfl | hp
        · exact Nat.lt_succ_self _
        · exact Nat.lt_succ_of_lt (hl p hp)
      · rcases List.mem_cons.mp a with e | a <;> rcases List.mem_cons.mp b with e' | b
        · cases e; cases e'; rfl
        · cases e; exact absurd (hl _ b) (Nat.lt_irrefl _)
        · cases e'; exact absurd (hl _ a) (Nat.lt_irrefl _)
        · exact hi _ _ _ a b
    · rename_i hk
      rw [if_neg hk] at h2
      exact cells_inj hl hi h1 h2

theorem newEnv_comp {M : Model} {A : Around} {E : Value → Shared → Prop} {s : Shared} {scope : Scope} {globals : Addr} {closure : List (Str × Addr)} {qual : Str} {func : Option Addr} {code : Value} {around : Env} {builtins : Addr} {Q : Env → Shared → Prop}
    (h : Q (newEnv scope s.heap.objs.size globals (cellsFrom (s.heap.objs.size + 1) scope.names closure) qual func code (some around) builtins)
      { s with heap := pushCells (s.heap.push { cls := .type "dict", data := .dict #[] }) scope.names }) :
    wpAny M A (newFunctionEnv scope globals closure [] qual func code (some around) builtins) Q E s := by
  simp only [newFunctionEnv, Option.isSome_some, if_true]
  refine wpAny_bind (wpAny_alloc ?_)
  refine wpAny_bind (wpAny_layCells _ (fun n k c => rfl) scope.names closure _ _ ?_)
  rw [show ({ s with heap := s.heap.push { cls := .type "dict", data := .dict #[] } } : Shared).heap.objs.size = s.heap.objs.size + 1 from Heap.size_push ..]
  rw [List.forIn_nil]
  exact wpAny_bind (wpAny_pure (wpAny_pure h))

/-- every name of the written scope, in the scope that runs -/
theorem lookup_relS {sc : Scope} : ∀ {names : List (Str × NameKind)} {x : Str} {k : NameKind},
    (names.map fun (n, k) => if (k == NameKind.free && sc.kind == .function && sc.names.lookup n == some .cell) then (n, NameKind.cell) else (n, k)).lookup x = some k →
    ∃ k', names.lookup x = some k' ∧ (k = k' ∨ (k' = .free ∧ k = .cell))
  | [], _, _, h => by simp at h
  | (n, k₀) :: r, x, k, h => by
    have ih := @lookup_relS sc r x k
    have h' : List.lookup x ((if (k₀ == NameKind.free && sc.kind == .function && sc.names.lookup n == some .cell) = true then (n, NameKind.cell) else (n, k₀)) :: (r.map _)) = some k := h
    cases hx : x == n with
    | true =>
      simp only [List.lookup_cons, hx]
      by_cases hc : (k₀ == NameKind.free && sc.kind == .function && sc.names.lookup n == some .cell) = true
      · rw [if_pos hc] at h'
        simp only [List.lookup_cons, hx] at h'
        cases h'
        simp only [Bool.and_eq_true, beq_iff_eq] at hc
        exact ⟨k₀, rfl, .inr ⟨hc.1.1, rfl⟩⟩
      · rw [if_neg hc] at h'
        simp only [List.lookup_cons, hx] at h'
        cases h'
        exact ⟨_, rfl, .inl rfl⟩
    | false =>
      simp only [List.lookup_cons, hx]
      by_cases hc : (k₀ == NameKind.free && sc.kind == .function && sc.names.lookup n == some .cell) = true
      · rw [if_pos hc] at h'
        simp only [List.lookup_cons, hx] at h'
        exact ih h'
      · rw [if_neg hc] at h'
        simp only [List.lookup_cons, hx] at h'
        exact ih h'



/-- the names of a comprehension's block: its own (with their places in N), or captured -/
structure BlkOk (N : List Str) (sc scope : Scope) (own : List (Str × Nat)) : Prop where
  kind : scope.kind = .function
  uniq : ∀ y ∈ scope.names, scope.names.lookup y.1 = some y.2
  ix : ∀ p ∈ own, N[p.2]? = some p.1
  free : ∀ y ∈ scope.names, y.2 = .free → sc.names.lookup y.1 = some .cell ∨ sc.names.lookup y.1 = some .free
  own : ∀ y ∈ scope.names, y.2 = .local ∨ y.2 = .cell → y.1 ∈ own.map (·.1) ∨ y.1 ∉ N
/-- the slots of the block's own names forgotten -/
def wipe (σ : St) : List Nat → St
  | [] => σ
  | v :: vs => (wipe σ vs).set v none
theorem wipe_length (σ : St) : ∀ vs : List Nat, (wipe σ vs).length = σ.length
  | [] => rfl
  | v :: vs => by unfold wipe; rw [List.length_set, wipe_length σ vs]
theorem wipe_some {σ : St} {i : Nat} {x : V} : ∀ {vs : List Nat}, (wipe σ vs)[i]? = some (some x) → σ[i]? = some (some x) ∧ i ∉ vs
  | [], h => ⟨h, by simp⟩
  | v :: vs, h => by
    unfold wipe at h
    by_cases hi : v = i
    · subst hi
      by_cases hv : v < (wipe σ vs).length
      · rw [List.getElem?_set_self hv] at h; cases h
      · rw [List.getElem?_eq_none (by simpa using hv)] at h; cases h
    · rw [List.getElem?_set_ne hi] at h
      obtain ⟨h1, h2⟩ := wipe_some h
      exact ⟨h1, by simp only [List.mem_cons, not_or]; exact ⟨fun e => hi e.symm, h2⟩⟩

/-- the context of a block that starts at s, its iterator's objects at fp -/
abbrev Cx.blk (X : Cx) (s : Shared) (H : Hp) (scope : Scope) (cenv : Env) (fp : List Addr) : Cx := { X with s_0 := s, H_0 := H, env := cenv, outer := X.stack, ex := fp, fn := fun x => scope.names.lookup x == some .cell, pn := [], xe := fun _ _ => False }
section
variable {X : Cx} {pins : List (Addr × Obj)} {σ : St} {H : Hp} {s : Shared}
theorem block_start {scope : Scope} {own : List (Str × Nat)} {fp : List Addr} (I : Inv X pins σ H s) (ok : BlkOk X.N X.env.scope scope own) (hN : X.N.Nodup) (hfp : ∀ b ∈ fp, FpOk X pins H b ∧ b < s.heap.objs.size) :
    Inv (X.blk s H scope (compEnvC scope (cellsFrom (s.heap.objs.size + 1) scope.names (cloFrom X.env.cells scope.names [])) s.heap.objs.size X.env) fp) [] (wipe σ (own.map (·.2))) H { s with heap := pushCells (s.heap.push { cls := .type "dict", data := .dict #[] }) scope.names } := by
  have hfree : ∀ y ∈ scope.names, y.2 = .free → ∃ c, X.env.cells.lookup y.1 = some c := fun y hy e => by
    rcases ok.free y hy e with k | k
    · exact I.ok.has _ (.inl k)
    · exact I.ok.has _ (.inr k)
  generalize hcenv : compEnvC scope (cellsFrom (s.heap.objs.size + 1) scope.names (cloFrom X.env.cells scope.names [])) s.heap.objs.size X.env = cenv
  have kp : ∀ b o, s.heap.get? b = some o → (pushCells (s.heap.push { cls := .type "dict", data := .dict #[] }) scope.names).get? b = some o := fun b o e => pushCells_keeps _ _ _ _ (Heap.get?_push_of_some _ e)
  have hL : cenv.locals = s.heap.objs.size := by rw [← hcenv]; rfl
  have hcl : cenv.cells = cellsFrom (s.heap.objs.size + 1) scope.names (cloFrom X.env.cells scope.names []) := by rw [← hcenv]; rfl
  have hsc : cenv.scope = relS scope X.env.scope := by rw [← hcenv]; rfl
  rw [← Heap.size_push s.heap { cls := .type "dict", data := .dict #[] }] at hcl
  have cm : ∀ {y c}, (y, c) ∈ cloFrom X.env.cells scope.names [] → X.env.cells.lookup y = some c ∧ c < s.heap.objs.size := fun {y c} hm => by
    rcases cloFrom_mem hm with hm | ⟨h1, rfl⟩
    · cases hm
    · obtain ⟨c, hc⟩ := hfree _ h1 rfl
      rw [hc]
      obtain ⟨w, z⟩ := I.cell _ _ hc
      exact ⟨rfl, z.lt⟩
  have mem : ∀ {y c}, cenv.cells.lookup y = some c → (X.env.cells.lookup y = some c ∧ c < s.heap.objs.size) ∨ (s.heap.objs.size + 1 ≤ c ∧ CellAt (pushCells (s.heap.push { cls := .type "dict", data := .dict #[] }) scope.names) c none) := fun {y c} e => by
    rw [hcl] at e
    rcases cells_mem (PySem.mem_of_lookup e) with hm | ⟨_, h2, h3⟩
    · exact .inl (cm hm)
    · rw [Heap.size_push] at h2; exact .inr ⟨h2, h3⟩
  have look : ∀ {y}, scope.names.lookup y = some .free → ∃ c, cenv.cells.lookup y = some c ∧ X.env.cells.lookup y = some c := fun {y} hl => by
    have hy : (y, NameKind.free) ∈ scope.names := PySem.mem_of_lookup hl
    obtain ⟨c', e'⟩ := mem_lookup (cells_acc (names := scope.names) (n := (s.heap.push { cls := .type "dict", data := .dict #[] }).objs.size) (cloFrom_has (cells := X.env.cells) (acc := []) hy))
    rw [← hcl] at e'
    refine ⟨c', e', ?_⟩
    rw [hcl] at e'
    rcases cells_mem (PySem.mem_of_lookup e') with hm | ⟨h1, _, _⟩
    · exact (cm hm).1
    · have := ok.uniq _ h1
      rw [hl] at this; cases this
  have okB : (X.blk s H scope cenv fp).Ok := by
    refine ⟨I.ok.mod, by show cenv.scope.kind = _; rw [hsc]; exact ok.kind, by show cenv.globals = _; rw [← hcenv]; exact I.ok.glob, by show cenv.builtins = _; rw [← hcenv]; exact I.ok.blt, by show s.heap.objs.size ≤ cenv.locals; rw [hL]; exact Nat.le_refl _,
      fun y z c e1 e2 => ?_, fun y hy => ?_, fun y c z e => ?_, I.ok.hd, I.ok.frames, .inl rfl, fun b hb => ⟨?_, fun y c e z => ?_⟩, I.bs, Nat.le_trans I.ok.bsz I.sz, fun b o e hb => ?_, fun b hb z => ?_, I.stack, I.stkFree⟩
    · have e1 : cenv.cells.lookup y = some c := e1
      have e2 : cenv.cells.lookup z = some c := e2
      rw [hcl] at e1 e2
      refine cells_inj (fun p hp => ?_) (fun y z c a b => I.ok.inj y z c (cm a).1 (cm b).1) (PySem.mem_of_lookup e1) (PySem.mem_of_lookup e2)
      rw [Heap.size_push]
      exact Nat.lt_succ_of_lt (cm (y := p.1) (c := p.2) hp).2
    · show ∃ c, cenv.cells.lookup y = some c
      have key : ∀ k, cenv.kindOf y = some k → (k = .cell ∨ k = .free) → ∃ c, cenv.cells.lookup y = some c := fun k hk hk' => by
        unfold Env.kindOf at hk
        rw [hsc] at hk
        obtain ⟨k', e, r⟩ := lookup_relS hk
        have : k' = .cell ∨ k' = .free := by
          rcases r with rfl | ⟨rfl, _⟩
          · exact hk'
          · exact .inr rfl
        rcases this with rfl | rfl
        · obtain ⟨c, hm⟩ := cells_has (n := (s.heap.push { cls := .type "dict", data := .dict #[] }).objs.size) (acc := cloFrom X.env.cells scope.names []) (PySem.mem_of_lookup e)
          obtain ⟨c', e'⟩ := mem_lookup hm
          exact ⟨c', by rw [hcl]; exact e'⟩
        · obtain ⟨c, h1, _⟩ := look e
          exact ⟨c, h1⟩
      rcases hy with hy | hy
      · exact key _ hy (.inl rfl)
      · exact key _ hy (.inr rfl)
    · have z : (scope.names.lookup y == some NameKind.cell) = true := z
      have z : scope.names.lookup y = some .cell := by simpa using z
      have e : cenv.cells.lookup y = some c := e
      rw [hcl] at e
      rcases cells_mem (PySem.mem_of_lookup e) with hm | ⟨_, h2, _⟩
      · rcases cloFrom_mem hm with hm | ⟨h1, _⟩
        · cases hm
        · have q := ok.uniq _ h1
          rw [z] at q; cases q
      · rw [Heap.size_push] at h2
        exact Nat.le_of_succ_le h2
    · show b ≠ cenv.locals
      rw [hL]; exact Nat.ne_of_lt (hfp b hb).2
    · have e : cenv.cells.lookup y = some c := e
      rcases mem e with ⟨h1, _⟩ | ⟨h1, _⟩
      · exact (hfp b hb).1.2.2.2.2.1 y c h1 z
      · have h2 : s.heap.objs.size + 1 ≤ b := by rw [← z]; exact h1
        exact absurd (Nat.lt_of_lt_of_le (hfp b hb).2 (Nat.le_of_succ_le h2)) (Nat.lt_irrefl _)
    · rcases (hfp b hb).1.2.2.2.1 with z | z
      · exact I.ok.noex b o e z
      · exact absurd (Nat.lt_of_lt_of_le (Heap.lt_size e) (Nat.le_trans I.ok.bsz z)) (Nat.lt_irrefl _)
    · rcases List.mem_cons.mp (I.stkSub b z) with z | z
      · exact (hfp b hb).1.2.1 z
      · exact (hfp b hb).1.2.2.1 z
  refine ⟨okB, rfl, I.bare, Un.kept kp, ⟨fun _ => none, ?_, fun i y av e1 e2 e3 => ?_⟩, fun y c e => ?_, ?_, fun y c e => ?_, fun p hp => ?_, I.hok.kept kp, by rw [wipe_length]; exact I.len⟩
  · show Heap.Ns _ cenv.locals _
    rw [hL]
    exact Heap.Ns.keeps (Heap.Ns.new ..) fun b o e => pushCells_keeps _ _ _ _ e
  · obtain ⟨e2, hne⟩ := wipe_some e2
    have hfr : scope.names.lookup y = some .free ∧ (cenv.kindOf y = some .cell ∨ cenv.kindOf y = some .free) := by
      have key : ∀ k, cenv.scope.names.lookup y = some k → k = .local ∨ k = .cell ∨ k = .free → scope.names.lookup y = some .free ∧ (cenv.kindOf y = some .cell ∨ cenv.kindOf y = some .free) := fun k hk hk' => by
        have hk0 := hk
        rw [hsc] at hk
        obtain ⟨k', e, r⟩ := lookup_relS hk
        have no : ¬ (k' = .local ∨ k' = .cell) := fun hh => by
          rcases ok.own _ (PySem.mem_of_lookup e) hh with e' | e'
          · obtain ⟨p, hp, hpy⟩ := List.mem_map.mp e'
            have e3 := ok.ix p hp
            have : p.1 = y := hpy
            rw [this] at e3
            exact hne (List.mem_map.mpr ⟨p, hp, nodup_ix hN e3 e1⟩)
          · exact e' (List.mem_of_getElem? e1)
        rcases r with rfl | ⟨rfl, rfl⟩
        · rcases hk' with rfl | rfl | rfl
          · exact absurd (.inl rfl) no
          · exact absurd (.inr rfl) no
          · exact ⟨e, .inr hk0⟩
        · exact ⟨e, .inl hk0⟩
      have e3 : Vis cenv.scope y := e3
      rcases e3 with e3 | e3 | e3
      · exact key _ e3 (.inl rfl)
      · exact key _ e3 (.inr (.inl rfl))
      · exact key _ e3 (.inr (.inr rfl))
    obtain ⟨m, hn, hl⟩ := I.loc
    have hvis : Vis X.env.scope y := (ok.free _ (PySem.mem_of_lookup hfr.1) rfl).elim (fun k => .inr (.inl k)) (fun k => .inr (.inr k))
    obtain ⟨w, r, q⟩ := hl i y av e1 e2 hvis
    refine ⟨w, r, .inr ⟨hfr.2, ?_⟩⟩
    obtain ⟨c, h1, h2⟩ := look hfr.1
    rcases q with ⟨k, _⟩ | ⟨_, c', e', z⟩
    · have k : X.env.scope.names.lookup y = some .local := k
      rcases ok.free _ (PySem.mem_of_lookup hfr.1) rfl with k' | k' <;> rw [show X.env.scope.names.lookup y = _ from k'] at k <;> cases k
    · rw [h2] at e'; cases e'
      exact ⟨c, h1, z.keeps kp⟩
  · have e : cenv.cells.lookup y = some c := e
    rcases mem e with ⟨h1, _⟩ | ⟨_, z⟩
    · obtain ⟨w, z⟩ := I.cell y c h1
      exact ⟨w, z.keeps kp⟩
    · exact ⟨_, z⟩
  · show H cenv.locals = none
    rw [hL]; exact I.hok.fresh (Nat.le_refl _)
  · have e : cenv.cells.lookup y = some c := e
    rcases mem e with ⟨h1, _⟩ | ⟨h1, _⟩
    · exact I.freeC y c h1
    · exact I.hok.fresh (Nat.le_of_succ_le h1)
  · exact absurd (show p ∈ ([] : List (Addr × Obj)) ++ [] from hp) (by simp)

/-- an item appended to a tracked list -/
theorem app_ok {E : Value → Shared → Prop} {D : Addr} {xs : List V} {y : V} {v : Value} {Q : Value → Shared → Prop} (I : Inv X pins σ H s) (hD : H D = some (.lst xs)) (hz : xs.length < sizeLine) (r : RelV y v)
    (h : ∀ s', Inv X pins σ (upd H D (.lst (xs ++ [y]))) s' → Q .none s') : wpAny (model X.prog X.w) X.A (call (.builtin "list.append") [.ref D, v]) Q E s := by
  obtain ⟨hz', its, n, ri, e⟩ := I.hok D _ hD
  have hl := ri.length
  refine append_at (hsz := by rw [List.size_toArray]; omega) e fun h' sb ho' => ?_
  refine h { s with heap := h' } (I.write (t' := s.toks) (by rw [hD]; trivial) (.inl rfl) (fun b u hb q => (sb.2 b hb).trans q) ⟨_, ho'⟩ ⟨by rw [List.length_append]; exact hz, its ++ [v], n + 1, ri.append (.cons r .nil), ?_⟩)
  rw [ho']
  simp

/-- a clause's tests -/
def PTs (X : Cx) (ifs : List Expr) (t : TT) : Prop :=
  ∀ (pins : List (Addr × Obj)) (s : Shared) (σ : St) (H : Hp) (Q : Bool → Hp → Prop), Inv X pins σ H s → t σ H Q →
    wpAny (model X.prog X.w) X.A (forIn ifs true fun c r => if r = true then do let ok ← isTrue c X.env (eval c X.env); pure (ForInStep.yield ok) else pure (ForInStep.yield r)) (TP X pins σ Q) X.xe s
def tYes : TT := fun _ H Q => Q true H
theorem pts_nil : PTs X [] tYes := fun _ _ _ H _ I h => wpAny_tests_nil ⟨H, I, h⟩
theorem pts_one {c : Expr} {t : TT} (h : PT X c t) : PTs X [c] t := fun pins s σ H Q I hw => wpAny_tests_one (h pins s σ H Q I hw)
end

theorem thnF {α : Type} {t : Sem α} {Q Q' : α → Shared → Prop} {M : Model} {A : Around} {E : Value → Shared → Prop} {s : Shared} (h : wpAny M A t Q (fun _ _ => False) s) (hQ : ∀ a s, Q a s → Q' a s) : wpAny M A t Q' E s := wpAny_mono h hQ fun _ _ z => False.elim z

/-- the loop of a list comprehension's block, the target of any form (codeAny_compLoop_tests asks a target that no tuple goes to; statement and proof follow it, PyProof/CompMap.lean:41-61, with the step letOwnedTupleGo kept) -/
theorem compLoop_any {prog : Program} {w : World} {A : Around} {R : Result → Shared → Prop} {s : Shared} {elt target iter : Expr} {ifs : List Expr} {scope : Scope} {pos : Pos} {it acc : Value} {env : Env} (I : Nat → Shared → Prop)
    (turn : ∀ n s, I n s → wpAny (model prog w) A (pyNext it) (fun r s₁ => match r with
      | none => R (.ok .next) s₁
      | some v => wpAny (model prog w) A (letOwnedTupleGo target it v) (fun _ s₁' => wpAny (model prog w) A (assign target env v) (fun _ s₂ =>
          wpAny (model prog w) A (forIn ifs true fun c r => if r = true then do let ok ← isTrue c env (eval c env); pure (ForInStep.yield ok) else pure (ForInStep.yield r)) (fun ok s₃ =>
            if ok = true then wpAny (model prog w) A (eval elt env) (fun x s₄ =>
              wpAny (model prog w) A (call (.builtin "list.append") [acc, x]) (fun _ s₅ => ∃ m, m < n ∧ I m s₅) (notedBy (model prog w) A env fun e s' => R (.error e) s') s₄) (notedBy (model prog w) A env fun e s' => R (.error e) s') s₃
            else ∃ m, m < n ∧ I m s₃) (notedBy (model prog w) A env fun e s' => R (.error e) s') s₂) (notedBy (model prog w) A env fun e s' => R (.error e) s') s₁') (notedBy (model prog w) A env fun e s' => R (.error e) s') s₁) (notedBy (model prog w) A env fun e s' => R (.error e) s') s)
    (n : Nat) (h : I n s) :
    codeAny (model prog w) A (.compLoop (.ListComp elt [⟨target, iter, ifs, 0⟩] scope pos) 0 it acc env) R s := by
  refine codeAny_loop rfl I (fun n s hI => ?_) n h
  show wpAny _ A ((compTurn (.ListComp elt [⟨target, iter, ifs, 0⟩] scope pos) 0 it acc env).onRaise (fun x => do noteFrame x env; theTreesLotGoes x)) _ _ s
  refine wpAny_noted ?_
  rw [compTurn_list]
  refine wpAny_bind (wpAny_standAt (wpAny_bind (wpAny_mono (turn n s hI) (fun r s₁ h₁ => ?_) fun _ _ h' => h')))
  cases r with
  | none => exact wpAny_pure h₁
  | some v =>
    refine wpAny_bind (wpAny_mono h₁ (fun _ s₁' h₁' => ?_) fun _ _ h' => h')
    refine wpAny_bind (wpAny_mono h₁' (fun _ s₂ h₂ => wpAny_bind (wpAny_mono h₂ (fun ok s₃ h₃ => ?_) fun _ _ h' => h')) fun _ _ h' => h')
    cases ok with
    | false => exact wpAny_pure ⟨rfl, h₃⟩
    | true =>
      exact wpAny_bind (wpAny_bind (wpAny_mono h₃ (fun x s₄ h₄ => wpAny_bind (wpAny_mono h₄ (fun _ s₅ h₅ => wpAny_pure (wpAny_pure ⟨rfl, h₅⟩)) fun _ _ h' => h')) fun _ _ h' => h'))

section
variable {X : Cx}
/-- [elt for target in iter if ..]: D the new list; W by the turn and a measure, Nx what a turn is to reach -/
def tLc (wi : TI) (g : TG) (tt : TT) (te : TE) (vs : List Nat) : TE := fun σ H Q => wi σ H fun J H1 => ∀ D, H1 D = none → ∃ W : Nat → Nat → Hp → Prop, (∃ m, W 0 m (upd H1 D (.lst []))) ∧ ∀ i m H, W i m H →
  (J.stop i H ∧ Q (.ref D) H) ∨ (J.go i H ∧ ∃ Nx : Hp → Prop, (∀ H', Nx H' → ∃ m', m' < m ∧ W (i + 1) m' H') ∧ ∀ x H', J.yld i H x H' → g x (wipe σ vs) H' fun σ2 H2 => wipe σ2 vs = wipe σ vs ∧ tt σ2 H2 fun b H3 =>
    if b = true then te σ2 H3 fun y H4 => ∃ acc, H4 D = some (.lst acc) ∧ acc.length < sizeLine ∧ Nx (upd H4 D (.lst (acc ++ [y]))) else Nx H3)
theorem lc_core {pins : List (Addr × Obj)} {s : Shared} {σ : St} {H : Hp} {Q : VK} {elt tg iter : Expr} {ifs : List Expr} {scope : Scope} {own : List (Str × Nat)} {pos pos' : Pos} {wi : TI} {g : TG} {tt : TT} {te : TE} {use : Option (Value → Sem Unit)} {Qf : Value → Shared → Prop}
    (hc : X.calm = true) (hN : X.N.Nodup) (I : Inv X pins σ H s) (hi : PI X tg iter wi) (ok : BlkOk X.N X.env.scope scope own)
    (hg : ∀ (s : Shared) (H : Hp) (C : Addr) (cl : List (Str × Addr)) (fp : List Addr), PG (X.blk s H scope (compEnvC scope cl C X.env) fp) tg g) (ht : ∀ (s : Shared) (H : Hp) (C : Addr) (cl : List (Str × Addr)) (fp : List Addr), PTs (X.blk s H scope (compEnvC scope cl C X.env) fp) ifs tt)
    (he : ∀ (s : Shared) (H : Hp) (C : Addr) (cl : List (Str × Addr)) (fp : List Addr), PE (X.blk s H scope (compEnvC scope cl C X.env) fp) elt te) (hs : ∀ x, foldedSetIterable iter X.env x = pure x)
    (h : tLc wi g tt te (own.map (·.2)) σ H Q)
    (hRR : ∀ D C s' m H', Inv X pins σ H' s' → Q (.ref D) H' → s'.heap.Ns C m → FpOk X pins H' C → compPost (model X.prog X.w) X.A X.xe use Qf (.ref D) C (.ok .next) s') :
    wpAny (model X.prog X.w) X.A (comprehension (.ListComp elt [⟨tg, iter, ifs, 0⟩] scope pos) scope X.env pos' (newList []) false (eval iter X.env) use) Qf X.xe s := by
  have hfree : ∀ y ∈ scope.names, y.2 = .free → ∃ c, X.env.cells.lookup y.1 = some c := fun y hy e => by
    rcases ok.free y hy e with k | k
    · exact I.ok.has _ (.inl k)
    · exact I.ok.has _ (.inr k)
  refine wpAny_comprehension_free (use := use) rfl hs (closure_ok hfree) ok.kind (fun y hy e => by rw [ok.uniq y hy, e])
    (thn (hi pins s σ H _ I h) fun xv s1 hx => thn hx fun itv s2 h2 => ?_)
  obtain ⟨it, fp, tn, J, H2, e, I2, T, st2, f2, q⟩ := h2
  subst e
  refine wpAny_newObj_type (newEnv_comp ?_) (by show 0 ≤ sizeLine; decide)
  generalize hD : s2.heap.objs.size = D
  have hDn : H2 D = none := I2.hok.fresh (Nat.le_of_eq hD)
  obtain ⟨W, ⟨m0, w0⟩, turn⟩ := q D hDn
  -- the new list
  generalize hs3 : ({ s2 with heap := s2.heap.push { cls := .type "list", data := .seq ([] : List Value).toArray } } : Shared) = s3
  have I3 : Inv X pins σ (upd H2 D (.lst [])) s3 := by
    rw [← hs3]
    refine I2.laid (t' := s2.toks) (fun b o e => Heap.get?_push_of_some _ e) (Nat.le_of_eq hD) ⟨Nat.zero_le _, [], 0, .nil, ?_⟩
    rw [← hD]
    exact Heap.get?_push_size _ rfl
  have h3 : s3.heap = s2.heap.push { cls := .type "list", data := .seq ([] : List Value).toArray } := by rw [← hs3]
  have sz : ∀ b ∈ fp, b < s2.heap.objs.size := fun b hb => by
    obtain ⟨o, e, _⟩ := T.obj _ _ st2 b hb
    exact Heap.lt_size e
  have f3 : ∀ b ∈ fp, FpOk X pins (upd H2 D (.lst [])) b ∧ b < s3.heap.objs.size := fun b hb => by
    have hlt := sz b hb
    refine ⟨⟨?_, (f2 b hb).2⟩, by rw [h3, Heap.size_push]; exact Nat.lt_succ_of_lt hlt⟩
    rw [upd_ne (by rw [← hD]; exact Nat.ne_of_lt hlt)]
    exact (f2 b hb).1
  have st3 : tn 0 s3.heap := T.keep _ _ _ st2 fun b _ o e => by rw [h3]; exact Heap.get?_push_of_some _ e
  have I4 := block_start I3 ok hN f3
  have pg := hg s3 (upd H2 D (.lst [])) s3.heap.objs.size (cellsFrom (s3.heap.objs.size + 1) scope.names (cloFrom X.env.cells scope.names [])) fp
  have pt := ht s3 (upd H2 D (.lst [])) s3.heap.objs.size (cellsFrom (s3.heap.objs.size + 1) scope.names (cloFrom X.env.cells scope.names [])) fp
  have pe := he s3 (upd H2 D (.lst [])) s3.heap.objs.size (cellsFrom (s3.heap.objs.size + 1) scope.names (cloFrom X.env.cells scope.names [])) fp
  show codeAny _ _ (.compStart (.ListComp elt [⟨tg, iter, ifs, 0⟩] scope pos) 0 (.ref it) (.ref D) (compEnvC scope (cellsFrom (s3.heap.objs.size + 1) scope.names (cloFrom X.env.cells scope.names [])) s3.heap.objs.size X.env)) (compPost (model X.prog X.w) X.A X.xe use Qf (.ref D) s3.heap.objs.size) { s3 with heap := pushCells (s3.heap.push { cls := .type "dict", data := .dict #[] }) scope.names }
  have nfp : ∀ b ∈ fp, (upd H2 D (.lst [])) b = none := fun b hb => (f3 b hb).1.1
  generalize hce : compEnvC scope (cellsFrom (s3.heap.objs.size + 1) scope.names (cloFrom X.env.cells scope.names [])) s3.heap.objs.size X.env = ce at I4 pg pt pe ⊢
  have cL : ce.locals = s3.heap.objs.size := by subst hce; rfl
  generalize hH3 : upd H2 D (.lst []) = H3 at I3 I4 pg pt pe w0 nfp f3
  generalize hs4 : ({ s3 with heap := pushCells (s3.heap.push { cls := .type "dict", data := .dict #[] }) scope.names } : Shared) = s4 at I4 ⊢
  have st4 : tn 0 s4.heap := T.keep _ _ _ st3 fun b _ o e => by rw [← hs4]; exact pushCells_keeps _ _ _ _ (Heap.get?_push_of_some _ e)
  have stat : ∀ {σ' : St} {H' : Hp} {s' : Shared}, Inv (X.blk s3 H3 scope ce fp) [] σ' H' s' → (∀ b ∈ fp, H' b = none) → ∀ b ∈ fp, FpOk (X.blk s3 H3 scope ce fp) [] H' b := fun {σ' H' s'} I' hn b hb =>
    ⟨hn b hb, (I'.ok.exf b hb).1, I'.ok.exfs b hb, .inl hb, fun x c e => (I'.ok.exf b hb).2 x c e, fun p hp => absurd (show p ∈ ([] : List (Addr × Obj)) ++ [] from hp) (by simp)⟩
  have loop : codeAny (model X.prog X.w) X.A (.compLoop (.ListComp elt [⟨tg, iter, ifs, 0⟩] scope pos) 0 (.ref it) (.ref D) ce) (compPost (model X.prog X.w) X.A X.xe use Qf (.ref D) s3.heap.objs.size) s4 := by
    refine compLoop_any (fun n s' => ∃ i H', Inv (X.blk s3 H3 scope ce fp) [] (wipe σ (own.map (·.2))) H' s' ∧ tn i s'.heap ∧ (∀ b ∈ fp, H' b = none) ∧ W i n H') ?_ m0 ⟨0, H3, I4, st4, nfp, w0⟩
    rintro n s5 ⟨i, H5, I5, st5, n5, w5⟩
    rcases turn i n H5 w5 with ⟨stop, qq⟩ | ⟨go, Nx, hNx, step⟩
    · have td := T.done (X.blk s3 H3 scope ce fp) rfl rfl rfl hc i [] s5 _ H5 (fun _ _ => False) I5 (stat I5 n5) st5 stop
      refine thnF td fun r s6 ⟨hr, I6⟩ => ?_
      subst hr
      -- back in the def's context
      have I7 : Inv X pins σ H5 s6 := I3.call' (ch := fp) I6.os I6.base I6.hok I6.bare fun b hb => ⟨(f3 b hb).1.2.2.2.1, (f3 b hb).1.2.1, (f3 b hb).1.2.2.2.2.1, (f3 b hb).1.2.2.2.2.2⟩
      have nC : H5 s3.heap.objs.size = none := by
        have z : H5 ce.locals = none := I6.free
        rw [cL] at z
        exact z
      obtain ⟨m, hn, _⟩ := I6.loc
      have hn : s6.heap.Ns ce.locals m := hn
      rw [cL] at hn
      exact hRR D s3.heap.objs.size s6 m H5 I7 qq hn (I3.fpOk (Nat.le_refl _) nC)
    · have ti := T.item (X.blk s3 H3 scope ce fp) rfl rfl rfl hc i [] s5 _ H5 (fun _ _ => False) I5 (stat I5 n5) st5 go
      refine thnF ti fun r s6 ⟨u, hr, h6⟩ => ?_
      subst hr
      refine thnF h6 fun _ s7 ⟨x, H7, I7, r7, y7, st7, n7⟩ => ?_
      have I7' := I7.pinned (stat I7 n7) (T.obj _ _ st7)
      refine thnF (pg _ s7 _ H7 x u _ I7' r7 (step x H7 y7)) fun _ s8 ⟨σ8, H8, I8, hw8, q8⟩ => ?_
      refine thnF (pt _ s8 σ8 H8 _ I8 q8) fun b s9 ⟨H9, I9, q9⟩ => ?_
      -- the turn's end
      have fin : ∀ {s' : Shared} {H' : Hp}, Inv (X.blk s3 H3 scope ce fp) ([] ++ pinsAt fp s7.heap) σ8 H' s' → Nx H' → ∃ m, m < n ∧ ∃ i H', Inv (X.blk s3 H3 scope ce fp) [] (wipe σ (own.map (·.2))) H' s' ∧ tn i s'.heap ∧ (∀ b ∈ fp, H' b = none) ∧ W i m H' := fun {s' H'} I' nx => by
        obtain ⟨m', hm, w'⟩ := hNx H' nx
        have pin' : ∀ b ∈ fp, ∀ o, s7.heap.get? b = some o → s'.heap.get? b = some o ∧ H' b = none := fun b hb o e =>
          let z := I'.pin (b, o) (List.mem_append_right _ (List.mem_append_right _ (mem_pinsAt hb e)))
          ⟨z.1, z.2.1⟩
        have hl : (wipe σ (own.map (·.2))).length = σ8.length := by rw [← hw8, wipe_length]
        refine ⟨m', hm, i + 1, H', (I'.unpinned (pins := [])).weak hl (fun j v e => ?_), T.keep _ _ _ st7 fun b hb o e => (pin' b hb o e).1, fun b hb => ?_, w'⟩
        · rw [← hw8] at e
          exact (wipe_some e).1
        · obtain ⟨o, e, _⟩ := T.obj _ _ st7 b hb
          exact (pin' b hb o e).2
      cases b with
      | false =>
        simp only [Bool.false_eq_true, if_false] at q9 ⊢
        exact fin I9 q9
      | true =>
        simp only [if_true] at q9 ⊢
        refine thnF (pe _ s9 σ8 H9 _ I9 q9) fun z s10 ⟨yv, H10, I10, r10, acc, hD10, hz10, nx⟩ => ?_
        exact app_ok (X := X.blk s3 H3 scope ce fp) I10 hD10 hz10 r10 fun s11 I11 => fin I11 nx
  exact codeAny_compStart_list loop (T.self X.A 0 _ _ _ st4 loop)
/-- as a value -/
theorem pe_lc {elt tg iter : Expr} {ifs : List Expr} {scope : Scope} {own : List (Str × Nat)} {pos : Pos} {wi : TI} {g : TG} {tt : TT} {te : TE} (hc : X.calm = true) (hN : X.N.Nodup) (hi : PI X tg iter wi) (ok : BlkOk X.N X.env.scope scope own)
    (hg : ∀ (s : Shared) (H : Hp) (C : Addr) (cl : List (Str × Addr)) (fp : List Addr), PG (X.blk s H scope (compEnvC scope cl C X.env) fp) tg g) (ht : ∀ (s : Shared) (H : Hp) (C : Addr) (cl : List (Str × Addr)) (fp : List Addr), PTs (X.blk s H scope (compEnvC scope cl C X.env) fp) ifs tt)
    (he : ∀ (s : Shared) (H : Hp) (C : Addr) (cl : List (Str × Addr)) (fp : List Addr), PE (X.blk s H scope (compEnvC scope cl C X.env) fp) elt te) (hs : ∀ x, foldedSetIterable iter X.env x = pure x := by intro _; rfl) :
    PE X (.ListComp elt [⟨tg, iter, ifs, 0⟩] scope pos) (tLc wi g tt te (own.map (·.2))) := by
  intro pins s σ H Q I h
  rw [eval_ListComp]
  refine lc_core hc hN I hi ok hg ht he hs h fun D C s' m H' I' q hn f => ⟨m, hn, fun h'' sb => ?_⟩
  obtain ⟨f0, f1, f2, f3, f4, f5⟩ := f
  exact ⟨.ref D, H', I'.turned (t' := s'.toks) (fun b o hb e => (sb.2 b hb).trans e) f0 f1 f3 f4 f5, rfl, q⟩
/-- name = [..] on one line, the name a local -/
theorem ps_setLc {i : Nat} {y : Str} {py : Pos} {elt tg iter : Expr} {ifs : List Expr} {scope : Scope} {own : List (Str × Nat)} {pos spos : Pos} {wi : TI} {g : TG} {tt : TT} {te : TE} (hc : X.calm = true) (hN : X.N.Nodup) (hy : X.N[i]? = some y) (hyl : X.env.scope.names.lookup y = some .local)
    (hsw : swapsWith (.ListComp elt [⟨tg, iter, ifs, 0⟩] scope pos) (some (.Name y py)) spos.line X.env = pure true) (hi : PI X tg iter wi) (ok : BlkOk X.N X.env.scope scope own)
    (hg : ∀ (s : Shared) (H : Hp) (C : Addr) (cl : List (Str × Addr)) (fp : List Addr), PG (X.blk s H scope (compEnvC scope cl C X.env) fp) tg g) (ht : ∀ (s : Shared) (H : Hp) (C : Addr) (cl : List (Str × Addr)) (fp : List Addr), PTs (X.blk s H scope (compEnvC scope cl C X.env) fp) ifs tt)
    (he : ∀ (s : Shared) (H : Hp) (C : Addr) (cl : List (Str × Addr)) (fp : List Addr), PE (X.blk s H scope (compEnvC scope cl C X.env) fp) elt te) (hs : ∀ x, foldedSetIterable iter X.env x = pure x := by intro _; rfl) :
    PS X (.Assign [.Name y py] (.ListComp elt [⟨tg, iter, ifs, 0⟩] scope pos) spos) (tAsg (tLc wi g tt te (own.map (·.2))) (gName i)) := by
  intro pins s σ H D I h
  rw [exec_Assign_Name_used _ _ _ _ hsw]
  refine wpAny_bind (wpAny_standAt (wpAny_bind ?_))
  show wpAny _ X.A (do let _ ← comprehension (.ListComp elt [⟨tg, iter, ifs, 0⟩] scope pos) scope X.env (firstIterPos [⟨tg, iter, ifs, 0⟩] pos) (newList []) false (eval iter X.env) (some (assign (.Name y py) X.env))) _ _ s
  have h : tLc wi g tt te (own.map (·.2)) σ H (fun x H1 => gName i x σ H1 D.nx) := h
  refine wpAny_bind (thn (lc_core (Qf := fun _ s' => SP X pins D .next s') hc hN I hi ok hg ht he hs h fun L C s' m H' I' q hn f => ?_) fun _ s' hq => wpAny_pure (wpAny_pure hq))
  show wpAny _ _ (assign (.Name y py) X.env (.ref L)) _ _ _
  refine wpAny_assign_Name (store_ok2 (v := V.ref L) I' hN hy (.inl hyl) rfl (fun s2 I2 ⟨a, sb, ha⟩ => ?_) (.inr hyl))
  obtain ⟨f0, f1, f2, f3, f4, f5⟩ := f
  have haC : C ≠ a := by
    rcases ha with z | z
    · rw [z]; exact f1
    · exact fun e => f4 y a z e.symm
  refine ⟨m, hn.sameBut sb haC, fun h3 sb3 => ?_⟩
  exact ⟨_, H', I2.turned (t' := s2.toks) (fun b o hb e => (sb3.2 b hb).trans e) f0 f1 f3 f4 f5, q⟩
theorem sw_true {elt : Expr} {gs : List Comprehension} {scope : Scope} {pos py : Pos} {y : Str} {l : Nat} {env : Env} (hk : env.scope.kind = .function) (hy : env.scope.names.lookup y = some .local) (hl : (py.line == pos.line) = true)
    (ha : (scope.names.any fun (n, k) => n == y && (k == .local || k == .cell)) = false) : swapsWith (.ListComp elt gs scope pos) (some (.Name y py)) l env = pure true := by
  have ky : env.kindOf y = some .local := hy
  have hb : env.blockKind = .function := by unfold Env.blockKind; rw [hk]; rfl
  unfold swapsWith
  simp only [hb, ky, ha, Expr.pos, hl]
  rfl
end

/-! ### the forms one uses -/
/-- over a range: Pv by the turn and the heap (the new list at D within) -/
theorem lc_range {lo : Int} {n : Nat} {g : TG} {tt : TT} {te : TE} {vs : List Nat} {σ : St} {H1 : Hp} {D : Addr} {Qd : Hp → Prop} (Pv : Nat → Hp → Prop) (h0 : Pv 0 (upd H1 D (.lst [])))
    (hs : ∀ i H, i < n → Pv i H → g (.int (lo + i)) (wipe σ vs) H fun σ2 H2 => wipe σ2 vs = wipe σ vs ∧ tt σ2 H2 fun b H3 =>
      if b = true then te σ2 H3 fun y H4 => ∃ acc, H4 D = some (.lst acc) ∧ acc.length < sizeLine ∧ Pv (i + 1) (upd H4 D (.lst (acc ++ [y]))) else Pv (i + 1) H3) (hd : ∀ H, Pv n H → Qd H) :
    ∃ W : Nat → Nat → Hp → Prop, (∃ m, W 0 m (upd H1 D (.lst []))) ∧ ∀ i m H, W i m H →
      ((Itr lo n).stop i H ∧ Qd H) ∨ ((Itr lo n).go i H ∧ ∃ Nx : Hp → Prop, (∀ H', Nx H' → ∃ m', m' < m ∧ W (i + 1) m' H') ∧ ∀ x H', (Itr lo n).yld i H x H' → g x (wipe σ vs) H' fun σ2 H2 => wipe σ2 vs = wipe σ vs ∧ tt σ2 H2 fun b H3 =>
        if b = true then te σ2 H3 fun y H4 => ∃ acc, H4 D = some (.lst acc) ∧ acc.length < sizeLine ∧ Nx (upd H4 D (.lst (acc ++ [y]))) else Nx H3) := by
  refine ⟨fun i m H => m = n - i ∧ i ≤ n ∧ Pv i H, ⟨n, by simp, Nat.zero_le _, h0⟩, ?_⟩
  rintro i m H ⟨rfl, hi, p⟩
  by_cases hlt : i < n
  · refine .inr ⟨hlt, Pv (i + 1), fun H' p' => ⟨n - (i + 1), by omega, rfl, hlt, p'⟩, fun x H' y => ?_⟩
    obtain ⟨e, y⟩ := y
    subst e y
    exact hs i _ hlt p
  · have e : i = n := by omega
    subst e
    exact .inl ⟨Nat.le_refl _, hd H p⟩
/-- over a list that the block leaves as it is -/
theorem lc_list {K : PySem.W.Frag} {a : Addr} {xs : List V} {g : TG} {tt : TT} {te : TE} {vs : List Nat} {σ : St} {H1 : Hp} {D : Addr} {Qd : Hp → Prop} (Pv : Nat → Hp → Prop) (h0 : Pv 0 (upd H1 D (.lst []))) (hl : ∀ i H, i ≤ xs.length → Pv i H → SqL K H a xs)
    (hs : ∀ i x H, xs[i]? = some x → Pv i H → g x (wipe σ vs) H fun σ2 H2 => wipe σ2 vs = wipe σ vs ∧ tt σ2 H2 fun b H3 =>
      if b = true then te σ2 H3 fun y H4 => ∃ acc, H4 D = some (.lst acc) ∧ acc.length < sizeLine ∧ Pv (i + 1) (upd H4 D (.lst (acc ++ [y]))) else Pv (i + 1) H3) (hd : ∀ H, Pv xs.length H → Qd H) :
    ∃ W : Nat → Nat → Hp → Prop, (∃ m, W 0 m (upd H1 D (.lst []))) ∧ ∀ i m H, W i m H →
      ((Itl K a).stop i H ∧ Qd H) ∨ ((Itl K a).go i H ∧ ∃ Nx : Hp → Prop, (∀ H', Nx H' → ∃ m', m' < m ∧ W (i + 1) m' H') ∧ ∀ x H', (Itl K a).yld i H x H' → g x (wipe σ vs) H' fun σ2 H2 => wipe σ2 vs = wipe σ vs ∧ tt σ2 H2 fun b H3 =>
        if b = true then te σ2 H3 fun y H4 => ∃ acc, H4 D = some (.lst acc) ∧ acc.length < sizeLine ∧ Nx (upd H4 D (.lst (acc ++ [y]))) else Nx H3) := by
  refine ⟨fun i m H => m = xs.length - i ∧ i ≤ xs.length ∧ Pv i H, ⟨xs.length, by simp, Nat.zero_le _, h0⟩, ?_⟩
  rintro i m H ⟨rfl, hi, p⟩
  have q := hl i H hi p
  by_cases hlt : i < xs.length
  · refine .inr ⟨⟨xs, xs[i], q, by simp [hlt]⟩, Pv (i + 1), fun H' p' => ⟨xs.length - (i + 1), by omega, rfl, hlt, p'⟩, fun x H' y => ?_⟩
    obtain ⟨e, y⟩ := y
    subst e
    exact hs i x _ (y xs q) p
  · have e : i = xs.length := by omega
    subst e
    exact .inl ⟨⟨xs, q, Nat.le_refl _⟩, hd H p⟩
def blkC (N : List Str) (sc scope : Scope) (own : List (Str × Nat)) : Bool :=
  (match scope.kind with | .function => true | _ => false) && (scope.names.all fun y => decide (scope.names.lookup y.1 = some y.2)) && (own.all fun p => decide (N[p.2]? = some p.1)) &&
    (scope.names.all fun y => match y.2 with
      | .free => (match sc.names.lookup y.1 with | some .cell => true | some .free => true | _ => false)
      | .local => decide (y.1 ∈ own.map (·.1)) || decide (y.1 ∉ N)
      | .cell => decide (y.1 ∈ own.map (·.1)) || decide (y.1 ∉ N)
      | _ => true)
theorem blkOk_by {N : List Str} {sc scope : Scope} {own : List (Str × Nat)} (h : blkC N sc scope own = true) : BlkOk N sc scope own := by
  unfold blkC at h
  simp only [Bool.and_eq_true, List.all_eq_true, decide_eq_true_eq] at h
  obtain ⟨⟨⟨h1, h2⟩, h3⟩, h4⟩ := h
  refine ⟨?_, h2, h3, fun y hy e => ?_, fun y hy e => ?_⟩
  · split at h1
    · assumption
    · cases h1
  · have q := h4 y hy
    simp only [e] at q
    split at q <;> first | exact .inl (by assumption) | exact .inr (by assumption) | cases q
  · have q := h4 y hy
    rcases e with e | e <;> (simp only [e, Bool.or_eq_true, decide_eq_true_eq] at q; exact q)
end L2

namespace L2
open PySem PySem.Spec PyProof.Rows


section
variable {prog : Program} {w : World} {A : Around} {R : Result → Shared → Prop} {s : Shared} {elt t0 i0 t1 i1 : Expr} {ifs0 ifs1 : List Expr} {scope : Scope} {pos : Pos} {it acc : Value} {env : Env}
end

section
variable {X : Cx}
end
end L2

namespace L2
open PySem PySem.Spec PyProof.Rows

/-! ### lists of pairs as tables -/
section
variable {κ : Type} [DecidableEq κ]



end


/-! ### a tracked dict, its keys ints and texts or tuples of these -/
theorem kV_is {P : Program} {w : World} {k : Key} {u : Value} (r : RelV (kV k) u) : (mixKind P w).is k u = true := by
  cases k with
  | inl i => obtain ⟨t, e⟩ := (show ∃ t, u = Value.int i t from r); subst e; exact mixKind_int P w i t
  | inr x => obtain ⟨t, e⟩ := (show ∃ t, u = Value.str x t from r); subst e; exact mixKind_str P w x t


section
variable {P : Program} {w : World} {H : Hp} {h : Heap} {a : Addr}
end



section
variable {X : Cx} {pins : List (Addr × Obj)} {σ : St} {H : Hp} {s : Shared} {a : Addr} {y v : V} {u r : Value} {o : Option V} {A : Around} {E : Value → Shared → Prop}


end

section
variable {X : Cx} {pins : List (Addr × Obj)} {σ : St} {H : Hp} {s : Shared} {a : Addr} {kvs : List (Key × V)} {k : Key} {u : Value} {A : Around} {E : Value → Shared → Prop}
end


/-! ### readings and rules -/
/-- the element of a subscription, not a slice -/
def NoSl (i : Expr) : Prop := ∀ ov iv, subscripted i false ov iv = operate [ov, iv] (getItem ov iv)
theorem subD_of {prog : Program} {w : World} {A : Around} {E : Value → Shared → Prop} {s : Shared} {env : Env} {value slice : Expr} {pos : Pos} {T id : String} {Q : Value → Shared → Prop}
    (hl : typeLookup (.type T) "__getitem__" = pure (some (.builtin id))) (hs : NoSl slice)
    (h : wpAny (model prog w) A (eval value env) (fun o s₁ => wpAny (model prog w) A (eval slice env) (fun i s₂ => s₂.TypeIs o T ∧ wpAny (model prog w) A (getItem o i) Q E s₂) E s₁) E s) :
    wpAny (model prog w) A (eval (.Subscript value slice pos) env) Q E s := by
  refine Subscript_ (wpAny_mono h (fun o s₁ h₁ => wpAny_mono h₁ (fun i s₂ h₂ => ?_) fun _ _ x => x) fun _ _ x => x)
  obtain ⟨hT, h₂⟩ := h₂
  unfold subscriptTail
  refine wpAny_bind ?_
  rw [getitemInPython_of_ne hT.not_modules]
  refine wpAny_bind (wpAny_specialOf hT hl ?_)
  have fin : wpAny (model prog w) A (subscripted slice false o i) (fun r s₃ => wpAny (model prog w) A (letTemporaryGo value o r >>= fun _ => pure r) Q E s₃) E s₂ := by
    rw [hs o i]
    exact wpAny_operating (wpAny_mono h₂ (fun r s₃ h₃ => wpAny_bind (wpAny_letTemporaryGo (wpAny_pure h₃))) fun _ _ x => x)
  first
    | exact wpAny_pure (wpAny_bind fin)
    | exact wpAny_bind (wpAny_pure (wpAny_bind fin))
    | exact wpAny_bind fin



section
variable {X : Cx} {o i e value : Expr} {pos pos' tpos : Pos} {td ty tv : TE}
end


/-! ### displays -/
section
variable {X : Cx} {pos : Pos}
end




/-! ### methods -/


section
variable {X : Cx} {pins : List (Addr × Obj)} {σ : St} {H : Hp} {s : Shared} {a : Addr} {y d : V} {u r : Value} {o : Option V} {A : Around} {E : Value → Shared → Prop}
end

section
variable {X : Cx} {o e f : Expr} {apos cpos : Pos} {td ty tx : TE}
end

/-! ### dict(d): a copy -/
section
variable {X : Cx} {pins : List (Addr × Obj)} {σ : St} {H : Hp} {s : Shared} {a : Addr} {kvs : List (Key × V)} {A : Around} {E : Value → Shared → Prop}
end


section
variable {X : Cx} {pins : List (Addr × Obj)} {σ : St} {H : Hp} {s : Shared} {a : Addr} {y : V} {u : Value} {A : Around} {E : Value → Shared → Prop}
end
end L2

namespace L2
open PySem PySem.Spec PyProof.Rows


section
variable {prog : Program} {w : World} {A : Around} {E : Value → Shared → Prop}


end

section
variable {X : Cx}
end
end L2

namespace L2
open PySem PySem.Spec PyProof.Rows


section
variable {X : Cx} {pins : List (Addr × Obj)} {σ : St} {H : Hp} {s : Shared} {h' : Heap}

/-! ### locking a thing while a statement runs -/
end
section
variable {X : Cx}

/-! ### one iterator just laid -/
end

/-! ### range with a step -/
section
variable {X : Cx} {tg : Expr}
end

/-! ### reversed(list) -/
section
variable {X : Cx} {tg : Expr}
end

/-! ### a str -/

/-! ### a dict's keys: any dict's entries -/
section
variable {prog : Program} {w : World} {A : Around} {E : Value → Shared → Prop} {s : Shared}
end

/-! ### a locked dict -/
section
variable {X : Cx} {pins : List (Addr × Obj)} {σ : St} {H : Hp} {s : Shared} {d : Addr} {o : Obj}
end

section
variable {P : Program} {w : World} {K : PySem.W.Frag} {tg : Expr} {d : Addr} {o : Obj} {es : Array DictEntry} {ep : Nat}
end

/-! ### for k in d, d.keys(), d.values(), d.items() -/
section
variable {X : Cx} {tg e : Expr} {td : TE} {apos cpos : Pos}
end

/-! ### enumerate(list) -/
/-! ### zip(list, list) -/
end L2

section 
namespace Bits
open PySem PyProof.Rows








end Bits
end 

section 
namespace TL
open PySem PySem.Builtin PySem.Builtin.Str PySem.StrLaws


/-! ### the list functions -/




/-! ### the model's split and partition are these -/




/-! ### computing spl and par -/


/-! ### digits -/

/-! ### words: x.split() -/
end TL
end 

namespace L2
open PySem PySem.Spec PyProof.Rows




section
variable {X : Cx} {pins : List (Addr × Obj)} {σ : St} {H : Hp} {s : Shared} {Q : VK}
end

section
variable {X : Cx}





/-! ### of a text alone -/

/-! ### of a text and a text -/

end

section
variable {X : Cx} {o e : Expr} {to te : TE}

end
end L2

namespace L2
open PySem PySem.Spec PyProof.Rows

section
variable {X : Cx}
end

/-! ### slices of a text -/


end L2

namespace Att
open PySem PySem.W PySem.Calls PyProof.Rows

/-! ### the script -/
theorem ints_of_wellAll {P : Params} {h : Heap} : ∀ (ns : List Int) (vs : List Value), WellAll P h vs (ns.map WData.int) → IntsAre vs ns := by
  intro ns
  induction ns with
  | nil =>
    intro vs w
    rw [List.map_nil] at w
    cases w
    exact .nil
  | cons n ns ih =>
    intro vs w
    rw [List.map_cons] at w
    cases w with
    | cons a b =>
      cases a
      exact .cons _ _ (ih _ b)



/-! ### the attachment: holds_open's last premise (the goal 'hc' behind k_head) from a wpAny of the law's body -/



/-! ### rules over ANY heap (no ledger) from facts about the written part K: the library's own take a ledger (News) for what they write -/
section
variable {prog : Program} {w : World} {A : Around} {E : Value → Shared → Prop} {s : Shared} {K : Frag}





/-! the whole heap as the ledger: makes every rule that writes through a ledger a rule over any heap -/

end
end Att

namespace L2
open PySem PySem.Spec PyProof.Rows

theorem vals_ints : ∀ {vs : List Value} {ns : List Int}, IntsAre vs ns → Vals (ns.map V.int) vs
  | _, _, .nil => .nil
  | _, _, .cons n t h => .cons ⟨t, rfl⟩ (vals_ints h)

/-- nothing is tracked but the script, known to the object (or it is an object of the module) -/
def Only (H : Hp) : Prop := ∀ b, H b = none ∨ ∃ o xs, H b = some (.frz o (.lst xs))

end L2

namespace L2
open PySem PySem.Spec PyProof.Rows


end L2

/- THE LAST THEOREM (shape; LID, My.* are yours):
   My.Adr: a structure of the addresses that your layer names (classes, functions); My.Txt K t: a structure (Prop) of the equations over K;
   My.txt_mk : {K} {implicit addresses ..} (e1 : nsIn K mainGlobals "law" = some (some (.ref f))) (e2 : K.lookup f = some ⟨oc, od, .func (fnOf "law" "law" params body scope dV kV doc pm an cdv ct), sl⟩) (e3 : codeIn K cdv "law" = true) .. : ∃ t, My.Txt K t

set_option maxRecDepth 100000 in
set_option maxHeartbeats 0 in
theorem PySem.Challenge.cw_LID_holds : PySem.Challenge.rw_LID.Holds := by
  w_on; o_law; k_head; (case hw => w_witness2)
  k_fill
  refine L2.walk_of (l := PySem.Challenge.rw_LID) (n := 63) (k := 40) (x := "script") (CX := fun w => ..) (sp := fun _ => My.sp_law) rfl (by decide) rfl ⟨rfl, by decide, by decide⟩ (fun w h Y => PySem.W.kIn_of Y) ?F ?S ?C
  case F =>
    intro w mg fa h KX G hmg
    have T : ∃ t, My.Txt (L2.KOf KX) t := by
      dsimp only [L2.KOf]                          -- K must stand as «<heap const> w.params» for k_is
      refine' My.txt_mk ?e1 ?e2 ?e3 ..
      (case e1 => PySem.W.k_is)                    -- in the order: a name -> its address -> its object -> its parts
      (case e2 => PySem.W.k_is)
      ..
    obtain ⟨t, T⟩ := T
    have e0 := hmg.symm.trans (PySem.W.mg_of KX G T.law)
    cases e0                                       -- fa is the law's own address
    exact ⟨_, fun s u => .of_eq rfl, fun base kb nb => My.law_fn T kb nb⟩     -- if «.of_eq rfl» comes too early: refine' ⟨_, ?b, fun base kb nb => My.law_fn T kb nb⟩; exact fun s u => .of_eq rfl
  case S => exact fun w H a ns hl hO hS => ..
  case C => exact ..
(the tactic k_is has no namespace: write k_is) -/

/-! SHORT WORDS over the layer: a def of the text, its body, what a loop and a test want. -/
namespace L2
open PySem PySem.Spec PyProof.Rows

/-! ### the text by places -/
/-- the j-th statement of a class's body -/
def inClass (s : Stmt) (j : Nat) : Stmt := match s with
  | .ClassDef _ _ _ body _ _ _ _ _ _ _ => body.getD j (.Pass ⟨0, 0, 0, 0⟩)
  | _ => .Pass ⟨0, 0, 0, 0⟩
def defArgs (s : Stmt) : Arguments := match s with
  | .FunctionDef _ a _ _ _ _ _ _ _ _ => a
  | _ => { posonlyargs := [], args := [], vararg := none, kwonlyargs := [], kw_defaults := [], kwarg := none, defaults := [] }
def defBody (s : Stmt) : List Stmt := match s with
  | .FunctionDef _ _ b _ _ _ _ _ _ _ => b
  | _ => []
def defScope (s : Stmt) : Scope := match s with
  | .FunctionDef _ _ _ _ _ _ sc _ _ _ => sc
  | _ => { kind := .function, names := [], isGenerator := false, isCoroutine := false }

/-! ### no exception leaves a def -/
abbrev CX0 : CXT := fun _ _ _ _ _ _ => False
abbrev E0 : XK := fun _ _ _ => False
theorem pass0 {X : Cx} : Passes CX0 X E0 := fun _ _ _ _ _ _ _ h => h.elim

/-! ### a def (or method) of the text as it stands behind the top -/
structure Fun (K : PySem.W.Frag) (x qual : Str) (st : Stmt) (f : Addr) (fd : FuncData) : Prop where
  ex : ∃ (oc : Value) (od : Option Addr) (kV doc pm : Value) (an : Option Addr) (cdv ct : Value) (osl : Array (Option Value)),
    fd = PySem.W.fnOf x qual (defArgs st) (defBody st) (defScope st) .none kV doc pm an cdv ct ∧ K.lookup f = some ⟨oc, od, .func fd, osl⟩ ∧ PySem.W.codeIn K cdv qual = true
  kp : PySem.W.keepIn K (.ref f) = true
section
variable {P : Program} {w : World} {K : PySem.W.Frag} {mg : Str → Option Value} {base : Heap}
/-- THE RULE for a def: its body as a term of rules, and the reading of that term -/
theorem Fun.ok {x qual : Str} {st : Stmt} {f : Addr} {fd : FuncData} {N ps : List Str} {k : Nat} {sp : Sp} (F : Fun K x qual st f fd) (S : FnScope N ps (defScope st)) (len : ∀ vs H Q E, sp vs H Q E → vs.length = ps.length)
    (hbody : ∀ (cdv : Value) (A : Around) (outer : List Env) (s : Shared) (H : Hp) (vs : List V) (Q : VK) (E : XK), Room k (A.deeper (envOfC qual (defScope st) s.heap.objs.size f cdv)) → sp vs H Q E →
      ∃ t, PSs (cxOf CX0 P w K mg base N qual (defScope st) f cdv A outer s H E).nox (defBody st) t ∧ t { nx := fun _ H' => Q .non H', rt := Q } (start N vs) H) : FnOk P w K mg base CX0 (k + 1) f fd ps sp := by
  obtain ⟨oc, od, kV, doc, pm, an, cdv, ct, osl, rfl, lk, hcd⟩ := F.ex
  refine fn_of lk hcd S len fun A outer s H vs Q E hr hsp => ?_
  obtain ⟨t, h, q⟩ := hbody cdv A outer s H vs Q E hr hsp
  exact ⟨t, h.nox, q⟩
/-- how its arguments bind (no defaults): h is «fun _ _ _ _ _ _ us hl => match us, hl with | [_, _], _ => rfl», one _ a parameter -/
theorem Fun.binds {x qual : Str} {st : Stmt} {f : Addr} {fd : FuncData} {ps : List Str} (F : Fun K x qual st f fd)
    (h : ∀ (kV doc pm : Value) (an : Option Addr) (cdv ct : Value) (us : List Value), us.length = ps.length → bindArgs (PySem.W.fnOf x qual (defArgs st) (defBody st) (defScope st) .none kV doc pm an cdv ct) ⟨us, []⟩ = pure (ps.zip us)) : Binds K fd ps [] := by
  obtain ⟨oc, od, kV, doc, pm, an, cdv, ct, osl, rfl, lk, hcd⟩ := F.ex
  exact .all (h kV doc pm an cdv ct)
theorem fun_mk {x qual : Str} {st : Stmt} {f : Addr} {oc : Value} {od an : Option Addr} {osl : Array (Option Value)} {kV doc pm cdv ct : Value} (l : K.lookup f = some ⟨oc, od, .func (PySem.W.fnOf x qual (defArgs st) (defBody st) (defScope st) .none kV doc pm an cdv ct), osl⟩)
    (c : PySem.W.codeIn K cdv qual = true) (k : PySem.W.keepIn K (.ref f) = true) : Fun K x qual st f (PySem.W.fnOf x qual (defArgs st) (defBody st) (defScope st) .none kV doc pm an cdv ct) := ⟨⟨oc, od, kV, doc, pm, an, cdv, ct, osl, rfl, l, c⟩, k⟩
end

/-! ### expressions in short: the name that stands in the i-th slot -/
section
variable {X : Cx}
theorem pv (i : Nat) {x : Str} {pos : Pos} (hN : X.N[i]? = some x := by rfl) (hv : Vis X.env.scope x := by first | exact Or.inl rfl | exact Or.inr (Or.inl rfl) | exact Or.inr (Or.inr rfl)) (hd : (x == ("__debug__" : Str)) = false := by decide)
    (hcd : (x == ("__classdict__" : Str)) = false := by decide) : PE X (.Name x pos) (tVar i) := pe_var hN hv hd hcd
end

/-! ### tests -/
theorem iteF {A B : Prop} (h : B) : if false = true then A else B := by
  rw [if_neg Bool.false_ne_true]
  exact h
theorem iteT {A B : Prop} (h : A) : if true = true then A else B := by
  rw [if_pos rfl]
  exact h
theorem ite2 {c A B : Prop} [Decidable c] (h1 : c → A) (h2 : ¬ c → B) : if c then A else B := by
  by_cases h : c
  · rw [if_pos h]
    exact h1 h
  · rw [if_neg h]
    exact h2 h

/-! ### heaps -/
/-- all that was tracked is as it was -/
def Same (H H' : Hp) : Prop := ∀ b o, H b = some o → H' b = some o
theorem Same.refl (H : Hp) : Same H H := fun _ _ h => h
theorem Same.trans {H H1 H2 : Hp} (a : Same H H1) (b : Same H1 H2) : Same H H2 := fun c o h => b c o (a c o h)
theorem Same.free {H H' : Hp} (e : Same H H') {l : Addr} (h : H' l = Option.none) : H l = Option.none := by
  cases q : H l with
  | none => rfl
  | some o =>
    rw [e l o q] at h
    cases h
theorem Same.seq {K : PySem.W.Frag} {H H' : Hp} {a : Addr} {xs : List V} (e : Same H H') (h : SqL K H a xs) : SqL K H' a xs := by
  rcases h with (h | ⟨o, h⟩) | h
  · exact .inl (.inl (e _ _ h))
  · exact .inl (.inr ⟨o, e _ _ h⟩)
  · exact .inr h

/-! ### a dict's pairs: keys that differ -/
section
variable {κ : Type} [DecidableEq κ]
end
/-! ### lists -/
/-- a new instance and its __init__ leave all that was tracked as it was -/
theorem Same.made {H H1 : Hp} {x dx C : Addr} (nx : H x = Option.none) (nd : H dx = Option.none) (k : ∀ b o, (upd (upd H dx (.own x)) x (.ins C dx [])) b = some o → b ≠ x → H1 b = some o) : Same H H1 := fun b o e =>
  k b o (by rw [upd_ne (ne_of_none e nx), upd_ne (ne_of_none e nd)]; exact e) (ne_of_none e nx)
end L2
end
section
namespace L2
open PySem PySem.Spec PyProof.Rows
/-! ### names of the top -/
def GI (mg : Str → Option Value) (x : Str) (i : Int) : Prop := ∃ t, mg x = some (.int i t)
section
variable {X : Cx} {x : Str} {pos p apos : Pos}
theorem pe_gint {i : Int} (hg : Gl X x) (h : GI X.mg x i) (hd : (x == ("__debug__" : Str)) = false := by decide) : PE X (.Name x pos) (tC (.int i)) := by
  obtain ⟨t, e⟩ := h
  exact pe_glob hg e ⟨t, rfl⟩ hd
theorem pe_gref {a : Addr} (hg : Gl X x) (h : X.mg x = some (.ref a)) (hd : (x == ("__debug__" : Str)) = false := by decide) : PE X (.Name x pos) (tC (.ref a)) := pe_glob hg h rfl hd
theorem hu64 {A : Around} {k : Nat} (hr : Room k A) : A.units + 64 < cLine := by
  have := hr.un
  omega
end
section
variable {X : Cx}
/-- // by a positive divisor below 2^64 -/
theorem op_fdivW : OpR X (binaryOp .FloorDiv) (rI (fun _ j => 0 < j ∧ j < 2 ^ 64) fun i j => .int (i / j)) := opI fun i j _ _ _ _ _ hc q => by
  have h1 : (0 : Int) < j := hc.1
  have h2 : j < 2 ^ 64 := hc.2
  refine floordiv_int (by omega) (by rw [Int.fdiv_eq_ediv_of_nonneg i (by omega)]; exact q) (.inl (PyProof.noPylong_of_log2 ?_))
  have h0 : j.natAbs ≠ 0 := by omega
  have := (Nat.log2_lt (k := 64) h0).mpr (by omega)
  omega
end
/-! ### defs, methods, classes as a caller has them -/
section
variable (P : Program) (w : World) (K : PySem.W.Frag) (mg : Str → Option Value) (base : Heap)
/-- a def of the top, called by its name -/
def DefOk (k : Nat) (x : Str) (ps : List Str) (sp : Sp) : Prop := ∃ f fd, FnOk P w K mg base CX0 k f fd ps sp ∧ mg x = some (.ref f) ∧ PySem.W.keepIn K (.ref f) = true ∧ Binds K fd ps []
/-- a method of the class at C -/
def MethOk (k : Nat) (C : Addr) (m : Str) (ps : List Str) (sp : Sp) : Prop := ∃ f fd, FnOk P w K mg base CX0 k f fd ps sp ∧ Meth K C m f ∧ Binds K fd ps []
/-- the class at C, called by its name -/
def MakeOk (k : Nat) (x : Str) (C : Addr) (ps : List Str) (sp : Sp) : Prop := ∃ f fd, FnOk P w K mg base CX0 k f fd ps sp ∧ Mk K C f ∧ mg x = some (.ref C) ∧ Binds K fd ps []
end
def tDef (sp : Sp) (t : TA) : TE := fun σ H Q => t σ H fun vs H1 => sp vs H1 Q E0
def tMth (C : Addr) (m : Str) (sp : Sp) (ta : TE) (t : TA) : TE := fun σ H Q => ta σ H fun x H1 => ∃ a dx fs, x = .ref a ∧ H1 a = some (.ins C dx fs) ∧ fs.lookup m = none ∧ t σ H1 fun vs H2 => sp (x :: vs) H2 Q E0
def tNew (C : Addr) (sp : Sp) (t : TA) : TE := fun σ H Q => t σ H fun vs H1 => ∀ x dx, H1 x = none → H1 dx = none → dx ≠ x →
  sp (.ref x :: vs) (upd (upd H1 dx (.own x)) x (.ins C dx [])) (fun v H2 => v = .non ∧ Q (.ref x) H2) E0
theorem PE.to {X : Cx} {e : Expr} {t u : TE} (h : PE X e t) (k : ∀ σ H Q, u σ H Q → t σ H Q) : PE X e u := fun pins s σ H Q I q => h pins s σ H Q I (k σ H Q q)
theorem tDef_call {sp : Sp} {t : TA} : tCall sp [] E0 t = tDef sp t := by
  funext σ H Q
  unfold tCall tDef
  simp only [List.append_nil]
theorem tMth_meth {C : Addr} {m : Str} {sp : Sp} {ta : TE} {t : TA} : tMeth C m sp [] E0 ta t = tMth C m sp ta t := by
  funext σ H Q
  unfold tMeth tMth
  simp only [List.append_nil]
theorem tNew_make {C : Addr} {sp : Sp} {t : TA} : tMake C sp [] E0 t = tNew C sp t := by
  funext σ H Q
  unfold tMake tNew
  simp only [List.append_nil]
section
variable {X : Cx} {k j : Nat} {ps : List Str} {sp : Sp} {x m : Str} {C : Addr} {p pos apos : Pos} {e o : Expr} {es : List Expr} {ta : TE} {t : TA}
theorem pe_def (D : DefOk X.prog X.w X.K X.mg X.base j x ps sp) (hr : Room k X.A) (hj : j ≤ k) (hg : Gl X x) (ha : PA X (e :: es) t)
    (hdb : (x == ("__debug__" : Str)) = false := by decide) (he : starEach (e :: es) X.env = (false, eval e X.env) :: starEach es X.env := by rfl) (hpl : (backTo pos (starEach es X.env)).any (·.1) = false := by rfl) :
    PE X (.Call (.Name x p) (e :: es) [] pos) (tDef sp t) := by
  obtain ⟨f, fd, F, hm, hk, hb⟩ := D
  rw [← tDef_call]
  exact pe_call F (hr.mono hj) hg hm hk hb .nil pass0 ha hdb he hpl
theorem pe_def0 (D : DefOk X.prog X.w X.K X.mg X.base j x ps sp) (hr : Room k X.A) (hj : j ≤ k) (hg : Gl X x) (hdb : (x == ("__debug__" : Str)) = false := by decide) :
    PE X (.Call (.Name x p) [] [] pos) (tDef sp tNil) := by
  obtain ⟨f, fd, F, hm, hk, hb⟩ := D
  rw [← tDef_call]
  exact pe_call0 F (hr.mono hj) hg hm hk hb .nil pass0 hdb
theorem pe_new (D : MakeOk X.prog X.w X.K X.mg X.base j x C ps sp) (hr : Room k X.A) (hj : j + 1 ≤ k) (hg : Gl X x) (ha : PA X (e :: es) t)
    (hdb : (x == ("__debug__" : Str)) = false := by decide) (he : starEach (e :: es) X.env = (false, eval e X.env) :: starEach es X.env := by rfl) (hpl : (backTo pos (starEach es X.env)).any (·.1) = false := by rfl) :
    PE X (.Call (.Name x p) (e :: es) [] pos) (tNew C sp t) := by
  obtain ⟨f, fd, F, M, hm, hb⟩ := D
  rw [← tNew_make]
  exact pe_make M F (hr.mono hj) hg hm hb .nil pass0 ha hdb he hpl
theorem pe_new0 (D : MakeOk X.prog X.w X.K X.mg X.base j x C ps sp) (hr : Room k X.A) (hj : j + 1 ≤ k) (hg : Gl X x) (hdb : (x == ("__debug__" : Str)) = false := by decide) :
    PE X (.Call (.Name x p) [] [] pos) (tNew C sp tNil) := by
  obtain ⟨f, fd, F, M, hm, hb⟩ := D
  rw [← tNew_make]
  exact pe_make0 M F (hr.mono hj) hg hm hb .nil pass0 hdb
theorem pe_mth {pl : Sem Bool} (ho : PE X o ta) (c : Cls X.K C) (D : MethOk X.prog X.w X.K X.mg X.base j C m ps sp) (hr : Room k X.A) (hj : j ≤ k) (ha : PA X (e :: es) t)
    (hst : starEach (e :: es) X.env = (false, eval e X.env) :: starEach es X.env := by rfl) (hpl : (backTo pos (starEach es X.env)).any (·.1) = false := by rfl)
    (ht : eval (.Call (.Attribute o m apos) (e :: es) [] pos) X.env = (do
      let ov ← eval o X.env
      standAt apos.atName
      let (f, first) ← holding [ov] (getMethod ov m pl)
      callWith pos f first (backTo pos (starEach (e :: es) X.env)) (backToKw pos (keywordEach [] X.env))) := by rfl) :
    PE X (.Call (.Attribute o m apos) (e :: es) [] pos) (tMth C m sp ta t) := by
  obtain ⟨f, fd, F, M, hb⟩ := D
  rw [← tMth_meth]
  exact pe_meth ho c M F (hr.mono hj) hb .nil pass0 ha hst hpl ht
theorem pe_mth0 {pl : Sem Bool} (ho : PE X o ta) (c : Cls X.K C) (D : MethOk X.prog X.w X.K X.mg X.base j C m ps sp) (hr : Room k X.A) (hj : j ≤ k)
    (ht : eval (.Call (.Attribute o m apos) [] [] pos) X.env = (do
      let ov ← eval o X.env
      standAt apos.atName
      let (f, first) ← holding [ov] (getMethod ov m pl)
      callWith pos f first (backTo pos (starEach [] X.env)) (backToKw pos (keywordEach [] X.env))) := by rfl) :
    PE X (.Call (.Attribute o m apos) [] [] pos) (tMth C m sp ta tNil) := by
  obtain ⟨f, fd, F, M, hb⟩ := D
  rw [← tMth_meth]
  exact pe_meth0 ho c M F (hr.mono hj) hb .nil pass0 ht
end
/-! ### a def's own theorem, by the def's facts -/
section
variable {P : Program} {w : World} {K : PySem.W.Frag} {mg : Str → Option Value} {base : Heap}
theorem Fun.def_ {x qual : Str} {st : Stmt} {f : Addr} {fd : FuncData} {ps : List Str} {k : Nat} {sp : Sp} (F : Fun K x qual st f fd) (hm : mg x = some (.ref f)) (hb : Binds K fd ps []) (ok : FnOk P w K mg base CX0 k f fd ps sp) :
    DefOk P w K mg base k x ps sp := ⟨f, fd, ok, hm, F.kp, hb⟩
end
/-! ### fields -/
theorem lookup_at : ∀ {l : List (Str × V)} {i : Nat} {f : Str} {v : V}, (l.map (·.1)).Nodup → l[i]? = some (f, v) → l.lookup f = some v
  | [], i, f, v, _, h => by simp at h
  | (g, u) :: r, 0, f, v, _, h => by
    have e : (g, u) = (f, v) := Option.some.inj h
    cases e
    exact List.lookup_cons_self
  | (g, u) :: r, i + 1, f, v, nd, h => by
    have nd : (g :: r.map (·.1)).Nodup := nd
    obtain ⟨n1, n2⟩ := List.nodup_cons.mp nd
    have h : r[i]? = some (f, v) := h
    have hne : ¬ f = g := fun e => n1 (by rw [← e]; exact List.mem_map.mpr ⟨(f, v), List.mem_of_getElem? h, rfl⟩)
    rw [List.lookup_cons, show (f == g) = false from beq_eq_false_iff_ne.mpr hne]
    exact lookup_at n2 h
theorem lookup_not : ∀ {l : List (Str × V)} {f : Str}, ¬ f ∈ l.map (·.1) → l.lookup f = none
  | [], _, _ => rfl
  | (g, u) :: r, f, h => by
    have hne : ¬ f = g := fun e => h (by rw [e]; exact List.mem_cons_self)
    rw [List.lookup_cons, show (f == g) = false from beq_eq_false_iff_ne.mpr hne]
    exact lookup_not fun m => h (List.mem_cons_of_mem _ m)
theorem putF_at : ∀ {l : List (Str × V)} {i : Nat} {f : Str} {u v : V}, (l.map (·.1)).Nodup → l[i]? = some (f, u) → putF f v l = l.set i (f, v)
  | [], i, f, u, v, _, h => by simp at h
  | (g, z) :: r, 0, f, u, v, _, h => by
    have e : (g, z) = (f, u) := Option.some.inj h
    cases e
    show (if _ then _ else _) = _
    rw [if_pos rfl]
    rfl
  | (g, z) :: r, i + 1, f, u, v, nd, h => by
    have nd : (g :: r.map (·.1)).Nodup := nd
    obtain ⟨n1, n2⟩ := List.nodup_cons.mp nd
    have h : r[i]? = some (f, u) := h
    have hne : ¬ g = f := fun e => n1 (by rw [e]; exact List.mem_map.mpr ⟨(f, u), List.mem_of_getElem? h, rfl⟩)
    show (if _ then _ else _) = _
    rw [if_neg hne, putF_at n2 h]
    rfl
theorem putF_new : ∀ {l : List (Str × V)} {f : Str} {v : V}, ¬ f ∈ l.map (·.1) → putF f v l = l ++ [(f, v)]
  | [], _, _, _ => rfl
  | (g, z) :: r, f, v, h => by
    have hne : ¬ g = f := fun e => h (by rw [e]; exact List.mem_cons_self)
    show (if _ then _ else _) = _
    rw [if_neg hne, putF_new fun m => h (List.mem_cons_of_mem _ m)]
    rfl
/-! ### lists of whole numbers as data -/
theorem dpAll_ints {K : PySem.W.Frag} {H : Hp} : ∀ l : List Int, DpAll K H (l.map V.int) (l.map PyData.int)
  | [] => .nil
  | i :: r => .cons (.int i) (dpAll_ints r)
theorem dp_ints {K : PySem.W.Frag} {H : Hp} {a : Addr} {l : List Int} (h : SqL K H a (l.map V.int)) : Dp K H (.ref a) (.list (l.map PyData.int)) := .lst h (dpAll_ints l)
theorem dp_intsT {K : PySem.W.Frag} {H : Hp} {a : Addr} {l : List Int} (h : SqT K H a (l.map V.int)) : Dp K H (.ref a) (.tuple (l.map PyData.int)) := .tup h (dpAll_ints l)
theorem canLay_ints : ∀ l : List Int, PyData.canLayAll0 (l.map PyData.int) = true
  | [] => by simp [PyData.canLayAll0]
  | i :: r => by simp [PyData.canLayAll0, PyData.canLay0, canLay_ints r]
theorem depth_ints : ∀ l : List Int, PyData.depthAll (l.map PyData.int) = 0
  | [] => by simp [PyData.depthAll]
  | i :: r => by simp [PyData.depthAll, PyData.depth, depth_ints r]
theorem eqvAll_ints : ∀ l m : List Int, PyData.eqvAll (l.map PyData.int) (m.map PyData.int) = decide (l = m)
  | [], [] => by simp [PyData.eqvAll]
  | [], _ :: _ => by simp [PyData.eqvAll]
  | _ :: _, [] => by simp [PyData.eqvAll]
  | i :: r, j :: q => by
    simp only [List.map_cons, PyData.eqvAll, PyData.eqv, eqvAll_ints r q]
    by_cases h1 : i = j <;> by_cases h2 : r = q <;> simp [h1, h2]
theorem shaped_ints (l : List Int) : SeqAt.shaped (.list (l.map PyData.int)) = true := by
  unfold SeqAt.shaped
  simp [PyData.canLay0, PyData.depth, canLay_ints, depth_ints]
theorem shaped_intsT (l : List Int) : SeqAt.shaped (.tuple (l.map PyData.int)) = true := by
  unfold SeqAt.shaped
  simp [PyData.canLay0, PyData.depth, canLay_ints, depth_ints]
theorem eqv_ints (l m : List Int) : PyData.eqv (.list (l.map PyData.int)) (.list (m.map PyData.int)) = decide (l = m) := by
  simp only [PyData.eqv, eqvAll_ints]
theorem eqv_intsT (l m : List Int) : PyData.eqv (.tuple (l.map PyData.int)) (.tuple (m.map PyData.int)) = decide (l = m) := by
  simp only [PyData.eqv, eqvAll_ints]
end L2
end
section
namespace L2
open PySem PySem.Spec PyProof.Rows
/-! ### lists of lists of whole numbers -/
abbrev GsAt (K : PySem.W.Frag) (H : Hp) : List Addr → List (List Int) → Prop := Paired fun a l => SqL K H a (l.map V.int)
def dls (gs : List (List Int)) : List PyData := gs.map fun l => .list (l.map PyData.int)
theorem dpAll_gs {K : PySem.W.Frag} {H : Hp} : ∀ {as : List Addr} {gs : List (List Int)}, GsAt K H as gs → DpAll K H (as.map V.ref) (dls gs)
  | _, _, .nil => .nil
  | _, _, .cons h t => .cons (dp_ints h) (dpAll_gs t)
theorem canLay_gs : ∀ gs : List (List Int), PyData.canLayAll0 (dls gs) = true
  | [] => by simp [dls, PyData.canLayAll0]
  | l :: r => by
    have h := canLay_gs r
    unfold dls at h ⊢
    simp [PyData.canLayAll0, PyData.canLay0, canLay_ints, h]
theorem any_gs (gs : List (List Int)) (g : List Int) : ((dls gs).any fun y => PyData.eqv y (.list (g.map PyData.int))) = gs.contains g := by
  unfold dls
  rw [List.any_map]
  induction gs with
  | nil => rfl
  | cons l r ih =>
    rw [List.any_cons, List.contains_cons, ih]
    congr 1
    simp only [Function.comp]
    rw [eqv_ints]
    by_cases h : l = g
    · subst h; simp
    · rw [decide_eq_false h]
      exact (beq_eq_false_iff_ne.mpr fun e => h e.symm).symm
def rInD (K : PySem.W.Frag) (neg : Bool) : R2 := fun x y H Q => ∃ (b p : Addr) (g : List Int) (as : List Addr) (gs : List (List Int)), x = .ref b ∧ y = .ref p ∧ SqL K H b (g.map V.int) ∧ SqL K H p (as.map V.ref) ∧ GsAt K H as gs ∧
  Q (.bl (if neg = true then !gs.contains g else gs.contains g)) H
section
variable {X : Cx}
theorem op_inD (hu : X.A.units + 64 < cLine) : OpR X (compareOp .In) (rInD X.K false) := by
  intro pins s σ H x y v u Q I rx ry h
  obtain ⟨b, p, g, as, gs, rfl, rfl, hb, hp, hg, q⟩ := h
  obtain ⟨cs, r1⟩ := Dp.reads I _ _ v (dp_ints hb) rx
  obtain ⟨ds, r2⟩ := Dp.reads I _ _ u (.lst hp (dpAll_gs hg)) ry
  have hd : (PyData.list (g.map PyData.int)).depth ≤ 1 := by simp [PyData.depth, depth_ints]
  refine SeqAt.in_list_reads r2 r1 (canLay_gs gs) (by simp [PyData.canLay0, canLay_ints]) ?_ ⟨.bl _, H, I, rfl, ?_⟩
  · have := Nat.min_le_right (PyData.depthAll (dls gs)) (PyData.list (g.map PyData.int)).depth
    omega
  · rw [any_gs]
    exact q
theorem op_notInD (hu : X.A.units + 64 < cLine) : OpR X (compareOp .NotIn) (rInD X.K true) := by
  intro pins s σ H x y v u Q I rx ry h
  obtain ⟨b, p, g, as, gs, rfl, rfl, hb, hp, hg, q⟩ := h
  obtain ⟨cs, r1⟩ := Dp.reads I _ _ v (dp_ints hb) rx
  obtain ⟨ds, r2⟩ := Dp.reads I _ _ u (.lst hp (dpAll_gs hg)) ry
  have hd : (PyData.list (g.map PyData.int)).depth ≤ 1 := by simp [PyData.depth, depth_ints]
  refine SeqAt.notIn_list_reads r2 r1 (canLay_gs gs) (by simp [PyData.canLay0, canLay_ints]) ?_ ⟨.bl _, H, I, rfl, ?_⟩
  · have := Nat.min_le_right (PyData.depthAll (dls gs)) (PyData.list (g.map PyData.int)).depth
    omega
  · rw [any_gs]
    exact q
end
/-! ### xs.remove(x), items at any depth -/
section
open AutoSeq1 (wpAny_loadPart')
open MeetsSeq MeetsSeq2 MeetsSeq3 SeqRoads2
theorem rem_turns (l : Addr) (xs : Array Value) (n : Nat) (x : Value)
    (e : Value → Bool) (j : Nat) (hj : j < xs.size) (hit : e xs[j] = true)
    (hz : xs.size ≤ sizeLine) : ∀ (k i : Nat), j - i = k → i ≤ j →
    (∀ m (hm : m < xs.size), i ≤ m → m < j → e xs[m] = false) →
    Meets (Builtin.«list.remove.loop» ⟨[.ref l, x, rawInt i], []⟩)
      (fun A R s => s.heap.get? l = some { cls := .type "list", data := .seq xs n }
        ∧ (∀ y, y ∈ xs → SeqAt.EqAt A.in1 s y x (e y))
        ∧ R (.ok (.ret .none)) { s with heap := s.heap.update l (Obj.mapSeq fun q => q.eraseIdxIfInBounds j) })
  | 0, i, hk, hij, hno => by
    intro prog w A R s h
    obtain ⟨hp, g, d, tk, os⟩ := s
    obtain ⟨hl, he, h⟩ := h
    obtain rfl : i = j := by omega
    wp_walk using wpAny_loadPart' hl
    rw [show xs[((i : Nat) : Int).toNat]? = some xs[i] by simp [hj]]
    refine wpAny_bind (he _ (Array.getElem_mem hj) prog w _ _ ?_)
    rw [hit]
    have hz' : (xs.eraseIdxIfInBounds i).size ≤ sizeLine + 1 :=
      Nat.le_trans (size_erased xs _) (Nat.le_succ_of_le hz)
    wp_walk using (wpAny_updateSeq hl rfl (hz := hz) (_hz' := hz')), wpAny_loadPart' hl
    simpa using h
  | k + 1, i, hk, hij, hno => by
    intro prog w A R s h
    obtain ⟨hp, g, d, tk, os⟩ := s
    obtain ⟨hl, he, h⟩ := h
    have lt : i < xs.size := by omega
    wp_walk using wpAny_loadPart' hl
    rw [show xs[((i : Nat) : Int).toNat]? = some xs[i] by simp [lt]]
    refine wpAny_bind (he _ (Array.getElem_mem lt) prog w _ _ ?_)
    rw [hno i lt (Nat.le_refl _) (by omega)]
    wp_walk
    rw [show ((i : Int) + 1) = ((i + 1 : Nat) : Int) by push_cast; rfl]
    refine ⟨plainId_quiet plain_remove_loop _, codeAny_builtin entry_remove_loop ?_⟩
    rw [Around.under_plainId plain_remove_loop _]
    refine rem_turns l xs n x e j hj hit hz k (i + 1) (by omega) (by omega) ?_ prog w A R _ ⟨hl, he, h⟩
    exact fun m hm h1 h2 => hno m hm (by omega) h2
theorem rem_first (l : Addr) (xs : Array Value) (n : Nat) (x : Value)
    (e : Value → Bool) (j : Nat) (hj : j < xs.size) (hit : e xs[j] = true)
    (hz : xs.size ≤ sizeLine) (hno : ∀ m (hm : m < xs.size), m < j → e xs[m] = false) :
    Meets (Builtin.«list.remove» ⟨[.ref l, x], []⟩)
      (fun A R s => s.heap.get? l = some { cls := .type "list", data := .seq xs n }
        ∧ (∀ y, y ∈ xs → SeqAt.EqAt A.in1 s y x (e y))
        ∧ R (.ok (.ret .none)) { s with heap := s.heap.update l (Obj.mapSeq fun q => q.eraseIdxIfInBounds j) }) := by
  intro prog w A R s h
  obtain ⟨hp, g, d, tk, os⟩ := s
  obtain ⟨hl, he, h⟩ := h
  wp_walk using wpAny_loadPart' hl
  refine ⟨plainId_quiet plain_remove_loop _, codeAny_builtin entry_remove_loop ?_⟩
  rw [Around.under_plainId plain_remove_loop _]
  refine rem_turns l xs n x e j hj hit hz _ 0 rfl (Nat.zero_le _) ?_ prog w A R _ ⟨hl, he, h⟩
  exact fun m hm _ h2 => hno m hm h2
end
theorem map_erase {α β : Type} (f : α → β) : ∀ (l : List α) (j : Nat), (l.eraseIdx j).map f = (l.map f).eraseIdx j
  | [], _ => rfl
  | _ :: _, 0 => rfl
  | a :: l, j + 1 => congrArg (List.cons (f a)) (map_erase f l j)
def rRemD (K : PySem.W.Frag) : V → List V → Hp → VK → Prop := fun x vs H Q => ∃ (p b : Addr) (g : List Int) (as : List Addr) (gs : List (List Int)) (j : Nat), x = .ref p ∧ vs = [.ref b] ∧ SqL K H b (g.map V.int) ∧ H p = some (.lst (as.map V.ref)) ∧ GsAt K H as gs ∧
  gs[j]? = some g ∧ (∀ m, m < j → gs[m]? ≠ some g) ∧ Q .non (upd H p (.lst ((as.eraseIdx j).map V.ref)))
theorem Paired.get {α β : Type} {F : α → β → Prop} : ∀ {l₁ : List α} {l₂ : List β} {i : Nat} {b : β}, Paired F l₁ l₂ → l₂[i]? = some b → ∃ a, l₁[i]? = some a ∧ F a b
  | _, _, _, _, .nil, h => by simp at h
  | _, _, 0, _, .cons r _, h => by
    have e := Option.some.inj h
    subst e
    exact ⟨_, rfl, r⟩
  | _, _, i + 1, b, .cons _ t, h => Paired.get (i := i) (b := b) t h
theorem Paired.getL {α β : Type} {F : α → β → Prop} : ∀ {l₁ : List α} {l₂ : List β} {i : Nat} {a : α}, Paired F l₁ l₂ → l₁[i]? = some a → ∃ b, l₂[i]? = some b ∧ F a b
  | _, _, _, _, .nil, h => by simp at h
  | _, _, 0, _, .cons r _, h => by
    have e := Option.some.inj h
    subst e
    exact ⟨_, rfl, r⟩
  | _, _, i + 1, b, .cons _ t, h => Paired.getL (i := i) (a := b) t h
section
variable {X : Cx}
theorem mt_removeD (hu : X.A.units + 64 < cLine) : MtM X "list.remove" (rRemD X.K) := by
  intro pins s σ H x vs v us Q I rx rv h
  obtain ⟨p, b, g, as, gs, j, rfl, rfl, hb, hp, hg, hj, hno, q⟩ := h
  cases rx
  obtain ⟨u, rfl, ru⟩ := rv.one
  obtain ⟨z, its, n, r, hl, e⟩ := I.lstM hp
  obtain ⟨cs, r1⟩ := Dp.reads I _ _ u (dp_ints hb) ru
  obtain ⟨ds, r2⟩ := Dp.readsAll I _ _ its (dpAll_gs hg) r
  have hlay := canLay_gs gs
  have hmap := SeqAt.readsAll_map (dls gs) its ds hlay r2
  have hd : (PyData.list (g.map PyData.int)).depth ≤ 1 := by simp [PyData.depth, depth_ints]
  have hmin := Nat.min_le_right (PyData.depthAll (dls gs)) (PyData.list (g.map PyData.int)).depth
  have hat : ∀ (m : Nat) (hm : m < its.toArray.size), PyData.eqv (SeqAt.readOf s.heap its.toArray[m]) (.list (g.map PyData.int)) = decide (gs[m]? = some g) := fun m hm => by
    have hm' : m < its.length := by simpa using hm
    have e1 : (its.map (SeqAt.readOf s.heap))[m]? = (dls gs)[m]? := by rw [hmap]
    rw [List.getElem?_map, List.getElem?_eq_getElem hm'] at e1
    unfold dls at e1
    rw [List.getElem?_map] at e1
    cases hgm : gs[m]? with
    | none => rw [hgm] at e1; cases e1
    | some y =>
      rw [hgm] at e1
      have e2 : SeqAt.readOf s.heap its[m] = .list (y.map PyData.int) := Option.some.inj e1
      have e3 : its.toArray[m] = its[m] := by simp
      rw [e3, e2, eqv_ints]
      by_cases h : y = g
      · subst h; simp
      · rw [decide_eq_false h, decide_eq_false fun q => h (Option.some.inj q)]
  have hjl : j < its.length := by
    obtain ⟨a, ha, _⟩ := Paired.get hg hj
    have := (List.getElem?_eq_some_iff.mp ha).1
    rw [← hl, List.length_map]
    exact this
  have hja : j < its.toArray.size := by simpa using hjl
  refine call_meets F.slot_list_remove ⟨_, e, rfl⟩ F.entry_list_remove (F.args_list_remove_2 _ _)
    (rem_first p its.toArray n u (fun y => PyData.eqv (SeqAt.readOf s.heap y) (.list (g.map PyData.int))) j hja (by rw [hat j hja]; exact decide_eq_true hj) (by rw [List.size_toArray]; omega)
      fun m hm lt => by rw [hat m hm]; exact decide_eq_false (hno m lt)) ⟨e, ?_, ?_⟩
  · exact SeqAt.items_eqAt (by simpa using r2) r1 hlay (by simp [PyData.canLay0, canLay_ints]) (by omega)
  · refine ⟨.non, _, I.lset (its' := its.eraseIdx j) hp e ?_ (ys := (as.eraseIdx j).map V.ref) ?_ ?_, rfl, q⟩
    · show its.toArray.eraseIdxIfInBounds j = (its.eraseIdx j).toArray
      rw [List.eraseIdxIfInBounds_toArray]
    · rw [map_erase]
      exact r.eraseIdx j
    · rw [List.length_map]
      have := List.length_eraseIdx_le as j
      rw [List.length_map] at z
      omega
end
/-! ### tables of the top -/
def KTup (K : PySem.W.Frag) (a : Addr) (l : List Int) : Prop := ∃ (d : Option Addr) (its : Array Value) (n : Nat) (sl : Array (Option Value)), K.lookup a = some ⟨.type "tuple", d, .seq its n, sl⟩ ∧ its.size ≤ sizeLine ∧ Vals (l.map V.int) its.toList
theorem KTup.seq {K : PySem.W.Frag} {H : Hp} {a : Addr} {l : List Int} (h : KTup K a l) : SqT K H a (l.map V.int) := by
  obtain ⟨d, its, n, sl, h1, h2, h3⟩ := h
  exact .inr ⟨_, its, n, h1, rfl, rfl, h2, h3⟩
inductive KEs : List DictEntry → List (Int × V) → Prop
  | nil : KEs [] []
  | cons {h k : Int} {t : Tok} {u : Value} {v : V} {es : List DictEntry} {kvs : List (Int × V)} : h = hashInt k → RelV v u → KEs es kvs → KEs (⟨h, .int k t, u⟩ :: es) ((k, v) :: kvs)
def KD (K : PySem.W.Frag) (a : Addr) (kvs : List (Int × V)) : Prop := ∃ (es : Array DictEntry) (ep : Nat), K.lookup a = some ⟨.type "dict", none, .dict es ep, #[]⟩ ∧ KEs es.toList kvs ∧ (kvs.map (·.1)).Nodup
def kvsOf {es : List DictEntry} {kvs : List (Int × V)} (h : KEs es kvs) : List (Key × Value) := es.map fun e => (match e.key with | .int k _ => Sum.inl k | _ => Sum.inl 0, e.val)
theorem kes_keys {P : Program} {w : World} : ∀ {es : List DictEntry} {kvs : List (Int × V)}, KEs es kvs → ∀ e ∈ es, ∃ k, (mixKind P w).is k e.key = true ∧ e.hash = (mixKind P w).hash k
  | _, _, .nil, e, he => by cases he
  | _, _, .cons hh r t, e, he => by
    rcases List.mem_cons.mp he with rfl | he
    · exact ⟨Sum.inl _, mixKind_int P w _ _, hh⟩
    · exact kes_keys t e he
theorem kes_pairs {P : Program} {w : World} : ∀ {es : List DictEntry} {kvs : List (Int × V)}, KEs es kvs → ∃ vs : List (Key × Value), Pairs (mixKind P w) es vs ∧ vs.map (·.1) = kvs.map (fun p => (Sum.inl p.1 : Key)) ∧
    ∀ k v, kvs.lookup k = some v → ∃ u, valueAt vs (Sum.inl k) = some u ∧ RelV v u
  | _, _, .nil => ⟨[], .nil, rfl, fun k v h => by cases h⟩
  | _, _, .cons (k := k0) (u := u0) (v := v0) hh r t => by
    obtain ⟨vs, h1, h2, h3⟩ := kes_pairs (P := P) (w := w) t
    refine ⟨(Sum.inl k0, u0) :: vs, .cons (mixKind_int P w _ _) rfl h1, by rw [List.map_cons, List.map_cons, h2], fun k v h => ?_⟩
    unfold valueAt
    rw [List.find?_cons]
    by_cases hk : k = k0
    · subst hk
      rw [List.lookup_cons_self] at h
      have e := Option.some.inj h
      subst e
      exact ⟨u0, by simp, r⟩
    · rw [List.lookup_cons, show (k == k0) = false from beq_eq_false_iff_ne.mpr hk] at h
      obtain ⟨u, h4, h5⟩ := h3 k v h
      refine ⟨u, ?_, h5⟩
      rw [decide_eq_false (show ¬ (Sum.inl k0 : Key) = Sum.inl k from fun q => hk (Sum.inl.inj q).symm)]
      exact h4
def tKGet (K : PySem.W.Frag) (td ty : TE) : TE := fun σ H Q => td σ H fun x H1 => ty σ H1 fun y H2 => ∃ a kvs k v, x = .ref a ∧ y = .int k ∧ KD K a kvs ∧ kvs.lookup k = some v ∧ Q v H2
section
variable {X : Cx} {o i : Expr} {td ty : TE} {pos : Pos}
theorem pe_kget (ho : PE X o td) (hi : PE X i ty) (hs : NoSl i) : PE X (.Subscript o i pos) (tKGet X.K td ty) := by
  intro pins s σ H Q I h
  refine subD_of PySem.F.slot_dict_getitem.lookup hs (thn (ho pins s σ H _ I h) fun u s1 ⟨x, H1, I1, rx, q1⟩ => thn (hi pins s1 σ H1 _ I1 q1) fun iv s2 ⟨y, H2, I2, ry, a, kvs, k, v, ex, ey, hK, hl, q2⟩ => ?_)
  subst ex
  subst ey
  obtain rfl : u = Value.ref a := rx
  obtain ⟨es, ep, hk, hes, nd⟩ := hK
  obtain ⟨vs, h1, h2, h3⟩ := kes_pairs (P := X.prog) (w := X.w) hes
  obtain ⟨u', hu, ru⟩ := h3 k v hl
  have dd : s2.heap.DictOf (mixKind X.prog X.w) a vs := by
    refine ⟨_, es, ep, I2.kIn _ _ hk, ⟨rfl, rfl, rfl⟩, rfl, fun e he => kes_keys hes e (by simpa using he), h1, ?_⟩
    rw [h2]
    have : (kvs.map fun p => (Sum.inl p.1 : Key)) = (kvs.map (·.1)).map Sum.inl := by rw [List.map_map]; rfl
    rw [this]
    exact nd.map _ (fun a b hab e => hab (Sum.inl.inj e))
  exact ⟨dd.typeIs, wpAny_getItem_of (kV_is (k := Sum.inl k) ry) dd.mapOf hu ⟨v, H2, I2.tok _, ru, q2⟩⟩
end
end L2
end
section
namespace L2
open PySem PySem.Spec PyProof.Rows
section
variable {X : Cx}
/-- a list's item by values, for an augmented store -/
def rGetL (K : PySem.W.Frag) : V → V → Hp → VK → Prop := fun o i H Q => ∃ (p : Addr) (xs : List V) (k : Nat) (v : V), o = .ref p ∧ i = .int k ∧ SqL K H p xs ∧ xs[k]? = some v ∧ Q v H
theorem get_list : PGet X (rGetL X.K) := by
  intro pins s σ H o i ov iv Q I ro ri h
  obtain ⟨p, xs, k, z, rfl, rfl, hq, he, q⟩ := h
  cases ro
  obtain ⟨t, rfl⟩ := ri
  obtain ⟨its, r, pl, hz⟩ := I.list hq
  obtain ⟨w, ew, rw'⟩ := r.get he
  have hl := r.length
  have hn := line63
  have hk := (List.getElem?_eq_some_iff.mp he).1
  exact wpAny_getItem_list pl.isList (by omega) (by omega) (by simpa using ew) ⟨z, H, I, rw', q⟩
theorem ixN_nat {n j : Nat} (h : j < n) : ixN n (j : Int) = some j := by
  unfold ixN
  rw [if_pos (by omega), if_pos (by omega)]
  simp
variable {K : PySem.W.Frag} {e : Expr} {ta : TE} {f : Str} {pos : Pos}
theorem pe_fldK (hK : X.K = K) (he : PE X e ta) (hb : attributeBase e f X.env (eval e X.env) = eval e X.env) : PE X (.Attribute e f pos) (tFld K ta f) := by
  subst hK
  exact pe_fld he hb
theorem call_len_seqK (hK : X.K = K) : CallR X (.builtin "len") (fun xs H Q => ∃ p ys, xs = [.ref p] ∧ (SqL K H p ys ∨ SqT K H p ys) ∧ Q (.int ys.length) H) := by
  subst hK
  exact call_len_seq
theorem ix_listK (hK : X.K = K) : IxR X (rIxL K) := by
  subst hK
  exact ix_list
theorem ix_tupK (hK : X.K = K) : IxR X (rIxT K) := by
  subst hK
  exact ix_tup
end
end L2
end
section
namespace L2
open PySem PySem.Spec PyProof.Rows
/-- the call of a def that is handed one list of whole numbers and hands back one -/
theorem spec_call {P : Program} {w : World} {K : PySem.W.Frag} {mg mb : Str → Option Value} {CX : CXT} {k : Nat} {fa a : Addr} {fd : FuncData} {x : Str} {sp : Sp} {s₁ : Shared} {vs : List Value} {ns ms : List Int}
    (KX : K.In s₁.heap) (hns : s₁.heap.Ns mainGlobals mg) (hb : s₁.heap.Ns builtinsNs mb) (hbb : ∀ x : Str, x ≠ "__name__" → mb x = bootBuiltins x) (hlim : s₁.heap.NoLimit) (hg : s₁.gens = #[])
    (ha : s₁.heap.get? a = some { cls := .type "list", data := .seq vs.toArray }) (hi : IntsAre vs ns) (hl : ns.length ≤ sizeLine) (hr : Room k callerA)
    (F : ∀ base : Heap, K.In base → base.Ns mainGlobals mg → FnOk P w K mg base CX k fa fd [x] sp) (hbind : ∀ (s : Shared) (u : Value), BindsTo s fd ⟨[u], []⟩ [(x, u)])
    (hsp : ∀ H : Hp, Only H → SqL K H a (ns.map V.int) → sp [.ref a] H (fun v H' => ∃ p, v = .ref p ∧ H' p = some (.lst (ms.map V.int))) fun _ _ _ => False)
    (hCX : ∀ H e s', CX [] H s₁ (fun _ _ _ => False) e s' → False) :
    codeAny (model P w) callerA (.call (.ref fa) ⟨[.ref a], []⟩) (fun r s' => (∃ (p : Addr) (its : List Value) (n : Nat), r = .ok (.ret (.ref p)) ∧ s'.heap.get? p = some { cls := .type "list", data := .seq its.toArray n } ∧ IntsAre its ms) ∧ OldK s₁.heap s'.heap ∧ s'.os = s₁.os ∧ AllBare s'.gens) s₁ := by
  have rv := vals_ints hi
  have lenV := hi.length
  have core : ∀ H : Hp, Only H → SqL K H a (ns.map V.int) → HOk P w H s₁.heap → (∀ b, H b ≠ none → b = a) → (H a ≠ none → K.lookup a = none) →
      codeAny (model P w) callerA (.call (.ref fa) ⟨[.ref a], []⟩) (fun r s' => (∃ (p : Addr) (its : List Value) (n : Nat), r = .ok (.ret (.ref p)) ∧ s'.heap.get? p = some { cls := .type "list", data := .seq its.toArray n } ∧ IntsAre its ms) ∧ OldK s₁.heap s'.heap ∧ s'.os = s₁.os ∧ AllBare s'.gens) s₁ := by
    intro H hO hS hok hA hK
    have base_of : ∀ {b : Addr} {o : Obj}, s₁.heap.get? b = some o → H b = none → (hidT s₁.heap H).get? b = some o := fun e n => hidT_get e n
    have noA : ∀ {b : Addr} {o : Obj} {es : Array DictEntry} {ep : Nat}, s₁.heap.get? b = some o → o.data = .dict es ep → H b = none := fun {b o es ep} e d => by
      cases q : H b with
      | none => rfl
      | some u =>
        have e' : b = a := hA b (by rw [q]; simp)
        subst e'
        rw [ha] at e; cases e
        have d' : Data.seq vs.toArray _ = Data.dict es ep := d
        cases d'
    have nsK : ∀ {b : Addr} {m : Str → Option Value}, s₁.heap.Ns b m → (hidT s₁.heap H).Ns b m := fun {b m} ⟨o, es, ep, e, d, r⟩ => ⟨o, es, ep, base_of e (noA e d), d, r⟩
    have hKb : K.In (hidT s₁.heap H) := fun b o e => base_of (KX b o e) (by
      cases q : H b with
      | none => rfl
      | some u =>
        have e' : b = a := hA b (by rw [q]; simp)
        subst e'
        rw [hK (by rw [q]; simp)] at e; cases e)
    have hM : Mod K mg (hidT s₁.heap H) := ⟨hKb, nsK hns, ⟨mb, nsK hb, hbb⟩, let ⟨mc, h1, h2⟩ := hlim; ⟨mc, nsK h1, h2⟩⟩
    have e0 : Env0 P w K mg (hidT s₁.heap H) callerA [] s₁ H := ⟨rfl, hM, fun b o e => of_hidT e, Nat.le_of_eq (hidT_size _ _), trivial, fun b hb => absurd (show b ∈ ([] : List Addr) from hb) (by simp), hok, .of_eq hg⟩
    refine codeAny_mono ((F _ hKb (nsK hns)).run callerA [] s₁ H ⟨[.ref a], []⟩ [.ref a] [.ref a] _ _ hr e0 (hbind s₁ (.ref a)) (.cons rfl .nil) (hsp H hO hS)) fun r s' h => ?_
    cases r with
    | error e => exact (hCX H e s' h).elim
    | ok fl =>
      cases fl with
      | next => exact False.elim h
      | brk => exact False.elim h
      | cont => exact False.elim h
      | ret u =>
        obtain ⟨v, H', os, bare, un, hok', r', p, ev, hp⟩ := h
        subst ev
        obtain rfl : u = Value.ref p := r'
        obtain ⟨_, its, n, rvs, e⟩ := hok' p _ hp
        refine ⟨⟨p, its, n, rfl, e, intsAre_of rvs⟩, OldK.of_keep fun b o e => ?_, os, bare⟩
        cases q : H b with
        | none => exact un.keep b o e q (by intro z; exact absurd (show b ∈ ([] : List Addr) from z) (by simp)) (by simp)
        | some u =>
          rcases hO b with z | ⟨ob, xs, z⟩
          · rw [q] at z; cases z
          · have z2 := un.frzs b ob _ z
            obtain ⟨e1, _⟩ := hok b _ z
            obtain ⟨e2, _⟩ := hok' b _ z2
            rw [e] at e1; cases e1
            exact e2
  cases hk : K.lookup a with
  | some o =>
    have e := KX a o hk
    rw [ha] at e
    cases e
    refine core (fun _ => none) (fun _ => .inl rfl) (.inr ⟨_, vs.toArray, _, hk, rfl, rfl, rfl, by rw [List.size_toArray, lenV]; exact hl, by simpa using rv⟩) (fun b u z => by have z' : (none : Option HO) = some u := z; cases z') (fun b z => absurd rfl z) fun z => absurd rfl z
  | none =>
    refine core (fun b => if b = a then some (.frz { cls := .type "list", data := .seq vs.toArray } (.lst (ns.map V.int))) else none) (fun b => ?_) (.inl (.inr ⟨{ cls := .type "list", data := .seq vs.toArray }, if_pos rfl⟩)) (fun b u z => ?_) (fun b z => ?_) fun _ => hk
    · by_cases hb : b = a
      · exact .inr ⟨_, _, if_pos hb⟩
      · exact .inl (if_neg hb)
    · by_cases hb : b = a
      · have z' := (if_pos hb).symm.trans z
        cases z'
        subst hb
        exact ⟨ha, by rw [List.length_map]; exact hl, vs, _, rv, ha⟩
      · have z' := (if_neg hb).symm.trans z
        cases z'
    · by_cases hb : b = a
      · exact hb
      · exact absurd (if_neg hb) z
/-- the row of one list of whole numbers in and one out -/
abbrev rowLL (prog : Program) (name : Str) (least most : Nat) (lo hi : Int) (rl rm : Nat) (rlo rhi : Int) (asked : List Int → Bool) (f : List Int → List Int) : PySem.W.OpenSpec :=
  PySem.W.OpenSpec.mk prog name [.list least most (.int lo hi)] (.list rl rm (.int rlo rhi)) asked f
/-- the goal that k_headS leaves (case hc), from the def's promise -/
theorem walk_spec {prog : Program} {name : Str} {least most : Nat} {lo hi : Int} {rl rm : Nat} {rlo rhi : Int} {asked : List Int → Bool} {f : List Int → List Int} {k : Nat} {q : Program} {loose : List Str}
    {XP : (Str → Option Value) → Heap → Prop} {YP : World → Heap → Prop} {d : DefRec} {K : Params → PySem.W.Frag} {CX : World → CXT} {sp : World → Sp} {x : Str}
    (said : (rowLL prog name least most lo hi rl rm rlo rhi asked f).wellSaid = true) (hn2 : most ≤ sizeLine) (hdf : d.params.defaults = []) (hr : Room k callerA)
    (hY : ∀ (w : World) (h : Heap), YP w h → (K w.params).In h)
    (F : ∀ (w : World) (mg : Str → Option Value) (fa : Addr) (h : Heap), (K w.params).In h → h.Ns mainGlobals mg → mg d.name = some (.ref fa) →
      ∃ fd : FuncData, (∀ (s : Shared) (u : Value), BindsTo s fd ⟨[u], []⟩ [(x, u)]) ∧
        ∀ base : Heap, (K w.params).In base → base.Ns mainGlobals mg → FnOk prog w (K w.params) mg base (CX w) k fa fd [x] (sp w))
    (hsp : ∀ (w : World) (H : Hp) (a : Addr) (ns : List Int), ns.length ≤ most → (∀ z ∈ ns, lo ≤ z ∧ z ≤ hi) → asked ns = true → Only H → SqL (K w.params) H a (ns.map V.int) →
      sp w [.ref a] H (fun v H' => ∃ p, v = .ref p ∧ H' p = some (.lst ((f ns).map V.int))) fun _ _ _ => False)
    (hCX : ∀ (w : World) (H : Hp) (s : Shared) (e : Value) (s' : Shared), CX w [] H s (fun _ _ _ => False) e s' → False) :
    PySem.W.WalkOS q loose XP YP (rowLL prog name least most lo hi rl rm rlo rhi asked f) d [] (fun f vs => PySem.call f vs) := by
  intro w s₀ s₁ mg mb G Y fa o pm cd doc dV kV ho hd hcd hD hmg hg args vals as hpre hlay hrd hwl hlo
  obtain rfl : dV = .none := PySem.W.Dflts.none hD hdf
  obtain rfl : kV = .none := PySem.W.Dflts.noKw hD
  obtain ⟨⟨ns, u⟩, hw, ha, e⟩ := PySem.W.os_pre said hpre
  have e : args = [PySem.W.WData.list (ns.map PySem.W.WData.int)] := e
  have ha : asked ns = true := ha
  subst e
  have hw1 : PySem.W.Codec.inList least most (PySem.W.Codec.inInt lo hi) ns = true := (PySem.W.Codec.and_of (show (PySem.W.Codec.inList least most (PySem.W.Codec.inInt lo hi) ns && true) = true from hw)).1
  have hw2 := PySem.W.Codec.and_of (show (PySem.W.Codec.inLen least most ns && ns.all (PySem.W.Codec.inInt lo hi)) = true from hw1)
  have hlen : ns.length ≤ most := (PySem.W.Codec.inNat_iff.mp hw2.1).2
  have hall : ∀ z ∈ ns, lo ≤ z ∧ z ≤ hi := fun z hz => PySem.W.Codec.inInt_iff.mp (List.all_eq_true.mp hw2.2 z hz)
  cases hwl with
  | cons w1 w2 =>
    cases w2
    cases w1 with
    | list hobj hwa =>
      rename_i a vs
      have hints := Att.ints_of_wellAll ns _ hwa
      have KX := hY w _ Y
      obtain ⟨fd, hb, hF⟩ := F w mg fa _ KX G.T.g hmg
      refine PySem.W.enter_call (codeAny_mono (spec_call (ms := f ns) KX G.T.g G.T.b G.T.builtins G.T.nolimit hg hobj hints (Nat.le_trans hlen hn2) hr hF hb (fun H hO hS => hsp w H a ns hlen hall ha hO hS) fun H e s' => hCX w H s₁ e s') fun r s' hq => ?_)
      obtain ⟨⟨p, its, n, rfl, hp, hi⟩, h2, h3, h4⟩ := hq
      refine ⟨.inl ⟨.ref p, .list ((f ns).map PySem.W.WData.int), [p], rfl, PySem.W.osNone, ?_, PySem.W.osPost ?_, fun h => absurd h Bool.false_ne_true⟩, h2, h3, h4⟩
      · have hr := PySem.W.readsAllW_ints (R := []) (cl := _root_.PySem.classAt s₀.heap) (h := s'.heap) hi
        rw [PySem.W.os_ofPys_ints] at hr
        have hr2 : PySem.W.ReadsAllW [] (classAt s₀.heap) s'.heap its.toArray.toList ((f ns).map PySem.W.WData.int) [] := by simpa using hr
        exact .list hp rfl rfl hr2
      · exact PySem.W.os_shut said hw rfl
end L2
end
section
namespace FL
open PySem L2
def top (i : Nat) : Stmt := PySem.Challenge.pw_framelink_s01_answers.main.body.getD i (.Pass ⟨0, 0, 0, 0⟩)
abbrev s_Counts_init : Stmt := inClass (top 1) 0
abbrev N_Counts_init : List Str := ["self"]
abbrev ps_Counts_init : List Str := ["self"]
theorem sc_Counts_init : FnScope N_Counts_init ps_Counts_init (defScope s_Counts_init) := ⟨rfl, rfl, rfl, by decide +kernel, rfl, by decide +kernel, by decide +kernel⟩
abbrev s_Counts_in_order : Stmt := inClass (top 1) 1
abbrev N_Counts_in_order : List Str := ["self", "received", "lost"]
abbrev ps_Counts_in_order : List Str := ["self"]
theorem sc_Counts_in_order : FnScope N_Counts_in_order ps_Counts_in_order (defScope s_Counts_in_order) := ⟨rfl, rfl, rfl, by decide +kernel, rfl, by decide +kernel, by decide +kernel⟩
abbrev s_is_address : Stmt := top 19
abbrev N_is_address : List Str := ["row"]
abbrev ps_is_address : List Str := ["row"]
theorem sc_is_address : FnScope N_is_address ps_is_address (defScope s_is_address) := ⟨rfl, rfl, rfl, by decide +kernel, rfl, by decide +kernel, by decide +kernel⟩
abbrev s_is_everybody : Stmt := top 20
abbrev N_is_everybody : List Str := ["address"]
abbrev ps_is_everybody : List Str := ["address"]
theorem sc_is_everybody : FnScope N_is_everybody ps_is_everybody (defScope s_is_everybody) := ⟨rfl, rfl, rfl, by decide +kernel, rfl, by decide +kernel, by decide +kernel⟩
abbrev s_is_kind : Stmt := top 21
abbrev N_is_kind : List Str := ["kind"]
abbrev ps_is_kind : List Str := ["kind"]
theorem sc_is_kind : FnScope N_is_kind ps_is_kind (defScope s_is_kind) := ⟨rfl, rfl, rfl, by decide +kernel, rfl, by decide +kernel, by decide +kernel⟩
abbrev s_bytes_of : Stmt := top 22
abbrev N_bytes_of : List Str := ["number", "length", "k"]
abbrev ps_bytes_of : List Str := ["number", "length"]
theorem sc_bytes_of : FnScope N_bytes_of ps_bytes_of (defScope s_bytes_of) := ⟨rfl, rfl, rfl, by decide +kernel, rfl, by decide +kernel, by decide +kernel⟩
abbrev s_number_of : Stmt := top 23
abbrev N_number_of : List Str := ["row", "number", "byte"]
abbrev ps_number_of : List Str := ["row"]
theorem sc_number_of : FnScope N_number_of ps_number_of (defScope s_number_of) := ⟨rfl, rfl, rfl, by decide +kernel, rfl, by decide +kernel, by decide +kernel⟩
abbrev s_crc32c : Stmt := top 24
abbrev N_crc32c : List Str := ["row", "x", "byte", "bit"]
abbrev ps_crc32c : List Str := ["row"]
theorem sc_crc32c : FnScope N_crc32c ps_crc32c (defScope s_crc32c) := ⟨rfl, rfl, rfl, by decide +kernel, rfl, by decide +kernel, by decide +kernel⟩
abbrev s_refusal_of : Stmt := top 25
abbrev N_refusal_of : List Str := ["kind", "to", "sender", "body"]
abbrev ps_refusal_of : List Str := ["kind", "to", "sender", "body"]
theorem sc_refusal_of : FnScope N_refusal_of ps_refusal_of (defScope s_refusal_of) := ⟨rfl, rfl, rfl, by decide +kernel, rfl, by decide +kernel, by decide +kernel⟩
abbrev s_make_frame : Stmt := top 26
abbrev N_make_frame : List Str := ["kind", "to", "sender", "body", "checked"]
abbrev ps_make_frame : List Str := ["kind", "to", "sender", "body"]
theorem sc_make_frame : FnScope N_make_frame ps_make_frame (defScope s_make_frame) := ⟨rfl, rfl, rfl, by decide +kernel, rfl, by decide +kernel, by decide +kernel⟩
abbrev s_is_frame : Stmt := top 27
abbrev N_is_frame : List Str := ["row", "end"]
abbrev ps_is_frame : List Str := ["row"]
theorem sc_is_frame : FnScope N_is_frame ps_is_frame (defScope s_is_frame) := ⟨rfl, rfl, rfl, by decide +kernel, rfl, by decide +kernel, by decide +kernel⟩
abbrev s_to_of : Stmt := top 28
abbrev N_to_of : List Str := ["frame"]
abbrev ps_to_of : List Str := ["frame"]
theorem sc_to_of : FnScope N_to_of ps_to_of (defScope s_to_of) := ⟨rfl, rfl, rfl, by decide +kernel, rfl, by decide +kernel, by decide +kernel⟩
abbrev s_sender_of : Stmt := top 29
abbrev N_sender_of : List Str := ["frame"]
abbrev ps_sender_of : List Str := ["frame"]
theorem sc_sender_of : FnScope N_sender_of ps_sender_of (defScope s_sender_of) := ⟨rfl, rfl, rfl, by decide +kernel, rfl, by decide +kernel, by decide +kernel⟩
abbrev s_kind_of : Stmt := top 30
abbrev N_kind_of : List Str := ["frame"]
abbrev ps_kind_of : List Str := ["frame"]
theorem sc_kind_of : FnScope N_kind_of ps_kind_of (defScope s_kind_of) := ⟨rfl, rfl, rfl, by decide +kernel, rfl, by decide +kernel, by decide +kernel⟩
abbrev s_body_of : Stmt := top 31
abbrev N_body_of : List Str := ["frame"]
abbrev ps_body_of : List Str := ["frame"]
theorem sc_body_of : FnScope N_body_of ps_body_of (defScope s_body_of) := ⟨rfl, rfl, rfl, by decide +kernel, rfl, by decide +kernel, by decide +kernel⟩
abbrev s_answer_make : Stmt := top 32
abbrev N_answer_make : List Str := ["kind", "to", "sender", "body", "refusal", "frame"]
abbrev ps_answer_make : List Str := ["kind", "to", "sender", "body"]
theorem sc_answer_make : FnScope N_answer_make ps_answer_make (defScope s_answer_make) := ⟨rfl, rfl, rfl, by decide +kernel, rfl, by decide +kernel, by decide +kernel⟩
abbrev s_answer_read : Stmt := top 33
abbrev N_answer_read : List Str := ["row"]
abbrev ps_answer_read : List Str := ["row"]
theorem sc_answer_read : FnScope N_answer_read ps_answer_read (defScope s_answer_read) := ⟨rfl, rfl, rfl, by decide +kernel, rfl, by decide +kernel, by decide +kernel⟩
abbrev s_Turns_init : Stmt := inClass (top 36) 0
abbrev N_Turns_init : List Str := ["self", "on", "has_share", "credit_of"]
abbrev ps_Turns_init : List Str := ["self", "on", "has_share", "credit_of"]
theorem sc_Turns_init : FnScope N_Turns_init ps_Turns_init (defScope s_Turns_init) := ⟨rfl, rfl, rfl, by decide +kernel, rfl, by decide +kernel, by decide +kernel⟩
abbrev s_Turns_trial : Stmt := inClass (top 36) 1
abbrev N_Turns_trial : List Str := ["self"]
abbrev ps_Turns_trial : List Str := ["self"]
theorem sc_Turns_trial : FnScope N_Turns_trial ps_Turns_trial (defScope s_Turns_trial) := ⟨rfl, rfl, rfl, by decide +kernel, rfl, by decide +kernel, by decide +kernel⟩
abbrev s_Turns_find_turn : Stmt := inClass (top 36) 2
abbrev N_Turns_find_turn : List Str := ["self", "queues"]
abbrev ps_Turns_find_turn : List Str := ["self", "queues"]
theorem sc_Turns_find_turn : FnScope N_Turns_find_turn ps_Turns_find_turn (defScope s_Turns_find_turn) := ⟨rfl, rfl, rfl, by decide +kernel, rfl, by decide +kernel, by decide +kernel⟩
abbrev s_Turns_try_turn : Stmt := inClass (top 36) 3
abbrev N_Turns_try_turn : List Str := ["self", "queue"]
abbrev ps_Turns_try_turn : List Str := ["self", "queue"]
theorem sc_Turns_try_turn : FnScope N_Turns_try_turn ps_Turns_try_turn (defScope s_Turns_try_turn) := ⟨rfl, rfl, rfl, by decide +kernel, rfl, by decide +kernel, by decide +kernel⟩
abbrev s_Turns_spend : Stmt := inClass (top 36) 4
abbrev N_Turns_spend : List Str := ["self", "length"]
abbrev ps_Turns_spend : List Str := ["self", "length"]
theorem sc_Turns_spend : FnScope N_Turns_spend ps_Turns_spend (defScope s_Turns_spend) := ⟨rfl, rfl, rfl, by decide +kernel, rfl, by decide +kernel, by decide +kernel⟩
abbrev s_Waiting_init : Stmt := inClass (top 53) 0
abbrev N_Waiting_init : List Str := ["self", "frame", "since"]
abbrev ps_Waiting_init : List Str := ["self", "frame", "since"]
theorem sc_Waiting_init : FnScope N_Waiting_init ps_Waiting_init (defScope s_Waiting_init) := ⟨rfl, rfl, rfl, by decide +kernel, rfl, by decide +kernel, by decide +kernel⟩
abbrev s_Queue_init : Stmt := inClass (top 54) 0
abbrev N_Queue_init : List Str := ["self"]
abbrev ps_Queue_init : List Str := ["self"]
theorem sc_Queue_init : FnScope N_Queue_init ps_Queue_init (defScope s_Queue_init) := ⟨rfl, rfl, rfl, by decide +kernel, rfl, by decide +kernel, by decide +kernel⟩
abbrev s_End_init : Stmt := inClass (top 55) 0
abbrev N_End_init : List Str := ["self", "now", "queues", "each", "life", "rate", "burst", "me", "k"]
abbrev ps_End_init : List Str := ["self", "now", "queues", "each", "life", "rate", "burst", "me"]
theorem sc_End_init : FnScope N_End_init ps_End_init (defScope s_End_init) := ⟨rfl, rfl, rfl, by decide +kernel, rfl, by decide +kernel, by decide +kernel⟩
abbrev s_End_set_weight : Stmt := inClass (top 55) 1
abbrev N_End_set_weight : List Str := ["self", "q", "w"]
abbrev ps_End_set_weight : List Str := ["self", "q", "w"]
theorem sc_End_set_weight : FnScope N_End_set_weight ps_End_set_weight (defScope s_End_set_weight) := ⟨rfl, rfl, rfl, by decide +kernel, rfl, by decide +kernel, by decide +kernel⟩
abbrev s_End_put : Stmt := inClass (top 55) 2
abbrev N_End_put : List Str := ["self", "now", "q", "kind", "to", "body", "refusal", "line"]
abbrev ps_End_put : List Str := ["self", "now", "q", "kind", "to", "body"]
theorem sc_End_put : FnScope N_End_put ps_End_put (defScope s_End_put) := ⟨rfl, rfl, rfl, by decide +kernel, rfl, by decide +kernel, by decide +kernel⟩
abbrev s_End_hand_out : Stmt := inClass (top 55) 3
abbrev N_End_hand_out : List Str := ["self", "now", "frame", "start"]
abbrev ps_End_hand_out : List Str := ["self", "now"]
theorem sc_End_hand_out : FnScope N_End_hand_out ps_End_hand_out (defScope s_End_hand_out) := ⟨rfl, rfl, rfl, by decide +kernel, rfl, by decide +kernel, by decide +kernel⟩
abbrev s_End_went : Stmt := inClass (top 55) 4
abbrev N_End_went : List Str := ["self", "now", "ok"]
abbrev ps_End_went : List Str := ["self", "now", "ok"]
theorem sc_End_went : FnScope N_End_went ps_End_went (defScope s_End_went) := ⟨rfl, rfl, rfl, by decide +kernel, rfl, by decide +kernel, by decide +kernel⟩
abbrev s_End_came : Stmt := inClass (top 55) 5
abbrev N_End_came : List Str := ["self", "row"]
abbrev ps_End_came : List Str := ["self", "row"]
theorem sc_End_came : FnScope N_End_came ps_End_came (defScope s_End_came) := ⟨rfl, rfl, rfl, by decide +kernel, rfl, by decide +kernel, by decide +kernel⟩
abbrev s_End_join_group : Stmt := inClass (top 55) 6
abbrev N_End_join_group : List Str := ["self", "group"]
abbrev ps_End_join_group : List Str := ["self", "group"]
theorem sc_End_join_group : FnScope N_End_join_group ps_End_join_group (defScope s_End_join_group) := ⟨rfl, rfl, rfl, by decide +kernel, rfl, by decide +kernel, by decide +kernel⟩
abbrev s_End_leave_group : Stmt := inClass (top 55) 7
abbrev N_End_leave_group : List Str := ["self", "group"]
abbrev ps_End_leave_group : List Str := ["self", "group"]
theorem sc_End_leave_group : FnScope N_End_leave_group ps_End_leave_group (defScope s_End_leave_group) := ⟨rfl, rfl, rfl, by decide +kernel, rfl, by decide +kernel, by decide +kernel⟩
abbrev s_End_hear : Stmt := inClass (top 55) 8
abbrev N_End_hear : List Str := ["self", "choice"]
abbrev ps_End_hear : List Str := ["self", "choice"]
theorem sc_End_hear : FnScope N_End_hear ps_End_hear (defScope s_End_hear) := ⟨rfl, rfl, rfl, by decide +kernel, rfl, by decide +kernel, by decide +kernel⟩
abbrev s_End_waits : Stmt := inClass (top 55) 9
abbrev N_End_waits : List Str := ["self", "now", "q", "line", "age", "one"]
abbrev ps_End_waits : List Str := ["self", "now", "q"]
theorem sc_End_waits : FnScope N_End_waits ps_End_waits (defScope s_End_waits) := ⟨rfl, rfl, rfl, by decide +kernel, rfl, by decide +kernel, by decide +kernel⟩
abbrev s_End_drop : Stmt := inClass (top 55) 10
abbrev N_End_drop : List Str := ["self", "q", "dropped"]
abbrev ps_End_drop : List Str := ["self", "q"]
theorem sc_End_drop : FnScope N_End_drop ps_End_drop (defScope s_End_drop) := ⟨rfl, rfl, rfl, by decide +kernel, rfl, by decide +kernel, by decide +kernel⟩
abbrev s_End_due : Stmt := inClass (top 55) 11
abbrev N_End_due : List Str := ["self", "now", "times"]
abbrev ps_End_due : List Str := ["self", "now"]
theorem sc_End_due : FnScope N_End_due ps_End_due (defScope s_End_due) := ⟨rfl, rfl, rfl, by decide +kernel, rfl, by decide +kernel, by decide +kernel⟩
abbrev s_End_may_be_now : Stmt := inClass (top 55) 12
abbrev N_End_may_be_now : List Str := ["self", "now"]
abbrev ps_End_may_be_now : List Str := ["self", "now"]
theorem sc_End_may_be_now : FnScope N_End_may_be_now ps_End_may_be_now (defScope s_End_may_be_now) := ⟨rfl, rfl, rfl, by decide +kernel, rfl, by decide +kernel, by decide +kernel⟩
abbrev s_End_has_queue : Stmt := inClass (top 55) 13
abbrev N_End_has_queue : List Str := ["self", "q"]
abbrev ps_End_has_queue : List Str := ["self", "q"]
theorem sc_End_has_queue : FnScope N_End_has_queue ps_End_has_queue (defScope s_End_has_queue) := ⟨rfl, rfl, rfl, by decide +kernel, rfl, by decide +kernel, by decide +kernel⟩
abbrev s_End_has_frames : Stmt := inClass (top 55) 14
abbrev N_End_has_frames : List Str := ["self", "queue"]
abbrev ps_End_has_frames : List Str := ["self"]
theorem sc_End_has_frames : FnScope N_End_has_frames ps_End_has_frames (defScope s_End_has_frames) := ⟨rfl, rfl, rfl, by decide +kernel, rfl, by decide +kernel, by decide +kernel⟩
abbrev s_End_hears : Stmt := inClass (top 55) 15
abbrev N_End_hears : List Str := ["self", "to"]
abbrev ps_End_hears : List Str := ["self", "to"]
theorem sc_End_hears : FnScope N_End_hears ps_End_hears (defScope s_End_hears) := ⟨rfl, rfl, rfl, by decide +kernel, rfl, by decide +kernel, by decide +kernel⟩
abbrev s_End_pass_time : Stmt := inClass (top 55) 16
abbrev N_End_pass_time : List Str := ["self", "now", "gained", "q"]
abbrev ps_End_pass_time : List Str := ["self", "now"]
theorem sc_End_pass_time : FnScope N_End_pass_time ps_End_pass_time (defScope s_End_pass_time) := ⟨rfl, rfl, rfl, by decide +kernel, rfl, by decide +kernel, by decide +kernel⟩
abbrev s_End_remove_old : Stmt := inClass (top 55) 17
abbrev N_End_remove_old : List Str := ["self", "q", "fresh", "one"]
abbrev ps_End_remove_old : List Str := ["self", "q"]
theorem sc_End_remove_old : FnScope N_End_remove_old ps_End_remove_old (defScope s_End_remove_old) := ⟨rfl, rfl, rfl, by decide +kernel, rfl, by decide +kernel, by decide +kernel⟩
abbrev s_End_how_many_out : Stmt := inClass (top 55) 18
abbrev N_End_how_many_out : List Str := ["self", "q"]
abbrev ps_End_how_many_out : List Str := ["self", "q"]
theorem sc_End_how_many_out : FnScope N_End_how_many_out ps_End_how_many_out (defScope s_End_how_many_out) := ⟨rfl, rfl, rfl, by decide +kernel, rfl, by decide +kernel, by decide +kernel⟩
abbrev s_End_not_out : Stmt := inClass (top 55) 19
abbrev N_End_not_out : List Str := ["self", "q"]
abbrev ps_End_not_out : List Str := ["self", "q"]
theorem sc_End_not_out : FnScope N_End_not_out ps_End_not_out (defScope s_End_not_out) := ⟨rfl, rfl, rfl, by decide +kernel, rfl, by decide +kernel, by decide +kernel⟩
abbrev s_End_keep_only : Stmt := inClass (top 55) 20
abbrev N_End_keep_only : List Str := ["self", "q", "staying", "queue", "kept", "gone"]
abbrev ps_End_keep_only : List Str := ["self", "q", "staying"]
theorem sc_End_keep_only : FnScope N_End_keep_only ps_End_keep_only (defScope s_End_keep_only) := ⟨rfl, rfl, rfl, by decide +kernel, rfl, by decide +kernel, by decide +kernel⟩
abbrev s_End_time_to_go : Stmt := inClass (top 55) 21
abbrev N_End_time_to_go : List Str := ["self", "length", "lacking"]
abbrev ps_End_time_to_go : List Str := ["self", "length"]
theorem sc_End_time_to_go : FnScope N_End_time_to_go ps_End_time_to_go (defScope s_End_time_to_go) := ⟨rfl, rfl, rfl, by decide +kernel, rfl, by decide +kernel, by decide +kernel⟩
abbrev s_End_times_to_go : Stmt := inClass (top 55) 22
abbrev N_End_times_to_go : List Str := ["self", "trial"]
abbrev ps_End_times_to_go : List Str := ["self"]
theorem sc_End_times_to_go : FnScope N_End_times_to_go ps_End_times_to_go (defScope s_End_times_to_go) := ⟨rfl, rfl, rfl, by decide +kernel, rfl, by decide +kernel, by decide +kernel⟩
abbrev s_End_times_of_age : Stmt := inClass (top 55) 23
abbrev N_End_times_of_age : List Str := ["self", "times", "q", "one"]
abbrev ps_End_times_of_age : List Str := ["self"]
theorem sc_End_times_of_age : FnScope N_End_times_of_age ps_End_times_of_age (defScope s_End_times_of_age) := ⟨rfl, rfl, rfl, by decide +kernel, rfl, by decide +kernel, by decide +kernel⟩
abbrev s_End_send_first : Stmt := inClass (top 55) 24
abbrev N_End_send_first : List Str := ["self", "length"]
abbrev ps_End_send_first : List Str := ["self"]
theorem sc_End_send_first : FnScope N_End_send_first ps_End_send_first (defScope s_End_send_first) := ⟨rfl, rfl, rfl, by decide +kernel, rfl, by decide +kernel, by decide +kernel⟩
abbrev s_open_end : Stmt := top 56
abbrev N_open_end : List Str := ["now", "queues", "each", "life", "rate", "burst", "me"]
abbrev ps_open_end : List Str := ["now", "queues", "each", "life", "rate", "burst", "me"]
theorem sc_open_end : FnScope N_open_end ps_open_end (defScope s_open_end) := ⟨rfl, rfl, rfl, by decide +kernel, rfl, by decide +kernel, by decide +kernel⟩
abbrev s_Desk_init : Stmt := inClass (top 73) 0
abbrev N_Desk_init : List Str := ["self", "calls"]
abbrev ps_Desk_init : List Str := ["self", "calls"]
theorem sc_Desk_init : FnScope N_Desk_init ps_Desk_init (defScope s_Desk_init) := ⟨rfl, rfl, rfl, by decide +kernel, rfl, by decide +kernel, by decide +kernel⟩
abbrev s_Desk_is_done : Stmt := inClass (top 73) 1
abbrev N_Desk_is_done : List Str := ["self"]
abbrev ps_Desk_is_done : List Str := ["self"]
theorem sc_Desk_is_done : FnScope N_Desk_is_done ps_Desk_is_done (defScope s_Desk_is_done) := ⟨rfl, rfl, rfl, by decide +kernel, rfl, by decide +kernel, by decide +kernel⟩
abbrev s_Desk_take_number : Stmt := inClass (top 73) 2
abbrev N_Desk_take_number : List Str := ["self", "number"]
abbrev ps_Desk_take_number : List Str := ["self"]
theorem sc_Desk_take_number : FnScope N_Desk_take_number ps_Desk_take_number (defScope s_Desk_take_number) := ⟨rfl, rfl, rfl, by decide +kernel, rfl, by decide +kernel, by decide +kernel⟩
abbrev s_Desk_take_row : Stmt := inClass (top 73) 3
abbrev N_Desk_take_row : List Str := ["self", "length", "start"]
abbrev ps_Desk_take_row : List Str := ["self"]
theorem sc_Desk_take_row : FnScope N_Desk_take_row ps_Desk_take_row (defScope s_Desk_take_row) := ⟨rfl, rfl, rfl, by decide +kernel, rfl, by decide +kernel, by decide +kernel⟩
abbrev s_Desk_take_given : Stmt := inClass (top 73) 4
abbrev N_Desk_take_given : List Str := ["self", "call", "form", "given", "k"]
abbrev ps_Desk_take_given : List Str := ["self", "call"]
theorem sc_Desk_take_given : FnScope N_Desk_take_given ps_Desk_take_given (defScope s_Desk_take_given) := ⟨rfl, rfl, rfl, by decide +kernel, rfl, by decide +kernel, by decide +kernel⟩
abbrev s_Desk_answer_call : Stmt := inClass (top 73) 5
abbrev N_Desk_answer_call : List Str := ["self", "call", "given"]
abbrev ps_Desk_answer_call : List Str := ["self"]
theorem sc_Desk_answer_call : FnScope N_Desk_answer_call ps_Desk_answer_call (defScope s_Desk_answer_call) := ⟨rfl, rfl, rfl, by decide +kernel, rfl, by decide +kernel, by decide +kernel⟩
abbrev s_Desk_answer_opening : Stmt := inClass (top 73) 6
abbrev N_Desk_answer_opening : List Str := ["self", "given", "end"]
abbrev ps_Desk_answer_opening : List Str := ["self", "given"]
theorem sc_Desk_answer_opening : FnScope N_Desk_answer_opening ps_Desk_answer_opening (defScope s_Desk_answer_opening) := ⟨rfl, rfl, rfl, by decide +kernel, rfl, by decide +kernel, by decide +kernel⟩
abbrev s_Desk_answer_counts : Stmt := inClass (top 73) 7
abbrev N_Desk_answer_counts : List Str := ["self", "counts"]
abbrev ps_Desk_answer_counts : List Str := ["self"]
theorem sc_Desk_answer_counts : FnScope N_Desk_answer_counts ps_Desk_answer_counts (defScope s_Desk_answer_counts) := ⟨rfl, rfl, rfl, by decide +kernel, rfl, by decide +kernel, by decide +kernel⟩
abbrev s_answer_at : Stmt := top 74
abbrev N_answer_at : List Str := ["end", "call", "given"]
abbrev ps_answer_at : List Str := ["end", "call", "given"]
theorem sc_answer_at : FnScope N_answer_at ps_answer_at (defScope s_answer_at) := ⟨rfl, rfl, rfl, by decide +kernel, rfl, by decide +kernel, by decide +kernel⟩
abbrev s_answers : Stmt := top 75
abbrev N_answers : List Str := ["calls", "desk", "told", "answer"]
abbrev ps_answers : List Str := ["calls"]
theorem sc_answers : FnScope N_answers ps_answers (defScope s_answers) := ⟨rfl, rfl, rfl, by decide +kernel, rfl, by decide +kernel, by decide +kernel⟩
/-- where the classes and the tables of the top stand -/
structure Cs where
  Counts : Addr
  Turns : Addr
  Waiting : Addr
  Queue : Addr
  End : Addr
  Desk : Addr
  EVERYBODY : Addr
  FORMS : Addr
  FORMS_1 : Addr
  FORMS_2 : Addr
  FORMS_3 : Addr
  FORMS_4 : Addr
  FORMS_5 : Addr
  FORMS_6 : Addr
  FORMS_7 : Addr
  FORMS_8 : Addr
  FORMS_9 : Addr
  FORMS_10 : Addr
  FORMS_11 : Addr
  FORMS_12 : Addr
  FORMS_13 : Addr
  FORMS_14 : Addr
  FORMS_15 : Addr
def ks_Counts : List Str := ["sent_frames", "sent_bytes", "heard_frames", "heard_bytes", "no_frames", "for_others", "dropped", "refused_full", "grown_old", "not_taken"]
theorem nd_Counts : ks_Counts.Nodup := by decide +kernel
def f_Counts (v0 v1 v2 v3 v4 v5 v6 v7 v8 v9 : V) : List (Str × V) := [("sent_frames", v0), ("sent_bytes", v1), ("heard_frames", v2), ("heard_bytes", v3), ("no_frames", v4), ("for_others", v5), ("dropped", v6), ("refused_full", v7), ("grown_old", v8), ("not_taken", v9)]
theorem z_Counts {v0 v1 v2 v3 v4 v5 v6 v7 v8 v9 : V} : (f_Counts v0 v1 v2 v3 v4 v5 v6 v7 v8 v9).length < 1000 := by show 10 < 1000; decide
theorem l_Counts_sent_frames {v0 v1 v2 v3 v4 v5 v6 v7 v8 v9 : V} : (f_Counts v0 v1 v2 v3 v4 v5 v6 v7 v8 v9).lookup ("sent_frames" : Str) = some v0 := lookup_at (i := 0) nd_Counts rfl
theorem p_Counts_sent_frames {v0 v1 v2 v3 v4 v5 v6 v7 v8 v9 : V} (y : V) : putF "sent_frames" y (f_Counts v0 v1 v2 v3 v4 v5 v6 v7 v8 v9) = f_Counts y v1 v2 v3 v4 v5 v6 v7 v8 v9 := putF_at (i := 0) nd_Counts rfl
theorem i_Counts_0 (v0 : V) : putF "sent_frames" v0 ([] : List (Str × V)) = ([("sent_frames", v0)] : List (Str × V)) := putF_new (show ¬ ("sent_frames" : Str) ∈ ([] : List Str) by decide +kernel)
theorem l_Counts_sent_bytes {v0 v1 v2 v3 v4 v5 v6 v7 v8 v9 : V} : (f_Counts v0 v1 v2 v3 v4 v5 v6 v7 v8 v9).lookup ("sent_bytes" : Str) = some v1 := lookup_at (i := 1) nd_Counts rfl
theorem p_Counts_sent_bytes {v0 v1 v2 v3 v4 v5 v6 v7 v8 v9 : V} (y : V) : putF "sent_bytes" y (f_Counts v0 v1 v2 v3 v4 v5 v6 v7 v8 v9) = f_Counts v0 y v2 v3 v4 v5 v6 v7 v8 v9 := putF_at (i := 1) nd_Counts rfl
theorem i_Counts_1 (v0 v1 : V) : putF "sent_bytes" v1 ([("sent_frames", v0)] : List (Str × V)) = ([("sent_frames", v0), ("sent_bytes", v1)] : List (Str × V)) := putF_new (show ¬ ("sent_bytes" : Str) ∈ (["sent_frames"] : List Str) by decide +kernel)
theorem l_Counts_heard_frames {v0 v1 v2 v3 v4 v5 v6 v7 v8 v9 : V} : (f_Counts v0 v1 v2 v3 v4 v5 v6 v7 v8 v9).lookup ("heard_frames" : Str) = some v2 := lookup_at (i := 2) nd_Counts rfl
theorem p_Counts_heard_frames {v0 v1 v2 v3 v4 v5 v6 v7 v8 v9 : V} (y : V) : putF "heard_frames" y (f_Counts v0 v1 v2 v3 v4 v5 v6 v7 v8 v9) = f_Counts v0 v1 y v3 v4 v5 v6 v7 v8 v9 := putF_at (i := 2) nd_Counts rfl
theorem i_Counts_2 (v0 v1 v2 : V) : putF "heard_frames" v2 ([("sent_frames", v0), ("sent_bytes", v1)] : List (Str × V)) = ([("sent_frames", v0), ("sent_bytes", v1), ("heard_frames", v2)] : List (Str × V)) := putF_new (show ¬ ("heard_frames" : Str) ∈ (["sent_frames", "sent_bytes"] : List Str) by decide +kernel)
theorem l_Counts_heard_bytes {v0 v1 v2 v3 v4 v5 v6 v7 v8 v9 : V} : (f_Counts v0 v1 v2 v3 v4 v5 v6 v7 v8 v9).lookup ("heard_bytes" : Str) = some v3 := lookup_at (i := 3) nd_Counts rfl
theorem p_Counts_heard_bytes {v0 v1 v2 v3 v4 v5 v6 v7 v8 v9 : V} (y : V) : putF "heard_bytes" y (f_Counts v0 v1 v2 v3 v4 v5 v6 v7 v8 v9) = f_Counts v0 v1 v2 y v4 v5 v6 v7 v8 v9 := putF_at (i := 3) nd_Counts rfl
theorem i_Counts_3 (v0 v1 v2 v3 : V) : putF "heard_bytes" v3 ([("sent_frames", v0), ("sent_bytes", v1), ("heard_frames", v2)] : List (Str × V)) = ([("sent_frames", v0), ("sent_bytes", v1), ("heard_frames", v2), ("heard_bytes", v3)] : List (Str × V)) := putF_new (show ¬ ("heard_bytes" : Str) ∈ (["sent_frames", "sent_bytes", "heard_frames"] : List Str) by decide +kernel)
theorem l_Counts_no_frames {v0 v1 v2 v3 v4 v5 v6 v7 v8 v9 : V} : (f_Counts v0 v1 v2 v3 v4 v5 v6 v7 v8 v9).lookup ("no_frames" : Str) = some v4 := lookup_at (i := 4) nd_Counts rfl
theorem p_Counts_no_frames {v0 v1 v2 v3 v4 v5 v6 v7 v8 v9 : V} (y : V) : putF "no_frames" y (f_Counts v0 v1 v2 v3 v4 v5 v6 v7 v8 v9) = f_Counts v0 v1 v2 v3 y v5 v6 v7 v8 v9 := putF_at (i := 4) nd_Counts rfl
theorem i_Counts_4 (v0 v1 v2 v3 v4 : V) : putF "no_frames" v4 ([("sent_frames", v0), ("sent_bytes", v1), ("heard_frames", v2), ("heard_bytes", v3)] : List (Str × V)) = ([("sent_frames", v0), ("sent_bytes", v1), ("heard_frames", v2), ("heard_bytes", v3), ("no_frames", v4)] : List (Str × V)) := putF_new (show ¬ ("no_frames" : Str) ∈ (["sent_frames", "sent_bytes", "heard_frames", "heard_bytes"] : List Str) by decide +kernel)
theorem l_Counts_for_others {v0 v1 v2 v3 v4 v5 v6 v7 v8 v9 : V} : (f_Counts v0 v1 v2 v3 v4 v5 v6 v7 v8 v9).lookup ("for_others" : Str) = some v5 := lookup_at (i := 5) nd_Counts rfl
theorem p_Counts_for_others {v0 v1 v2 v3 v4 v5 v6 v7 v8 v9 : V} (y : V) : putF "for_others" y (f_Counts v0 v1 v2 v3 v4 v5 v6 v7 v8 v9) = f_Counts v0 v1 v2 v3 v4 y v6 v7 v8 v9 := putF_at (i := 5) nd_Counts rfl
theorem i_Counts_5 (v0 v1 v2 v3 v4 v5 : V) : putF "for_others" v5 ([("sent_frames", v0), ("sent_bytes", v1), ("heard_frames", v2), ("heard_bytes", v3), ("no_frames", v4)] : List (Str × V)) = ([("sent_frames", v0), ("sent_bytes", v1), ("heard_frames", v2), ("heard_bytes", v3), ("no_frames", v4), ("for_others", v5)] : List (Str × V)) := putF_new (show ¬ ("for_others" : Str) ∈ (["sent_frames", "sent_bytes", "heard_frames", "heard_bytes", "no_frames"] : List Str) by decide +kernel)
theorem l_Counts_dropped {v0 v1 v2 v3 v4 v5 v6 v7 v8 v9 : V} : (f_Counts v0 v1 v2 v3 v4 v5 v6 v7 v8 v9).lookup ("dropped" : Str) = some v6 := lookup_at (i := 6) nd_Counts rfl
theorem p_Counts_dropped {v0 v1 v2 v3 v4 v5 v6 v7 v8 v9 : V} (y : V) : putF "dropped" y (f_Counts v0 v1 v2 v3 v4 v5 v6 v7 v8 v9) = f_Counts v0 v1 v2 v3 v4 v5 y v7 v8 v9 := putF_at (i := 6) nd_Counts rfl
theorem i_Counts_6 (v0 v1 v2 v3 v4 v5 v6 : V) : putF "dropped" v6 ([("sent_frames", v0), ("sent_bytes", v1), ("heard_frames", v2), ("heard_bytes", v3), ("no_frames", v4), ("for_others", v5)] : List (Str × V)) = ([("sent_frames", v0), ("sent_bytes", v1), ("heard_frames", v2), ("heard_bytes", v3), ("no_frames", v4), ("for_others", v5), ("dropped", v6)] : List (Str × V)) := putF_new (show ¬ ("dropped" : Str) ∈ (["sent_frames", "sent_bytes", "heard_frames", "heard_bytes", "no_frames", "for_others"] : List Str) by decide +kernel)
theorem l_Counts_refused_full {v0 v1 v2 v3 v4 v5 v6 v7 v8 v9 : V} : (f_Counts v0 v1 v2 v3 v4 v5 v6 v7 v8 v9).lookup ("refused_full" : Str) = some v7 := lookup_at (i := 7) nd_Counts rfl
theorem p_Counts_refused_full {v0 v1 v2 v3 v4 v5 v6 v7 v8 v9 : V} (y : V) : putF "refused_full" y (f_Counts v0 v1 v2 v3 v4 v5 v6 v7 v8 v9) = f_Counts v0 v1 v2 v3 v4 v5 v6 y v8 v9 := putF_at (i := 7) nd_Counts rfl
theorem i_Counts_7 (v0 v1 v2 v3 v4 v5 v6 v7 : V) : putF "refused_full" v7 ([("sent_frames", v0), ("sent_bytes", v1), ("heard_frames", v2), ("heard_bytes", v3), ("no_frames", v4), ("for_others", v5), ("dropped", v6)] : List (Str × V)) = ([("sent_frames", v0), ("sent_bytes", v1), ("heard_frames", v2), ("heard_bytes", v3), ("no_frames", v4), ("for_others", v5), ("dropped", v6), ("refused_full", v7)] : List (Str × V)) := putF_new (show ¬ ("refused_full" : Str) ∈ (["sent_frames", "sent_bytes", "heard_frames", "heard_bytes", "no_frames", "for_others", "dropped"] : List Str) by decide +kernel)
theorem l_Counts_grown_old {v0 v1 v2 v3 v4 v5 v6 v7 v8 v9 : V} : (f_Counts v0 v1 v2 v3 v4 v5 v6 v7 v8 v9).lookup ("grown_old" : Str) = some v8 := lookup_at (i := 8) nd_Counts rfl
theorem p_Counts_grown_old {v0 v1 v2 v3 v4 v5 v6 v7 v8 v9 : V} (y : V) : putF "grown_old" y (f_Counts v0 v1 v2 v3 v4 v5 v6 v7 v8 v9) = f_Counts v0 v1 v2 v3 v4 v5 v6 v7 y v9 := putF_at (i := 8) nd_Counts rfl
theorem i_Counts_8 (v0 v1 v2 v3 v4 v5 v6 v7 v8 : V) : putF "grown_old" v8 ([("sent_frames", v0), ("sent_bytes", v1), ("heard_frames", v2), ("heard_bytes", v3), ("no_frames", v4), ("for_others", v5), ("dropped", v6), ("refused_full", v7)] : List (Str × V)) = ([("sent_frames", v0), ("sent_bytes", v1), ("heard_frames", v2), ("heard_bytes", v3), ("no_frames", v4), ("for_others", v5), ("dropped", v6), ("refused_full", v7), ("grown_old", v8)] : List (Str × V)) := putF_new (show ¬ ("grown_old" : Str) ∈ (["sent_frames", "sent_bytes", "heard_frames", "heard_bytes", "no_frames", "for_others", "dropped", "refused_full"] : List Str) by decide +kernel)
theorem l_Counts_not_taken {v0 v1 v2 v3 v4 v5 v6 v7 v8 v9 : V} : (f_Counts v0 v1 v2 v3 v4 v5 v6 v7 v8 v9).lookup ("not_taken" : Str) = some v9 := lookup_at (i := 9) nd_Counts rfl
theorem p_Counts_not_taken {v0 v1 v2 v3 v4 v5 v6 v7 v8 v9 : V} (y : V) : putF "not_taken" y (f_Counts v0 v1 v2 v3 v4 v5 v6 v7 v8 v9) = f_Counts v0 v1 v2 v3 v4 v5 v6 v7 v8 y := putF_at (i := 9) nd_Counts rfl
theorem i_Counts_9 (v0 v1 v2 v3 v4 v5 v6 v7 v8 v9 : V) : putF "not_taken" v9 ([("sent_frames", v0), ("sent_bytes", v1), ("heard_frames", v2), ("heard_bytes", v3), ("no_frames", v4), ("for_others", v5), ("dropped", v6), ("refused_full", v7), ("grown_old", v8)] : List (Str × V)) = ([("sent_frames", v0), ("sent_bytes", v1), ("heard_frames", v2), ("heard_bytes", v3), ("no_frames", v4), ("for_others", v5), ("dropped", v6), ("refused_full", v7), ("grown_old", v8), ("not_taken", v9)] : List (Str × V)) := putF_new (show ¬ ("not_taken" : Str) ∈ (["sent_frames", "sent_bytes", "heard_frames", "heard_bytes", "no_frames", "for_others", "dropped", "refused_full", "grown_old"] : List Str) by decide +kernel)
theorem m_Counts_in_order {v0 v1 v2 v3 v4 v5 v6 v7 v8 v9 : V} : (f_Counts v0 v1 v2 v3 v4 v5 v6 v7 v8 v9).lookup ("in_order" : Str) = none := lookup_not (show ¬ ("in_order" : Str) ∈ ks_Counts by decide +kernel)
def ks_Turns : List Str := ["on", "has_share", "credit_of"]
theorem nd_Turns : ks_Turns.Nodup := by decide +kernel
def f_Turns (v0 v1 v2 : V) : List (Str × V) := [("on", v0), ("has_share", v1), ("credit_of", v2)]
theorem z_Turns {v0 v1 v2 : V} : (f_Turns v0 v1 v2).length < 1000 := by show 3 < 1000; decide
theorem l_Turns_on {v0 v1 v2 : V} : (f_Turns v0 v1 v2).lookup ("on" : Str) = some v0 := lookup_at (i := 0) nd_Turns rfl
theorem p_Turns_on {v0 v1 v2 : V} (y : V) : putF "on" y (f_Turns v0 v1 v2) = f_Turns y v1 v2 := putF_at (i := 0) nd_Turns rfl
theorem i_Turns_0 (v0 : V) : putF "on" v0 ([] : List (Str × V)) = ([("on", v0)] : List (Str × V)) := putF_new (show ¬ ("on" : Str) ∈ ([] : List Str) by decide +kernel)
theorem l_Turns_has_share {v0 v1 v2 : V} : (f_Turns v0 v1 v2).lookup ("has_share" : Str) = some v1 := lookup_at (i := 1) nd_Turns rfl
theorem p_Turns_has_share {v0 v1 v2 : V} (y : V) : putF "has_share" y (f_Turns v0 v1 v2) = f_Turns v0 y v2 := putF_at (i := 1) nd_Turns rfl
theorem i_Turns_1 (v0 v1 : V) : putF "has_share" v1 ([("on", v0)] : List (Str × V)) = ([("on", v0), ("has_share", v1)] : List (Str × V)) := putF_new (show ¬ ("has_share" : Str) ∈ (["on"] : List Str) by decide +kernel)
theorem l_Turns_credit_of {v0 v1 v2 : V} : (f_Turns v0 v1 v2).lookup ("credit_of" : Str) = some v2 := lookup_at (i := 2) nd_Turns rfl
theorem p_Turns_credit_of {v0 v1 v2 : V} (y : V) : putF "credit_of" y (f_Turns v0 v1 v2) = f_Turns v0 v1 y := putF_at (i := 2) nd_Turns rfl
theorem i_Turns_2 (v0 v1 v2 : V) : putF "credit_of" v2 ([("on", v0), ("has_share", v1)] : List (Str × V)) = ([("on", v0), ("has_share", v1), ("credit_of", v2)] : List (Str × V)) := putF_new (show ¬ ("credit_of" : Str) ∈ (["on", "has_share"] : List Str) by decide +kernel)
theorem m_Turns_trial {v0 v1 v2 : V} : (f_Turns v0 v1 v2).lookup ("trial" : Str) = none := lookup_not (show ¬ ("trial" : Str) ∈ ks_Turns by decide +kernel)
theorem m_Turns_find_turn {v0 v1 v2 : V} : (f_Turns v0 v1 v2).lookup ("find_turn" : Str) = none := lookup_not (show ¬ ("find_turn" : Str) ∈ ks_Turns by decide +kernel)
theorem m_Turns_try_turn {v0 v1 v2 : V} : (f_Turns v0 v1 v2).lookup ("try_turn" : Str) = none := lookup_not (show ¬ ("try_turn" : Str) ∈ ks_Turns by decide +kernel)
theorem m_Turns_spend {v0 v1 v2 : V} : (f_Turns v0 v1 v2).lookup ("spend" : Str) = none := lookup_not (show ¬ ("spend" : Str) ∈ ks_Turns by decide +kernel)
def ks_Waiting : List Str := ["frame", "since"]
theorem nd_Waiting : ks_Waiting.Nodup := by decide +kernel
def f_Waiting (v0 v1 : V) : List (Str × V) := [("frame", v0), ("since", v1)]
theorem z_Waiting {v0 v1 : V} : (f_Waiting v0 v1).length < 1000 := by show 2 < 1000; decide
theorem l_Waiting_frame {v0 v1 : V} : (f_Waiting v0 v1).lookup ("frame" : Str) = some v0 := lookup_at (i := 0) nd_Waiting rfl
theorem p_Waiting_frame {v0 v1 : V} (y : V) : putF "frame" y (f_Waiting v0 v1) = f_Waiting y v1 := putF_at (i := 0) nd_Waiting rfl
theorem i_Waiting_0 (v0 : V) : putF "frame" v0 ([] : List (Str × V)) = ([("frame", v0)] : List (Str × V)) := putF_new (show ¬ ("frame" : Str) ∈ ([] : List Str) by decide +kernel)
theorem l_Waiting_since {v0 v1 : V} : (f_Waiting v0 v1).lookup ("since" : Str) = some v1 := lookup_at (i := 1) nd_Waiting rfl
theorem p_Waiting_since {v0 v1 : V} (y : V) : putF "since" y (f_Waiting v0 v1) = f_Waiting v0 y := putF_at (i := 1) nd_Waiting rfl
theorem i_Waiting_1 (v0 v1 : V) : putF "since" v1 ([("frame", v0)] : List (Str × V)) = ([("frame", v0), ("since", v1)] : List (Str × V)) := putF_new (show ¬ ("since" : Str) ∈ (["frame"] : List Str) by decide +kernel)
def ks_Queue : List Str := ["weight", "line"]
theorem nd_Queue : ks_Queue.Nodup := by decide +kernel
def f_Queue (v0 v1 : V) : List (Str × V) := [("weight", v0), ("line", v1)]
theorem z_Queue {v0 v1 : V} : (f_Queue v0 v1).length < 1000 := by show 2 < 1000; decide
theorem l_Queue_weight {v0 v1 : V} : (f_Queue v0 v1).lookup ("weight" : Str) = some v0 := lookup_at (i := 0) nd_Queue rfl
theorem p_Queue_weight {v0 v1 : V} (y : V) : putF "weight" y (f_Queue v0 v1) = f_Queue y v1 := putF_at (i := 0) nd_Queue rfl
theorem i_Queue_0 (v0 : V) : putF "weight" v0 ([] : List (Str × V)) = ([("weight", v0)] : List (Str × V)) := putF_new (show ¬ ("weight" : Str) ∈ ([] : List Str) by decide +kernel)
theorem l_Queue_line {v0 v1 : V} : (f_Queue v0 v1).lookup ("line" : Str) = some v1 := lookup_at (i := 1) nd_Queue rfl
theorem p_Queue_line {v0 v1 : V} (y : V) : putF "line" y (f_Queue v0 v1) = f_Queue v0 y := putF_at (i := 1) nd_Queue rfl
theorem i_Queue_1 (v0 v1 : V) : putF "line" v1 ([("weight", v0)] : List (Str × V)) = ([("weight", v0), ("line", v1)] : List (Str × V)) := putF_new (show ¬ ("line" : Str) ∈ (["weight"] : List Str) by decide +kernel)
def ks_End : List Str := ["now", "queues", "each", "life", "pace", "most_may_go", "may_go", "me", "turns", "is_out", "groups", "hears_all", "counts"]
theorem nd_End : ks_End.Nodup := by decide +kernel
def f_End (v0 v1 v2 v3 v4 v5 v6 v7 v8 v9 v10 v11 v12 : V) : List (Str × V) := [("now", v0), ("queues", v1), ("each", v2), ("life", v3), ("pace", v4), ("most_may_go", v5), ("may_go", v6), ("me", v7), ("turns", v8), ("is_out", v9), ("groups", v10), ("hears_all", v11), ("counts", v12)]
theorem z_End {v0 v1 v2 v3 v4 v5 v6 v7 v8 v9 v10 v11 v12 : V} : (f_End v0 v1 v2 v3 v4 v5 v6 v7 v8 v9 v10 v11 v12).length < 1000 := by show 13 < 1000; decide
theorem l_End_now {v0 v1 v2 v3 v4 v5 v6 v7 v8 v9 v10 v11 v12 : V} : (f_End v0 v1 v2 v3 v4 v5 v6 v7 v8 v9 v10 v11 v12).lookup ("now" : Str) = some v0 := lookup_at (i := 0) nd_End rfl
theorem p_End_now {v0 v1 v2 v3 v4 v5 v6 v7 v8 v9 v10 v11 v12 : V} (y : V) : putF "now" y (f_End v0 v1 v2 v3 v4 v5 v6 v7 v8 v9 v10 v11 v12) = f_End y v1 v2 v3 v4 v5 v6 v7 v8 v9 v10 v11 v12 := putF_at (i := 0) nd_End rfl
theorem i_End_0 (v0 : V) : putF "now" v0 ([] : List (Str × V)) = ([("now", v0)] : List (Str × V)) := putF_new (show ¬ ("now" : Str) ∈ ([] : List Str) by decide +kernel)
theorem l_End_queues {v0 v1 v2 v3 v4 v5 v6 v7 v8 v9 v10 v11 v12 : V} : (f_End v0 v1 v2 v3 v4 v5 v6 v7 v8 v9 v10 v11 v12).lookup ("queues" : Str) = some v1 := lookup_at (i := 1) nd_End rfl
theorem p_End_queues {v0 v1 v2 v3 v4 v5 v6 v7 v8 v9 v10 v11 v12 : V} (y : V) : putF "queues" y (f_End v0 v1 v2 v3 v4 v5 v6 v7 v8 v9 v10 v11 v12) = f_End v0 y v2 v3 v4 v5 v6 v7 v8 v9 v10 v11 v12 := putF_at (i := 1) nd_End rfl
theorem i_End_1 (v0 v1 : V) : putF "queues" v1 ([("now", v0)] : List (Str × V)) = ([("now", v0), ("queues", v1)] : List (Str × V)) := putF_new (show ¬ ("queues" : Str) ∈ (["now"] : List Str) by decide +kernel)
theorem l_End_each {v0 v1 v2 v3 v4 v5 v6 v7 v8 v9 v10 v11 v12 : V} : (f_End v0 v1 v2 v3 v4 v5 v6 v7 v8 v9 v10 v11 v12).lookup ("each" : Str) = some v2 := lookup_at (i := 2) nd_End rfl
theorem p_End_each {v0 v1 v2 v3 v4 v5 v6 v7 v8 v9 v10 v11 v12 : V} (y : V) : putF "each" y (f_End v0 v1 v2 v3 v4 v5 v6 v7 v8 v9 v10 v11 v12) = f_End v0 v1 y v3 v4 v5 v6 v7 v8 v9 v10 v11 v12 := putF_at (i := 2) nd_End rfl
theorem i_End_2 (v0 v1 v2 : V) : putF "each" v2 ([("now", v0), ("queues", v1)] : List (Str × V)) = ([("now", v0), ("queues", v1), ("each", v2)] : List (Str × V)) := putF_new (show ¬ ("each" : Str) ∈ (["now", "queues"] : List Str) by decide +kernel)
theorem l_End_life {v0 v1 v2 v3 v4 v5 v6 v7 v8 v9 v10 v11 v12 : V} : (f_End v0 v1 v2 v3 v4 v5 v6 v7 v8 v9 v10 v11 v12).lookup ("life" : Str) = some v3 := lookup_at (i := 3) nd_End rfl
theorem p_End_life {v0 v1 v2 v3 v4 v5 v6 v7 v8 v9 v10 v11 v12 : V} (y : V) : putF "life" y (f_End v0 v1 v2 v3 v4 v5 v6 v7 v8 v9 v10 v11 v12) = f_End v0 v1 v2 y v4 v5 v6 v7 v8 v9 v10 v11 v12 := putF_at (i := 3) nd_End rfl
theorem i_End_3 (v0 v1 v2 v3 : V) : putF "life" v3 ([("now", v0), ("queues", v1), ("each", v2)] : List (Str × V)) = ([("now", v0), ("queues", v1), ("each", v2), ("life", v3)] : List (Str × V)) := putF_new (show ¬ ("life" : Str) ∈ (["now", "queues", "each"] : List Str) by decide +kernel)
theorem l_End_pace {v0 v1 v2 v3 v4 v5 v6 v7 v8 v9 v10 v11 v12 : V} : (f_End v0 v1 v2 v3 v4 v5 v6 v7 v8 v9 v10 v11 v12).lookup ("pace" : Str) = some v4 := lookup_at (i := 4) nd_End rfl
theorem p_End_pace {v0 v1 v2 v3 v4 v5 v6 v7 v8 v9 v10 v11 v12 : V} (y : V) : putF "pace" y (f_End v0 v1 v2 v3 v4 v5 v6 v7 v8 v9 v10 v11 v12) = f_End v0 v1 v2 v3 y v5 v6 v7 v8 v9 v10 v11 v12 := putF_at (i := 4) nd_End rfl
theorem i_End_4 (v0 v1 v2 v3 v4 : V) : putF "pace" v4 ([("now", v0), ("queues", v1), ("each", v2), ("life", v3)] : List (Str × V)) = ([("now", v0), ("queues", v1), ("each", v2), ("life", v3), ("pace", v4)] : List (Str × V)) := putF_new (show ¬ ("pace" : Str) ∈ (["now", "queues", "each", "life"] : List Str) by decide +kernel)
theorem l_End_most_may_go {v0 v1 v2 v3 v4 v5 v6 v7 v8 v9 v10 v11 v12 : V} : (f_End v0 v1 v2 v3 v4 v5 v6 v7 v8 v9 v10 v11 v12).lookup ("most_may_go" : Str) = some v5 := lookup_at (i := 5) nd_End rfl
theorem p_End_most_may_go {v0 v1 v2 v3 v4 v5 v6 v7 v8 v9 v10 v11 v12 : V} (y : V) : putF "most_may_go" y (f_End v0 v1 v2 v3 v4 v5 v6 v7 v8 v9 v10 v11 v12) = f_End v0 v1 v2 v3 v4 y v6 v7 v8 v9 v10 v11 v12 := putF_at (i := 5) nd_End rfl
theorem i_End_5 (v0 v1 v2 v3 v4 v5 : V) : putF "most_may_go" v5 ([("now", v0), ("queues", v1), ("each", v2), ("life", v3), ("pace", v4)] : List (Str × V)) = ([("now", v0), ("queues", v1), ("each", v2), ("life", v3), ("pace", v4), ("most_may_go", v5)] : List (Str × V)) := putF_new (show ¬ ("most_may_go" : Str) ∈ (["now", "queues", "each", "life", "pace"] : List Str) by decide +kernel)
theorem l_End_may_go {v0 v1 v2 v3 v4 v5 v6 v7 v8 v9 v10 v11 v12 : V} : (f_End v0 v1 v2 v3 v4 v5 v6 v7 v8 v9 v10 v11 v12).lookup ("may_go" : Str) = some v6 := lookup_at (i := 6) nd_End rfl
theorem p_End_may_go {v0 v1 v2 v3 v4 v5 v6 v7 v8 v9 v10 v11 v12 : V} (y : V) : putF "may_go" y (f_End v0 v1 v2 v3 v4 v5 v6 v7 v8 v9 v10 v11 v12) = f_End v0 v1 v2 v3 v4 v5 y v7 v8 v9 v10 v11 v12 := putF_at (i := 6) nd_End rfl
theorem i_End_6 (v0 v1 v2 v3 v4 v5 v6 : V) : putF "may_go" v6 ([("now", v0), ("queues", v1), ("each", v2), ("life", v3), ("pace", v4), ("most_may_go", v5)] : List (Str × V)) = ([("now", v0), ("queues", v1), ("each", v2), ("life", v3), ("pace", v4), ("most_may_go", v5), ("may_go", v6)] : List (Str × V)) := putF_new (show ¬ ("may_go" : Str) ∈ (["now", "queues", "each", "life", "pace", "most_may_go"] : List Str) by decide +kernel)
theorem l_End_me {v0 v1 v2 v3 v4 v5 v6 v7 v8 v9 v10 v11 v12 : V} : (f_End v0 v1 v2 v3 v4 v5 v6 v7 v8 v9 v10 v11 v12).lookup ("me" : Str) = some v7 := lookup_at (i := 7) nd_End rfl
theorem p_End_me {v0 v1 v2 v3 v4 v5 v6 v7 v8 v9 v10 v11 v12 : V} (y : V) : putF "me" y (f_End v0 v1 v2 v3 v4 v5 v6 v7 v8 v9 v10 v11 v12) = f_End v0 v1 v2 v3 v4 v5 v6 y v8 v9 v10 v11 v12 := putF_at (i := 7) nd_End rfl
theorem i_End_7 (v0 v1 v2 v3 v4 v5 v6 v7 : V) : putF "me" v7 ([("now", v0), ("queues", v1), ("each", v2), ("life", v3), ("pace", v4), ("most_may_go", v5), ("may_go", v6)] : List (Str × V)) = ([("now", v0), ("queues", v1), ("each", v2), ("life", v3), ("pace", v4), ("most_may_go", v5), ("may_go", v6), ("me", v7)] : List (Str × V)) := putF_new (show ¬ ("me" : Str) ∈ (["now", "queues", "each", "life", "pace", "most_may_go", "may_go"] : List Str) by decide +kernel)
theorem l_End_turns {v0 v1 v2 v3 v4 v5 v6 v7 v8 v9 v10 v11 v12 : V} : (f_End v0 v1 v2 v3 v4 v5 v6 v7 v8 v9 v10 v11 v12).lookup ("turns" : Str) = some v8 := lookup_at (i := 8) nd_End rfl
theorem p_End_turns {v0 v1 v2 v3 v4 v5 v6 v7 v8 v9 v10 v11 v12 : V} (y : V) : putF "turns" y (f_End v0 v1 v2 v3 v4 v5 v6 v7 v8 v9 v10 v11 v12) = f_End v0 v1 v2 v3 v4 v5 v6 v7 y v9 v10 v11 v12 := putF_at (i := 8) nd_End rfl
theorem i_End_8 (v0 v1 v2 v3 v4 v5 v6 v7 v8 : V) : putF "turns" v8 ([("now", v0), ("queues", v1), ("each", v2), ("life", v3), ("pace", v4), ("most_may_go", v5), ("may_go", v6), ("me", v7)] : List (Str × V)) = ([("now", v0), ("queues", v1), ("each", v2), ("life", v3), ("pace", v4), ("most_may_go", v5), ("may_go", v6), ("me", v7), ("turns", v8)] : List (Str × V)) := putF_new (show ¬ ("turns" : Str) ∈ (["now", "queues", "each", "life", "pace", "most_may_go", "may_go", "me"] : List Str) by decide +kernel)
theorem l_End_is_out {v0 v1 v2 v3 v4 v5 v6 v7 v8 v9 v10 v11 v12 : V} : (f_End v0 v1 v2 v3 v4 v5 v6 v7 v8 v9 v10 v11 v12).lookup ("is_out" : Str) = some v9 := lookup_at (i := 9) nd_End rfl
theorem p_End_is_out {v0 v1 v2 v3 v4 v5 v6 v7 v8 v9 v10 v11 v12 : V} (y : V) : putF "is_out" y (f_End v0 v1 v2 v3 v4 v5 v6 v7 v8 v9 v10 v11 v12) = f_End v0 v1 v2 v3 v4 v5 v6 v7 v8 y v10 v11 v12 := putF_at (i := 9) nd_End rfl
theorem i_End_9 (v0 v1 v2 v3 v4 v5 v6 v7 v8 v9 : V) : putF "is_out" v9 ([("now", v0), ("queues", v1), ("each", v2), ("life", v3), ("pace", v4), ("most_may_go", v5), ("may_go", v6), ("me", v7), ("turns", v8)] : List (Str × V)) = ([("now", v0), ("queues", v1), ("each", v2), ("life", v3), ("pace", v4), ("most_may_go", v5), ("may_go", v6), ("me", v7), ("turns", v8), ("is_out", v9)] : List (Str × V)) := putF_new (show ¬ ("is_out" : Str) ∈ (["now", "queues", "each", "life", "pace", "most_may_go", "may_go", "me", "turns"] : List Str) by decide +kernel)
theorem l_End_groups {v0 v1 v2 v3 v4 v5 v6 v7 v8 v9 v10 v11 v12 : V} : (f_End v0 v1 v2 v3 v4 v5 v6 v7 v8 v9 v10 v11 v12).lookup ("groups" : Str) = some v10 := lookup_at (i := 10) nd_End rfl
theorem p_End_groups {v0 v1 v2 v3 v4 v5 v6 v7 v8 v9 v10 v11 v12 : V} (y : V) : putF "groups" y (f_End v0 v1 v2 v3 v4 v5 v6 v7 v8 v9 v10 v11 v12) = f_End v0 v1 v2 v3 v4 v5 v6 v7 v8 v9 y v11 v12 := putF_at (i := 10) nd_End rfl
theorem i_End_10 (v0 v1 v2 v3 v4 v5 v6 v7 v8 v9 v10 : V) : putF "groups" v10 ([("now", v0), ("queues", v1), ("each", v2), ("life", v3), ("pace", v4), ("most_may_go", v5), ("may_go", v6), ("me", v7), ("turns", v8), ("is_out", v9)] : List (Str × V)) = ([("now", v0), ("queues", v1), ("each", v2), ("life", v3), ("pace", v4), ("most_may_go", v5), ("may_go", v6), ("me", v7), ("turns", v8), ("is_out", v9), ("groups", v10)] : List (Str × V)) := putF_new (show ¬ ("groups" : Str) ∈ (["now", "queues", "each", "life", "pace", "most_may_go", "may_go", "me", "turns", "is_out"] : List Str) by decide +kernel)
theorem l_End_hears_all {v0 v1 v2 v3 v4 v5 v6 v7 v8 v9 v10 v11 v12 : V} : (f_End v0 v1 v2 v3 v4 v5 v6 v7 v8 v9 v10 v11 v12).lookup ("hears_all" : Str) = some v11 := lookup_at (i := 11) nd_End rfl
theorem p_End_hears_all {v0 v1 v2 v3 v4 v5 v6 v7 v8 v9 v10 v11 v12 : V} (y : V) : putF "hears_all" y (f_End v0 v1 v2 v3 v4 v5 v6 v7 v8 v9 v10 v11 v12) = f_End v0 v1 v2 v3 v4 v5 v6 v7 v8 v9 v10 y v12 := putF_at (i := 11) nd_End rfl
theorem i_End_11 (v0 v1 v2 v3 v4 v5 v6 v7 v8 v9 v10 v11 : V) : putF "hears_all" v11 ([("now", v0), ("queues", v1), ("each", v2), ("life", v3), ("pace", v4), ("most_may_go", v5), ("may_go", v6), ("me", v7), ("turns", v8), ("is_out", v9), ("groups", v10)] : List (Str × V)) = ([("now", v0), ("queues", v1), ("each", v2), ("life", v3), ("pace", v4), ("most_may_go", v5), ("may_go", v6), ("me", v7), ("turns", v8), ("is_out", v9), ("groups", v10), ("hears_all", v11)] : List (Str × V)) := putF_new (show ¬ ("hears_all" : Str) ∈ (["now", "queues", "each", "life", "pace", "most_may_go", "may_go", "me", "turns", "is_out", "groups"] : List Str) by decide +kernel)
theorem l_End_counts {v0 v1 v2 v3 v4 v5 v6 v7 v8 v9 v10 v11 v12 : V} : (f_End v0 v1 v2 v3 v4 v5 v6 v7 v8 v9 v10 v11 v12).lookup ("counts" : Str) = some v12 := lookup_at (i := 12) nd_End rfl
theorem p_End_counts {v0 v1 v2 v3 v4 v5 v6 v7 v8 v9 v10 v11 v12 : V} (y : V) : putF "counts" y (f_End v0 v1 v2 v3 v4 v5 v6 v7 v8 v9 v10 v11 v12) = f_End v0 v1 v2 v3 v4 v5 v6 v7 v8 v9 v10 v11 y := putF_at (i := 12) nd_End rfl
theorem i_End_12 (v0 v1 v2 v3 v4 v5 v6 v7 v8 v9 v10 v11 v12 : V) : putF "counts" v12 ([("now", v0), ("queues", v1), ("each", v2), ("life", v3), ("pace", v4), ("most_may_go", v5), ("may_go", v6), ("me", v7), ("turns", v8), ("is_out", v9), ("groups", v10), ("hears_all", v11)] : List (Str × V)) = ([("now", v0), ("queues", v1), ("each", v2), ("life", v3), ("pace", v4), ("most_may_go", v5), ("may_go", v6), ("me", v7), ("turns", v8), ("is_out", v9), ("groups", v10), ("hears_all", v11), ("counts", v12)] : List (Str × V)) := putF_new (show ¬ ("counts" : Str) ∈ (["now", "queues", "each", "life", "pace", "most_may_go", "may_go", "me", "turns", "is_out", "groups", "hears_all"] : List Str) by decide +kernel)
theorem m_End_set_weight {v0 v1 v2 v3 v4 v5 v6 v7 v8 v9 v10 v11 v12 : V} : (f_End v0 v1 v2 v3 v4 v5 v6 v7 v8 v9 v10 v11 v12).lookup ("set_weight" : Str) = none := lookup_not (show ¬ ("set_weight" : Str) ∈ ks_End by decide +kernel)
theorem m_End_put {v0 v1 v2 v3 v4 v5 v6 v7 v8 v9 v10 v11 v12 : V} : (f_End v0 v1 v2 v3 v4 v5 v6 v7 v8 v9 v10 v11 v12).lookup ("put" : Str) = none := lookup_not (show ¬ ("put" : Str) ∈ ks_End by decide +kernel)
theorem m_End_hand_out {v0 v1 v2 v3 v4 v5 v6 v7 v8 v9 v10 v11 v12 : V} : (f_End v0 v1 v2 v3 v4 v5 v6 v7 v8 v9 v10 v11 v12).lookup ("hand_out" : Str) = none := lookup_not (show ¬ ("hand_out" : Str) ∈ ks_End by decide +kernel)
theorem m_End_went {v0 v1 v2 v3 v4 v5 v6 v7 v8 v9 v10 v11 v12 : V} : (f_End v0 v1 v2 v3 v4 v5 v6 v7 v8 v9 v10 v11 v12).lookup ("went" : Str) = none := lookup_not (show ¬ ("went" : Str) ∈ ks_End by decide +kernel)
theorem m_End_came {v0 v1 v2 v3 v4 v5 v6 v7 v8 v9 v10 v11 v12 : V} : (f_End v0 v1 v2 v3 v4 v5 v6 v7 v8 v9 v10 v11 v12).lookup ("came" : Str) = none := lookup_not (show ¬ ("came" : Str) ∈ ks_End by decide +kernel)
theorem m_End_join_group {v0 v1 v2 v3 v4 v5 v6 v7 v8 v9 v10 v11 v12 : V} : (f_End v0 v1 v2 v3 v4 v5 v6 v7 v8 v9 v10 v11 v12).lookup ("join_group" : Str) = none := lookup_not (show ¬ ("join_group" : Str) ∈ ks_End by decide +kernel)
theorem m_End_leave_group {v0 v1 v2 v3 v4 v5 v6 v7 v8 v9 v10 v11 v12 : V} : (f_End v0 v1 v2 v3 v4 v5 v6 v7 v8 v9 v10 v11 v12).lookup ("leave_group" : Str) = none := lookup_not (show ¬ ("leave_group" : Str) ∈ ks_End by decide +kernel)
theorem m_End_hear {v0 v1 v2 v3 v4 v5 v6 v7 v8 v9 v10 v11 v12 : V} : (f_End v0 v1 v2 v3 v4 v5 v6 v7 v8 v9 v10 v11 v12).lookup ("hear" : Str) = none := lookup_not (show ¬ ("hear" : Str) ∈ ks_End by decide +kernel)
theorem m_End_waits {v0 v1 v2 v3 v4 v5 v6 v7 v8 v9 v10 v11 v12 : V} : (f_End v0 v1 v2 v3 v4 v5 v6 v7 v8 v9 v10 v11 v12).lookup ("waits" : Str) = none := lookup_not (show ¬ ("waits" : Str) ∈ ks_End by decide +kernel)
theorem m_End_drop {v0 v1 v2 v3 v4 v5 v6 v7 v8 v9 v10 v11 v12 : V} : (f_End v0 v1 v2 v3 v4 v5 v6 v7 v8 v9 v10 v11 v12).lookup ("drop" : Str) = none := lookup_not (show ¬ ("drop" : Str) ∈ ks_End by decide +kernel)
theorem m_End_due {v0 v1 v2 v3 v4 v5 v6 v7 v8 v9 v10 v11 v12 : V} : (f_End v0 v1 v2 v3 v4 v5 v6 v7 v8 v9 v10 v11 v12).lookup ("due" : Str) = none := lookup_not (show ¬ ("due" : Str) ∈ ks_End by decide +kernel)
theorem m_End_may_be_now {v0 v1 v2 v3 v4 v5 v6 v7 v8 v9 v10 v11 v12 : V} : (f_End v0 v1 v2 v3 v4 v5 v6 v7 v8 v9 v10 v11 v12).lookup ("may_be_now" : Str) = none := lookup_not (show ¬ ("may_be_now" : Str) ∈ ks_End by decide +kernel)
theorem m_End_has_queue {v0 v1 v2 v3 v4 v5 v6 v7 v8 v9 v10 v11 v12 : V} : (f_End v0 v1 v2 v3 v4 v5 v6 v7 v8 v9 v10 v11 v12).lookup ("has_queue" : Str) = none := lookup_not (show ¬ ("has_queue" : Str) ∈ ks_End by decide +kernel)
theorem m_End_has_frames {v0 v1 v2 v3 v4 v5 v6 v7 v8 v9 v10 v11 v12 : V} : (f_End v0 v1 v2 v3 v4 v5 v6 v7 v8 v9 v10 v11 v12).lookup ("has_frames" : Str) = none := lookup_not (show ¬ ("has_frames" : Str) ∈ ks_End by decide +kernel)
theorem m_End_hears {v0 v1 v2 v3 v4 v5 v6 v7 v8 v9 v10 v11 v12 : V} : (f_End v0 v1 v2 v3 v4 v5 v6 v7 v8 v9 v10 v11 v12).lookup ("hears" : Str) = none := lookup_not (show ¬ ("hears" : Str) ∈ ks_End by decide +kernel)
theorem m_End_pass_time {v0 v1 v2 v3 v4 v5 v6 v7 v8 v9 v10 v11 v12 : V} : (f_End v0 v1 v2 v3 v4 v5 v6 v7 v8 v9 v10 v11 v12).lookup ("pass_time" : Str) = none := lookup_not (show ¬ ("pass_time" : Str) ∈ ks_End by decide +kernel)
theorem m_End_remove_old {v0 v1 v2 v3 v4 v5 v6 v7 v8 v9 v10 v11 v12 : V} : (f_End v0 v1 v2 v3 v4 v5 v6 v7 v8 v9 v10 v11 v12).lookup ("remove_old" : Str) = none := lookup_not (show ¬ ("remove_old" : Str) ∈ ks_End by decide +kernel)
theorem m_End_how_many_out {v0 v1 v2 v3 v4 v5 v6 v7 v8 v9 v10 v11 v12 : V} : (f_End v0 v1 v2 v3 v4 v5 v6 v7 v8 v9 v10 v11 v12).lookup ("how_many_out" : Str) = none := lookup_not (show ¬ ("how_many_out" : Str) ∈ ks_End by decide +kernel)
theorem m_End_not_out {v0 v1 v2 v3 v4 v5 v6 v7 v8 v9 v10 v11 v12 : V} : (f_End v0 v1 v2 v3 v4 v5 v6 v7 v8 v9 v10 v11 v12).lookup ("not_out" : Str) = none := lookup_not (show ¬ ("not_out" : Str) ∈ ks_End by decide +kernel)
theorem m_End_keep_only {v0 v1 v2 v3 v4 v5 v6 v7 v8 v9 v10 v11 v12 : V} : (f_End v0 v1 v2 v3 v4 v5 v6 v7 v8 v9 v10 v11 v12).lookup ("keep_only" : Str) = none := lookup_not (show ¬ ("keep_only" : Str) ∈ ks_End by decide +kernel)
theorem m_End_time_to_go {v0 v1 v2 v3 v4 v5 v6 v7 v8 v9 v10 v11 v12 : V} : (f_End v0 v1 v2 v3 v4 v5 v6 v7 v8 v9 v10 v11 v12).lookup ("time_to_go" : Str) = none := lookup_not (show ¬ ("time_to_go" : Str) ∈ ks_End by decide +kernel)
theorem m_End_times_to_go {v0 v1 v2 v3 v4 v5 v6 v7 v8 v9 v10 v11 v12 : V} : (f_End v0 v1 v2 v3 v4 v5 v6 v7 v8 v9 v10 v11 v12).lookup ("times_to_go" : Str) = none := lookup_not (show ¬ ("times_to_go" : Str) ∈ ks_End by decide +kernel)
theorem m_End_times_of_age {v0 v1 v2 v3 v4 v5 v6 v7 v8 v9 v10 v11 v12 : V} : (f_End v0 v1 v2 v3 v4 v5 v6 v7 v8 v9 v10 v11 v12).lookup ("times_of_age" : Str) = none := lookup_not (show ¬ ("times_of_age" : Str) ∈ ks_End by decide +kernel)
theorem m_End_send_first {v0 v1 v2 v3 v4 v5 v6 v7 v8 v9 v10 v11 v12 : V} : (f_End v0 v1 v2 v3 v4 v5 v6 v7 v8 v9 v10 v11 v12).lookup ("send_first" : Str) = none := lookup_not (show ¬ ("send_first" : Str) ∈ ks_End by decide +kernel)
def ks_Desk : List Str := ["calls", "place", "end"]
theorem nd_Desk : ks_Desk.Nodup := by decide +kernel
def f_Desk (v0 v1 v2 : V) : List (Str × V) := [("calls", v0), ("place", v1), ("end", v2)]
theorem z_Desk {v0 v1 v2 : V} : (f_Desk v0 v1 v2).length < 1000 := by show 3 < 1000; decide
theorem l_Desk_calls {v0 v1 v2 : V} : (f_Desk v0 v1 v2).lookup ("calls" : Str) = some v0 := lookup_at (i := 0) nd_Desk rfl
theorem p_Desk_calls {v0 v1 v2 : V} (y : V) : putF "calls" y (f_Desk v0 v1 v2) = f_Desk y v1 v2 := putF_at (i := 0) nd_Desk rfl
theorem i_Desk_0 (v0 : V) : putF "calls" v0 ([] : List (Str × V)) = ([("calls", v0)] : List (Str × V)) := putF_new (show ¬ ("calls" : Str) ∈ ([] : List Str) by decide +kernel)
theorem l_Desk_place {v0 v1 v2 : V} : (f_Desk v0 v1 v2).lookup ("place" : Str) = some v1 := lookup_at (i := 1) nd_Desk rfl
theorem p_Desk_place {v0 v1 v2 : V} (y : V) : putF "place" y (f_Desk v0 v1 v2) = f_Desk v0 y v2 := putF_at (i := 1) nd_Desk rfl
theorem i_Desk_1 (v0 v1 : V) : putF "place" v1 ([("calls", v0)] : List (Str × V)) = ([("calls", v0), ("place", v1)] : List (Str × V)) := putF_new (show ¬ ("place" : Str) ∈ (["calls"] : List Str) by decide +kernel)
theorem l_Desk_end {v0 v1 v2 : V} : (f_Desk v0 v1 v2).lookup ("end" : Str) = some v2 := lookup_at (i := 2) nd_Desk rfl
theorem p_Desk_end {v0 v1 v2 : V} (y : V) : putF "end" y (f_Desk v0 v1 v2) = f_Desk v0 v1 y := putF_at (i := 2) nd_Desk rfl
theorem i_Desk_2 (v0 v1 v2 : V) : putF "end" v2 ([("calls", v0), ("place", v1)] : List (Str × V)) = ([("calls", v0), ("place", v1), ("end", v2)] : List (Str × V)) := putF_new (show ¬ ("end" : Str) ∈ (["calls", "place"] : List Str) by decide +kernel)
theorem m_Desk_is_done {v0 v1 v2 : V} : (f_Desk v0 v1 v2).lookup ("is_done" : Str) = none := lookup_not (show ¬ ("is_done" : Str) ∈ ks_Desk by decide +kernel)
theorem m_Desk_take_number {v0 v1 v2 : V} : (f_Desk v0 v1 v2).lookup ("take_number" : Str) = none := lookup_not (show ¬ ("take_number" : Str) ∈ ks_Desk by decide +kernel)
theorem m_Desk_take_row {v0 v1 v2 : V} : (f_Desk v0 v1 v2).lookup ("take_row" : Str) = none := lookup_not (show ¬ ("take_row" : Str) ∈ ks_Desk by decide +kernel)
theorem m_Desk_take_given {v0 v1 v2 : V} : (f_Desk v0 v1 v2).lookup ("take_given" : Str) = none := lookup_not (show ¬ ("take_given" : Str) ∈ ks_Desk by decide +kernel)
theorem m_Desk_answer_call {v0 v1 v2 : V} : (f_Desk v0 v1 v2).lookup ("answer_call" : Str) = none := lookup_not (show ¬ ("answer_call" : Str) ∈ ks_Desk by decide +kernel)
theorem m_Desk_answer_opening {v0 v1 v2 : V} : (f_Desk v0 v1 v2).lookup ("answer_opening" : Str) = none := lookup_not (show ¬ ("answer_opening" : Str) ∈ ks_Desk by decide +kernel)
theorem m_Desk_answer_counts {v0 v1 v2 : V} : (f_Desk v0 v1 v2).lookup ("answer_counts" : Str) = none := lookup_not (show ¬ ("answer_counts" : Str) ∈ ks_Desk by decide +kernel)
/-- what the walk asks of the top -/
structure Txt (K : PySem.W.Frag) (mg : Str → Option Value) (C : Cs) : Prop where
  c_Counts : Cls K C.Counts
  n_Counts_sent_frames : NoAttr K C.Counts "sent_frames"
  n_Counts_sent_bytes : NoAttr K C.Counts "sent_bytes"
  n_Counts_heard_frames : NoAttr K C.Counts "heard_frames"
  n_Counts_heard_bytes : NoAttr K C.Counts "heard_bytes"
  n_Counts_no_frames : NoAttr K C.Counts "no_frames"
  n_Counts_for_others : NoAttr K C.Counts "for_others"
  n_Counts_dropped : NoAttr K C.Counts "dropped"
  n_Counts_refused_full : NoAttr K C.Counts "refused_full"
  n_Counts_grown_old : NoAttr K C.Counts "grown_old"
  n_Counts_not_taken : NoAttr K C.Counts "not_taken"
  c_Turns : Cls K C.Turns
  n_Turns_on : NoAttr K C.Turns "on"
  n_Turns_has_share : NoAttr K C.Turns "has_share"
  n_Turns_credit_of : NoAttr K C.Turns "credit_of"
  c_Waiting : Cls K C.Waiting
  n_Waiting_frame : NoAttr K C.Waiting "frame"
  n_Waiting_since : NoAttr K C.Waiting "since"
  c_Queue : Cls K C.Queue
  n_Queue_weight : NoAttr K C.Queue "weight"
  n_Queue_line : NoAttr K C.Queue "line"
  c_End : Cls K C.End
  n_End_now : NoAttr K C.End "now"
  n_End_queues : NoAttr K C.End "queues"
  n_End_each : NoAttr K C.End "each"
  n_End_life : NoAttr K C.End "life"
  n_End_pace : NoAttr K C.End "pace"
  n_End_most_may_go : NoAttr K C.End "most_may_go"
  n_End_may_go : NoAttr K C.End "may_go"
  n_End_me : NoAttr K C.End "me"
  n_End_turns : NoAttr K C.End "turns"
  n_End_is_out : NoAttr K C.End "is_out"
  n_End_groups : NoAttr K C.End "groups"
  n_End_hears_all : NoAttr K C.End "hears_all"
  n_End_counts : NoAttr K C.End "counts"
  c_Desk : Cls K C.Desk
  n_Desk_calls : NoAttr K C.Desk "calls"
  n_Desk_place : NoAttr K C.Desk "place"
  n_Desk_end : NoAttr K C.Desk "end"
  g_WRONG : GI mg "WRONG" (-1)
  g_NOT_THERE : GI mg "NOT_THERE" (-2)
  g_NO_FRAME : GI mg "NO_FRAME" (-3)
  g_NOT_NOW : GI mg "NOT_NOW" (-4)
  g_FULL : GI mg "FULL" (-5)
  g_TOO_LONG : GI mg "TOO_LONG" (-7)
  g_ADDRESS_LENGTH : GI mg "ADDRESS_LENGTH" (6)
  g_EVERYBODY : mg "EVERYBODY" = some (.ref C.EVERYBODY) ∧ KTup K C.EVERYBODY [255, 255, 255, 255, 255, 255]
  g_HIGHEST_KIND : GI mg "HIGHEST_KIND" (65535)
  g_LONGEST_BODY : GI mg "LONGEST_BODY" (1500)
  g_HEAD_LENGTH : GI mg "HEAD_LENGTH" (14)
  g_CHECK_LENGTH : GI mg "CHECK_LENGTH" (4)
  g_SHORTEST_FRAME : GI mg "SHORTEST_FRAME" (19)
  g_LONGEST_FRAME : GI mg "LONGEST_FRAME" (1518)
  g_ALL_ONES : GI mg "ALL_ONES" (4294967295)
  g_POLYNOMIAL : GI mg "POLYNOMIAL" (2197175160)
  g_SHARE : GI mg "SHARE" (256)
  g_NOTHING_WAITS : GI mg "NOTHING_WAITS" (0)
  g_HANDED_OUT : GI mg "HANDED_OUT" (1)
  g_LATER : GI mg "LATER" (2)
  g_NOT_FOR_HERE : GI mg "NOT_FOR_HERE" (0)
  g_FOR_HERE : GI mg "FOR_HERE" (1)
  g_TIME_LIMIT : GI mg "TIME_LIMIT" (9223372036854775808)
  g_MOST_QUEUES : GI mg "MOST_QUEUES" (8)
  g_MOST_EACH : GI mg "MOST_EACH" (64)
  g_LONGEST_LIFE : GI mg "LONGEST_LIFE" (3600000)
  g_HIGHEST_RATE : GI mg "HIGHEST_RATE" (4294967295)
  g_LEAST_BURST : GI mg "LEAST_BURST" (1518)
  g_MOST_BURST : GI mg "MOST_BURST" (16777216)
  g_MOST_WEIGHT : GI mg "MOST_WEIGHT" (64)
  g_MOST_GROUPS : GI mg "MOST_GROUPS" (16)
  g_THOUSANDTHS : GI mg "THOUSANDTHS" (1000)
  g_OPEN : GI mg "OPEN" (1)
  g_WEIGHT : GI mg "WEIGHT" (2)
  g_PUT : GI mg "PUT" (3)
  g_NEXT : GI mg "NEXT" (4)
  g_WENT : GI mg "WENT" (5)
  g_CAME : GI mg "CAME" (6)
  g_JOIN : GI mg "JOIN" (7)
  g_LEAVE : GI mg "LEAVE" (8)
  g_HEAR : GI mg "HEAR" (9)
  g_WAITS : GI mg "WAITS" (10)
  g_DROP : GI mg "DROP" (11)
  g_COUNTS : GI mg "COUNTS" (12)
  g_MAKE : GI mg "MAKE" (13)
  g_READ : GI mg "READ" (14)
  g_FORMS : mg "FORMS" = some (.ref C.FORMS) ∧ KD K C.FORMS [(1, .ref C.FORMS_1), (2, .ref C.FORMS_2), (3, .ref C.FORMS_3), (4, .ref C.FORMS_4), (5, .ref C.FORMS_5), (6, .ref C.FORMS_6), (7, .ref C.FORMS_7), (8, .ref C.FORMS_8), (9, .ref C.FORMS_9), (10, .ref C.FORMS_10), (11, .ref C.FORMS_11), (12, .ref C.FORMS_12), (13, .ref C.FORMS_13), (14, .ref C.FORMS_14), (15, .ref C.FORMS_15)]
  t_FORMS_1 : KTup K C.FORMS_1 [6, 1]
  t_FORMS_2 : KTup K C.FORMS_2 [2, 0]
  t_FORMS_3 : KTup K C.FORMS_3 [3, 2]
  t_FORMS_4 : KTup K C.FORMS_4 [1, 0]
  t_FORMS_5 : KTup K C.FORMS_5 [2, 0]
  t_FORMS_6 : KTup K C.FORMS_6 [0, 1]
  t_FORMS_7 : KTup K C.FORMS_7 [0, 1]
  t_FORMS_8 : KTup K C.FORMS_8 [0, 1]
  t_FORMS_9 : KTup K C.FORMS_9 [1, 0]
  t_FORMS_10 : KTup K C.FORMS_10 [2, 0]
  t_FORMS_11 : KTup K C.FORMS_11 [1, 0]
  t_FORMS_12 : KTup K C.FORMS_12 [0, 0]
  t_FORMS_13 : KTup K C.FORMS_13 [1, 3]
  t_FORMS_14 : KTup K C.FORMS_14 [0, 1]
  t_FORMS_15 : KTup K C.FORMS_15 [1, 0]
  b_any : mg "any" = none
  b_len : mg "len" = none
  b_list : mg "list" = none
  b_min : mg "min" = none
  b_range : mg "range" = none
  b_sum : mg "sum" = none
  b_tuple : mg "tuple" = none
end FL
end
section
namespace FL
open PySem L2
open Sf82 (Bytes be number crc frame bitsOn)
/-! ### bytes in Python's lists -/
abbrev vi (l : List Int) : List V := l.map V.int
def nb (b : Bytes) : List Int := b.map fun c => ((c.toNat : Nat) : Int)
theorem nb_length (b : Bytes) : (nb b).length = b.length := List.length_map ..
theorem nb_append (a b : Bytes) : nb (a ++ b) = nb a ++ nb b := List.map_append ..
theorem vi_append (a b : List Int) : vi (a ++ b) = vi a ++ vi b := List.map_append ..
theorem nb_get (b : Bytes) (i : Nat) : (nb b)[i]? = (b[i]?).map fun c => ((c.toNat : Nat) : Int) := List.getElem?_map ..
theorem nb_inj : ∀ {a b : Bytes}, nb a = nb b → a = b
  | [], [], _ => rfl
  | [], _ :: _, h => by cases h
  | _ :: _, [], h => by cases h
  | x :: a, y :: b, h => by
    have h : ((x.toNat : Nat) : Int) :: nb a = ((y.toNat : Nat) : Int) :: nb b := h
    injection h with h1 h2
    rw [nb_inj h2, UInt8.toNat_inj.mp (Int.ofNat.inj h1)]
theorem nb_take (b : Bytes) (n : Nat) : nb (b.take n) = (nb b).take n := List.map_take ..
theorem nb_drop (b : Bytes) (n : Nat) : nb (b.drop n) = (nb b).drop n := List.map_drop ..
theorem dec_iff {p q : Prop} [Decidable p] [Decidable q] (h : p ↔ q) : decide p = decide q := by
  by_cases hp : p
  · rw [decide_eq_true hp, decide_eq_true (h.mp hp)]
  · rw [decide_eq_false hp, decide_eq_false fun hq => hp (h.mpr hq)]
theorem int_iff {i j : Int} : V.int i = V.int j ↔ i = j := ⟨fun h => V.int.inj h, fun h => by rw [h]⟩
theorem bitAnd_nat (a b : Nat) : Builtin.bitAnd (a : Int) (b : Int) = ((a &&& b : Nat) : Int) := by
  unfold Builtin.bitAnd
  rw [decide_eq_true (Int.natCast_nonneg a), decide_eq_true (Int.natCast_nonneg b)]
  simp
theorem bitXor_nat (a b : Nat) : Builtin.bitXor (a : Int) (b : Int) = ((a ^^^ b : Nat) : Int) := by
  rw [PyProof.Rows.bitXor_and, bitAnd_nat]
  have := xor_and a b
  omega
/-- a new list of bytes -/
def New (H : Hp) (b : Bytes) (l : Addr) (H' : Hp) : Prop := H l = none ∧ Same H H' ∧ H' l = some (.lst (vi (nb b)))
/-! ### the promises -/
def sp_is_address (K : PySem.W.Frag) (C : Cs) : Sp := fun vs H Q _ => ∃ (a : Addr) (xs : List V), vs = [.ref a] ∧ SqL K H a xs ∧ Q (.bl (decide (xs.length = 6))) H
def sp_is_everybody (K : PySem.W.Frag) (C : Cs) : Sp := fun vs H Q _ => ∃ (a : Addr) (l : List Int), vs = [.ref a] ∧ SqL K H a (vi l) ∧ ∀ H', Same H H' → Q (.bl (decide (l = [255, 255, 255, 255, 255, 255]))) H'
def sp_is_kind (K : PySem.W.Frag) (C : Cs) : Sp := fun vs H Q _ => ∃ k : Int, vs = [.int k] ∧ Q (.bl (decide (0 ≤ k ∧ k ≤ 65535))) H
def sp_bytes_of (K : PySem.W.Frag) (C : Cs) : Sp := fun vs H Q _ => ∃ n m : Nat, vs = [.int n, .int m] ∧ m ≤ 8 ∧ ∀ l H', New H (be m n) l H' → Q (.ref l) H'
def sp_number_of (K : PySem.W.Frag) (C : Cs) : Sp := fun vs H Q _ => ∃ (a : Addr) (b : Bytes), vs = [.ref a] ∧ SqL K H a (vi (nb b)) ∧ Q (.int (number b)) H
def sp_crc32c (K : PySem.W.Frag) (C : Cs) : Sp := fun vs H Q _ => ∃ (a : Addr) (b : Bytes), vs = [.ref a] ∧ SqL K H a (vi (nb b)) ∧ Q (.int (crc b)) H
def sp_make_frame (K : PySem.W.Frag) (C : Cs) : Sp := fun vs H Q _ => ∃ (k : Nat) (a1 a2 a3 : Addr) (t f b : Bytes), vs = [.int k, .ref a1, .ref a2, .ref a3] ∧ H a1 = some (.lst (vi (nb t))) ∧ H a2 = some (.lst (vi (nb f))) ∧ H a3 = some (.lst (vi (nb b))) ∧
  t.length + f.length + b.length ≤ 100000 ∧ ∀ l H', New H (frame t f k b) l H' → Q (.ref l) H'
def sp_is_frame (K : PySem.W.Frag) (C : Cs) : Sp := fun vs H Q _ => ∃ (a : Addr) (b : Bytes), vs = [.ref a] ∧ SqL K H a (vi (nb b)) ∧ ∀ H', Same H H' → Q (.bl (Sf82.read b).isSome) H'
def sp_to_of (K : PySem.W.Frag) (C : Cs) : Sp := fun vs H Q _ => ∃ (a : Addr) (b : Bytes), vs = [.ref a] ∧ SqL K H a (vi (nb b)) ∧ ∀ l H', New H (b.take 6) l H' → Q (.ref l) H'
def sp_sender_of (K : PySem.W.Frag) (C : Cs) : Sp := fun vs H Q _ => ∃ (a : Addr) (b : Bytes), vs = [.ref a] ∧ SqL K H a (vi (nb b)) ∧ 18 ≤ b.length ∧ ∀ l H', New H ((b.drop 6).take 6) l H' → Q (.ref l) H'
def sp_kind_of (K : PySem.W.Frag) (C : Cs) : Sp := fun vs H Q _ => ∃ (a : Addr) (b : Bytes), vs = [.ref a] ∧ SqL K H a (vi (nb b)) ∧ 18 ≤ b.length ∧ ∀ H', Same H H' → Q (.int (number ((b.drop 12).take 2))) H'
def sp_body_of (K : PySem.W.Frag) (C : Cs) : Sp := fun vs H Q _ => ∃ (a : Addr) (b : Bytes), vs = [.ref a] ∧ SqL K H a (vi (nb b)) ∧ 18 ≤ b.length ∧ ∀ l H', New H ((b.take (b.length - 4)).drop 14) l H' → Q (.ref l) H'
theorem itP {c A B : Prop} [Decidable c] (hc : c) (h : A) : if decide c = true then A else B := by
  rw [if_pos (decide_eq_true hc)]; exact h
theorem itN {c A B : Prop} [Decidable c] (hc : ¬ c) (h : B) : if decide c = true then A else B := by
  rw [if_neg (by simpa using hc)]; exact h
theorem itnP {c A B : Prop} [Decidable c] (hc : c) (h : B) : if (!decide c) = true then A else B := by
  rw [if_neg (by simpa using hc)]; exact h
theorem itnN {c A B : Prop} [Decidable c] (hc : ¬ c) (h : A) : if (!decide c) = true then A else B := by
  rw [if_pos (by simpa using hc)]; exact h
theorem same_upd {H : Hp} {a : Addr} {o : HO} (h : H a = none) : Same H (upd H a o) := fun b u e => by rw [upd_ne (ne_of_none e h)]; exact e
theorem New.of {H : Hp} {b : Bytes} {l : Addr} (h : H l = none) : New H b l (upd H l (.lst (vi (nb b)))) := ⟨h, same_upd h, upd_same⟩
theorem New.after {H H1 H' : Hp} {b : Bytes} {l : Addr} (s : Same H H1) (n : New H1 b l H') : New H b l H' := ⟨s.free n.1, s.trans n.2.1, n.2.2⟩
theorem read_some {b : Bytes} (h : 19 ≤ b.length) (h2 : b.length ≤ 1518) : (Sf82.read b).isSome = decide (number (b.drop (b.length - 4)) = crc (b.take (b.length - 4))) := by
  unfold Sf82.read
  rw [if_neg (by unfold Sf82.MOST; omega)]
  have hl : (b.drop (b.length - 4)).length = 4 := by rw [List.length_drop]; omega
  have hs := sum_iff (c := crc (b.take (b.length - 4))) (l := b.drop (b.length - 4)) (crc_lt _) hl
  by_cases hc : be 4 (crc (b.take (b.length - 4))) = b.drop (b.length - 4)
  · rw [if_pos hc, decide_eq_true (hs.mpr hc)]; rfl
  · rw [if_neg hc, decide_eq_false fun q => hc (hs.mp q)]; rfl
theorem read_none {b : Bytes} (h : ¬ (19 ≤ b.length ∧ b.length ≤ 1518)) : Sf82.read b = none := by
  unfold Sf82.read
  rw [if_pos (by unfold Sf82.MOST; omega)]
theorem vnb_take (b : Bytes) (n : Nat) : (vi (nb b)).take n = vi (nb (b.take n)) := by unfold vi; rw [nb_take, List.map_take]
theorem vnb_drop (b : Bytes) (n : Nat) : (vi (nb b)).drop n = vi (nb (b.drop n)) := by unfold vi; rw [nb_drop, List.map_drop]
theorem vnb_length (b : Bytes) : (vi (nb b)).length = b.length := by rw [List.length_map, nb_length]
theorem byte_at {n m i : Nat} (h : i < m) : Builtin.bitAnd ((n : Int) / 2 ^ ((8 : Int) * ((m : Int) - 1 - (0 + (i : Int)))).toNat) 255 = (((UInt8.ofNat (n / 256 ^ (m - 1 - i) % 256)).toNat : Nat) : Int) := by
  rw [PyProof.Rows.bitAnd_m8, UInt8.toNat_ofNat', Nat.mod_eq_of_lt (show n / 256 ^ (m - 1 - i) % 256 < 2 ^ 8 from Nat.mod_lt _ (by decide))]
  have e : ((8 : Int) * ((m : Int) - 1 - (0 + (i : Int)))).toNat = 8 * (m - 1 - i) := by omega
  have e2 : ((2 : Int) ^ (8 * (m - 1 - i))) = ((256 ^ (m - 1 - i) : Nat) : Int) := by
    rw [show (256 : Nat) = 2 ^ 8 from rfl, ← Nat.pow_mul]
    push_cast
    rfl
  rw [e, e2]
  push_cast
  rfl
theorem cut_to (xs : List V) (k : Nat) : cutV xs none (some (k : Int)) = xs.take k := by
  unfold cutV
  rw [HT.sIx_none, HT.sIx_nat, Nat.sub_zero, List.drop_zero]
  rcases Nat.le_total k xs.length with h | h
  · rw [Nat.min_eq_left h]
  · rw [Nat.min_eq_right h, List.take_of_length_le (Nat.le_refl _), List.take_of_length_le h]
theorem cut_from (xs : List V) (k : Nat) (h : k ≤ xs.length) : cutV xs (some (k : Int)) none = xs.drop k := by
  unfold cutV
  rw [HT.sIx_none, HT.sIx_nat, Nat.min_eq_left h]
  exact List.take_of_length_le (by rw [List.length_drop]; omega)
theorem cut_mid (xs : List V) (i j : Nat) (h : i ≤ xs.length) : cutV xs (some (i : Int)) (some (j : Int)) = (xs.drop i).take (j - i) := by
  unfold cutV
  rw [HT.sIx_nat, HT.sIx_nat, Nat.min_eq_left h]
  rcases Nat.le_total j xs.length with h2 | h2
  · rw [Nat.min_eq_left h2]
  · rw [Nat.min_eq_right h2, List.take_of_length_le (by rw [List.length_drop]; omega), List.take_of_length_le (by rw [List.length_drop]; omega)]
section
variable {P : Program} {w : World} {K : PySem.W.Frag} {mg : Str → Option Value} {base : Heap} {C : Cs}
theorem ok_is_address {f : Addr} {fd : FuncData} (F : Fun K "is_address" "is_address" s_is_address f fd) (T : Txt K mg C)  : FnOk P w K mg base CX0 1 f fd ps_is_address (sp_is_address K C) := by
  refine F.ok sc_is_address (fun vs H Q E h => ?_) (fun cdv A outer s H vs Q E hr h => ?_)
  · obtain ⟨a, xs, rfl, _⟩ := h
    rfl
  · obtain ⟨a, xs, rfl, ha, k⟩ := h
    refine ⟨_, (pss_one (ps_ret (pe_cmpR op_eq (pe_callB call_len_seq (by rfl) T.b_len (show bootBuiltins "len" = some (.builtin "len") by decide +kernel) (pa_cons (pv 0) pa_nil)) (pe_gint rfl T.g_ADDRESS_LENGTH) (nomark _)))), ?_⟩
    refine ⟨_, rfl, a, xs, rfl, .inl ha, rfl, ?_⟩
    have e : decide (V.int (xs.length : Int) = V.int 6) = decide (xs.length = 6) := dec_iff (by rw [int_iff]; omega)
    rw [e]
    exact k
theorem ok_is_kind {f : Addr} {fd : FuncData} (F : Fun K "is_kind" "is_kind" s_is_kind f fd) (T : Txt K mg C)  : FnOk P w K mg base CX0 1 f fd ps_is_kind (sp_is_kind K C) := by
  refine F.ok sc_is_kind (fun vs H Q E h => ?_) (fun cdv A outer s H vs Q E hr h => ?_)
  · obtain ⟨k, rfl, _⟩ := h
    rfl
  · obtain ⟨z, rfl, k⟩ := h
    refine ⟨_, (pss_one (ps_ret (pe_chain op_le op_le pe_int (pv 0) (pe_gint rfl T.g_HIGHEST_KIND)))), ?_⟩
    refine ⟨_, rfl, _, _, rfl, rfl, _, rfl, ?_⟩
    refine ite2 (fun h1 => ?_) (fun h1 => ?_)
    · have h1 := of_decide_eq_true h1
      refine ⟨_, _, rfl, rfl, ?_⟩
      have e : decide (z ≤ 65535) = decide (0 ≤ z ∧ z ≤ 65535) := dec_iff ⟨fun h => ⟨h1, h⟩, fun h => h.2⟩
      dsimp only
      rw [e]
      exact k
    · have e : decide (0 ≤ z ∧ z ≤ 65535) = false := decide_eq_false fun q => h1 (decide_eq_true q.1)
      rw [e] at k
      exact k
theorem ok_number_of {f : Addr} {fd : FuncData} (F : Fun K "number_of" "number_of" s_number_of f fd) (T : Txt K mg C)  : FnOk P w K mg base CX0 1 f fd ps_number_of (sp_number_of K C) := by
  refine F.ok sc_number_of (fun vs H Q E h => ?_) (fun cdv A outer s H vs Q E hr h => ?_)
  · obtain ⟨a, b, rfl, _⟩ := h
    rfl
  · obtain ⟨a, b, rfl, ha, k⟩ := h
    refine ⟨_, (pss_cons (ps_set (i := 1) sc_number_of.nd rfl (by first | exact Or.inl rfl | exact Or.inr rfl) pe_int) (pss_cons (ps_for PassesOwn.never rfl (pi_list (pv 0)) (pg_name (i := 2) sc_number_of.nd rfl (by first | exact Or.inl rfl | exact Or.inr rfl)) (pss_one (ps_set (i := 1) sc_number_of.nd rfl (by first | exact Or.inl rfl | exact Or.inr rfl) (pe_op op_add (pe_op op_mul (pv 1) pe_int) (pv 2))))) (pss_one (ps_ret (pv 1))))), ?_⟩
    refine ⟨_, rfl, a, rfl, ⟨_, ha⟩, for_list (K := K) (a := a) (xs := vi (nb b)) (fun i σ H2 => ∃ v : Option V, σ = [some (.ref a), some (.int (number (b.take i))), v] ∧ H2 = H) ⟨none, rfl, rfl⟩ (fun i σ H2 _ ⟨_, _, e⟩ => by rw [e]; exact ha) ?_ ?_⟩
    · rintro i y σ H2 hi ⟨v, rfl, rfl⟩
      rw [List.getElem?_map, nb_get] at hi
      cases hc : b[i]? with
      | none => rw [hc] at hi; cases hi
      | some c =>
        rw [hc] at hi
        obtain rfl : V.int ((c.toNat : Nat) : Int) = y := Option.some.inj hi
        refine ⟨_, rfl, _, _, rfl, rfl, .inr ⟨by decide, by decide⟩, _, rfl, _, _, rfl, rfl, ?_⟩
        refine ⟨some (.int (c.toNat : Int)), ?_, rfl⟩
        have e := number_take hc
        have e2 : (number (b.take i) : Int) * 256 + (c.toNat : Int) = (number (b.take (i + 1)) : Int) := by rw [e]; push_cast; rfl
        dsimp only
        rw [e2]
        rfl
    · rintro σ H2 ⟨v, rfl, rfl⟩
      rw [List.length_map, nb_length, List.take_length]
      exact ⟨_, rfl, k⟩
theorem ok_bytes_of {f : Addr} {fd : FuncData} (F : Fun K "bytes_of" "bytes_of" s_bytes_of f fd) (T : Txt K mg C)  : FnOk P w K mg base CX0 1 f fd ps_bytes_of (sp_bytes_of K C) := by
  refine F.ok sc_bytes_of (fun vs H Q E h => ?_) (fun cdv A outer s H vs Q E hr h => ?_)
  · obtain ⟨n, m, rfl, _⟩ := h
    rfl
  · obtain ⟨n, m, rfl, hm, k⟩ := h
    refine ⟨_, (pss_one (ps_ret (pe_lc rfl sc_bytes_of.nd (pi_range1 rfl T.b_range (pa_cons (pv 1) pa_nil)) (blkOk_by (own := [("k", 2)]) (show blkC N_bytes_of (defScope s_bytes_of) _ _ = true by decide +kernel)) (fun _ _ _ _ _ => pg_name (i := 2) sc_bytes_of.nd rfl (by first | exact Or.inl rfl | exact Or.inr rfl)) (fun _ _ _ _ _ => pts_nil) (fun _ _ _ _ _ => by exact (pe_op op_and (pe_op op_shr (pv 0) (pe_op op_mul pe_int (pe_op op_sub (pe_op op_sub (pv 1) pe_int) (pv 2)))) pe_int))))), ?_⟩
    refine ⟨_, rfl, (m : Int), rfl, by omega, by omega, fun D hD => lc_range (n := m) (fun i H2 => H2 = upd H D (.lst (vi (nb ((be m n).take i))))) rfl ?_ ?_⟩
    · rintro i H2 hi rfl
      refine ⟨rfl, _, rfl, _, rfl, _, _, rfl, rfl, _, rfl, _, _, rfl, rfl, _, _, rfl, rfl, .inl ⟨by decide, by decide⟩, _, _, rfl, rfl, ?_, _, _, rfl, rfl, _, upd_same, ?_, ?_⟩
      · omega
      · have := sizeLine_eq
        rw [List.length_map, nb_length, List.length_take]
        omega
      · dsimp only
        rw [upd_upd, byte_at hi]
        have hb := be_get m n i hi
        have e : (be m n).take (i + 1) = (be m n).take i ++ [UInt8.ofNat (n / 256 ^ (m - 1 - i) % 256)] := by rw [List.take_add_one, hb]; rfl
        rw [e, nb_append, vi_append]
        rfl
    · rintro H2 rfl
      refine k D _ ⟨hD, fun b o e => by rw [upd_ne (ne_of_none e hD)]; exact e, ?_⟩
      rw [upd_same, List.take_of_length_le (by rw [be_length]; omega)]
theorem ok_crc32c {f : Addr} {fd : FuncData} (F : Fun K "crc32c" "crc32c" s_crc32c f fd) (T : Txt K mg C)  : FnOk P w K mg base CX0 1 f fd ps_crc32c (sp_crc32c K C) := by
  refine F.ok sc_crc32c (fun vs H Q E h => ?_) (fun cdv A outer s H vs Q E hr h => ?_)
  · obtain ⟨a, b, rfl, _⟩ := h
    rfl
  · obtain ⟨a, b, rfl, ha, k⟩ := h
    refine ⟨_, (pss_cons (ps_set (i := 1) sc_crc32c.nd rfl (by first | exact Or.inl rfl | exact Or.inr rfl) (pe_gint rfl T.g_ALL_ONES)) (pss_cons (ps_for PassesOwn.never rfl (pi_list (pv 0)) (pg_name (i := 2) sc_crc32c.nd rfl (by first | exact Or.inl rfl | exact Or.inr rfl)) (pss_cons (ps_set (i := 1) sc_crc32c.nd rfl (by first | exact Or.inl rfl | exact Or.inr rfl) (pe_op op_xor (pv 1) (pv 2))) (pss_one (ps_for PassesOwn.never rfl (pi_range1 rfl T.b_range (pa_cons pe_int pa_nil)) (pg_name (i := 3) sc_crc32c.nd rfl (by first | exact Or.inl rfl | exact Or.inr rfl)) (pss_one (ps_set (i := 1) sc_crc32c.nd rfl (by first | exact Or.inl rfl | exact Or.inr rfl) (pe_op op_xor (pe_op op_shr (pv 1) pe_int) (pe_ifExp (pt_truth (pe_op op_and (pv 1) pe_int) (fun _ => rfl)) (pe_gint rfl T.g_POLYNOMIAL) pe_int)))))))) (pss_one (ps_ret (pe_op op_xor (pv 1) (pe_gint rfl T.g_ALL_ONES)))))), ?_⟩
    refine ⟨_, rfl, a, rfl, ⟨_, ha⟩, for_list (K := K) (a := a) (xs := vi (nb b)) (fun i σ H2 => ∃ v u : Option V, σ = [some (.ref a), some (.int (crcAcc (b.take i))), v, u] ∧ H2 = H) ⟨none, none, rfl, rfl⟩ (fun i σ H2 _ ⟨_, _, _, e⟩ => by rw [e]; exact ha) ?_ ?_⟩
    · rintro i y σ H2 hi ⟨v, u, rfl, rfl⟩
      rw [List.getElem?_map, nb_get] at hi
      cases hc : b[i]? with
      | none => rw [hc] at hi; cases hi
      | some c =>
        rw [hc] at hi
        obtain rfl : V.int ((c.toNat : Nat) : Int) = y := Option.some.inj hi
        refine ⟨_, rfl, _, rfl, _, _, rfl, rfl, ?_⟩
        dsimp only
        rw [bitXor_nat]
        refine ⟨8, rfl, by decide, by decide, for_range (n := 8) (fun j σ H3 => ∃ u : Option V, σ = [some (.ref a), some (.int (bitsOn j (crcAcc (b.take i) ^^^ c.toNat))), some (.int (c.toNat : Int)), u] ∧ H3 = H2) ⟨u, rfl, rfl⟩ ?_ ?_⟩
        · rintro j σ H3 hj ⟨u, rfl, rfl⟩
          generalize hx : bitsOn j (crcAcc (b.take i) ^^^ c.toNat) = x
          refine ⟨_, rfl, _, _, rfl, rfl, (show (0 : Int) ≤ 1 by decide), _, rfl, _, _, rfl, rfl, _, rfl, ?_⟩
          have e1 : (x : Int) / 2 ^ (1 : Int).toNat = ((x / 2 : Nat) : Int) := by
            show (x : Int) / 2 ^ 1 = _
            push_cast
            rfl
          have e2 : Builtin.bitAnd (x : Int) 1 = ((x % 2 : Nat) : Int) := by rw [PyProof.Rows.bitAnd_m1]; push_cast; rfl
          have e3 : bitsOn (j + 1) (crcAcc (b.take i) ^^^ c.toNat) = stp x := by rw [bitsOn_stp, hx]
          refine ite2 (fun h1 => ?_) (fun h1 => ?_)
          · refine ⟨_, _, rfl, rfl, ?_⟩
            dsimp only
            rw [e1, show (2197175160 : Int) = ((2197175160 : Nat) : Int) from rfl, bitXor_nat]
            refine ⟨some (.int (0 + (j : Int))), ?_, rfl⟩
            rw [e3]
            have h2 : x % 2 = 1 := by
              rw [e2] at h1
              have : ((x % 2 : Nat) : Int) ≠ 0 := by simpa using h1
              omega
            unfold stp
            rw [if_pos h2]
            rfl
          · refine ⟨_, _, rfl, rfl, ?_⟩
            dsimp only
            rw [e1, show (0 : Int) = ((0 : Nat) : Int) from rfl, bitXor_nat]
            refine ⟨some (.int (0 + (j : Int))), ?_, rfl⟩
            rw [e3]
            have h2 : ¬ x % 2 = 1 := fun q => h1 (by rw [e2, q]; rfl)
            unfold stp
            rw [if_neg h2]
            rfl
        · rintro σ H3 ⟨u, rfl, rfl⟩
          refine ⟨some (.int (c.toNat : Int)), u, ?_, rfl⟩
          rw [crcAcc_take hc]
          rfl
    · rintro σ H2 ⟨v, u, rfl, rfl⟩
      rw [List.length_map, nb_length, List.take_length]
      refine ⟨_, rfl, _, _, rfl, rfl, ?_⟩
      dsimp only
      rw [show (4294967295 : Int) = ((4294967295 : Nat) : Int) from rfl, bitXor_nat]
      exact k
theorem ok_is_everybody {f : Addr} {fd : FuncData} (F : Fun K "is_everybody" "is_everybody" s_is_everybody f fd) (T : Txt K mg C)  : FnOk P w K mg base CX0 1 f fd ps_is_everybody (sp_is_everybody K C) := by
  refine F.ok sc_is_everybody (fun vs H Q E h => ?_) (fun cdv A outer s H vs Q E hr h => ?_)
  · obtain ⟨a, l, rfl, _⟩ := h
    rfl
  · obtain ⟨a, l, rfl, ha, k⟩ := h
    refine ⟨_, (pss_one (ps_ret (pe_cmpR (op_eqD (hu64 hr)) (pe_callTy call_tuple_of (by rfl) T.b_tuple (show bootBuiltins "tuple" = some (.type "tuple") by decide +kernel) (pa_cons (pv 0) pa_nil)) (pe_gref rfl T.g_EVERYBODY.1) (nomark _)))), ?_⟩
    refine ⟨_, rfl, a, _, rfl, .inl ⟨ha, fun t ht => ?_⟩⟩
    have s1 : Same H (upd H t (.tup (vi l))) := fun b o e => by rw [upd_ne (ne_of_none e ht)]; exact e
    refine ⟨_, _, dp_intsT (l := l) (.inl (.inl upd_same)), dp_intsT T.g_EVERYBODY.2.seq, shaped_intsT _, shaped_intsT _, ?_⟩
    rw [eqv_intsT]
    exact k _ s1
theorem ok_make_frame {f : Addr} {fd : FuncData} (F : Fun K "make_frame" "make_frame" s_make_frame f fd) (T : Txt K mg C) (u_bytes_of : DefOk P w K mg base 1 "bytes_of" ps_bytes_of (sp_bytes_of K C)) (u_crc32c : DefOk P w K mg base 1 "crc32c" ps_crc32c (sp_crc32c K C)) : FnOk P w K mg base CX0 2 f fd ps_make_frame (sp_make_frame K C) := by
  refine F.ok sc_make_frame (fun vs H Q E h => ?_) (fun cdv A outer s H vs Q E hr h => ?_)
  · obtain ⟨k, a1, a2, a3, t, f, b, rfl, _⟩ := h
    rfl
  · obtain ⟨k, a1, a2, a3, t, f, b, rfl, h1, h2, h3, hl, q⟩ := h
    have hz := sizeLine_eq
    refine ⟨_, (pss_cons (ps_set (i := 4) sc_make_frame.nd rfl (by first | exact Or.inl rfl | exact Or.inr rfl) (pe_op op_cat (pe_op op_cat (pe_op op_cat (pv 1) (pv 2)) (pe_def u_bytes_of hr (by decide) rfl (pa_cons (pv 0) (pa_cons pe_int pa_nil)))) (pv 3))) (pss_one (ps_ret (pe_op op_cat (pv 4) (pe_def u_bytes_of hr (by decide) rfl (pa_cons (pe_def u_crc32c hr (by decide) rfl (pa_cons (pv 4) pa_nil)) (pa_cons (pe_gint rfl T.g_CHECK_LENGTH) pa_nil))))))), ?_⟩
    refine ⟨_, rfl, _, rfl, a1, a2, _, _, rfl, rfl, h1, h2, by rw [vnb_length, vnb_length]; omega, fun p1 n1 => ?_⟩
    rw [← vi_append, ← nb_append]
    have s1 : Same H (upd H p1 (.lst (vi (nb (t ++ f))))) := same_upd n1
    refine ⟨_, rfl, k, 2, rfl, by decide, fun l2 H2 N2 => ?_⟩
    have s2 := s1.trans N2.2.1
    refine ⟨p1, l2, _, _, rfl, rfl, N2.2.1 _ _ upd_same, N2.2.2, by rw [vnb_length, vnb_length, List.length_append, be_length]; omega, fun p3 n3 => ?_⟩
    rw [← vi_append, ← nb_append]
    have s3 := s2.trans (same_upd (o := .lst (vi (nb (t ++ f ++ be 2 k)))) n3)
    refine ⟨_, rfl, p3, a3, _, _, rfl, rfl, upd_same, s3 _ _ h3, by rw [vnb_length, vnb_length, List.length_append, List.length_append, be_length]; omega, fun p4 n4 => ?_⟩
    rw [← vi_append, ← nb_append]
    have eb : t ++ f ++ be 2 k ++ b = t ++ (f ++ (be 2 k ++ b)) := by simp only [List.append_assoc]
    rw [eb]
    have s4 := s3.trans (same_upd (o := .lst (vi (nb (t ++ (f ++ (be 2 k ++ b)))))) n4)
    refine ⟨_, rfl, _, rfl, p4, t ++ (f ++ (be 2 k ++ b)), rfl, SqL.of upd_same, crc (t ++ (f ++ (be 2 k ++ b))), 4, rfl, by decide, fun l5 H5 N5 => ?_⟩
    have s5 := s4.trans N5.2.1
    refine ⟨p4, l5, _, _, rfl, rfl, N5.2.1 _ _ upd_same, N5.2.2, by rw [vnb_length, vnb_length, be_length, List.length_append, List.length_append, List.length_append, be_length]; omega, fun p6 n6 => ?_⟩
    rw [← vi_append, ← nb_append]
    exact q p6 _ (New.after s5 (New.of n6))
theorem ok_is_frame {f : Addr} {fd : FuncData} (F : Fun K "is_frame" "is_frame" s_is_frame f fd) (T : Txt K mg C) (u_number_of : DefOk P w K mg base 1 "number_of" ps_number_of (sp_number_of K C)) (u_crc32c : DefOk P w K mg base 1 "crc32c" ps_crc32c (sp_crc32c K C)) : FnOk P w K mg base CX0 2 f fd ps_is_frame (sp_is_frame K C) := by
  refine F.ok sc_is_frame (fun vs H Q E h => ?_) (fun cdv A outer s H vs Q E hr h => ?_)
  · obtain ⟨a, b, rfl, _⟩ := h
    rfl
  · obtain ⟨a, b, rfl, ha, k⟩ := h
    refine ⟨_, (pss_cons (ps_if (pt_not (pt_chain op_le op_le (pe_gint rfl T.g_SHORTEST_FRAME) (pe_callB call_len_seq (by rfl) T.b_len (show bootBuiltins "len" = some (.builtin "len") by decide +kernel) (pa_cons (pv 0) pa_nil)) (pe_gint rfl T.g_LONGEST_FRAME))) (pss_one (ps_ret pe_bl)) pss_nil) (pss_cons (ps_set (i := 1) sc_is_frame.nd rfl (by first | exact Or.inl rfl | exact Or.inr rfl) (pe_op op_sub (pe_callB call_len_seq (by rfl) T.b_len (show bootBuiltins "len" = some (.builtin "len") by decide +kernel) (pa_cons (pv 0) pa_nil)) (pe_gint rfl T.g_CHECK_LENGTH))) (pss_one (ps_ret (pe_cmpR op_eq (pe_def u_number_of hr (by decide) rfl (pa_cons (pe_slice sl_list (pv 0) (po_some (pv 1)) po_none) pa_nil)) (pe_def u_crc32c hr (by decide) rfl (pa_cons (pe_slice sl_list (pv 0) po_none (po_some (pv 1))) pa_nil)) (nomark _)))))), ?_⟩
    have hlen := vnb_length b
    by_cases hc : 19 ≤ b.length ∧ b.length ≤ 1518
    · refine ⟨_, rfl, a, _, rfl, .inl ha, _, _, rfl, rfl, _, rfl, itP (by omega) ⟨_, _, rfl, rfl, _, rfl, itnP (by omega) ?_⟩⟩
      refine ⟨_, rfl, a, _, rfl, .inl ha, _, _, rfl, rfl, ?_⟩
      have e1 : ((vi (nb b)).length : Int) - 4 = ((b.length - 4 : Nat) : Int) := by omega
      dsimp only
      rw [e1]
      refine ⟨_, rfl, _, rfl, _, rfl, a, _, rfl, ha, fun l1 n1 => ?_⟩
      rw [cut_from _ _ (by omega), vnb_drop]
      refine ⟨l1, _, rfl, SqL.of upd_same, ?_⟩
      have s1 : Same H (upd H l1 (.lst (vi (nb (b.drop (b.length - 4)))))) := same_upd n1
      refine ⟨_, rfl, _, rfl, _, rfl, a, _, rfl, s1.seq ha, fun l2 n2 => ?_⟩
      rw [cut_to, vnb_take]
      refine ⟨l2, _, rfl, SqL.of upd_same, rfl, ?_⟩
      have e2 : decide (V.int ((number (b.drop (b.length - 4)) : Nat) : Int) = V.int ((crc (b.take (b.length - 4)) : Nat) : Int)) = (Sf82.read b).isSome := by
        rw [read_some hc.1 hc.2]
        exact dec_iff (by rw [int_iff]; omega)
      rw [e2]
      exact k _ (s1.trans (same_upd n2))
    · have hr : (Sf82.read b).isSome = false := by rw [read_none hc]; rfl
      rw [hr] at k
      by_cases h19 : 19 ≤ b.length
      · exact ⟨_, rfl, a, _, rfl, .inl ha, _, _, rfl, rfl, _, rfl, itP (by omega) ⟨_, _, rfl, rfl, _, rfl, itnN (by omega) (k _ (Same.refl _))⟩⟩
      · exact ⟨_, rfl, a, _, rfl, .inl ha, _, _, rfl, rfl, _, rfl, itN (by omega) ⟨_, rfl, iteT (k _ (Same.refl _))⟩⟩
theorem ok_to_of {f : Addr} {fd : FuncData} (F : Fun K "to_of" "to_of" s_to_of f fd) (T : Txt K mg C)  : FnOk P w K mg base CX0 1 f fd ps_to_of (sp_to_of K C) := by
  refine F.ok sc_to_of (fun vs H Q E h => ?_) (fun cdv A outer s H vs Q E hr h => ?_)
  · obtain ⟨a, b, rfl, _⟩ := h
    rfl
  · obtain ⟨a, b, rfl, ha, k⟩ := h
    refine ⟨_, (pss_one (ps_ret (pe_slice sl_list (pv 0) po_none (po_some (pe_gint rfl T.g_ADDRESS_LENGTH))))), ?_⟩
    refine ⟨_, rfl, _, rfl, a, _, rfl, ha, fun l n => ?_⟩
    rw [show (6 : Int) = ((6 : Nat) : Int) from rfl, cut_to, vnb_take]
    exact k l _ (New.of n)
theorem ok_sender_of {f : Addr} {fd : FuncData} (F : Fun K "sender_of" "sender_of" s_sender_of f fd) (T : Txt K mg C)  : FnOk P w K mg base CX0 1 f fd ps_sender_of (sp_sender_of K C) := by
  refine F.ok sc_sender_of (fun vs H Q E h => ?_) (fun cdv A outer s H vs Q E hr h => ?_)
  · obtain ⟨a, b, rfl, _⟩ := h
    rfl
  · obtain ⟨a, b, rfl, ha, hl, k⟩ := h
    refine ⟨_, (pss_one (ps_ret (pe_slice sl_list (pv 0) (po_some (pe_gint rfl T.g_ADDRESS_LENGTH)) (po_some (pe_op op_mul pe_int (pe_gint rfl T.g_ADDRESS_LENGTH)))))), ?_⟩
    refine ⟨_, rfl, _, rfl, _, _, rfl, rfl, .inl ⟨by decide, by decide⟩, _, rfl, a, _, rfl, ha, fun l n => ?_⟩
    rw [show (6 : Int) = ((6 : Nat) : Int) from rfl, show (2 : Int) * ((6 : Nat) : Int) = ((12 : Nat) : Int) from rfl, cut_mid _ _ _ (by rw [vnb_length]; omega), vnb_drop, vnb_take]
    exact k l _ (New.of n)
theorem ok_kind_of {f : Addr} {fd : FuncData} (F : Fun K "kind_of" "kind_of" s_kind_of f fd) (T : Txt K mg C) (u_number_of : DefOk P w K mg base 1 "number_of" ps_number_of (sp_number_of K C)) : FnOk P w K mg base CX0 2 f fd ps_kind_of (sp_kind_of K C) := by
  refine F.ok sc_kind_of (fun vs H Q E h => ?_) (fun cdv A outer s H vs Q E hr h => ?_)
  · obtain ⟨a, b, rfl, _⟩ := h
    rfl
  · obtain ⟨a, b, rfl, ha, hl, k⟩ := h
    refine ⟨_, (pss_one (ps_ret (pe_def u_number_of hr (by decide) rfl (pa_cons (pe_slice sl_list (pv 0) (po_some (pe_op op_mul pe_int (pe_gint rfl T.g_ADDRESS_LENGTH))) (po_some (pe_gint rfl T.g_HEAD_LENGTH))) pa_nil)))), ?_⟩
    refine ⟨_, rfl, _, _, rfl, rfl, .inl ⟨by decide, by decide⟩, _, rfl, _, rfl, a, _, rfl, ha, fun l n => ?_⟩
    rw [show (2 : Int) * 6 = ((12 : Nat) : Int) from rfl, show (14 : Int) = ((14 : Nat) : Int) from rfl, cut_mid _ _ _ (by rw [vnb_length]; omega), vnb_drop, vnb_take]
    exact ⟨l, _, rfl, SqL.of upd_same, k _ (same_upd n)⟩
theorem ok_body_of {f : Addr} {fd : FuncData} (F : Fun K "body_of" "body_of" s_body_of f fd) (T : Txt K mg C)  : FnOk P w K mg base CX0 1 f fd ps_body_of (sp_body_of K C) := by
  refine F.ok sc_body_of (fun vs H Q E h => ?_) (fun cdv A outer s H vs Q E hr h => ?_)
  · obtain ⟨a, b, rfl, _⟩ := h
    rfl
  · obtain ⟨a, b, rfl, ha, hl, k⟩ := h
    refine ⟨_, (pss_one (ps_ret (pe_slice sl_list (pv 0) (po_some (pe_gint rfl T.g_HEAD_LENGTH)) (po_some (pe_op op_sub (pe_callB call_len_seq (by rfl) T.b_len (show bootBuiltins "len" = some (.builtin "len") by decide +kernel) (pa_cons (pv 0) pa_nil)) (pe_gint rfl T.g_CHECK_LENGTH)))))), ?_⟩
    refine ⟨_, rfl, _, rfl, _, rfl, a, _, rfl, .inl ha, _, _, rfl, rfl, _, rfl, a, _, rfl, ha, fun l n => ?_⟩
    have hlen := vnb_length b
    rw [show (14 : Int) = ((14 : Nat) : Int) from rfl, show ((vi (nb b)).length : Int) - 4 = ((b.length - 4 : Nat) : Int) by omega, cut_mid _ _ _ (by omega), vnb_drop, vnb_take, ← List.drop_take]
    exact k l _ (New.of n)
end
end FL
end
section
namespace FL
open PySem L2
open Sf82 (Bytes S does says nums number frame)
open Sf82Neutral (listOf)
theorem nums_nb (b : Bytes) : (nums b).map (fun (n : Nat) => (n : Int)) = nb b := by
  unfold nums nb
  rw [List.map_map]
  rfl
theorem listOf_says (z : Int) : listOf (says z) = [z] := rfl
theorem kind_dec (k : Int) : decide (0 ≤ k ∧ k ≤ 65535) = Sf82.within k 0 65535 := by
  unfold Sf82.within
  rw [Bool.decide_and]
  rfl
/-- the refusal that is due -/
def refV (k : Int) (t f b : Nat) : V := if Sf82.within k 0 65535 = false ∨ t ≠ 6 ∨ f ≠ 6 ∨ b = 0 then .int (-1) else if 1500 < b then .int (-7) else .non
def sp_refusal_of (K : PySem.W.Frag) (C : Cs) : Sp := fun vs H Q _ => ∃ (k : Int) (a1 a2 a3 : Addr) (t f b : List V), vs = [.int k, .ref a1, .ref a2, .ref a3] ∧ SqL K H a1 t ∧ SqL K H a2 f ∧ SqL K H a3 b ∧ Q (refV k t.length f.length b.length) H
/-- what make and read tell -/
def makeL (t f : Bytes) (k : Int) (b : Bytes) : List Int := listOf (does Sf82.closed (.make t f k b)).2
def readL (b : Bytes) : List Int := listOf (does Sf82.closed (.read b)).2
def sp_answer_make (K : PySem.W.Frag) (C : Cs) : Sp := fun vs H Q _ => ∃ (k : Int) (a1 a2 a3 : Addr) (t f b : Bytes), vs = [.int k, .ref a1, .ref a2, .ref a3] ∧ H a1 = some (.lst (vi (nb t))) ∧ H a2 = some (.lst (vi (nb f))) ∧ H a3 = some (.lst (vi (nb b))) ∧
  ∀ l H', H l = none → Same H H' → H' l = some (.lst (vi (makeL t f k b))) → Q (.ref l) H'
def sp_answer_read (K : PySem.W.Frag) (C : Cs) : Sp := fun vs H Q _ => ∃ (a : Addr) (b : Bytes), vs = [.ref a] ∧ H a = some (.lst (vi (nb b))) ∧ ∀ l H', H l = none → Same H H' → H' l = some (.lst (vi (readL b))) → Q (.ref l) H'
section
variable {P : Program} {w : World} {K : PySem.W.Frag} {mg : Str → Option Value} {base : Heap} {C : Cs}
theorem ok_refusal_of {f : Addr} {fd : FuncData} (F : Fun K "refusal_of" "refusal_of" s_refusal_of f fd) (T : Txt K mg C) (u_is_address : DefOk P w K mg base 1 "is_address" ps_is_address (sp_is_address K C)) (u_is_kind : DefOk P w K mg base 1 "is_kind" ps_is_kind (sp_is_kind K C)) : FnOk P w K mg base CX0 2 f fd ps_refusal_of (sp_refusal_of K C) := by
  refine F.ok sc_refusal_of (fun vs H Q E h => ?_) (fun cdv A outer s H vs Q E hr h => ?_)
  · obtain ⟨k, a1, a2, a3, t, f, b, rfl, _⟩ := h
    rfl
  · obtain ⟨kind, a1, a2, a3, t, f, b, rfl, h1, h2, h3, k⟩ := h
    refine ⟨_, (pss_cons (ps_if (PW.pt (pw_or (pt_not (pt_val (pe_def u_is_kind hr (by decide) rfl (pa_cons (pv 0) pa_nil)))) (pw_or (pt_not (pt_val (pe_def u_is_address hr (by decide) rfl (pa_cons (pv 1) pa_nil)))) (pw_or (pt_not (pt_val (pe_def u_is_address hr (by decide) rfl (pa_cons (pv 2) pa_nil)))) (pw_or1 (pt_cmpR op_eq (pe_callB call_len_seq (by rfl) T.b_len (show bootBuiltins "len" = some (.builtin "len") by decide +kernel) (pa_cons (pv 3) pa_nil)) pe_int (nomark _))))))) (pss_one (ps_ret (pe_gint rfl T.g_WRONG))) pss_nil) (pss_cons (ps_if (pt_cmpR op_gt (pe_callB call_len_seq (by rfl) T.b_len (show bootBuiltins "len" = some (.builtin "len") by decide +kernel) (pa_cons (pv 3) pa_nil)) (pe_gint rfl T.g_LONGEST_BODY) (nomark _)) (pss_one (ps_ret (pe_gint rfl T.g_TOO_LONG))) pss_nil) (pss_one (ps_ret pe_non)))), ?_⟩
    have wrong : (Sf82.within kind 0 65535 = false ∨ t.length ≠ 6 ∨ f.length ≠ 6 ∨ b.length = 0) → Q (.int (-1)) H := fun z => by
      unfold refV at k
      rw [if_pos z] at k
      exact k
    refine ⟨_, rfl, kind, rfl, _, rfl, ?_⟩
    rw [kind_dec]
    cases hk : Sf82.within kind 0 65535 with
    | false => exact iteT (iteT (wrong (.inl hk)))
    | true =>
    refine iteF ⟨_, rfl, a1, t, rfl, h1, _, rfl, ?_⟩
    by_cases h6 : t.length = 6
    case neg => exact itnN h6 (iteT (wrong (.inr (.inl h6))))
    refine itnP h6 ⟨_, rfl, a2, f, rfl, h2, _, rfl, ?_⟩
    by_cases h6' : f.length = 6
    case neg => exact itnN h6' (iteT (wrong (.inr (.inr (.inl h6')))))
    refine itnP h6' ⟨_, rfl, a3, b, rfl, .inl h3, rfl, _, rfl, ?_⟩
    by_cases hb : b.length = 0
    · exact itP (by rw [int_iff, hb]; rfl) (wrong (.inr (.inr (.inr hb))))
    refine itN (by rw [int_iff]; omega) ?_
    have good : ¬ (Sf82.within kind 0 65535 = false ∨ t.length ≠ 6 ∨ f.length ≠ 6 ∨ b.length = 0) := by
      rw [hk]
      rintro (z | z | z | z)
      · cases z
      · exact z h6
      · exact z h6'
      · exact hb z
    unfold refV at k
    rw [if_neg good] at k
    refine ⟨_, rfl, a3, b, rfl, .inl h3, _, _, rfl, rfl, _, rfl, ?_⟩
    by_cases h7 : 1500 < b.length
    · rw [if_pos h7] at k
      exact itP (by omega) k
    · rw [if_neg h7] at k
      exact itN (by omega) k
theorem ok_answer_make {f : Addr} {fd : FuncData} (F : Fun K "answer_make" "answer_make" s_answer_make f fd) (T : Txt K mg C) (u_refusal_of : DefOk P w K mg base 2 "refusal_of" ps_refusal_of (sp_refusal_of K C)) (u_make_frame : DefOk P w K mg base 2 "make_frame" ps_make_frame (sp_make_frame K C)) : FnOk P w K mg base CX0 3 f fd ps_answer_make (sp_answer_make K C) := by
  refine F.ok sc_answer_make (fun vs H Q E h => ?_) (fun cdv A outer s H vs Q E hr h => ?_)
  · obtain ⟨k, a1, a2, a3, t, f, b, rfl, _⟩ := h
    rfl
  · obtain ⟨kind, a1, a2, a3, t, f, b, rfl, h1, h2, h3, k⟩ := h
    have hz := sizeLine_eq
    refine ⟨_, (pss_cons (ps_set (i := 4) sc_answer_make.nd rfl (by first | exact Or.inl rfl | exact Or.inr rfl) (pe_def u_refusal_of hr (by decide) rfl (pa_cons (pv 0) (pa_cons (pv 1) (pa_cons (pv 2) (pa_cons (pv 3) pa_nil)))))) (pss_cons (ps_if (pt_cmpR op_notN (pv 4) pe_non (nomark _)) (pss_one (ps_ret (pe_lst (pa_cons (pv 4) pa_nil)))) pss_nil) (pss_cons (ps_set (i := 5) sc_answer_make.nd rfl (by first | exact Or.inl rfl | exact Or.inr rfl) (pe_def u_make_frame hr (by decide) rfl (pa_cons (pv 0) (pa_cons (pv 1) (pa_cons (pv 2) (pa_cons (pv 3) pa_nil)))))) (pss_one (ps_ret (pe_op op_cat (pe_lst (pa_cons (pe_callB call_len_seq (by rfl) T.b_len (show bootBuiltins "len" = some (.builtin "len") by decide +kernel) (pa_cons (pv 5) pa_nil)) pa_nil)) (pv 5))))))), ?_⟩
    refine ⟨_, rfl, _, rfl, _, rfl, _, rfl, kind, a1, a2, a3, _, _, _, rfl, SqL.of h1, SqL.of h2, SqL.of h3, ?_⟩
    rw [vnb_length, vnb_length, vnb_length]
    by_cases hw : Sf82.within kind 0 65535 = false ∨ t.length ≠ 6 ∨ f.length ≠ 6 ∨ b.length = 0
    · have e1 : refV kind t.length f.length b.length = .int (-1) := by unfold refV; rw [if_pos hw]
      have e2 : makeL t f kind b = [-1] := by
        unfold makeL
        simp only [does]
        rw [if_pos]
        · rfl
        · rcases hw with z | z | z | z
          · exact .inr (.inr (.inl z))
          · exact .inl z
          · exact .inr (.inl z)
          · exact .inr (.inr (.inr (List.length_eq_zero_iff.mp z)))
      rw [e1]
      rw [e2] at k
      exact ⟨_, rfl, rfl, _, rfl, itnN (fun z => by cases z) ⟨_, rfl, by show 1 ≤ sizeLine; decide, fun p np => k p _ np (same_upd np) upd_same⟩⟩
    · have e0 : ¬ (t.length ≠ 6 ∨ f.length ≠ 6 ∨ Sf82.within kind 0 65535 = false ∨ b = []) := by
        rintro (z | z | z | z)
        · exact hw (.inr (.inl z))
        · exact hw (.inr (.inr (.inl z)))
        · exact hw (.inl z)
        · exact hw (.inr (.inr (.inr (by rw [z]; rfl))))
      by_cases h7 : 1500 < b.length
      · have e1 : refV kind t.length f.length b.length = .int (-7) := by unfold refV; rw [if_neg hw, if_pos h7]
        have e2 : makeL t f kind b = [-7] := by
          unfold makeL
          simp only [does]
          rw [if_neg e0, if_pos (show Sf82.MOST < b.length from h7)]
          rfl
        rw [e1]
        rw [e2] at k
        exact ⟨_, rfl, rfl, _, rfl, itnN (fun z => by cases z) ⟨_, rfl, by show 1 ≤ sizeLine; decide, fun p np => k p _ np (same_upd np) upd_same⟩⟩
      · have e1 : refV kind t.length f.length b.length = .non := by unfold refV; rw [if_neg hw, if_neg h7]
        have ht : t.length = 6 := Classical.byContradiction fun z => hw (.inr (.inl z))
        have hf : f.length = 6 := Classical.byContradiction fun z => hw (.inr (.inr (.inl z)))
        have hk := within_of (not_false_of fun z => hw (.inl z))
        have hfl := frame_length t f kind.toNat b
        have e2 : makeL t f kind b = ((frame t f kind.toNat b).length : Int) :: nb (frame t f kind.toNat b) := by
          unfold makeL
          simp only [does]
          rw [if_neg e0, if_neg (show ¬ Sf82.MOST < b.length from h7)]
          show ((b.length + 18 : Nat) : Int) :: ((nums (frame t f kind.toNat b)).map fun (n : Nat) => (n : Int)) = _
          rw [nums_nb, show b.length + 18 = (frame t f kind.toNat b).length by omega]
        rw [e1]
        rw [e2] at k
        refine ⟨_, rfl, rfl, _, rfl, itnP rfl ?_⟩
        refine ⟨_, rfl, _, rfl, _, rfl, _, rfl, kind.toNat, a1, a2, a3, t, f, b, ?_, h1, h2, h3, by omega, fun l2 H2 N2 => ?_⟩
        · rw [show ((kind.toNat : Nat) : Int) = kind by omega]
        refine ⟨_, rfl, l2, _, rfl, .inl (SqL.of N2.2.2), by show 1 ≤ sizeLine; decide, fun l3 n3 => ⟨_, rfl, l3, l2, _, _, rfl, rfl, upd_same, same_upd n3 _ _ N2.2.2, ?_, fun l4 n4 => ?_⟩⟩
        · rw [vnb_length]; show 1 + _ ≤ sizeLine; omega
        · refine k l4 _ ((N2.2.1.trans (same_upd n3)).free n4) ((N2.2.1.trans (same_upd n3)).trans (same_upd n4)) ?_
          rw [upd_same, vnb_length]
          rfl
theorem ok_answer_read {f : Addr} {fd : FuncData} (F : Fun K "answer_read" "answer_read" s_answer_read f fd) (T : Txt K mg C) (u_is_frame : DefOk P w K mg base 2 "is_frame" ps_is_frame (sp_is_frame K C)) (u_kind_of : DefOk P w K mg base 2 "kind_of" ps_kind_of (sp_kind_of K C)) (u_to_of : DefOk P w K mg base 1 "to_of" ps_to_of (sp_to_of K C)) (u_sender_of : DefOk P w K mg base 1 "sender_of" ps_sender_of (sp_sender_of K C)) (u_body_of : DefOk P w K mg base 1 "body_of" ps_body_of (sp_body_of K C)) : FnOk P w K mg base CX0 3 f fd ps_answer_read (sp_answer_read K C) := by
  refine F.ok sc_answer_read (fun vs H Q E h => ?_) (fun cdv A outer s H vs Q E hr h => ?_)
  · obtain ⟨a, b, rfl, _⟩ := h
    rfl
  · obtain ⟨a, b, rfl, ha, k⟩ := h
    have hz := sizeLine_eq
    refine ⟨_, (pss_cons (ps_if (pt_not (pt_val (pe_def u_is_frame hr (by decide) rfl (pa_cons (pv 0) pa_nil)))) (pss_one (ps_ret (pe_lst (pa_cons (pe_gint rfl T.g_NO_FRAME) pa_nil)))) pss_nil) (pss_one (ps_ret (pe_op op_cat (pe_op op_cat (pe_op op_cat (pe_lst (pa_cons (pe_def u_kind_of hr (by decide) rfl (pa_cons (pv 0) pa_nil)) pa_nil)) (pe_def u_to_of hr (by decide) rfl (pa_cons (pv 0) pa_nil))) (pe_def u_sender_of hr (by decide) rfl (pa_cons (pv 0) pa_nil))) (pe_def u_body_of hr (by decide) rfl (pa_cons (pv 0) pa_nil)))))), ?_⟩
    refine ⟨_, rfl, a, b, rfl, SqL.of ha, fun H1 s1 => ⟨_, rfl, ?_⟩⟩
    cases hr : Sf82.read b with
    | none =>
      have e2 : readL b = [-3] := by
        unfold readL
        simp only [does]
        rw [hr]
        rfl
      rw [e2] at k
      exact iteT ⟨by show 1 ≤ sizeLine; decide, fun p np => k p _ (s1.free np) (s1.trans (same_upd np)) upd_same⟩
    | some f =>
      refine iteF ?_
      have hlen : 19 ≤ b.length ∧ b.length ≤ 1518 := Classical.byContradiction fun z => by rw [read_none z] at hr; cases hr
      have hf : f = ⟨b.take 6, (b.drop 6).take 6, number ((b.drop 12).take 2), (b.take (b.length - 4)).drop 14⟩ := by
        unfold Sf82.read at hr
        split at hr
        · cases hr
        · split at hr
          · exact (Option.some.inj hr).symm
          · cases hr
      have z1 : ((b.drop 6).take 6).length = 6 := by rw [List.length_take, List.length_drop]; omega
      have z2 : (b.take 6).length = 6 := by rw [List.length_take]; omega
      have z3 : ((b.take (b.length - 4)).drop 14).length ≤ 1500 := by rw [List.length_drop, List.length_take]; omega
      refine ⟨_, rfl, a, b, rfl, SqL.of (s1 _ _ ha), by omega, fun H7 s7 => ⟨by show 1 ≤ sizeLine; decide, fun l8 n8 => ?_⟩⟩
      have s8 := (s1.trans s7).trans (same_upd (o := .lst [V.int (number ((b.drop 12).take 2))]) n8)
      refine ⟨_, rfl, a, b, rfl, SqL.of (s8 _ _ ha), fun l9 H9 N9 => ?_⟩
      have s9 := s8.trans N9.2.1
      refine ⟨l8, l9, _, _, rfl, rfl, N9.2.1 _ _ upd_same, N9.2.2, by rw [vnb_length, z2]; show 1 + 6 ≤ sizeLine; decide, fun l10 n10 => ?_⟩
      have s10 := s9.trans (same_upd (o := .lst ([V.int (number ((b.drop 12).take 2))] ++ vi (nb (b.take 6)))) n10)
      refine ⟨_, rfl, a, b, rfl, SqL.of (s10 _ _ ha), by omega, fun l11 H11 N11 => ?_⟩
      have s11 := s10.trans N11.2.1
      refine ⟨l10, l11, _, _, rfl, rfl, N11.2.1 _ _ upd_same, N11.2.2, by rw [vnb_length, z1, List.length_append, vnb_length, z2]; show 1 + 6 + 6 ≤ sizeLine; decide, fun l12 n12 => ?_⟩
      have s12 := s11.trans (same_upd (o := .lst ([V.int (number ((b.drop 12).take 2))] ++ vi (nb (b.take 6)) ++ vi (nb ((b.drop 6).take 6)))) n12)
      refine ⟨_, rfl, a, b, rfl, SqL.of (s12 _ _ ha), by omega, fun l13 H13 N13 => ?_⟩
      have s13 := s12.trans N13.2.1
      refine ⟨l12, l13, _, _, rfl, rfl, N13.2.1 _ _ upd_same, N13.2.2, by rw [vnb_length, List.length_append, List.length_append, vnb_length, z2, vnb_length, z1]; show 1 + 6 + 6 + _ ≤ sizeLine; omega, fun l14 n14 => ?_⟩
      have s14 := s13.trans (same_upd (o := .lst ([V.int (number ((b.drop 12).take 2))] ++ vi (nb (b.take 6)) ++ vi (nb ((b.drop 6).take 6)) ++ vi (nb ((b.take (b.length - 4)).drop 14)))) n14)
      refine k l14 _ (s13.free n14) s14 ?_
      rw [upd_same]
      have e2 : readL b = (number ((b.drop 12).take 2) : Int) :: (nb (b.take 6) ++ (nb ((b.drop 6).take 6) ++ nb ((b.take (b.length - 4)).drop 14))) := by
        unfold readL
        simp only [does]
        rw [hr, hf]
        show ((number ((b.drop 12).take 2) : Nat) : Int) :: ((nums (b.take 6) ++ (nums ((b.drop 6).take 6) ++ nums ((b.take (b.length - 4)).drop 14))).map fun (n : Nat) => (n : Int)) = _
        rw [List.map_append, List.map_append, nums_nb, nums_nb, nums_nb]
      rw [e2]
      show some (HO.lst _) = some (HO.lst (V.int (number ((b.drop 12).take 2)) :: vi (nb (b.take 6) ++ (nb ((b.drop 6).take 6) ++ nb ((b.take (b.length - 4)).drop 14)))))
      rw [vi_append, vi_append]
      simp only [List.cons_append, List.nil_append, List.append_assoc]
end
end FL
end
section
namespace FL
open PySem L2
open Sf82 (Bytes Item Queue S)
/-! ### an end in the heap -/
/-- a queue: its object, its line, the frames that wait (object, bytes) -/
structure QA where
  o : Addr
  l : Addr
  ws : List (Addr × Addr)
/-- an end: its object, its list of queues, its address, its groups' list, its counts, its turns, the credits' list; the groups; the queues -/
structure EA where
  p : Addr
  lq : Addr
  me : Addr
  gl : Addr
  cn : Addr
  tn : Addr
  cl : Addr
  gs : List Addr
  qs : List QA
def WaitAt (C : Cs) (H : Hp) (x : Addr × Addr) (i : Item) : Prop := (∃ dx, H x.1 = some (.ins C.Waiting dx (f_Waiting (.ref x.2) (.int i.since)))) ∧ H x.2 = some (.lst (vi (nb i.bytes)))
structure QueueAt (C : Cs) (H : Hp) (q : QA) (x : Queue) : Prop where
  ob : ∃ dx, H q.o = some (.ins C.Queue dx (f_Queue (.int x.weight) (.ref q.l)))
  ln : H q.l = some (.lst (q.ws.map fun w => .ref w.1))
  ws : Paired (WaitAt C H) q.ws x.items
def cI (s : S) (k : Nat) : V := .int ((s.count.getD k 0 : Nat) : Int)
abbrev fC (s : S) : List (Str × V) := f_Counts (cI s 0) (cI s 1) (cI s 2) (cI s 3) (cI s 4) (cI s 5) (cI s 6) (cI s 7) (cI s 8) (cI s 9)
abbrev fE (e : EA) (s : S) : List (Str × V) := f_End (.int s.last) (.ref e.lq) (.int s.each) (.int s.life) (.int s.rate) (.int ((1000 * s.burst : Nat) : Int)) (.int s.may) (.ref e.me) (.ref e.tn) (.bl s.handed.isSome) (.ref e.gl) (.bl s.all) (.ref e.cn)
def crs (s : S) : List V := s.queues.map fun (x : Queue) => V.int (x.credit : Int)
/-- whose turn it is, in the heap -/
structure TurnsAt (C : Cs) (H : Hp) (tn cl : Addr) (s : S) : Prop where
  ob : ∃ dx, H tn = some (.ins C.Turns dx (f_Turns (.int s.turn) (.bl s.given) (.ref cl)))
  cl : H cl = some (.lst (crs s))
/-- lists that are changed, lists that aren't -/
def ML (e : EA) (a : Addr) : Prop := a = e.gl ∨ a = e.cl ∨ ∃ (j : Nat) (q : QA), e.qs[j]? = some q ∧ a = q.l
def IL (e : EA) (a : Addr) : Prop := a = e.lq ∨ a = e.me ∨ a ∈ e.gs ∨ ∃ (j : Nat) (q : QA) (w : Addr × Addr), e.qs[j]? = some q ∧ w ∈ q.ws ∧ a = w.2
/-- what may be changed -/
def Mt (e : EA) (a : Addr) : Prop := a = e.p ∨ a = e.cn ∨ a = e.tn ∨ ML e a ∨ ∃ (j : Nat) (q : QA), e.qs[j]? = some q ∧ a = q.o
structure EndAt (C : Cs) (H : Hp) (e : EA) (s : S) : Prop where
  ob : ∃ dx, H e.p = some (.ins C.End dx (fE e s))
  lq : H e.lq = some (.lst (e.qs.map fun q => .ref q.o))
  me : H e.me = some (.lst (vi (nb s.me)))
  gl : H e.gl = some (.lst (e.gs.map V.ref))
  gs : Paired (fun a g => H a = some (.lst (vi (nb g)))) e.gs s.groups
  cn : ∃ dx, H e.cn = some (.ins C.Counts dx (fC s))
  tn : TurnsAt C H e.tn e.cl s
  qs : Paired (QueueAt C H) e.qs s.queues
  dO : ∀ (i j : Nat) (a b : QA), e.qs[i]? = some a → e.qs[j]? = some b → a.o = b.o → i = j
  dL : ∀ (i j : Nat) (a b : QA), e.qs[i]? = some a → e.qs[j]? = some b → a.l = b.l → i = j
  dG : ∀ (i : Nat) (a : QA), e.qs[i]? = some a → a.l ≠ e.gl ∧ a.l ≠ e.cl
  dC : e.gl ≠ e.cl
  dM : ∀ a, ML e a → ¬ IL e a
/-! ### objects of unlike classes -/
theorem ne_len {c d c' d' : Addr} {f g : List (Str × V)} (h : f.length ≠ g.length) : HO.ins c d f ≠ HO.ins c' d' g := fun e => by
  injection e with _ _ e
  exact h (by rw [e])
theorem ne_ks {c d c' d' : Addr} {f g : List (Str × V)} {a b : List Str} (hf : f.map Prod.fst = a) (hg : g.map Prod.fst = b) (h : a ≠ b) : HO.ins c d f ≠ HO.ins c' d' g := fun e => by
  injection e with _ _ e
  exact h (by rw [← hf, ← hg, e])
theorem ks_qw : ks_Queue ≠ ks_Waiting := by decide +kernel
theorem ks_td : ks_Turns ≠ ks_Desk := by decide +kernel
theorem ne_qw {c d c' d' : Addr} {a b u v : V} : HO.ins c d (f_Queue a b) ≠ HO.ins c' d' (f_Waiting u v) := ne_ks (a := ks_Queue) (b := ks_Waiting) rfl rfl ks_qw
theorem ne_wq {c d c' d' : Addr} {a b u v : V} : HO.ins c d (f_Waiting u v) ≠ HO.ins c' d' (f_Queue a b) := ne_ks (a := ks_Waiting) (b := ks_Queue) rfl rfl ks_qw.symm
theorem ne_il {c d : Addr} {f : List (Str × V)} {xs : List V} : HO.ins c d f ≠ HO.lst xs := fun e => by cases e
theorem ne_li {c d : Addr} {f : List (Str × V)} {xs : List V} : HO.lst xs ≠ HO.ins c d f := fun e => by cases e
/-! ### paired lists -/
theorem paired_len {α β : Type} {F : α → β → Prop} {l : List α} {m : List β} (h : Paired F l m) : l.length = m.length := Paired.length h
theorem paired_of {α β : Type} {F : α → β → Prop} : ∀ {l : List α} {m : List β}, l.length = m.length → (∀ (i : Nat) (a : α) (b : β), l[i]? = some a → m[i]? = some b → F a b) → Paired F l m
  | [], [], _, _ => .nil
  | [], _ :: _, h, _ => by simp at h
  | _ :: _, [], h, _ => by simp at h
  | a :: l, b :: m, h, k => .cons (k 0 a b rfl rfl) (paired_of (by simpa using h) fun i x y hx hy => k (i + 1) x y hx hy)
theorem paired_at {α β : Type} {F : α → β → Prop} {l : List α} {m : List β} (h : Paired F l m) {i : Nat} {a : α} {b : β} (ha : l[i]? = some a) (hb : m[i]? = some b) : F a b := by
  obtain ⟨c, hc, r⟩ := Paired.get h hb
  rw [ha] at hc
  cases hc
  exact r
theorem paired_set {α β : Type} {F : α → β → Prop} {l : List α} {m : List β} {j : Nat} {a : α} {b : β} (h : l.length = m.length) (hj : F a b) (hk : ∀ (i : Nat) (x : α) (y : β), i ≠ j → l[i]? = some x → m[i]? = some y → F x y) : Paired F (l.set j a) (m.set j b) := by
  refine paired_of (by rw [List.length_set, List.length_set, h]) fun i x y hx hy => ?_
  by_cases e : j = i
  · subst e
    have hl : j < l.length := by
      have := (List.getElem?_eq_some_iff.mp hx).1
      rwa [List.length_set] at this
    rw [List.getElem?_set_self hl] at hx
    rw [List.getElem?_set_self (by rw [← h]; exact hl)] at hy
    cases hx
    cases hy
    exact hj
  · rw [List.getElem?_set_ne e] at hx hy
    exact hk i x y (Ne.symm e) hx hy
/-! ### what is left as it was -/
theorem WaitAt.keep {C : Cs} {H H' : Hp} {x : Addr × Addr} {i : Item} (h : WaitAt C H x i) (k1 : ∀ o, H x.1 = some o → H' x.1 = some o) (k2 : ∀ o, H x.2 = some o → H' x.2 = some o) : WaitAt C H' x i := by
  obtain ⟨⟨dx, h1⟩, h2⟩ := h
  exact ⟨⟨dx, k1 _ h1⟩, k2 _ h2⟩
theorem paired_mem {α β : Type} {F G : α → β → Prop} : ∀ {l : List α} {m : List β}, Paired F l m → (∀ a b, a ∈ l → F a b → G a b) → Paired G l m
  | _, _, .nil, _ => .nil
  | _, _, .cons r t, k => .cons (k _ _ List.mem_cons_self r) (paired_mem t fun a b m q => k a b (List.mem_cons_of_mem _ m) q)
theorem QueueAt.keep {C : Cs} {H H' : Hp} {q : QA} {x : Queue} (h : QueueAt C H q x) (k1 : ∀ o, H q.o = some o → H' q.o = some o) (k2 : ∀ o, H q.l = some o → H' q.l = some o)
    (k3 : ∀ w ∈ q.ws, (∀ o, H w.1 = some o → H' w.1 = some o) ∧ ∀ o, H w.2 = some o → H' w.2 = some o) : QueueAt C H' q x := by
  obtain ⟨⟨dx, h1⟩, h2, h3⟩ := h
  exact ⟨⟨dx, k1 _ h1⟩, k2 _ h2, paired_mem h3 fun a b m r => r.keep (k3 a m).1 (k3 a m).2⟩
theorem QueueAt.like {C : Cs} {H : Hp} {q : QA} {x y : Queue} (h : QueueAt C H q x) (h1 : y.weight = x.weight) (h2 : y.items = x.items) : QueueAt C H q y := by
  obtain ⟨⟨dx, g1⟩, g2, g3⟩ := h
  exact ⟨⟨dx, by rw [h1]; exact g1⟩, g2, by rw [h2]; exact g3⟩
theorem TurnsAt.keep {C : Cs} {H H' : Hp} {tn cl : Addr} {s : S} (h : TurnsAt C H tn cl s) (k1 : ∀ o, H tn = some o → H' tn = some o) (k2 : ∀ o, H cl = some o → H' cl = some o) : TurnsAt C H' tn cl s := by
  obtain ⟨⟨dx, h1⟩, h2⟩ := h
  exact ⟨⟨dx, k1 _ h1⟩, k2 _ h2⟩
theorem TurnsAt.like {C : Cs} {H : Hp} {tn cl : Addr} {s t : S} (h : TurnsAt C H tn cl s) (h1 : t.turn = s.turn) (h2 : t.given = s.given) (h3 : crs t = crs s) : TurnsAt C H tn cl t := by
  obtain ⟨⟨dx, g1⟩, g2⟩ := h
  exact ⟨⟨dx, by rw [h1, h2]; exact g1⟩, by rw [h3]; exact g2⟩
theorem crs_set (s : S) (j : Nat) (x : Queue) : crs { s with queues := s.queues.set j x } = (crs s).set j (.int (x.credit : Int)) := by
  unfold crs
  exact List.map_set ..
theorem crs_get {s : S} {j : Nat} {x : Queue} (h : s.queues[j]? = some x) : (crs s)[j]? = some (.int (x.credit : Int)) := by
  unfold crs
  rw [List.getElem?_map, h]
  rfl
theorem crs_len (s : S) : (crs s).length = s.queues.length := List.length_map ..
theorem crs_same {s : S} {j : Nat} {x y : Queue} (h : s.queues[j]? = some x) (hc : y.credit = x.credit) : crs { s with queues := s.queues.set j y } = crs s := by
  rw [crs_set, hc]
  refine List.ext_getElem? fun i => ?_
  by_cases e : j = i
  · subst e
    rw [List.getElem?_set_self (by rw [crs_len]; exact (List.getElem?_eq_some_iff.mp h).1), crs_get h]
  · rw [List.getElem?_set_ne e]
theorem EndAt.same {C : Cs} {H H' : Hp} {e : EA} {s : S} (h : EndAt C H e s) (k : Same H H') : EndAt C H' e s := by
  obtain ⟨⟨dx, h1⟩, h2, h3, h4, h5, ⟨dc, h6⟩, ht, h7, h8, h9, h10, hc, h11⟩ := h
  exact ⟨⟨dx, k _ _ h1⟩, k _ _ h2, k _ _ h3, k _ _ h4, paired_mem h5 fun a g _ r => k _ _ r, ⟨dc, k _ _ h6⟩, ht.keep (k _) (k _), paired_mem h7 fun q x _ r => r.keep (k _) (k _) fun w _ => ⟨k _, k _⟩, h8, h9, h10, hc, h11⟩
section
variable {C : Cs} {H H' : Hp} {e : EA} {s : S}
theorem EndAt.len (h : EndAt C H e s) : e.qs.length = s.queues.length := paired_len h.qs
theorem EndAt.at_ (h : EndAt C H e s) {j : Nat} {x : Queue} (hx : s.queues[j]? = some x) : ∃ q, e.qs[j]? = some q ∧ QueueAt C H q x := Paired.get h.qs hx
/-- the end's own object changed -/
theorem EndAt.setP {s' : S} (h : EndAt C H e s) (hp : ∃ dx, H' e.p = some (.ins C.End dx (fE e s')))
    (k : ∀ b o, b ≠ e.p → H b = some o → H' b = some o) (h1 : s'.queues = s.queues) (h2 : s'.me = s.me) (h3 : s'.groups = s.groups) (h4 : s'.count = s.count) (h5 : s'.turn = s.turn) (h6 : s'.given = s.given) : EndAt C H' e s' := by
  obtain ⟨⟨dx, g1⟩, g2, g3, g4, g5, ⟨dc, g6⟩, gt, g7, g8, g9, g10, gc, g11⟩ := h
  have kl : ∀ b xs, H b = some (.lst xs) → H' b = some (.lst xs) := fun b xs q => k b _ (ne_of q g1 ne_li) q
  refine ⟨hp, kl _ _ g2, by rw [h2]; exact kl _ _ g3, kl _ _ g4, by rw [h3]; exact paired_mem g5 fun a g _ r => kl _ _ r, ⟨dc, ?_⟩, ?_, ?_, g8, g9, g10, gc, g11⟩
  · have e1 : ∀ j, cI s' j = cI s j := fun j => by unfold cI; rw [h4]
    unfold fC
    rw [e1, e1, e1, e1, e1, e1, e1, e1, e1, e1]
    exact k _ _ (ne_of g6 g1 (ne_len (by simp [f_End, f_Counts, f_Queue, f_Waiting, f_Turns, f_Desk, fE, fC]))) g6
  · obtain ⟨⟨dt, t1⟩, t2⟩ := id gt
    have hc : crs s' = crs s := by unfold crs; rw [h1]
    exact (gt.keep (k _ · (ne_of t1 g1 (ne_len (by simp [f_End, f_Counts, f_Queue, f_Waiting, f_Turns, f_Desk, fE, fC])))) (k _ · (ne_of t2 g1 ne_li))).like h5 h6 hc
  · rw [h1]
    refine paired_mem g7 fun q x _ r => r.keep (fun o z => ?_) (fun o z => ?_) fun w hw => ⟨fun o z => ?_, fun o z => ?_⟩
    · obtain ⟨dq, z'⟩ := r.ob
      exact k _ _ (ne_of z' g1 (ne_len (by simp [f_End, f_Counts, f_Queue, f_Waiting, f_Turns, f_Desk, fE, fC]))) z
    · exact k _ _ (ne_of r.ln g1 ne_li) z
    · obtain ⟨j, hj⟩ := List.getElem?_of_mem hw
      obtain ⟨i, hi, ⟨dw, z'⟩, _⟩ := Paired.getL r.ws hj
      exact k _ _ (ne_of z' g1 (ne_len (by simp [f_End, f_Counts, f_Queue, f_Waiting, f_Turns, f_Desk, fE, fC]))) z
    · obtain ⟨j, hj⟩ := List.getElem?_of_mem hw
      obtain ⟨i, hi, _, z'⟩ := Paired.getL r.ws hj
      exact k _ _ (ne_of z' g1 ne_li) z
/-- what is counted changed -/
theorem EndAt.setC {s' : S} (h : EndAt C H e s) (hp : ∃ dx, H' e.cn = some (.ins C.Counts dx (fC s')))
    (k : ∀ b o, b ≠ e.cn → H b = some o → H' b = some o) (h1 : s' = { s with count := s'.count }) : EndAt C H' e s' := by
  obtain ⟨⟨dx, g1⟩, g2, g3, g4, g5, ⟨dc, g6⟩, gt, g7, g8, g9, g10, gc, g11⟩ := h
  have kl : ∀ b xs, H b = some (.lst xs) → H' b = some (.lst xs) := fun b xs q => k b _ (ne_of q g6 ne_li) q
  rw [h1]
  obtain ⟨⟨dt, t1⟩, t2⟩ := id gt
  refine ⟨⟨dx, k _ _ (ne_of g1 g6 (ne_len (by simp [f_End, f_Counts, f_Queue, f_Waiting, f_Turns, f_Desk, fE, fC]))) g1⟩, kl _ _ g2, kl _ _ g3, kl _ _ g4, paired_mem g5 fun a g _ r => kl _ _ r, hp, (gt.keep (k _ · (ne_of t1 g6 (ne_len (by simp [f_End, f_Counts, f_Queue, f_Waiting, f_Turns, f_Desk, fE, fC])))) (k _ · (ne_of t2 g6 ne_li))).like rfl rfl rfl, ?_, g8, g9, g10, gc, g11⟩
  refine paired_mem g7 fun q x _ r => r.keep (fun o z => ?_) (fun o z => ?_) fun w hw => ⟨fun o z => ?_, fun o z => ?_⟩
  · obtain ⟨dq, z'⟩ := r.ob
    exact k _ _ (ne_of z' g6 (ne_len (by simp [f_End, f_Counts, f_Queue, f_Waiting, f_Turns, f_Desk, fE, fC]))) z
  · exact k _ _ (ne_of r.ln g6 ne_li) z
  · obtain ⟨j, hj⟩ := List.getElem?_of_mem hw
    obtain ⟨i, hi, ⟨dw, z'⟩, _⟩ := Paired.getL r.ws hj
    exact k _ _ (ne_of z' g6 (ne_len (by simp [f_End, f_Counts, f_Queue, f_Waiting, f_Turns, f_Desk, fE, fC]))) z
  · obtain ⟨j, hj⟩ := List.getElem?_of_mem hw
    obtain ⟨i, hi, _, z'⟩ := Paired.getL r.ws hj
    exact k _ _ (ne_of z' g6 ne_li) z
/-- whose turn it is changed -/
theorem EndAt.setT {s' : S} (h : EndAt C H e s) (ht : TurnsAt C H' e.tn e.cl s') (k : ∀ b o, b ≠ e.tn → b ≠ e.cl → H b = some o → H' b = some o) (hT : Tried s s') : EndAt C H' e s' := by
  obtain ⟨⟨dx, g1⟩, g2, g3, g4, g5, ⟨dc, g6⟩, ⟨⟨dt, t1⟩, t2⟩, g7, g8, g9, g10, gc, g11⟩ := h
  have nil : ∀ a, IL e a → a ≠ e.cl := fun a ha z => g11 _ (.inr (.inl rfl)) (by rw [← z]; exact ha)
  have kl : ∀ b xs, b ≠ e.cl → H b = some (.lst xs) → H' b = some (.lst xs) := fun b xs n q => k b _ (ne_of q t1 ne_li) n q
  have eqs := hT.eq
  have ef : fE e s' = fE e s := by rw [eqs]
  have ec : fC s' = fC s := by
    have : s'.count = s.count := by rw [eqs]
    unfold fC cI
    rw [this]
  have em : s'.me = s.me := by rw [eqs]
  have eg : s'.groups = s.groups := by rw [eqs]
  refine ⟨⟨dx, by rw [ef]; exact k _ _ (ne_of g1 t1 (ne_len (by simp [f_End, f_Counts, f_Queue, f_Waiting, f_Turns, f_Desk, fE, fC]))) (ne_of g1 t2 ne_il) g1⟩, kl _ _ (nil _ (.inl rfl)) g2, by rw [em]; exact kl _ _ (nil _ (.inr (.inl rfl))) g3, kl _ _ gc g4, by rw [eg]; exact paired_mem g5 fun a g m r => kl _ _ (nil _ (.inr (.inr (.inl m)))) r,
    ⟨dc, by rw [ec]; exact k _ _ (ne_of g6 t1 (ne_len (by simp [f_End, f_Counts, f_Queue, f_Waiting, f_Turns, f_Desk, fE, fC]))) (ne_of g6 t2 ne_il) g6⟩, ht, ?_, g8, g9, g10, gc, g11⟩
  refine paired_of (by rw [paired_len g7, hT.len]) fun i q x hq hx => ?_
  have hl : i < s.queues.length := by rw [← hT.len]; exact (List.getElem?_eq_some_iff.mp hx).1
  have r := paired_at g7 hq (List.getElem?_eq_getElem hl)
  obtain ⟨c, hc⟩ := hT.get i _ (List.getElem?_eq_getElem hl)
  rw [hx] at hc
  cases hc
  refine QueueAt.like (x := s.queues[i]) (r.keep (fun o z => ?_) (fun o z => ?_) fun w hw => ⟨fun o z => ?_, fun o z => ?_⟩) rfl rfl
  · obtain ⟨dq, z'⟩ := r.ob
    exact k _ _ (ne_of z' t1 (ne_len (by simp [f_End, f_Counts, f_Queue, f_Waiting, f_Turns, f_Desk, fE, fC]))) (ne_of z' t2 ne_il) z
  · exact k _ _ (ne_of r.ln t1 ne_li) (g10 i q hq).2 z
  · obtain ⟨n, hn⟩ := List.getElem?_of_mem hw
    obtain ⟨it, _, ⟨dw, z'⟩, _⟩ := Paired.getL r.ws hn
    exact k _ _ (ne_of z' t1 (ne_len (by simp [f_End, f_Counts, f_Queue, f_Waiting, f_Turns, f_Desk, fE, fC]))) (ne_of z' t2 ne_il) z
  · obtain ⟨n, hn⟩ := List.getElem?_of_mem hw
    obtain ⟨it, _, _, z'⟩ := Paired.getL r.ws hn
    exact k _ _ (ne_of z' t1 ne_li) (nil _ (.inr (.inr (.inr ⟨i, q, w, hq, hw, rfl⟩)))) z
/-- a queue changed: its object, its line; a line that is new stands where nothing stood -/
theorem EndAt.setQ {j : Nat} {q q' : QA} {x x' : Queue} (h : EndAt C H e s) (hq : e.qs[j]? = some q) (hxj : s.queues[j]? = some x) (hcr : x'.credit = x.credit) (ho : q'.o = q.o) (hx : QueueAt C H' q' x') (k : ∀ b o, b ≠ q.o → b ≠ q.l → H b = some o → H' b = some o)
    (hl : q'.l = q.l ∨ (¬ ML e q'.l ∧ ¬ IL e q'.l)) (hw : ∀ w ∈ q'.ws, w ∈ q.ws ∨ (¬ ML e w.2 ∧ w.2 ≠ q'.l)) : EndAt C H' { e with qs := e.qs.set j q' } { s with queues := s.queues.set j x' } := by
  have hlen := h.len
  have hj : j < e.qs.length := (List.getElem?_eq_some_iff.mp hq).1
  obtain ⟨⟨dx, g1⟩, g2, g3, g4, g5, ⟨dc, g6⟩, gt, g7, g8, g9, g10, gc, g11⟩ := h
  obtain ⟨⟨dt, t1⟩, t2⟩ := id gt
  obtain ⟨⟨dq, ro⟩, rl, rw⟩ := paired_at g7 hq hxj
  have mlq : ML e q.l := .inr (.inr ⟨j, q, hq, rfl⟩)
  have nil : ∀ a, IL e a → a ≠ q.l := fun a ha z => g11 _ mlq (by rw [← z]; exact ha)
  have kl : ∀ b xs, b ≠ q.l → H b = some (.lst xs) → H' b = some (.lst xs) := fun b xs hb z => k b _ (ne_of z ro ne_li) hb z
  have ki : ∀ (b c d : Addr) (f : List (Str × V)), f.length ≠ 2 → H b = some (.ins c d f) → H' b = some (.ins c d f) := fun b c d f hf z => k b _ (ne_of z ro (ne_len hf)) (ne_of z rl ne_il) z
  have get' : ∀ (i : Nat) (a : QA), (e.qs.set j q')[i]? = some a → (i = j ∧ a = q') ∨ (i ≠ j ∧ e.qs[i]? = some a) := fun i a hi => by
    by_cases z : j = i
    · subst z
      rw [List.getElem?_set_self hj] at hi
      cases hi
      exact .inl ⟨rfl, rfl⟩
    · rw [List.getElem?_set_ne z] at hi
      exact .inr ⟨Ne.symm z, hi⟩
  -- the old lines and the new one
  have lne : ∀ (i : Nat) (a : QA), i ≠ j → e.qs[i]? = some a → a.l ≠ q'.l := fun i a hi ha z => by
    rcases hl with hl | hl
    · exact hi (g9 i j a q ha hq (by rw [z, hl]))
    · exact hl.1 (.inr (.inr ⟨i, a, ha, z.symm⟩))
  refine ⟨⟨dx, ki _ _ _ _ (by simp [f_End, f_Counts, f_Queue, f_Waiting, f_Turns, f_Desk, fE, fC]) g1⟩, ?_, kl _ _ (nil _ (.inr (.inl rfl))) g3, kl _ _ (Ne.symm (g10 j q hq).1) g4, paired_mem g5 fun a g m r => kl _ _ (nil _ (.inr (.inr (.inl m)))) r, ⟨dc, ki _ _ _ _ (by simp [f_End, f_Counts, f_Queue, f_Waiting, f_Turns, f_Desk, fE, fC]) g6⟩, ?_, ?_, ?_, ?_, ?_, gc, ?_⟩
  · have e1 : ((e.qs.set j q').map fun (q : QA) => V.ref q.o) = e.qs.map fun (q : QA) => V.ref q.o := by
      refine List.ext_getElem? fun i => ?_
      rw [List.getElem?_map, List.getElem?_map]
      by_cases z : j = i
      · subst z
        rw [List.getElem?_set_self hj, hq]
        simp [ho]
      · rw [List.getElem?_set_ne z]
    show H' e.lq = some (.lst ((e.qs.set j q').map fun (q : QA) => V.ref q.o))
    rw [e1]
    exact kl _ _ (nil _ (.inl rfl)) g2
  · have hcl : e.cl ≠ q.l := Ne.symm (g10 j q hq).2
    exact TurnsAt.like (s := s) ⟨⟨dt, ki _ _ _ _ (by simp [f_End, f_Counts, f_Queue, f_Waiting, f_Turns, f_Desk, fE, fC]) t1⟩, kl _ _ hcl t2⟩ rfl rfl (crs_same hxj hcr)
  · refine paired_set hlen hx fun i a y hi ha hy => ?_
    have r := paired_at g7 ha hy
    refine r.keep (fun o z => ?_) (fun o z => ?_) fun w hw => ⟨fun o z => ?_, fun o z => ?_⟩
    · obtain ⟨da, ra⟩ := r.ob
      exact k _ _ (fun z' => hi (g8 i j a q ha hq z')) (ne_of ra rl ne_il) z
    · exact k _ _ (ne_of r.ln ro ne_li) (fun z' => hi (g9 i j a q ha hq z')) z
    · obtain ⟨n, hn⟩ := List.getElem?_of_mem hw
      obtain ⟨it, _, ⟨dw, z'⟩, _⟩ := Paired.getL r.ws hn
      exact k _ _ (ne_of z' ro ne_wq) (ne_of z' rl ne_il) z
    · obtain ⟨n, hn⟩ := List.getElem?_of_mem hw
      obtain ⟨it, _, _, z'⟩ := Paired.getL r.ws hn
      exact k _ _ (ne_of z' ro ne_li) (nil _ (.inr (.inr (.inr ⟨i, a, w, ha, hw, rfl⟩)))) z
  · intro i i' a b ha hb hab
    rcases get' i a ha with ⟨rfl, rfl⟩ | ⟨h1, h2⟩ <;> rcases get' i' b hb with ⟨rfl, rfl⟩ | ⟨h3, h4⟩
    · rfl
    · exact absurd (g8 _ i' q b hq h4 (by rw [← ho]; exact hab)) (Ne.symm h3)
    · exact absurd (g8 i _ a q h2 hq (by rw [hab, ho])) h1
    · exact g8 i i' a b h2 h4 hab
  · intro i i' a b ha hb hab
    rcases get' i a ha with ⟨rfl, rfl⟩ | ⟨h1, h2⟩ <;> rcases get' i' b hb with ⟨rfl, rfl⟩ | ⟨h3, h4⟩
    · rfl
    · exact absurd hab.symm (lne i' b h3 h4)
    · exact absurd hab (lne i a h1 h2)
    · exact g9 i i' a b h2 h4 hab
  · intro i a ha
    rcases get' i a ha with ⟨rfl, rfl⟩ | ⟨h1, h2⟩
    · rcases hl with hl | hl
      · rw [hl]; exact g10 _ q hq
      · exact ⟨fun z => hl.1 (.inl z), fun z => hl.1 (.inr (.inl z))⟩
    · exact g10 i a h2
  · intro a ha hi
    -- what is immutable now was so before, or is new
    have hi' : IL e a ∨ ∃ w ∈ q'.ws, a = w.2 ∧ ¬ ML e w.2 ∧ w.2 ≠ q'.l := by
      rcases hi with z | z | z | ⟨i, b, w, hb, hwb, rfl⟩
      · exact .inl (.inl z)
      · exact .inl (.inr (.inl z))
      · exact .inl (.inr (.inr (.inl z)))
      · rcases get' i b hb with ⟨rfl, rfl⟩ | ⟨h1, h2⟩
        · rcases hw w hwb with z | ⟨z, z'⟩
          · exact .inl (.inr (.inr (.inr ⟨_, q, w, hq, z, rfl⟩)))
          · exact .inr ⟨w, hwb, rfl, z, z'⟩
        · exact .inl (.inr (.inr (.inr ⟨i, b, w, h2, hwb, rfl⟩)))
    have ha' : ML e a ∨ (a = q'.l ∧ ¬ IL e q'.l) := by
      rcases ha with z | z | ⟨i, b, hb, rfl⟩
      · exact .inl (.inl z)
      · exact .inl (.inr (.inl z))
      · rcases get' i b hb with ⟨rfl, rfl⟩ | ⟨h1, h2⟩
        · rcases hl with hl | hl
          · exact .inl (.inr (.inr ⟨_, q, hq, hl⟩))
          · exact .inr ⟨rfl, hl.2⟩
        · exact .inl (.inr (.inr ⟨i, b, h2, rfl⟩))
    rcases hi' with hi' | ⟨w, hw1, rfl, hw2, hw3⟩
    · rcases ha' with ha' | ⟨rfl, hn⟩
      · exact g11 a ha' hi'
      · exact hn hi'
    · rcases ha' with ha' | ⟨z, hn⟩
      · exact hw2 ha'
      · exact hw3 z
/-- each part of it stands somewhere -/
theorem EndAt.there (h : EndAt C H e s) {a : Addr} (ha : Mt e a ∨ IL e a) : H a ≠ none := by
  obtain ⟨⟨dx, g1⟩, g2, g3, g4, g5, ⟨dc, g6⟩, ⟨⟨dt, t1⟩, t2⟩, g7, g8, g9, g10, gc, g11⟩ := h
  intro hn
  rcases ha with (rfl | rfl | rfl | (rfl | rfl | ⟨i, b, hb, rfl⟩) | ⟨i, b, hb, rfl⟩) | (rfl | rfl | ha | ⟨i, b, w, hb, hwb, rfl⟩)
  · rw [g1] at hn; cases hn
  · rw [g6] at hn; cases hn
  · rw [t1] at hn; cases hn
  · rw [g4] at hn; cases hn
  · rw [t2] at hn; cases hn
  · obtain ⟨y, _, ry⟩ := Paired.getL g7 hb
    rw [ry.ln] at hn; cases hn
  · obtain ⟨y, _, ry⟩ := Paired.getL g7 hb
    obtain ⟨dq, z⟩ := ry.ob
    rw [z] at hn; cases hn
  · rw [g2] at hn; cases hn
  · rw [g3] at hn; cases hn
  · obtain ⟨n, hn'⟩ := List.getElem?_of_mem ha
    obtain ⟨g, _, rg⟩ := Paired.getL g5 hn'
    rw [rg] at hn; cases hn
  · obtain ⟨y, _, ry⟩ := Paired.getL g7 hb
    obtain ⟨n, hn'⟩ := List.getElem?_of_mem hwb
    obtain ⟨it, _, _, rg⟩ := Paired.getL ry.ws hn'
    rw [rg] at hn; cases hn
/-- what stands nowhere is no part of it -/
theorem EndAt.fresh (h : EndAt C H e s) {a : Addr} (hn : H a = none) : ¬ ML e a ∧ ¬ IL e a :=
  ⟨fun ha => h.there (.inl (.inr (.inr (.inr (.inl ha))))) hn, fun ha => h.there (.inr ha) hn⟩
/-- the groups changed -/
theorem EndAt.setG {gs' : List Addr} {gv : List Bytes} (h : EndAt C H e s) (hg : H' e.gl = some (.lst (gs'.map V.ref))) (k : ∀ b o, b ≠ e.gl → H b = some o → H' b = some o)
    (hp : Paired (fun a g => H' a = some (.lst (vi (nb g)))) gs' gv) (hs : ∀ a ∈ gs', a ∈ e.gs ∨ ¬ ML e a) : EndAt C H' { e with gs := gs' } { s with groups := gv } := by
  obtain ⟨⟨dx, g1⟩, g2, g3, g4, g5, ⟨dc, g6⟩, gt, g7, g8, g9, g10, gc, g11⟩ := h
  obtain ⟨⟨dt, t1⟩, t2⟩ := id gt
  have nil : ∀ a, IL e a → a ≠ e.gl := fun a ha z => g11 _ (.inl rfl) (by rw [← z]; exact ha)
  refine ⟨⟨dx, k _ _ (ne_of g1 g4 ne_il) g1⟩, k _ _ (nil _ (.inl rfl)) g2, k _ _ (nil _ (.inr (.inl rfl))) g3, hg, hp, ⟨dc, k _ _ (ne_of g6 g4 ne_il) g6⟩, (gt.keep (k _ · (ne_of t1 g4 ne_il)) (k _ · gc.symm)).like rfl rfl rfl, ?_, g8, g9, g10, gc, ?_⟩
  · refine paired_of (paired_len g7) fun i q x hq hx => ?_
    have r := paired_at g7 hq hx
    refine r.keep (fun o z => ?_) (fun o z => ?_) fun w hw => ⟨fun o z => ?_, fun o z => ?_⟩
    · obtain ⟨dq, z'⟩ := r.ob
      exact k _ _ (ne_of z' g4 ne_il) z
    · exact k _ _ (g10 i q hq).1 z
    · obtain ⟨n, hn⟩ := List.getElem?_of_mem hw
      obtain ⟨it, _, ⟨dw, z'⟩, _⟩ := Paired.getL r.ws hn
      exact k _ _ (ne_of z' g4 ne_il) z
    · exact k _ _ (nil _ (.inr (.inr (.inr ⟨i, q, w, hq, hw, rfl⟩)))) z
  · intro a ha hi
    have ha : ML e a := ha
    rcases hi with z | z | z | z
    · exact g11 a ha (.inl z)
    · exact g11 a ha (.inr (.inl z))
    · rcases hs a z with z | z
      · exact g11 a ha (.inr (.inr (.inl z)))
      · exact z ha
    · exact g11 a ha (.inr (.inr (.inr z)))
/-- a list changed that is no part of it -/
theorem EndAt.off {t : Addr} {xs : List V} {o : HO} (h : EndAt C H e s) (ht : H t = some (.lst xs)) (h1 : ¬ ML e t) (h2 : ¬ IL e t) : EndAt C (upd H t o) e s := by
  obtain ⟨⟨dx, g1⟩, g2, g3, g4, g5, ⟨dc, g6⟩, gt, g7, g8, g9, g10, gc, g11⟩ := h
  obtain ⟨⟨dt, t1⟩, t2⟩ := id gt
  have ki : ∀ (b c d : Addr) (f : List (Str × V)), H b = some (.ins c d f) → upd H t o b = some (.ins c d f) := fun b c d f z => by rw [upd_ne (ne_of z ht ne_il)]; exact z
  have km : ∀ b u, ML e b → H b = some u → upd H t o b = some u := fun b u hb z => by rw [upd_ne fun q => h1 (by rw [← q]; exact hb)]; exact z
  have kI : ∀ b u, IL e b → H b = some u → upd H t o b = some u := fun b u hb z => by rw [upd_ne fun q => h2 (by rw [← q]; exact hb)]; exact z
  refine ⟨⟨dx, ki _ _ _ _ g1⟩, kI _ _ (.inl rfl) g2, kI _ _ (.inr (.inl rfl)) g3, km _ _ (.inl rfl) g4, paired_mem g5 fun a g m r => kI _ _ (.inr (.inr (.inl m))) r, ⟨dc, ki _ _ _ _ g6⟩, ⟨⟨dt, ki _ _ _ _ t1⟩, km _ _ (.inr (.inl rfl)) t2⟩, ?_, g8, g9, g10, gc, g11⟩
  refine paired_of (paired_len g7) fun i q x hq hx => ?_
  obtain ⟨⟨dq, r1⟩, r2, r3⟩ := paired_at g7 hq hx
  refine ⟨⟨dq, ki _ _ _ _ r1⟩, km _ _ (.inr (.inr ⟨i, q, hq, rfl⟩)) r2, paired_mem r3 fun w it hw r' => ?_⟩
  obtain ⟨⟨dw, z1⟩, z2⟩ := r'
  exact ⟨⟨dw, ki _ _ _ _ z1⟩, kI _ _ (.inr (.inr (.inr ⟨i, q, w, hq, hw, rfl⟩))) z2⟩
/-- an object changed that is no part of it, and of another class -/
theorem EndAt.offO {t c d : Addr} {f : List (Str × V)} {o : HO} (h : EndAt C H e s) (ht : H t = some (.ins c d f)) (hf : f.map Prod.fst = ks_Desk) : EndAt C (upd H t o) e s := by
  obtain ⟨⟨dx, g1⟩, g2, g3, g4, g5, ⟨dc, g6⟩, gt, g7, g8, g9, g10, gc, g11⟩ := h
  obtain ⟨⟨dt, t1⟩, t2⟩ := id gt
  have hl : f.length = 3 := by
    have := congrArg List.length hf
    rw [List.length_map] at this
    exact this
  have kl : ∀ b xs, H b = some (.lst xs) → upd H t o b = some (.lst xs) := fun b xs z => by rw [upd_ne (ne_of z ht ne_li)]; exact z
  have ki : ∀ (b c d : Addr) (g : List (Str × V)), g.length ≠ 3 → H b = some (.ins c d g) → upd H t o b = some (.ins c d g) := fun b c d g n z => by rw [upd_ne (ne_of z ht (ne_len (by rw [hl]; exact n)))]; exact z
  refine ⟨⟨dx, ki _ _ _ _ (by simp [f_End, f_Counts, f_Queue, f_Waiting, f_Turns, f_Desk, fE, fC]) g1⟩, kl _ _ g2, kl _ _ g3, kl _ _ g4, paired_mem g5 fun a g m r => kl _ _ r, ⟨dc, ki _ _ _ _ (by simp [f_End, f_Counts, f_Queue, f_Waiting, f_Turns, f_Desk, fE, fC]) g6⟩, ⟨⟨dt, by rw [upd_ne (ne_of t1 ht (ne_ks (a := ks_Turns) rfl hf ks_td))]; exact t1⟩, kl _ _ t2⟩, ?_, g8, g9, g10, gc, g11⟩
  refine paired_of (paired_len g7) fun i q x hq hx => ?_
  obtain ⟨⟨dq, r1⟩, r2, r3⟩ := paired_at g7 hq hx
  refine ⟨⟨dq, ki _ _ _ _ (by simp [f_End, f_Counts, f_Queue, f_Waiting, f_Turns, f_Desk, fE, fC]) r1⟩, kl _ _ r2, paired_mem r3 fun w it hw r' => ?_⟩
  obtain ⟨⟨dw, z1⟩, z2⟩ := r'
  exact ⟨⟨dw, ki _ _ _ _ (by simp [f_End, f_Counts, f_Queue, f_Waiting, f_Turns, f_Desk, fE, fC]) z1⟩, kl _ _ z2⟩
/-- a Desk's object is no part of it -/
theorem EndAt.noDesk {t c d : Addr} {f : List (Str × V)} (h : EndAt C H e s) (ht : H t = some (.ins c d f)) (hf : f.map Prod.fst = ks_Desk) : ¬ Mt e t := by
  obtain ⟨⟨dx, g1⟩, g2, g3, g4, g5, ⟨dc, g6⟩, ⟨⟨dt, t1⟩, t2⟩, g7, g8, g9, g10, gc, g11⟩ := h
  have hl : f.length = 3 := by
    have := congrArg List.length hf
    rw [List.length_map] at this
    exact this
  rintro (rfl | rfl | rfl | (rfl | rfl | ⟨i, b, hb, rfl⟩) | ⟨i, b, hb, rfl⟩)
  · exact ne_of g1 ht (ne_len (by rw [hl]; simp [f_End, f_Counts, f_Queue, f_Waiting, f_Turns, f_Desk, fE, fC])) rfl
  · exact ne_of g6 ht (ne_len (by rw [hl]; simp [f_End, f_Counts, f_Queue, f_Waiting, f_Turns, f_Desk, fE, fC])) rfl
  · exact ne_of t1 ht (ne_ks (a := ks_Turns) rfl hf ks_td) rfl
  · exact ne_of g4 ht ne_li rfl
  · exact ne_of t2 ht ne_li rfl
  · obtain ⟨y, _, ry⟩ := Paired.getL g7 hb
    exact ne_of ry.ln ht ne_li rfl
  · obtain ⟨y, _, ry⟩ := Paired.getL g7 hb
    obtain ⟨dq, z⟩ := ry.ob
    exact ne_of z ht (ne_len (by rw [hl]; simp [f_End, f_Counts, f_Queue, f_Waiting, f_Turns, f_Desk, fE, fC])) rfl
end
/-! ### what a call leaves to others -/
structure Kept (e e' : EA) (H H' : Hp) : Prop where
  p : e'.p = e.p
  cn : e'.cn = e.cn
  keep : ∀ b o, H b = some o → ¬ Mt e b → H' b = some o
  foot : ∀ b, Mt e' b → Mt e b ∨ H b = none
  own : ∀ b, IL e' b → IL e b ∨ H b = none
  live : ∀ b, H' b = none → H b = none
theorem Kept.refl (e : EA) (H : Hp) : Kept e e H H := ⟨rfl, rfl, fun _ _ h _ => h, fun _ h => .inl h, fun _ h => .inl h, fun _ h => h⟩
theorem Kept.same {e : EA} {H H' : Hp} (k : Same H H') : Kept e e H H' := ⟨rfl, rfl, fun _ _ h _ => k _ _ h, fun _ h => .inl h, fun _ h => .inl h, fun _ h => k.free h⟩
theorem Kept.trans {e e' e'' : EA} {H H' H'' : Hp} (a : Kept e e' H H') (b : Kept e' e'' H' H'') : Kept e e'' H H'' := by
  refine ⟨b.p.trans a.p, b.cn.trans a.cn, fun c o h n => b.keep c o (a.keep c o h n) fun m => ?_, fun c m => ?_, fun c m => ?_, fun c m => a.live c (b.live c m)⟩
  · rcases a.foot c m with z | z
    · exact n z
    · rw [h] at z; cases z
  · rcases b.foot c m with z | z
    · exact a.foot c z
    · exact .inr (a.live c z)
  · rcases b.own c m with z | z
    · exact a.own c z
    · exact .inr (a.live c z)
/-- seen from a heap before -/
theorem Kept.from {e e' : EA} {H0 H H' : Hp} (s : Same H0 H) (k : Kept e e' H H') : Kept e e' H0 H' := (Kept.same s).trans k
end FL
end
section
namespace FL
open PySem L2
open Sf82 (Bytes Item Queue S)
/-! ### counts -/
theorem cI_counted (s : S) (k n j : Nat) (hk : k < s.count.length) : cI (s.counted k n) j = if j = k then .int ((s.count.getD k 0 : Nat) + n : Int) else cI s j := by
  unfold cI Sf82.S.counted
  show V.int (((Sf82.changed s.count k fun (x : Nat) => x + n).getD j 0 : Nat) : Int) = _
  rw [List.getD_eq_getElem?_getD, changed_get]
  by_cases e : j = k
  · subst e
    rw [if_pos rfl, if_pos rfl, List.getElem?_eq_getElem hk, List.getD_eq_getElem?_getD, List.getElem?_eq_getElem hk]
    simp
  · rw [if_neg e, if_neg e, List.getD_eq_getElem?_getD]
theorem count_length (s : S) (k n : Nat) : (s.counted k n).count.length = s.count.length := by
  show (Sf82.changed s.count k fun (x : Nat) => x + n).length = _
  exact changed_length _ _ _
theorem EndAt.count {C : Cs} {H : Hp} {e : EA} {s : S} (h : EndAt C H e s) {k n : Nat} {dc : Addr} : EndAt C (upd H e.cn (.ins C.Counts dc (fC (s.counted k n)))) e (s.counted k n) :=
  h.setC ⟨dc, upd_same⟩ (fun b o hb z => by rw [upd_ne hb]; exact z) rfl
/-! ### one count more -/
theorem cnt_0 (s : S) (n : Nat) (h : s.count.length = 10) : f_Counts (.int (((s.count.getD 0 0 : Nat) : Int) + n)) (cI s 1) (cI s 2) (cI s 3) (cI s 4) (cI s 5) (cI s 6) (cI s 7) (cI s 8) (cI s 9) = fC (s.counted 0 n) := by
  have hk : 0 < s.count.length := by omega
  simp [fC, cI_counted _ _ _ _ hk]
theorem cnt_1 (s : S) (n : Nat) (h : s.count.length = 10) : f_Counts (cI s 0) (.int (((s.count.getD 1 0 : Nat) : Int) + n)) (cI s 2) (cI s 3) (cI s 4) (cI s 5) (cI s 6) (cI s 7) (cI s 8) (cI s 9) = fC (s.counted 1 n) := by
  have hk : 1 < s.count.length := by omega
  simp [fC, cI_counted _ _ _ _ hk]
theorem cnt_2 (s : S) (n : Nat) (h : s.count.length = 10) : f_Counts (cI s 0) (cI s 1) (.int (((s.count.getD 2 0 : Nat) : Int) + n)) (cI s 3) (cI s 4) (cI s 5) (cI s 6) (cI s 7) (cI s 8) (cI s 9) = fC (s.counted 2 n) := by
  have hk : 2 < s.count.length := by omega
  simp [fC, cI_counted _ _ _ _ hk]
theorem cnt_3 (s : S) (n : Nat) (h : s.count.length = 10) : f_Counts (cI s 0) (cI s 1) (cI s 2) (.int (((s.count.getD 3 0 : Nat) : Int) + n)) (cI s 4) (cI s 5) (cI s 6) (cI s 7) (cI s 8) (cI s 9) = fC (s.counted 3 n) := by
  have hk : 3 < s.count.length := by omega
  simp [fC, cI_counted _ _ _ _ hk]
theorem cnt_4 (s : S) (n : Nat) (h : s.count.length = 10) : f_Counts (cI s 0) (cI s 1) (cI s 2) (cI s 3) (.int (((s.count.getD 4 0 : Nat) : Int) + n)) (cI s 5) (cI s 6) (cI s 7) (cI s 8) (cI s 9) = fC (s.counted 4 n) := by
  have hk : 4 < s.count.length := by omega
  simp [fC, cI_counted _ _ _ _ hk]
theorem cnt_5 (s : S) (n : Nat) (h : s.count.length = 10) : f_Counts (cI s 0) (cI s 1) (cI s 2) (cI s 3) (cI s 4) (.int (((s.count.getD 5 0 : Nat) : Int) + n)) (cI s 6) (cI s 7) (cI s 8) (cI s 9) = fC (s.counted 5 n) := by
  have hk : 5 < s.count.length := by omega
  simp [fC, cI_counted _ _ _ _ hk]
theorem cnt_6 (s : S) (n : Nat) (h : s.count.length = 10) : f_Counts (cI s 0) (cI s 1) (cI s 2) (cI s 3) (cI s 4) (cI s 5) (.int (((s.count.getD 6 0 : Nat) : Int) + n)) (cI s 7) (cI s 8) (cI s 9) = fC (s.counted 6 n) := by
  have hk : 6 < s.count.length := by omega
  simp [fC, cI_counted _ _ _ _ hk]
theorem cnt_7 (s : S) (n : Nat) (h : s.count.length = 10) : f_Counts (cI s 0) (cI s 1) (cI s 2) (cI s 3) (cI s 4) (cI s 5) (cI s 6) (.int (((s.count.getD 7 0 : Nat) : Int) + n)) (cI s 8) (cI s 9) = fC (s.counted 7 n) := by
  have hk : 7 < s.count.length := by omega
  simp [fC, cI_counted _ _ _ _ hk]
theorem cnt_8 (s : S) (n : Nat) (h : s.count.length = 10) : f_Counts (cI s 0) (cI s 1) (cI s 2) (cI s 3) (cI s 4) (cI s 5) (cI s 6) (cI s 7) (.int (((s.count.getD 8 0 : Nat) : Int) + n)) (cI s 9) = fC (s.counted 8 n) := by
  have hk : 8 < s.count.length := by omega
  simp [fC, cI_counted _ _ _ _ hk]
theorem cnt_9 (s : S) (n : Nat) (h : s.count.length = 10) : f_Counts (cI s 0) (cI s 1) (cI s 2) (cI s 3) (cI s 4) (cI s 5) (cI s 6) (cI s 7) (cI s 8) (.int (((s.count.getD 9 0 : Nat) : Int) + n)) = fC (s.counted 9 n) := by
  have hk : 9 < s.count.length := by omega
  simp [fC, cI_counted _ _ _ _ hk]
def sp_Counts_init (K : PySem.W.Frag) (C : Cs) : Sp := fun vs H Q _ => ∃ (p dx : Addr), vs = [.ref p] ∧ H p = some (.ins C.Counts dx []) ∧ ∀ H', (∃ d, H' p = some (.ins C.Counts d (f_Counts (.int 0) (.int 0) (.int 0) (.int 0) (.int 0) (.int 0) (.int 0) (.int 0) (.int 0) (.int 0)))) → (∀ b o, H b = some o → b ≠ p → H' b = some o) → Q .non H'
def sp_Counts_in_order (K : PySem.W.Frag) (C : Cs) : Sp := fun vs H Q _ => ∃ (p dx : Addr) (v0 v1 v2 v3 v4 v5 v6 v7 v8 v9 : V), vs = [.ref p] ∧ H p = some (.ins C.Counts dx (f_Counts v0 v1 v2 v3 v4 v5 v6 v7 v8 v9)) ∧ ∀ l H', Same H H' → H' l = some (.lst [v0, v1, v2, v3, v4, v5, v6, v7, v8, v9]) → Q (.ref l) H'
def sp_Turns_init (K : PySem.W.Frag) (C : Cs) : Sp := fun vs H Q _ => ∃ (p dx : Addr) (v u z : V), vs = [.ref p, v, u, z] ∧ H p = some (.ins C.Turns dx []) ∧ ∀ H', (∃ d, H' p = some (.ins C.Turns d (f_Turns v u z))) → (∀ b o, H b = some o → b ≠ p → H' b = some o) → Q .non H'
def sp_Waiting_init (K : PySem.W.Frag) (C : Cs) : Sp := fun vs H Q _ => ∃ (p dx : Addr) (v u : V), vs = [.ref p, v, u] ∧ H p = some (.ins C.Waiting dx []) ∧ ∀ H', (∃ d, H' p = some (.ins C.Waiting d (f_Waiting v u))) → (∀ b o, H b = some o → b ≠ p → H' b = some o) → Q .non H'
def sp_Queue_init (K : PySem.W.Frag) (C : Cs) : Sp := fun vs H Q _ => ∃ (p dx : Addr), vs = [.ref p] ∧ H p = some (.ins C.Queue dx []) ∧ ∀ l H', H l = none → l ≠ p → (∃ d, H' p = some (.ins C.Queue d (f_Queue (.int 1) (.ref l)))) → H' l = some (.lst []) → (∀ b o, H b = some o → b ≠ p → H' b = some o) → Q .non H'
def sp_Turns_trial (K : PySem.W.Frag) (C : Cs) : Sp := fun vs H Q _ => ∃ (tn cl : Addr) (s : S), vs = [.ref tn] ∧ TurnsAt C H tn cl s ∧ ∀ tn' cl' H', H tn' = none → H cl' = none → Same H H' → TurnsAt C H' tn' cl' s → Q (.ref tn') H'
def sp_Turns_spend (K : PySem.W.Frag) (C : Cs) : Sp := fun vs H Q _ => ∃ (tn cl : Addr) (s : S) (x : Queue) (n : Nat), vs = [.ref tn, .int n] ∧ TurnsAt C H tn cl s ∧ s.queues[s.turn]? = some x ∧ n ≤ x.credit ∧ ∀ H', TurnsAt C H' tn cl { s with queues := s.queues.set s.turn { x with credit := x.credit - n } } → (∀ b o, b ≠ cl → H b = some o → H' b = some o) → Q .non H'
section
variable {P : Program} {w : World} {K : PySem.W.Frag} {mg : Str → Option Value} {base : Heap} {C : Cs}
theorem ok_Counts_init {f : Addr} {fd : FuncData} (F : Fun K "__init__" "Counts.__init__" s_Counts_init f fd) (T : Txt K mg C)  : FnOk P w K mg base CX0 1 f fd ps_Counts_init (sp_Counts_init K C) := by
  refine F.ok sc_Counts_init (fun vs H Q E h => ?_) (fun cdv A outer s H vs Q E hr h => ?_)
  · obtain ⟨p, dx, rfl, _⟩ := h
    rfl
  · obtain ⟨p, dx, rfl, hp, k⟩ := h
    refine ⟨_, (pss_cons (ps_fld (pv 0) pe_int rfl) (pss_cons (ps_fld (pv 0) pe_int rfl) (pss_cons (ps_fld (pv 0) pe_int rfl) (pss_cons (ps_fld (pv 0) pe_int rfl) (pss_cons (ps_fld (pv 0) pe_int rfl) (pss_cons (ps_fld (pv 0) pe_int rfl) (pss_cons (ps_fld (pv 0) pe_int rfl) (pss_cons (ps_fld (pv 0) pe_int rfl) (pss_cons (ps_fld (pv 0) pe_int rfl) (pss_one (ps_fld (pv 0) pe_int rfl))))))))))), ?_⟩
    refine ⟨_, rfl, p, C.Counts, dx, _, rfl, hp, T.c_Counts, T.n_Counts_sent_frames, (by show 0 < 1000; decide), ?_⟩
    rw [i_Counts_0]
    refine ⟨_, rfl, p, C.Counts, dx, _, rfl, upd_same, T.c_Counts, T.n_Counts_sent_bytes, (by show 1 < 1000; decide), ?_⟩
    rw [i_Counts_1, upd_upd]
    refine ⟨_, rfl, p, C.Counts, dx, _, rfl, upd_same, T.c_Counts, T.n_Counts_heard_frames, (by show 2 < 1000; decide), ?_⟩
    rw [i_Counts_2, upd_upd]
    refine ⟨_, rfl, p, C.Counts, dx, _, rfl, upd_same, T.c_Counts, T.n_Counts_heard_bytes, (by show 3 < 1000; decide), ?_⟩
    rw [i_Counts_3, upd_upd]
    refine ⟨_, rfl, p, C.Counts, dx, _, rfl, upd_same, T.c_Counts, T.n_Counts_no_frames, (by show 4 < 1000; decide), ?_⟩
    rw [i_Counts_4, upd_upd]
    refine ⟨_, rfl, p, C.Counts, dx, _, rfl, upd_same, T.c_Counts, T.n_Counts_for_others, (by show 5 < 1000; decide), ?_⟩
    rw [i_Counts_5, upd_upd]
    refine ⟨_, rfl, p, C.Counts, dx, _, rfl, upd_same, T.c_Counts, T.n_Counts_dropped, (by show 6 < 1000; decide), ?_⟩
    rw [i_Counts_6, upd_upd]
    refine ⟨_, rfl, p, C.Counts, dx, _, rfl, upd_same, T.c_Counts, T.n_Counts_refused_full, (by show 7 < 1000; decide), ?_⟩
    rw [i_Counts_7, upd_upd]
    refine ⟨_, rfl, p, C.Counts, dx, _, rfl, upd_same, T.c_Counts, T.n_Counts_grown_old, (by show 8 < 1000; decide), ?_⟩
    rw [i_Counts_8, upd_upd]
    refine ⟨_, rfl, p, C.Counts, dx, _, rfl, upd_same, T.c_Counts, T.n_Counts_not_taken, (by show 9 < 1000; decide), ?_⟩
    rw [i_Counts_9, upd_upd]
    exact k _ ⟨dx, upd_same⟩ fun b o hb n => by rw [upd_ne n]; exact hb
theorem ok_Counts_in_order {f : Addr} {fd : FuncData} (F : Fun K "in_order" "Counts.in_order" s_Counts_in_order f fd) (T : Txt K mg C)  : FnOk P w K mg base CX0 1 f fd ps_Counts_in_order (sp_Counts_in_order K C) := by
  refine F.ok sc_Counts_in_order (fun vs H Q E h => ?_) (fun cdv A outer s H vs Q E hr h => ?_)
  · obtain ⟨p, dx, v0, v1, v2, v3, v4, v5, v6, v7, v8, v9, rfl, _⟩ := h
    rfl
  · obtain ⟨p, dx, v0, v1, v2, v3, v4, v5, v6, v7, v8, v9, rfl, hp, k⟩ := h
    refine ⟨_, (pss_cons (ps_set (i := 1) sc_Counts_in_order.nd rfl (by first | exact Or.inl rfl | exact Or.inr rfl) (pe_lst (pa_cons (pe_fld (pv 0) rfl) (pa_cons (pe_fld (pv 0) rfl) (pa_cons (pe_fld (pv 0) rfl) (pa_cons (pe_fld (pv 0) rfl) pa_nil)))))) (pss_cons (ps_set (i := 2) sc_Counts_in_order.nd rfl (by first | exact Or.inl rfl | exact Or.inr rfl) (pe_lst (pa_cons (pe_fld (pv 0) rfl) (pa_cons (pe_fld (pv 0) rfl) (pa_cons (pe_fld (pv 0) rfl) (pa_cons (pe_fld (pv 0) rfl) pa_nil)))))) (pss_one (ps_ret (pe_op op_cat (pe_op op_cat (pe_lst (pa_cons (pe_fld (pv 0) rfl) (pa_cons (pe_fld (pv 0) rfl) pa_nil))) (pv 1)) (pv 2)))))), ?_⟩
    refine ⟨_, rfl, p, C.Counts, dx, _, _, rfl, hp, T.c_Counts, T.n_Counts_heard_frames, l_Counts_heard_frames, _, rfl, p, C.Counts, dx, _, _, rfl, hp, T.c_Counts, T.n_Counts_heard_bytes, l_Counts_heard_bytes, _, rfl, p, C.Counts, dx, _, _, rfl, hp, T.c_Counts, T.n_Counts_no_frames, l_Counts_no_frames, _, rfl, p, C.Counts, dx, _, _, rfl, hp, T.c_Counts, T.n_Counts_for_others, l_Counts_for_others, by show 4 ≤ sizeLine; decide, fun l1 n1 => ?_⟩
    have s1 := same_upd (o := HO.lst [v2, v3, v4, v5]) n1
    have hp1 := s1 _ _ hp
    refine ⟨_, rfl, p, C.Counts, dx, _, _, rfl, hp1, T.c_Counts, T.n_Counts_dropped, l_Counts_dropped, _, rfl, p, C.Counts, dx, _, _, rfl, hp1, T.c_Counts, T.n_Counts_refused_full, l_Counts_refused_full, _, rfl, p, C.Counts, dx, _, _, rfl, hp1, T.c_Counts, T.n_Counts_grown_old, l_Counts_grown_old, _, rfl, p, C.Counts, dx, _, _, rfl, hp1, T.c_Counts, T.n_Counts_not_taken, l_Counts_not_taken, by show 4 ≤ sizeLine; decide, fun l2 n2 => ?_⟩
    have s2 := same_upd (o := HO.lst [v6, v7, v8, v9]) n2
    have hp2 := s2 _ _ hp1
    refine ⟨_, rfl, p, C.Counts, dx, _, _, rfl, hp2, T.c_Counts, T.n_Counts_sent_frames, l_Counts_sent_frames, _, rfl, p, C.Counts, dx, _, _, rfl, hp2, T.c_Counts, T.n_Counts_sent_bytes, l_Counts_sent_bytes, by show 2 ≤ sizeLine; decide, fun l3 n3 => ?_⟩
    have s3 := same_upd (o := HO.lst [v0, v1]) n3
    refine ⟨_, rfl, l3, l1, _, _, rfl, rfl, upd_same, s3 _ _ (s2 _ _ upd_same), by show 6 ≤ sizeLine; decide, fun l4 n4 => ?_⟩
    have s4 := same_upd (o := HO.lst ([v0, v1] ++ [v2, v3, v4, v5])) n4
    refine ⟨_, rfl, l4, l2, _, _, rfl, rfl, upd_same, s4 _ _ (s3 _ _ upd_same), by show 10 ≤ sizeLine; decide, fun l5 n5 => ?_⟩
    exact k l5 _ ((((s1.trans s2).trans s3).trans s4).trans (same_upd n5)) upd_same
theorem ok_Waiting_init {f : Addr} {fd : FuncData} (F : Fun K "__init__" "Waiting.__init__" s_Waiting_init f fd) (T : Txt K mg C)  : FnOk P w K mg base CX0 1 f fd ps_Waiting_init (sp_Waiting_init K C) := by
  refine F.ok sc_Waiting_init (fun vs H Q E h => ?_) (fun cdv A outer s H vs Q E hr h => ?_)
  · obtain ⟨p, dx, v, u, rfl, _⟩ := h
    rfl
  · obtain ⟨p, dx, v, u, rfl, hp, k⟩ := h
    refine ⟨_, (pss_cons (ps_fld (pv 0) (pv 1) rfl) (pss_one (ps_fld (pv 0) (pv 2) rfl))), ?_⟩
    refine ⟨_, rfl, _, rfl, p, C.Waiting, dx, [], rfl, hp, T.c_Waiting, T.n_Waiting_frame, (by show 0 < 1000; decide), ?_⟩
    rw [i_Waiting_0]
    refine ⟨_, rfl, _, rfl, p, C.Waiting, dx, _, rfl, upd_same, T.c_Waiting, T.n_Waiting_since, (by show 1 < 1000; decide), ?_⟩
    rw [i_Waiting_1]
    exact k _ ⟨dx, upd_same⟩ fun b o hb n => by rw [upd_ne n, upd_ne n]; exact hb
theorem ok_Queue_init {f : Addr} {fd : FuncData} (F : Fun K "__init__" "Queue.__init__" s_Queue_init f fd) (T : Txt K mg C)  : FnOk P w K mg base CX0 1 f fd ps_Queue_init (sp_Queue_init K C) := by
  refine F.ok sc_Queue_init (fun vs H Q E h => ?_) (fun cdv A outer s H vs Q E hr h => ?_)
  · obtain ⟨p, dx, rfl, _⟩ := h
    rfl
  · obtain ⟨p, dx, rfl, hp, k⟩ := h
    refine ⟨_, (pss_cons (ps_fld (pv 0) pe_int rfl) (pss_one (ps_fld (pv 0) (pe_lst pa_nil) rfl))), ?_⟩
    refine ⟨_, rfl, p, C.Queue, dx, [], rfl, hp, T.c_Queue, T.n_Queue_weight, (by show 0 < 1000; decide), ?_⟩
    rw [i_Queue_0]
    refine ⟨Nat.zero_le _, fun l hl => ?_⟩
    have nl : l ≠ p := fun z => by rw [z, upd_same] at hl; cases hl
    refine ⟨_, rfl, p, C.Queue, dx, _, rfl, by rw [upd_ne nl.symm]; exact upd_same, T.c_Queue, T.n_Queue_line, (by show 1 < 1000; decide), ?_⟩
    rw [i_Queue_1]
    have hl0 : H l = none := by rw [upd_ne nl] at hl; exact hl
    refine k l _ hl0 nl ⟨dx, upd_same⟩ (by rw [upd_ne nl]; exact upd_same) fun b o hb n => ?_
    rw [upd_ne n, upd_ne (ne_of_none hb hl0), upd_ne n]
    exact hb
theorem ok_Turns_init {f : Addr} {fd : FuncData} (F : Fun K "__init__" "Turns.__init__" s_Turns_init f fd) (T : Txt K mg C)  : FnOk P w K mg base CX0 1 f fd ps_Turns_init (sp_Turns_init K C) := by
  refine F.ok sc_Turns_init (fun vs H Q E h => ?_) (fun cdv A outer s H vs Q E hr h => ?_)
  · obtain ⟨p, dx, v, u, z, rfl, _⟩ := h
    rfl
  · obtain ⟨p, dx, v, u, z, rfl, hp, k⟩ := h
    refine ⟨_, (pss_cons (ps_fld (pv 0) (pv 1) rfl) (pss_cons (ps_fld (pv 0) (pv 2) rfl) (pss_one (ps_fld (pv 0) (pv 3) rfl)))), ?_⟩
    refine ⟨_, rfl, _, rfl, p, C.Turns, dx, [], rfl, hp, T.c_Turns, T.n_Turns_on, (by show 0 < 1000; decide), ?_⟩
    rw [i_Turns_0]
    refine ⟨_, rfl, _, rfl, p, C.Turns, dx, _, rfl, upd_same, T.c_Turns, T.n_Turns_has_share, (by show 1 < 1000; decide), ?_⟩
    rw [i_Turns_1, upd_upd]
    refine ⟨_, rfl, _, rfl, p, C.Turns, dx, _, rfl, upd_same, T.c_Turns, T.n_Turns_credit_of, (by show 2 < 1000; decide), ?_⟩
    rw [i_Turns_2, upd_upd]
    exact k _ ⟨dx, upd_same⟩ fun b o hb n => by rw [upd_ne n]; exact hb
theorem ok_Turns_trial {f : Addr} {fd : FuncData} (F : Fun K "trial" "Turns.trial" s_Turns_trial f fd) (T : Txt K mg C) (u_Turns_init : MakeOk P w K mg base 1 "Turns" C.Turns ps_Turns_init (sp_Turns_init K C)) : FnOk P w K mg base CX0 3 f fd ps_Turns_trial (sp_Turns_trial K C) := by
  refine F.ok sc_Turns_trial (fun vs H Q E h => ?_) (fun cdv A outer s H vs Q E hr h => ?_)
  · obtain ⟨tn, cl, s, rfl, _⟩ := h
    rfl
  · obtain ⟨tn, cl, s, rfl, R, k⟩ := h
    obtain ⟨⟨dx, hp⟩, hc⟩ := id R
    refine ⟨_, (pss_one (ps_ret (pe_new u_Turns_init hr (by decide) rfl (pa_cons (pe_fld (pv 0) rfl) (pa_cons (pe_fld (pv 0) rfl) (pa_cons (pe_callTy call_list_of (by rfl) T.b_list (show bootBuiltins "list" = some (.type "list") by decide +kernel) (pa_cons (pe_fld (pv 0) rfl) pa_nil)) pa_nil)))))), ?_⟩
    refine ⟨_, rfl, tn, C.Turns, dx, _, _, rfl, hp, T.c_Turns, T.n_Turns_on, l_Turns_on, _, rfl, tn, C.Turns, dx, _, _, rfl, hp, T.c_Turns, T.n_Turns_has_share, l_Turns_has_share, _, rfl, tn, C.Turns, dx, _, _, rfl, hp, T.c_Turns, T.n_Turns_credit_of, l_Turns_credit_of, cl, _, rfl, .inl (SqL.of hc), fun l nl x dx' nx ndx nex => ?_⟩
    refine ⟨x, dx', _, _, _, rfl, upd_same, fun H3 hx kp => ⟨rfl, ?_⟩⟩
    have s1 := same_upd (o := HO.lst (crs s)) nl
    have s3 : Same H H3 := s1.trans (Same.made nx ndx kp)
    exact k x l H3 (s1.free nx) nl s3 ⟨hx, Same.made nx ndx kp _ _ upd_same⟩
theorem ok_Turns_spend {f : Addr} {fd : FuncData} (F : Fun K "spend" "Turns.spend" s_Turns_spend f fd) (T : Txt K mg C)  : FnOk P w K mg base CX0 1 f fd ps_Turns_spend (sp_Turns_spend K C) := by
  refine F.ok sc_Turns_spend (fun vs H Q E h => ?_) (fun cdv A outer s H vs Q E hr h => ?_)
  · obtain ⟨tn, cl, s, x, n, rfl, _⟩ := h
    rfl
  · obtain ⟨tn, cl, s, x, n, rfl, R, hx, hn, k⟩ := h
    obtain ⟨⟨dx, hp⟩, hc⟩ := id R
    have hl := (List.getElem?_eq_some_iff.mp hx).1
    refine ⟨_, (pss_one (ps_augS (pe_fld (pv 0) rfl) (pe_fld (pv 0) rfl) get_list (pv 1) ip_sub set_list)), ?_⟩
    refine ⟨_, rfl, tn, C.Turns, dx, _, _, rfl, hp, T.c_Turns, T.n_Turns_credit_of, l_Turns_credit_of, _, rfl, tn, C.Turns, dx, _, _, rfl, hp, T.c_Turns, T.n_Turns_on, l_Turns_on, cl, crs s, s.turn, _, rfl, rfl, SqL.of hc, crs_get hx, _, rfl, _, _, rfl, rfl, cl, crs s, _, s.turn, rfl, rfl, hc, ixN_nat (by rw [crs_len]; exact hl), ?_⟩
    have ec : (x.credit : Int) - (n : Int) = ((x.credit - n : Nat) : Int) := by omega
    dsimp only
    rw [ec]
    refine k _ ⟨⟨dx, ?_⟩, ?_⟩ fun b o hb z => by rw [upd_ne hb]; exact z
    · rw [upd_ne (ne_of hp hc ne_il)]; exact hp
    · rw [upd_same, crs_set]
end
end FL
end
section
namespace FL
open PySem L2
open Sf82 (Bytes Item Queue S does)
def KeepBut (tn cl : Addr) (H H' : Hp) : Prop := ∀ b o, b ≠ tn → b ≠ cl → H b = some o → H' b = some o
/-- the queues as turns see them: their lines are none of the credits -/
structure LinesAt (C : Cs) (H : Hp) (cl lq : Addr) (qs : List QA) (s : S) : Prop where
  ls : H lq = some (.lst (qs.map fun q => .ref q.o))
  ps : Paired (QueueAt C H) qs s.queues
  n0 : lq ≠ cl
  n1 : ∀ (j : Nat) (q : QA), qs[j]? = some q → q.l ≠ cl ∧ ∀ w ∈ q.ws, w.2 ≠ cl
section
variable {C : Cs} {H H' : Hp} {e : EA} {s t : S} {tn cl lq : Addr} {qs : List QA}
theorem QueueAt.keepBut {q : QA} {x : Queue} (r : QueueAt C H q x) (hT : TurnsAt C H tn cl s) (n1 : q.l ≠ cl ∧ ∀ w ∈ q.ws, w.2 ≠ cl) (k : KeepBut tn cl H H') : QueueAt C H' q x := by
  obtain ⟨⟨dt, t1⟩, t2⟩ := hT
  refine r.keep (fun o z => ?_) (fun o z => ?_) fun w hw => ⟨fun o z => ?_, fun o z => ?_⟩
  · obtain ⟨dq, z'⟩ := r.ob
    exact k _ _ (ne_of z' t1 (ne_len (by simp [f_End, f_Counts, f_Queue, f_Waiting, f_Turns, f_Desk, fE, fC]))) (ne_of z' t2 ne_il) z
  · exact k _ _ (ne_of r.ln t1 ne_li) n1.1 z
  · obtain ⟨n, hn⟩ := List.getElem?_of_mem hw
    obtain ⟨it, _, ⟨dw, z'⟩, _⟩ := Paired.getL r.ws hn
    exact k _ _ (ne_of z' t1 (ne_len (by simp [f_End, f_Counts, f_Queue, f_Waiting, f_Turns, f_Desk, fE, fC]))) (ne_of z' t2 ne_il) z
  · obtain ⟨n, hn⟩ := List.getElem?_of_mem hw
    obtain ⟨it, _, _, z'⟩ := Paired.getL r.ws hn
    exact k _ _ (ne_of z' t1 ne_li) (n1.2 w hw) z
theorem LinesAt.keep (h : LinesAt C H cl lq qs s) (hT : TurnsAt C H tn cl t) (k : KeepBut tn cl H H') : LinesAt C H' cl lq qs s := by
  obtain ⟨⟨dt, t1⟩, t2⟩ := id hT
  exact ⟨k _ _ (ne_of h.ls t1 ne_li) h.n0 h.ls, paired_of (paired_len h.ps) fun i q x hq hx => (paired_at h.ps hq hx).keepBut hT (h.n1 i q hq) k, h.n0, h.n1⟩
theorem LinesAt.tried (h : LinesAt C H cl lq qs s) (hT : Tried s t) : LinesAt C H cl lq qs t := by
  refine ⟨h.ls, paired_of (by rw [paired_len h.ps, hT.len]) fun i q x hq hx => ?_, h.n0, h.n1⟩
  have hl : i < s.queues.length := by rw [← hT.len]; exact (List.getElem?_eq_some_iff.mp hx).1
  have r := paired_at h.ps hq (List.getElem?_eq_getElem hl)
  obtain ⟨c, hc⟩ := hT.get i _ (List.getElem?_eq_getElem hl)
  rw [hx] at hc
  cases hc
  exact QueueAt.like (x := s.queues[i]) r rfl rfl
theorem EndAt.lines (h : EndAt C H e s) : LinesAt C H e.cl e.lq e.qs s :=
  ⟨h.lq, h.qs, fun z => h.dM _ (.inr (.inl rfl)) (by rw [← z]; exact .inl rfl), fun j q hq => ⟨(h.dG j q hq).2, fun w hw z => h.dM _ (.inr (.inl rfl)) (by rw [← z]; exact .inr (.inr (.inr ⟨j, q, w, hq, hw, rfl⟩)))⟩⟩
/-- with credits that stood nowhere before -/
theorem EndAt.linesNew {cl' : Addr} (h : EndAt C H e s) (hn : H cl' = none) (k : Same H H') : LinesAt C H' cl' e.lq e.qs s := by
  have h' := h.same k
  refine ⟨h'.lq, h'.qs, ne_of_none h.lq hn, fun j q hq => ?_⟩
  obtain ⟨x, hx, r⟩ := Paired.getL h.qs hq
  refine ⟨ne_of_none r.ln hn, fun w hw => ?_⟩
  obtain ⟨n, hn'⟩ := List.getElem?_of_mem hw
  obtain ⟨it, _, _, z⟩ := Paired.getL r.ws hn'
  exact ne_of_none z hn
end
def sp_Turns_try_turn (K : PySem.W.Frag) (C : Cs) : Sp := fun vs H Q _ => ∃ (tn cl : Addr) (s : S) (q : QA) (x : Queue), vs = [.ref tn, .ref q.o] ∧ TurnsAt C H tn cl s ∧ QueueAt C H q x ∧ s.queues[s.turn]? = some x ∧ (q.l ≠ cl ∧ ∀ w ∈ q.ws, w.2 ≠ cl) ∧
  ∀ H', TurnsAt C H' tn cl (tried s).2 → KeepBut tn cl H H' → Q (.bl (tried s).1) H'
def sp_Turns_find_turn (K : PySem.W.Frag) (C : Cs) : Sp := fun vs H Q _ => ∃ (tn cl lq : Addr) (qs : List QA) (s : S) (j : Nat), vs = [.ref tn, .ref lq] ∧ TurnsAt C H tn cl s ∧ LinesAt C H cl lq qs s ∧ Fair s j ∧ mu s j < 100 ∧
  ∀ H' t, S.pick 100 s = (some t.turn, t) → TurnsAt C H' tn cl t → KeepBut tn cl H H' → Q .non H'
theorem tried_nil {s : S} {x : Queue} (hx : s.queues[s.turn]? = some x) (hi : x.items = []) : tried s = (false, { s with queues := s.queues.set s.turn ⟨x.weight, 0, x.items⟩ }) := by
  unfold tried
  rw [hx]
  dsimp only
  rw [hi]
theorem tried_cons {s : S} {x : Queue} {i : Item} {r : List Item} (hx : s.queues[s.turn]? = some x) (hi : x.items = i :: r) :
    tried s = (decide (i.bytes.length ≤ (if s.given = true then x.credit else x.credit + Sf82.QUANTUM * x.weight)), { s with queues := s.queues.set s.turn ⟨x.weight, (if s.given = true then x.credit else x.credit + Sf82.QUANTUM * x.weight), x.items⟩, given := true }) := by
  unfold tried
  rw [hx]
  dsimp only
  rw [hi]
theorem set_same {α : Type} {l : List α} {j : Nat} {a : α} (h : l[j]? = some a) : l.set j a = l := by
  refine List.ext_getElem? fun i => ?_
  by_cases e : j = i
  · subst e
    rw [List.getElem?_set_self (List.getElem?_eq_some_iff.mp h).1, h]
  · rw [List.getElem?_set_ne e]
section
variable {P : Program} {w : World} {K : PySem.W.Frag} {mg : Str → Option Value} {base : Heap} {C : Cs}
theorem ok_Turns_try_turn {f : Addr} {fd : FuncData} (F : Fun K "try_turn" "Turns.try_turn" s_Turns_try_turn f fd) (T : Txt K mg C)  : FnOk P w K mg base CX0 1 f fd ps_Turns_try_turn (sp_Turns_try_turn K C) := by
  refine F.ok sc_Turns_try_turn (fun vs H Q E h => ?_) (fun cdv A outer s H vs Q E hr h => ?_)
  · obtain ⟨tn, cl, s, q, x, rfl, _⟩ := h
    rfl
  · obtain ⟨tn, cl, s, q, x, rfl, R, r, hx, n1, k⟩ := h
    obtain ⟨⟨dx, hp⟩, hc⟩ := id R
    obtain ⟨dq, ro⟩ := r.ob
    have on := (List.getElem?_eq_some_iff.mp hx).1
    have hw := paired_len r.ws
    have hix : ixN (crs s).length (s.turn : Int) = some s.turn := ixN_nat (by rw [crs_len]; exact on)
    refine ⟨_, (pss_cons (ps_if (pt_cmpR op_eq (pe_callB call_len_seq (by rfl) T.b_len (show bootBuiltins "len" = some (.builtin "len") by decide +kernel) (pa_cons (pe_fld (pv 1) rfl) pa_nil)) pe_int (nomark _)) (pss_cons (ps_asg pe_int (pg_sub (pe_fld (pv 0) rfl) (pe_fld (pv 0) rfl) set_list)) (pss_one (ps_ret pe_bl))) pss_nil) (pss_cons (ps_if (pt_not (pt_val (pe_fld (pv 0) rfl))) (pss_cons (ps_augS (pe_fld (pv 0) rfl) (pe_fld (pv 0) rfl) get_list (pe_op op_mul (pe_gint rfl T.g_SHARE) (pe_fld (pv 1) rfl)) ip_add set_list) (pss_one (ps_fld (pv 0) pe_bl rfl))) pss_nil) (pss_one (ps_ret (pe_cmpR op_le (pe_callB call_len_seq (by rfl) T.b_len (show bootBuiltins "len" = some (.builtin "len") by decide +kernel) (pa_cons (pe_fld (pe_ix ix_list (pe_fld (pv 1) rfl) pe_int (fun _ _ => rfl)) rfl) pa_nil)) (pe_ix ix_list (pe_fld (pv 0) rfl) (pe_fld (pv 0) rfl) (fun _ _ => rfl)) (nomark _)))))), ?_⟩
    refine ⟨_, rfl, q.o, C.Queue, dq, _, _, rfl, ro, T.c_Queue, T.n_Queue_line, l_Queue_line, q.l, _, rfl, .inl (SqL.of r.ln), rfl, _, rfl, ?_⟩
    cases hi : x.items with
    | nil =>
      rw [hi] at hw
      refine itP (by rw [int_iff, List.length_map, hw]; rfl) ?_
      refine ⟨_, rfl, tn, C.Turns, dx, _, _, rfl, hp, T.c_Turns, T.n_Turns_credit_of, l_Turns_credit_of, _, rfl, tn, C.Turns, dx, _, _, rfl, hp, T.c_Turns, T.n_Turns_on, l_Turns_on, cl, crs s, _, s.turn, rfl, rfl, hc, hix, ?_⟩
      rw [tried_nil hx hi] at k
      refine k _ ⟨⟨dx, by rw [upd_ne (ne_of hp hc ne_il)]; exact hp⟩, ?_⟩ fun b o _ hb z => by rw [upd_ne hb]; exact z
      rw [upd_same, crs_set]
      rfl
    | cons i rest =>
      rw [hi] at hw
      refine itN (by rw [int_iff, List.length_map, hw, List.length_cons]; omega) ?_
      obtain ⟨w0, hw0, wr⟩ := Paired.get (i := 0) r.ws (by rw [hi]; rfl)
      have hm0 := List.mem_of_getElem? hw0
      obtain ⟨⟨dw, wo⟩, wf⟩ := wr
      rw [tried_cons hx hi] at k
      refine ⟨_, rfl, tn, C.Turns, dx, _, _, rfl, hp, T.c_Turns, T.n_Turns_has_share, l_Turns_has_share, _, rfl, ?_⟩
      cases hg : s.given with
      | false =>
        rw [hg] at k
        refine iteT ?_
        refine ⟨_, rfl, tn, C.Turns, dx, _, _, rfl, hp, T.c_Turns, T.n_Turns_credit_of, l_Turns_credit_of, _, rfl, tn, C.Turns, dx, _, _, rfl, hp, T.c_Turns, T.n_Turns_on, l_Turns_on, cl, crs s, s.turn, _, rfl, rfl, SqL.of hc, crs_get hx, _, rfl, q.o, C.Queue, dq, _, _, rfl, ro, T.c_Queue, T.n_Queue_weight, l_Queue_weight, _, _, rfl, rfl, .inl ⟨by decide, by decide⟩, _, _, rfl, rfl, cl, crs s, _, s.turn, rfl, rfl, hc, hix, ?_⟩
        have ec : (x.credit : Int) + 256 * (x.weight : Int) = ((x.credit + 256 * x.weight : Nat) : Int) := by push_cast; rfl
        dsimp only
        rw [ec]
        generalize hH1 : upd H cl (HO.lst ((crs s).set s.turn (V.int ((x.credit + 256 * x.weight : Nat) : Int)))) = H1
        have npc := ne_of hp hc ne_il
        have hp1 : H1 tn = some (.ins C.Turns dx (f_Turns (.int s.turn) (.bl s.given) (.ref cl))) := by rw [← hH1, upd_ne npc]; exact hp
        have hc1 : H1 cl = some (.lst (crs { s with queues := s.queues.set s.turn ⟨x.weight, x.credit + 256 * x.weight, x.items⟩ })) := by rw [← hH1, upd_same, crs_set]
        refine ⟨_, rfl, tn, C.Turns, dx, _, rfl, hp1, T.c_Turns, T.n_Turns_has_share, z_Turns, ?_⟩
        rw [p_Turns_has_share]
        generalize hH2 : upd H1 tn (HO.ins C.Turns dx (f_Turns (.int s.turn) (.bl true) (.ref cl))) = H2
        have k2 : KeepBut tn cl H H2 := fun b o h1 h2 z => by rw [← hH2, upd_ne h1, ← hH1, upd_ne h2]; exact z
        have hp2 : H2 tn = some (.ins C.Turns dx (f_Turns (.int s.turn) (.bl true) (.ref cl))) := by rw [← hH2, upd_same]
        have hc2 : H2 cl = some (.lst (crs { s with queues := s.queues.set s.turn ⟨x.weight, x.credit + 256 * x.weight, x.items⟩ })) := by rw [← hH2, upd_ne npc.symm]; exact hc1
        have r2 := r.keepBut R n1 k2
        have ro2 := k2 _ _ (ne_of ro hp (ne_len (by simp [f_End, f_Counts, f_Queue, f_Waiting, f_Turns, f_Desk, fE, fC]))) (ne_of ro hc ne_il) ro
        have wo2 := k2 _ _ (ne_of wo hp (ne_len (by simp [f_End, f_Counts, f_Queue, f_Waiting, f_Turns, f_Desk, fE, fC]))) (ne_of wo hc ne_il) wo
        have wf2 := k2 _ _ (ne_of wf hp ne_li) (n1.2 w0 hm0) wf
        have hg2 : (crs { s with queues := s.queues.set s.turn ⟨x.weight, x.credit + 256 * x.weight, x.items⟩ })[s.turn]? = some (.int ((x.credit + 256 * x.weight : Nat) : Int)) := crs_get (x := ⟨x.weight, x.credit + 256 * x.weight, x.items⟩) (List.getElem?_set_self on)
        refine ⟨_, rfl, q.o, C.Queue, dq, _, _, rfl, ro2, T.c_Queue, T.n_Queue_line, l_Queue_line, q.l, _, _, _, rfl, rfl, SqL.of r2.ln, atI_nat (j := 0) (by rw [List.getElem?_map, hw0]; rfl), w0.1, C.Waiting, dw, _, _, rfl, wo2, T.c_Waiting, T.n_Waiting_frame, l_Waiting_frame, w0.2, _, rfl, .inl (SqL.of wf2), _, rfl, tn, C.Turns, dx, _, _, rfl, hp2, T.c_Turns, T.n_Turns_credit_of, l_Turns_credit_of, _, rfl, tn, C.Turns, dx, _, _, rfl, hp2, T.c_Turns, T.n_Turns_on, l_Turns_on, cl, _, _, _, rfl, rfl, SqL.of hc2, atI_nat hg2, _, _, rfl, rfl, ?_⟩
        have ed : decide (((vi (nb i.bytes)).length : Int) ≤ ((x.credit + 256 * x.weight : Nat) : Int)) = decide (i.bytes.length ≤ x.credit + 256 * x.weight) := dec_iff (by rw [vnb_length]; omega)
        dsimp only
        rw [ed]
        exact k H2 ⟨⟨dx, hp2⟩, hc2⟩ k2
      | true =>
        rw [hg] at k
        refine iteF ?_
        refine ⟨_, rfl, q.o, C.Queue, dq, _, _, rfl, ro, T.c_Queue, T.n_Queue_line, l_Queue_line, q.l, _, _, _, rfl, rfl, SqL.of r.ln, atI_nat (j := 0) (by rw [List.getElem?_map, hw0]; rfl), w0.1, C.Waiting, dw, _, _, rfl, wo, T.c_Waiting, T.n_Waiting_frame, l_Waiting_frame, w0.2, _, rfl, .inl (SqL.of wf), _, rfl, tn, C.Turns, dx, _, _, rfl, hp, T.c_Turns, T.n_Turns_credit_of, l_Turns_credit_of, _, rfl, tn, C.Turns, dx, _, _, rfl, hp, T.c_Turns, T.n_Turns_on, l_Turns_on, cl, _, _, _, rfl, rfl, SqL.of hc, atI_nat (crs_get hx), _, _, rfl, rfl, ?_⟩
        have ed : decide (((vi (nb i.bytes)).length : Int) ≤ (x.credit : Int)) = decide (i.bytes.length ≤ x.credit) := dec_iff (by rw [vnb_length]; omega)
        dsimp only
        rw [ed]
        refine k H ?_ fun b o _ _ z => z
        refine R.like rfl hg.symm ?_
        have e1 : s.queues.set s.turn ⟨x.weight, x.credit, x.items⟩ = s.queues := set_same hx
        show crs { s with queues := s.queues.set s.turn ⟨x.weight, x.credit, x.items⟩, given := true } = crs s
        rw [e1]
        rfl
theorem ok_Turns_find_turn {f : Addr} {fd : FuncData} (F : Fun K "find_turn" "Turns.find_turn" s_Turns_find_turn f fd) (T : Txt K mg C) (u_Turns_try_turn : MethOk P w K mg base 1 C.Turns "try_turn" ps_Turns_try_turn (sp_Turns_try_turn K C)) : FnOk P w K mg base CX0 2 f fd ps_Turns_find_turn (sp_Turns_find_turn K C) := by
  refine F.ok sc_Turns_find_turn (fun vs H Q E h => ?_) (fun cdv A outer s H vs Q E hr h => ?_)
  · obtain ⟨tn, cl, lq, qs, s, j, rfl, _⟩ := h
    rfl
  · obtain ⟨tn, cl, lq, qs, s, j, rfl, R, L, Fr, hm, k⟩ := h
    refine ⟨_, (pss_one (ps_while PassesOwn.never (pt_not (pt_val (pe_mth (pv 0) T.c_Turns u_Turns_try_turn hr (by decide) (pa_cons (pe_ix ix_list (pv 1) (pe_fld (pv 0) rfl) (fun _ _ => rfl)) pa_nil)))) (pss_cons (ps_fld (pv 0) (pe_op op_mod (pe_op op_add (pe_fld (pv 0) rfl) pe_int) (pe_callB call_len_seq (by rfl) T.b_len (show bootBuiltins "len" = some (.builtin "len") by decide +kernel) (pa_cons (pv 1) pa_nil))) rfl) (pss_one (ps_fld (pv 0) pe_bl rfl))))), ?_⟩
    refine ⟨fun m σ H' => ∃ s', σ = [some (.ref tn), some (.ref lq)] ∧ TurnsAt C H' tn cl s' ∧ LinesAt C H' cl lq qs s' ∧ KeepBut tn cl H H' ∧ S.pick m s' = S.pick 100 s ∧ Fair s' j ∧ mu s' j < m, ⟨100, s, rfl, R, L, fun _ _ _ _ z => z, rfl, Fr, hm⟩, ?_⟩
    rintro m σ H1 ⟨s1, rfl, R1, L1, K1, hpk, F1, hmu⟩
    obtain ⟨⟨dx, hp⟩, hc⟩ := id R1
    obtain ⟨x, hx⟩ : ∃ x, s1.queues[s1.turn]? = some x := ⟨_, List.getElem?_eq_getElem F1.on⟩
    obtain ⟨q, hq, r⟩ := Paired.get L1.ps hx
    refine ⟨_, rfl, tn, dx, _, rfl, hp, m_Turns_try_turn, _, rfl, _, rfl, tn, C.Turns, dx, _, _, rfl, hp, T.c_Turns, T.n_Turns_on, l_Turns_on, lq, _, _, _, rfl, rfl, SqL.of L1.ls, atI_nat (by rw [List.getElem?_map, hq]; rfl), tn, cl, s1, q, x, rfl, R1, r, hx, L1.n1 _ q hq, fun H2 R2 K2 => ⟨_, rfl, ?_⟩⟩
    obtain ⟨m', rfl⟩ : ∃ m', m = m' + 1 := ⟨m - 1, by omega⟩
    rw [pick_tried F1.on] at hpk
    have K12 : KeepBut tn cl H H2 := fun b o h1 h2 z => K2 b o h1 h2 (K1 b o h1 h2 z)
    cases hb : (tried s1).1 with
    | true =>
      rw [hb, if_pos rfl] at hpk
      refine iteF ?_
      exact k H2 (tried s1).2 (by rw [← hpk, tried_turn]) R2 K12
    | false =>
      rw [hb, if_neg (by simp)] at hpk
      refine iteT ⟨fun σ' H' => ∃ m2, m2 < m' + 1 ∧ ∃ s', σ' = [some (.ref tn), some (.ref lq)] ∧ TurnsAt C H' tn cl s' ∧ LinesAt C H' cl lq qs s' ∧ KeepBut tn cl H H' ∧ S.pick m2 s' = S.pick 100 s ∧ Fair s' j ∧ mu s' j < m2, fun _ _ h => h, ?_⟩
      obtain ⟨F2, lt⟩ := mu_falls F1 hb
      have L2 := (L1.keep R1 K2).tried (tried_ok s1)
      obtain ⟨⟨d2, hp2⟩, hc2⟩ := id R2
      have hlen := paired_len L2.ps
      have hl0 : 0 < s1.queues.length := by have := F1.on; omega
      have hlt := tried_len s1
      refine ⟨_, rfl, tn, C.Turns, d2, _, _, rfl, hp2, T.c_Turns, T.n_Turns_on, l_Turns_on, _, _, rfl, rfl, _, rfl, lq, _, rfl, .inl (SqL.of L2.ls), _, _, rfl, rfl, ?_, _, rfl, tn, C.Turns, d2, _, rfl, hp2, T.c_Turns, T.n_Turns_on, z_Turns, ?_⟩
      · rw [List.length_map, hlen, hlt]
        omega
      rw [p_Turns_on]
      have ev : ((tried s1).2.turn + 1 : Int) % ((qs.map fun (q : QA) => V.ref q.o).length : Int) = ((onward (tried s1).2).turn : Int) := by
        rw [List.length_map, hlen]
        show _ = ((((tried s1).2.turn + 1) % (tried s1).2.queues.length : Nat) : Int)
        push_cast
        rfl
      dsimp only
      rw [ev]
      refine ⟨_, rfl, tn, C.Turns, d2, _, rfl, upd_same, T.c_Turns, T.n_Turns_has_share, z_Turns, ?_⟩
      rw [p_Turns_has_share, upd_upd]
      have npc := ne_of hp2 hc2 ne_il
      have K3 : KeepBut tn cl H2 (upd H2 tn (HO.ins C.Turns d2 (f_Turns (.int ((onward (tried s1).2).turn : Int)) (.bl false) (.ref cl)))) := fun b o h1 _ z => by rw [upd_ne h1]; exact z
      refine ⟨m', Nat.lt_succ_self _, onward (tried s1).2, rfl, ⟨⟨d2, upd_same⟩, by rw [upd_ne npc.symm]; exact hc2⟩, (L2.keep R2 K3).tried (onward_ok _), fun b o h1 h2 z => K3 b o h1 h2 (K12 b o h1 h2 z), hpk, F2, by omega⟩
end
end FL
end
section
namespace FL
open PySem L2
open Sf82 (Bytes Item Queue S)
/-! ### one object of an end changed -/
section
variable {C : Cs} {H : Hp} {e : EA} {s : S}
theorem kept_upd {a : Addr} {o : HO} (h : Mt e a) : Kept e e H (upd H a o) := ⟨rfl, rfl, fun b u hb n => by rw [upd_ne fun z => n (by rw [z]; exact h)]; exact hb, fun _ m => .inl m, fun _ m => .inl m, fun b hb => by
  by_cases z : b = a
  · subst z
    rw [upd_same] at hb
    cases hb
  · rw [upd_ne z] at hb
    exact hb⟩
theorem mt_o {j : Nat} {q : QA} (hq : e.qs[j]? = some q) : Mt e q.o := .inr (.inr (.inr (.inr ⟨j, q, hq, rfl⟩)))
theorem mt_l {j : Nat} {q : QA} (hq : e.qs[j]? = some q) : Mt e q.l := .inr (.inr (.inr (.inl (.inr (.inr ⟨j, q, hq, rfl⟩)))))
theorem mt_p : Mt e e.p := .inl rfl
theorem mt_cn : Mt e e.cn := .inr (.inl rfl)
theorem mt_tn : Mt e e.tn := .inr (.inr (.inl rfl))
theorem mt_gl : Mt e e.gl := .inr (.inr (.inr (.inl (.inl rfl))))
theorem mt_cl : Mt e e.cl := .inr (.inr (.inr (.inl (.inr (.inl rfl)))))
/-- a queue's weight -/
theorem EndAt.setW {j : Nat} {q : QA} {x : Queue} {dq : Addr} (h : EndAt C H e s) (hq : e.qs[j]? = some q) (hx : s.queues[j]? = some x) (w : Nat) :
    EndAt C (upd H q.o (.ins C.Queue dq (f_Queue (.int w) (.ref q.l)))) e { s with queues := s.queues.set j ⟨w, x.credit, x.items⟩ } := by
  have r := paired_at h.qs hq hx
  obtain ⟨d0, ro⟩ := r.ob
  have k : ∀ b o, b ≠ q.o → H b = some o → upd H q.o (.ins C.Queue dq (f_Queue (.int w) (.ref q.l))) b = some o := fun b o hb z => by rw [upd_ne hb]; exact z
  have z := h.setQ (q' := q) (x' := ⟨w, x.credit, x.items⟩) (H' := upd H q.o (.ins C.Queue dq (f_Queue (.int w) (.ref q.l)))) hq hx rfl rfl ⟨⟨dq, upd_same⟩, k _ _ (ne_of r.ln ro ne_li) r.ln, paired_of (paired_len r.ws) fun i a b ha hb => by
    have r' := paired_at r.ws ha hb
    obtain ⟨⟨dw, w1⟩, w2⟩ := id r'
    exact r'.keep (k _ · (ne_of w1 ro ne_wq)) (k _ · (ne_of w2 ro ne_li))⟩ (fun b o h1 h2 z => k b o h1 z) (.inl rfl) fun w hw => .inl hw
  have e1 : ({ e with qs := e.qs.set j q } : EA) = e := by rw [set_same hq]
  rw [e1] at z
  exact z
/-- the end's own object -/
theorem EndAt.updP {s' : S} {dx : Addr} (h : EndAt C H e s) (h1 : s'.queues = s.queues) (h2 : s'.me = s.me) (h3 : s'.groups = s.groups) (h4 : s'.count = s.count) (h5 : s'.turn = s.turn) (h6 : s'.given = s.given) :
    EndAt C (upd H e.p (.ins C.End dx (fE e s'))) e s' :=
  h.setP ⟨dx, upd_same⟩ (fun b o hb z => by rw [upd_ne hb]; exact z) h1 h2 h3 h4 h5 h6
theorem EndAt.queue_at (h : EndAt C H e s) {j : Nat} {x : Queue} (hx : s.queues[j]? = some x) : ∃ q dq, e.qs[j]? = some q ∧ QueueAt C H q x ∧ H q.o = some (.ins C.Queue dq (f_Queue (.int x.weight) (.ref q.l))) ∧
    atI (e.qs.map fun (q : QA) => V.ref q.o) (j : Int) = some (.ref q.o) := by
  obtain ⟨q, hq, r⟩ := h.at_ hx
  obtain ⟨dq, ro⟩ := r.ob
  exact ⟨q, dq, hq, r, ro, atI_nat (by rw [List.getElem?_map, hq]; rfl)⟩
/-- a queue with another line that stood nowhere, and frames of its own -/
theorem kept_line {H' : Hp} {j : Nat} {q q' : QA} (hq : e.qs[j]? = some q) (ho : q'.o = q.o) (hl : q'.l = q.l ∨ H q'.l = none) (hw : ∀ w ∈ q'.ws, w ∈ q.ws ∨ H w.2 = none) (k : ∀ b o, H b = some o → ¬ Mt e b → H' b = some o) (hv : ∀ b, H' b = none → H b = none) :
    Kept e { e with qs := e.qs.set j q' } H H' := by
  have get' : ∀ (i : Nat) (a : QA), (e.qs.set j q')[i]? = some a → (i = j ∧ a = q') ∨ (i ≠ j ∧ e.qs[i]? = some a) := fun i a hi => by
    by_cases z : j = i
    · subst z
      rw [List.getElem?_set_self (List.getElem?_eq_some_iff.mp hq).1] at hi
      cases hi
      exact .inl ⟨rfl, rfl⟩
    · rw [List.getElem?_set_ne z] at hi
      exact .inr ⟨Ne.symm z, hi⟩
  refine ⟨rfl, rfl, k, fun b m => ?_, fun b m => ?_, hv⟩
  · rcases m with z | z | z | (z | z | ⟨i, q2, hq2, z⟩) | ⟨i, q2, hq2, z⟩
    · exact .inl (.inl z)
    · exact .inl (.inr (.inl z))
    · exact .inl (.inr (.inr (.inl z)))
    · exact .inl (.inr (.inr (.inr (.inl (.inl z)))))
    · exact .inl (.inr (.inr (.inr (.inl (.inr (.inl z))))))
    · rcases get' i q2 hq2 with ⟨rfl, rfl⟩ | ⟨h1, h2⟩
      · rcases hl with hl | hl
        · exact .inl (by rw [z, hl]; exact mt_l hq)
        · exact .inr (by rw [z]; exact hl)
      · exact .inl (by rw [z]; exact mt_l h2)
    · rcases get' i q2 hq2 with ⟨rfl, rfl⟩ | ⟨h1, h2⟩
      · exact .inl (by rw [z, ho]; exact mt_o hq)
      · exact .inl (by rw [z]; exact mt_o h2)
  · rcases m with z | z | z | ⟨i, q2, w, hq2, hw2, z⟩
    · exact .inl (.inl z)
    · exact .inl (.inr (.inl z))
    · exact .inl (.inr (.inr (.inl z)))
    · rcases get' i q2 hq2 with ⟨rfl, rfl⟩ | ⟨h1, h2⟩
      · rcases hw w hw2 with y | y
        · exact .inl (.inr (.inr (.inr ⟨_, q, w, hq, y, z⟩)))
        · exact .inr (by rw [z]; exact y)
      · exact .inl (.inr (.inr (.inr ⟨i, q2, w, h2, hw2, z⟩)))
end
def sp_End_may_be_now (K : PySem.W.Frag) (C : Cs) : Sp := fun vs H Q _ => ∃ (e : EA) (s : S) (now : Int), vs = [.ref e.p, .int now] ∧ EndAt C H e s ∧ Q (.bl (decide ((s.last : Int) ≤ now ∧ now < 9223372036854775808))) H
def sp_End_has_queue (K : PySem.W.Frag) (C : Cs) : Sp := fun vs H Q _ => ∃ (e : EA) (s : S) (q : Int), vs = [.ref e.p, .int q] ∧ EndAt C H e s ∧ Q (.bl (s.has q)) H
def sp_End_has_frames (K : PySem.W.Frag) (C : Cs) : Sp := fun vs H Q _ => ∃ (e : EA) (s : S), vs = [.ref e.p] ∧ EndAt C H e s ∧ s.queues.length ≤ 8 ∧ ∀ H', Same H H' → Q (.bl (!(s.queues.all fun (x : Queue) => x.items.isEmpty))) H'
structure OutOk (s : S) : Prop where
  out : ∀ q, s.handed = some q → q = s.turn ∧ ∃ x i r, s.queues[q]? = some x ∧ x.items = i :: r
def outN (s : S) (j : Nat) : Nat := if s.handed = some j then 1 else 0
abbrev rf (ws : List (Addr × Addr)) : List V := ws.map fun w => V.ref w.1
theorem rf_append (a b : List (Addr × Addr)) : rf (a ++ b) = rf a ++ rf b := List.map_append ..
theorem rf_length (a : List (Addr × Addr)) : (rf a).length = a.length := List.length_map ..
theorem rf_take (a : List (Addr × Addr)) (n : Nat) : (rf a).take n = rf (a.take n) := (List.map_take ..).symm
theorem out_le {s : S} {j : Nat} {x : Queue} (h : OutOk s) (hx : s.queues[j]? = some x) : outN s j ≤ x.items.length := by
  unfold outN
  split
  · rename_i hh
    obtain ⟨_, x', i, r', hx', hi⟩ := h.out j hh
    rw [hx] at hx'
    cases hx'
    rw [hi]
    simp
  · exact Nat.zero_le _
def sp_End_how_many_out (K : PySem.W.Frag) (C : Cs) : Sp := fun vs H Q _ => ∃ (e : EA) (s : S) (j : Nat), vs = [.ref e.p, .int j] ∧ EndAt C H e s ∧ OutOk s ∧ Q (.int ((outN s j : Nat) : Int)) H
def sp_End_not_out (K : PySem.W.Frag) (C : Cs) : Sp := fun vs H Q _ => ∃ (e : EA) (s : S) (j : Nat) (q : QA), vs = [.ref e.p, .int j] ∧ EndAt C H e s ∧ OutOk s ∧ e.qs[j]? = some q ∧ ∀ l, H l = none → Q (.ref l) (upd H l (.lst (rf (q.ws.drop (outN s j)))))
def sp_End_keep_only (K : PySem.W.Frag) (C : Cs) : Sp := fun vs H Q _ => ∃ (e : EA) (s : S) (j : Nat) (q : QA) (x : Queue) (a : Addr) (ws : List (Addr × Addr)) (is : List Item), vs = [.ref e.p, .int j, .ref a] ∧ EndAt C H e s ∧ OutOk s ∧ e.qs[j]? = some q ∧ s.queues[j]? = some x ∧
  H a = some (.lst (rf ws)) ∧ Paired (WaitAt C H) ws is ∧ (∀ w ∈ ws, w ∈ q.ws) ∧ outN s j + is.length ≤ x.items.length ∧ x.items.length ≤ 64 ∧
  ∀ e' H', EndAt C H' e' { s with queues := s.queues.set j ⟨x.weight, x.credit, x.items.take (outN s j) ++ is⟩ } → Kept e e' H H' → Q (.int ((x.items.length - (outN s j + is.length) : Nat) : Int)) H'
theorem paired_take {α β : Type} {F : α → β → Prop} : ∀ (n : Nat) {l : List α} {m : List β}, Paired F l m → Paired F (l.take n) (m.take n)
  | 0, _, _, _ => .nil
  | _ + 1, _, _, .nil => .nil
  | n + 1, _, _, .cons r t => .cons r (paired_take n t)
theorem paired_drop {α β : Type} {F : α → β → Prop} : ∀ (n : Nat) {l : List α} {m : List β}, Paired F l m → Paired F (l.drop n) (m.drop n)
  | 0, _, _, h => h
  | _ + 1, _, _, .nil => .nil
  | n + 1, _, _, .cons r t => paired_drop n t
theorem paired_append {α β : Type} {F : α → β → Prop} : ∀ {l l' : List α} {m m' : List β}, Paired F l m → Paired F l' m' → Paired F (l ++ l') (m ++ m')
  | _, _, _, _, .nil, h => h
  | _, _, _, _, .cons r t, h => .cons r (paired_append t h)
section
variable {P : Program} {w : World} {K : PySem.W.Frag} {mg : Str → Option Value} {base : Heap} {C : Cs}
theorem ok_End_may_be_now {f : Addr} {fd : FuncData} (F : Fun K "may_be_now" "End.may_be_now" s_End_may_be_now f fd) (T : Txt K mg C)  : FnOk P w K mg base CX0 1 f fd ps_End_may_be_now (sp_End_may_be_now K C) := by
  refine F.ok sc_End_may_be_now (fun vs H Q E h => ?_) (fun cdv A outer s H vs Q E hr h => ?_)
  · obtain ⟨e, s, now, rfl, _⟩ := h
    rfl
  · obtain ⟨e, s, now, rfl, R, k⟩ := h
    obtain ⟨dx, hp⟩ := R.ob
    refine ⟨_, (pss_one (ps_ret (pe_chain op_le op_lt (pe_fld (pv 0) rfl) (pv 1) (pe_gint rfl T.g_TIME_LIMIT)))), ?_⟩
    refine ⟨_, rfl, e.p, C.End, dx, _, _, rfl, hp, T.c_End, T.n_End_now, l_End_now, _, rfl, _, _, rfl, rfl, _, rfl, ?_⟩
    refine ite2 (fun h1 => ?_) (fun h1 => ?_)
    · have h1 := of_decide_eq_true h1
      refine ⟨_, _, rfl, rfl, ?_⟩
      have e1 : decide (now < 9223372036854775808) = decide ((s.last : Int) ≤ now ∧ now < 9223372036854775808) := dec_iff ⟨fun h => ⟨h1, h⟩, fun h => h.2⟩
      dsimp only
      rw [e1]
      exact k
    · have e1 : decide ((s.last : Int) ≤ now ∧ now < 9223372036854775808) = false := decide_eq_false fun q => h1 (decide_eq_true q.1)
      rw [e1] at k
      exact k
theorem ok_End_has_queue {f : Addr} {fd : FuncData} (F : Fun K "has_queue" "End.has_queue" s_End_has_queue f fd) (T : Txt K mg C)  : FnOk P w K mg base CX0 1 f fd ps_End_has_queue (sp_End_has_queue K C) := by
  refine F.ok sc_End_has_queue (fun vs H Q E h => ?_) (fun cdv A outer s H vs Q E hr h => ?_)
  · obtain ⟨e, s, q, rfl, _⟩ := h
    rfl
  · obtain ⟨e, s, q, rfl, R, k⟩ := h
    obtain ⟨dx, hp⟩ := R.ob
    refine ⟨_, (pss_one (ps_ret (pe_chain op_le op_lt pe_int (pv 1) (pe_callB call_len_seq (by rfl) T.b_len (show bootBuiltins "len" = some (.builtin "len") by decide +kernel) (pa_cons (pe_fld (pv 0) rfl) pa_nil))))), ?_⟩
    refine ⟨_, rfl, _, _, rfl, rfl, _, rfl, ?_⟩
    have hl : ((e.qs.map fun (q : QA) => V.ref q.o).length : Int) = (s.queues.length : Int) := by rw [List.length_map, R.len]
    refine ite2 (fun h1 => ?_) (fun h1 => ?_)
    · have h1' := of_decide_eq_true h1
      refine ⟨_, rfl, e.p, C.End, dx, _, _, rfl, hp, T.c_End, T.n_End_queues, l_End_queues, e.lq, _, rfl, .inl (SqL.of R.lq), _, _, rfl, rfl, ?_⟩
      dsimp only
      rw [hl]
      have e1 : s.has q = decide (q < (s.queues.length : Int)) := by
        unfold Sf82.S.has
        rw [h1, Bool.true_and]
      rw [e1] at k
      exact k
    · have e1 : s.has q = false := by
        unfold Sf82.S.has
        rw [Bool.and_eq_false_iff]
        left
        exact Bool.eq_false_iff.mpr h1
      rw [e1] at k
      exact k
theorem ok_End_has_frames {f : Addr} {fd : FuncData} (F : Fun K "has_frames" "End.has_frames" s_End_has_frames f fd) (T : Txt K mg C)  : FnOk P w K mg base CX0 1 f fd ps_End_has_frames (sp_End_has_frames K C) := by
  refine F.ok sc_End_has_frames (fun vs H Q E h => ?_) (fun cdv A outer s H vs Q E hr h => ?_)
  · obtain ⟨e, s, rfl, _⟩ := h
    rfl
  · obtain ⟨e, s, rfl, R, h8, k⟩ := h
    obtain ⟨dx, hp⟩ := R.ob
    refine ⟨_, (pss_one (ps_ret (pe_callB (cr_any rfl) (by rfl) T.b_any (show bootBuiltins "any" = some (.builtin "any") by decide +kernel) (pa_cons (pe_lc rfl sc_End_has_frames.nd (pi_list (pe_fld (pv 0) rfl)) (blkOk_by (own := [("queue", 1)]) (show blkC N_End_has_frames (defScope s_End_has_frames) _ _ = true by decide +kernel)) (fun _ _ _ _ _ => pg_name (i := 1) sc_End_has_frames.nd rfl (by first | exact Or.inl rfl | exact Or.inr rfl)) (fun _ _ _ _ _ => pts_nil) (fun _ _ _ _ _ => by exact (pe_cmpR op_gt (pe_callB (call_len_seqK (K := K) rfl) (by rfl) T.b_len (show bootBuiltins "len" = some (.builtin "len") by decide +kernel) (pa_cons (pe_fldK (K := K) rfl (pv 1) rfl) pa_nil)) pe_int (nomark _)))) pa_nil)))), ?_⟩
    have hz := sizeLine_eq
    have hlen := R.len
    refine ⟨_, rfl, e.p, C.End, dx, _, _, rfl, hp, T.c_End, T.n_End_queues, l_End_queues, e.lq, rfl, ⟨_, SqL.of R.lq⟩, fun D hD => lc_list (K := K) (a := e.lq) (xs := e.qs.map fun (q : QA) => V.ref q.o) (fun i H2 => H2 = upd H D (.lst ((s.queues.take i).map fun (x : Queue) => V.bl (!x.items.isEmpty)))) rfl ?_ ?_ ?_⟩
    · rintro i H2 _ rfl
      exact SqL.of (same_upd hD _ _ R.lq)
    · rintro i y H2 hi rfl
      rw [List.getElem?_map] at hi
      cases hq : e.qs[i]? with
      | none => rw [hq] at hi; cases hi
      | some q =>
        rw [hq] at hi
        obtain rfl : V.ref q.o = y := Option.some.inj hi
        obtain ⟨x, hx, r⟩ := Paired.getL R.qs hq
        obtain ⟨dq, ro⟩ := r.ob
        have sm : Same H (upd H D (.lst ((s.queues.take i).map fun (x : Queue) => V.bl (!x.items.isEmpty)))) := same_upd hD
        have ro' := sm _ _ ro
        refine ⟨rfl, _, rfl, q.o, C.Queue, dq, _, _, rfl, ro', T.c_Queue, T.n_Queue_line, l_Queue_line, q.l, _, rfl, .inl (SqL.of (sm _ _ r.ln)), _, _, rfl, rfl, _, upd_same, ?_, ?_⟩
        · rw [List.length_map, List.length_take]
          omega
        · dsimp only
          rw [upd_upd, List.take_add_one, hx]
          have hw := paired_len r.ws
          have e1 : decide ((0 : Int) < ((q.ws.map fun (w : Addr × Addr) => V.ref w.1).length : Int)) = !x.items.isEmpty := by
            rw [List.length_map, hw]
            cases x.items with
            | nil => rfl
            | cons a b => simp
          rw [e1, List.map_append]
          rfl
    · rintro H2 rfl
      refine ⟨D, (s.queues.map fun (x : Queue) => !x.items.isEmpty), rfl, SqL.of ?_, ?_⟩
      · rw [upd_same, List.length_map, hlen, List.take_length, List.map_map]
        rfl
      · have e1 : (s.queues.map fun (x : Queue) => !x.items.isEmpty).any id = !(s.queues.all fun (x : Queue) => x.items.isEmpty) := by
          rw [List.any_map]
          induction s.queues with
          | nil => rfl
          | cons a r ih => rw [List.any_cons, List.all_cons, ih, Bool.not_and]; rfl
        rw [e1]
        exact k _ (same_upd hD)
theorem ok_End_how_many_out {f : Addr} {fd : FuncData} (F : Fun K "how_many_out" "End.how_many_out" s_End_how_many_out f fd) (T : Txt K mg C)  : FnOk P w K mg base CX0 1 f fd ps_End_how_many_out (sp_End_how_many_out K C) := by
  refine F.ok sc_End_how_many_out (fun vs H Q E h => ?_) (fun cdv A outer s H vs Q E hr h => ?_)
  · obtain ⟨e, s, j, rfl, _⟩ := h
    rfl
  · obtain ⟨e, s, j, rfl, R, hout, k⟩ := h
    obtain ⟨dx, hp⟩ := R.ob
    obtain ⟨⟨dt, t1⟩, t2⟩ := R.tn
    refine ⟨_, (pss_one (ps_ret (pe_ifExp (PW.pt (pw_and (pt_val (pe_fld (pv 0) rfl)) (pw_and1 (pt_cmpR op_eq (pv 1) (pe_fld (pe_fld (pv 0) rfl) rfl) (nomark _))))) pe_int pe_int))), ?_⟩
    refine ⟨_, rfl, e.p, C.End, dx, _, _, rfl, hp, T.c_End, T.n_End_is_out, l_End_is_out, _, rfl, ?_⟩
    unfold outN at k
    rcases Option.eq_none_or_eq_some s.handed with hd | ⟨h, hd⟩
    · rw [hd]
      rw [hd, if_neg (by simp)] at k
      exact iteF (iteF k)
    · have hht := (hout.out h hd).1
      rw [hd]
      refine iteT ⟨_, rfl, _, rfl, e.p, C.End, dx, _, _, rfl, hp, T.c_End, T.n_End_turns, l_End_turns, e.tn, C.Turns, dt, _, _, rfl, t1, T.c_Turns, T.n_Turns_on, l_Turns_on, rfl, _, rfl, ite2 (fun h1 => ?_) (fun h1 => ?_)⟩
      · have h1 := int_iff.mp (of_decide_eq_true h1)
        rw [hd, if_pos (by rw [hht]; congr 1; omega)] at k
        exact k
      · have h1 : ¬ ((j : Int) = (s.turn : Int)) := fun z => h1 (decide_eq_true (int_iff.mpr z))
        rw [hd, if_neg (fun z => h1 (by have := Option.some.inj z; omega))] at k
        exact k
theorem ok_End_not_out {f : Addr} {fd : FuncData} (F : Fun K "not_out" "End.not_out" s_End_not_out f fd) (T : Txt K mg C) (u_End_how_many_out : MethOk P w K mg base 1 C.End "how_many_out" ps_End_how_many_out (sp_End_how_many_out K C)) : FnOk P w K mg base CX0 2 f fd ps_End_not_out (sp_End_not_out K C) := by
  refine F.ok sc_End_not_out (fun vs H Q E h => ?_) (fun cdv A outer s H vs Q E hr h => ?_)
  · obtain ⟨e, s, j, q, rfl, _⟩ := h
    rfl
  · obtain ⟨e, s, j, q, rfl, R, hout, hq, k⟩ := h
    obtain ⟨dx, hp⟩ := R.ob
    obtain ⟨x, hx, r⟩ := Paired.getL R.qs hq
    obtain ⟨dq, ro⟩ := r.ob
    have hw := paired_len r.ws
    have hnl := out_le hout hx
    refine ⟨_, (pss_one (ps_ret (pe_slice sl_list (pe_fld (pe_ix ix_list (pe_fld (pv 0) rfl) (pv 1) (fun _ _ => rfl)) rfl) (po_some (pe_mth (pv 0) T.c_End u_End_how_many_out hr (by decide) (pa_cons (pv 1) pa_nil))) po_none))), ?_⟩
    refine ⟨_, rfl, e.p, C.End, dx, _, _, rfl, hp, T.c_End, T.n_End_queues, l_End_queues, _, rfl, e.lq, _, _, _, rfl, rfl, SqL.of R.lq, atI_nat (by rw [List.getElem?_map, hq]; rfl), q.o, C.Queue, dq, _, _, rfl, ro, T.c_Queue, T.n_Queue_line, l_Queue_line, _, rfl, e.p, dx, _, rfl, hp, m_End_how_many_out, _, rfl, e, s, j, rfl, R, hout, _, rfl, q.l, _, rfl, SqL.of r.ln, fun l1 n1 => ?_⟩
    rw [cut_from _ _ (by rw [List.length_map, hw]; exact hnl), ← List.map_drop]
    exact k l1 n1
theorem ok_End_keep_only {f : Addr} {fd : FuncData} (F : Fun K "keep_only" "End.keep_only" s_End_keep_only f fd) (T : Txt K mg C) (u_End_how_many_out : MethOk P w K mg base 1 C.End "how_many_out" ps_End_how_many_out (sp_End_how_many_out K C)) : FnOk P w K mg base CX0 2 f fd ps_End_keep_only (sp_End_keep_only K C) := by
  refine F.ok sc_End_keep_only (fun vs H Q E h => ?_) (fun cdv A outer s H vs Q E hr h => ?_)
  · obtain ⟨e, s, j, q, x, a, ws, is, rfl, _⟩ := h
    rfl
  · obtain ⟨e, s, j, q, x, a, ws, is, rfl, R, hout, hq, hx, ha, pf, hsub, hle, h64, k⟩ := h
    obtain ⟨dx, hp⟩ := R.ob
    have r := paired_at R.qs hq hx
    obtain ⟨dq, ro⟩ := r.ob
    have hw := paired_len r.ws
    have hz := sizeLine_eq
    have hpl := paired_len pf
    generalize hn : outN s j = n at *
    refine ⟨_, (pss_cons (ps_set (i := 3) sc_End_keep_only.nd rfl (by first | exact Or.inl rfl | exact Or.inr rfl) (pe_ix ix_list (pe_fld (pv 0) rfl) (pv 1) (fun _ _ => rfl))) (pss_cons (ps_set (i := 4) sc_End_keep_only.nd rfl (by first | exact Or.inl rfl | exact Or.inr rfl) (pe_op op_cat (pe_slice sl_list (pe_fld (pv 3) rfl) po_none (po_some (pe_mth (pv 0) T.c_End u_End_how_many_out hr (by decide) (pa_cons (pv 1) pa_nil)))) (pv 2))) (pss_cons (ps_set (i := 5) sc_End_keep_only.nd rfl (by first | exact Or.inl rfl | exact Or.inr rfl) (pe_op op_sub (pe_callB call_len_seq (by rfl) T.b_len (show bootBuiltins "len" = some (.builtin "len") by decide +kernel) (pa_cons (pe_fld (pv 3) rfl) pa_nil)) (pe_callB call_len_seq (by rfl) T.b_len (show bootBuiltins "len" = some (.builtin "len") by decide +kernel) (pa_cons (pv 4) pa_nil)))) (pss_cons (ps_fld (pv 3) (pv 4) rfl) (pss_one (ps_ret (pv 5))))))), ?_⟩
    refine ⟨_, rfl, e.p, C.End, dx, _, _, rfl, hp, T.c_End, T.n_End_queues, l_End_queues, _, rfl, e.lq, _, _, _, rfl, rfl, SqL.of R.lq, atI_nat (by rw [List.getElem?_map, hq]; rfl), ?_⟩
    refine ⟨_, rfl, q.o, C.Queue, dq, _, _, rfl, ro, T.c_Queue, T.n_Queue_line, l_Queue_line, _, rfl, e.p, dx, _, rfl, hp, m_End_how_many_out, _, rfl, e, s, j, rfl, R, hout, _, rfl, q.l, _, rfl, SqL.of r.ln, fun l2 n2 => ?_⟩
    rw [hn, cut_to, rf_take]
    have na : a ≠ l2 := ne_of_none ha n2
    refine ⟨_, rfl, l2, a, _, _, rfl, rfl, upd_same, by rw [upd_ne na]; exact ha, ?_, fun l3 n3 => ?_⟩
    · rw [rf_length, rf_length, List.length_take]
      omega
    rw [← rf_append]
    have sm3 : Same H (upd (upd H l2 (.lst (rf (q.ws.take n)))) l3 (.lst (rf (q.ws.take n ++ ws)))) := (same_upd n2).trans (same_upd n3)
    have fr3 : H l3 = none := (same_upd n2).free n3
    generalize hH3 : upd (upd H l2 (.lst (rf (q.ws.take n)))) l3 (.lst (rf (q.ws.take n ++ ws))) = H3 at sm3
    have hl3 : H3 l3 = some (.lst (rf (q.ws.take n ++ ws))) := by rw [← hH3]; exact upd_same
    have R3 := R.same sm3
    have ro3 := sm3 _ _ ro
    have rl3 := sm3 _ _ r.ln
    refine ⟨_, rfl, q.o, C.Queue, dq, _, _, rfl, ro3, T.c_Queue, T.n_Queue_line, l_Queue_line, q.l, _, rfl, .inl (SqL.of rl3), _, rfl, l3, _, rfl, .inl (SqL.of hl3), _, _, rfl, rfl, ?_⟩
    refine ⟨_, rfl, _, rfl, q.o, C.Queue, dq, _, rfl, ro3, T.c_Queue, T.n_Queue_line, z_Queue, ?_⟩
    rw [p_Queue_line]
    generalize hH5 : upd H3 q.o (HO.ins C.Queue dq (f_Queue (V.int x.weight) (V.ref l3))) = H5
    have nl3 : l3 ≠ q.o := ne_of hl3 ro3 ne_li
    have k5 : ∀ b o, b ≠ q.o → H3 b = some o → H5 b = some o := fun b o hb z => by rw [← hH5, upd_ne hb]; exact z
    have R5 : EndAt C H5 { e with qs := e.qs.set j ⟨q.o, l3, q.ws.take n ++ ws⟩ } { s with queues := s.queues.set j ⟨x.weight, x.credit, x.items.take n ++ is⟩ } := by
      refine R3.setQ (q' := ⟨q.o, l3, q.ws.take n ++ ws⟩) hq hx rfl rfl ⟨⟨dq, by rw [← hH5]; exact upd_same⟩, k5 _ _ nl3 hl3, ?_⟩ (fun b o h1 h2 z => k5 b o h1 z) (.inr ?_) fun w hw => .inl ?_
      · refine paired_mem (paired_append (paired_take n r.ws) pf) fun w it hw' r' => ?_
        obtain ⟨⟨d', z1⟩, z2⟩ := id r'
        exact r'.keep (fun o z => k5 _ _ (ne_of z1 ro ne_wq) (sm3 _ _ z)) (fun o z => k5 _ _ (ne_of z2 ro ne_li) (sm3 _ _ z))
      · exact R.fresh fr3
      · rcases List.mem_append.mp hw with z | z
        · exact List.mem_of_mem_take z
        · exact hsub w z
    have K5 : Kept e { e with qs := e.qs.set j ⟨q.o, l3, q.ws.take n ++ ws⟩ } H H5 := by
      refine kept_line hq rfl (.inr fr3) (fun w hw => .inl ?_) (fun b o hb m => k5 b o (fun z => m (by rw [z]; exact mt_o hq)) (sm3 _ _ hb)) fun b hb => ?_
      · rcases List.mem_append.mp hw with z | z
        · exact List.mem_of_mem_take z
        · exact hsub w z
      · by_cases z : b = q.o
        · rw [z, ← hH5, upd_same] at hb; cases hb
        · rw [← hH5, upd_ne z] at hb; exact sm3.free hb
    refine ⟨_, rfl, ?_⟩
    have el : ((q.ws.map fun (w : Addr × Addr) => V.ref w.1).length : Int) - ((rf (q.ws.take n ++ ws)).length : Int) = ((x.items.length - (n + is.length) : Nat) : Int) := by
      rw [List.length_map, rf_length, List.length_append, List.length_take, hpl]
      omega
    dsimp only
    rw [el]
    exact k _ H5 R5 K5
end
end FL
end
section
namespace FL
open PySem L2
open Sf82 (Bytes Item Queue S does)
/-! ### what isn't too old, with its places in the heap -/
def okI (s : S) (i : Item) : Bool := decide (s.last ≤ i.since + s.life)
def fw (s : S) : List (Addr × Addr) → List Item → List (Addr × Addr)
  | w :: ws, i :: is => if okI s i = true then w :: fw s ws is else fw s ws is
  | _, _ => []
theorem fw_paired {F : Addr × Addr → Item → Prop} (s : S) : ∀ {ws : List (Addr × Addr)} {is : List Item}, Paired F ws is → Paired F (fw s ws is) (is.filter (okI s))
  | _, _, .nil => .nil
  | _, _, .cons (a := w) (b := i) r t => by
    unfold fw
    rw [List.filter_cons]
    by_cases h : okI s i = true
    · rw [if_pos h, if_pos h]; exact .cons r (fw_paired s t)
    · rw [if_neg h, if_neg h]; exact fw_paired s t
theorem fw_snoc (s : S) : ∀ (ws : List (Addr × Addr)) (is : List Item) (w : Addr × Addr) (i : Item), ws.length = is.length → fw s (ws ++ [w]) (is ++ [i]) = fw s ws is ++ if okI s i = true then [w] else []
  | [], [], w, i, _ => by
    show (if okI s i = true then w :: fw s [] [] else fw s [] []) = _
    split <;> rfl
  | a :: ws, b :: is, w, i, h => by
    have ih := fw_snoc s ws is w i (by simpa using h)
    show (if okI s b = true then a :: fw s (ws ++ [w]) (is ++ [i]) else fw s (ws ++ [w]) (is ++ [i])) = (if okI s b = true then a :: fw s ws is else fw s ws is) ++ _
    rw [ih]
    split <;> rfl
  | [], _ :: _, _, _, h => by simp at h
  | _ :: _, [], _, _, h => by simp at h
theorem fw_mem (s : S) : ∀ (ws : List (Addr × Addr)) (is : List Item), ∀ w ∈ fw s ws is, w ∈ ws
  | [], [], _, h => by cases h
  | [], _ :: _, _, h => by cases h
  | _ :: _, [], _, h => by cases h
  | a :: ws, b :: is, w, h => by
    unfold fw at h
    split at h
    · rcases List.mem_cons.mp h with rfl | h
      · exact List.mem_cons_self
      · exact List.mem_cons_of_mem _ (fw_mem s ws is w h)
    · exact List.mem_cons_of_mem _ (fw_mem s ws is w h)
theorem fw_le (s : S) : ∀ (ws : List (Addr × Addr)) (is : List Item), (fw s ws is).length ≤ ws.length
  | [], [] => Nat.le_refl _
  | [], _ :: _ => Nat.le_refl _
  | _ :: _, [] => Nat.zero_le _
  | a :: ws, b :: is => by
    have := fw_le s ws is
    unfold fw
    split <;> simp <;> omega
theorem fresh_eq {s : S} {q n : Nat} (h : s.life ≠ 0) (hn : n = if s.handed = some q then 1 else 0) (l : List Item) : s.fresh s.last q l = l.take n ++ (l.drop n).filter (okI s) := by
  unfold Sf82.S.fresh
  rw [if_neg h]
  cases l with
  | nil => simp
  | cons i r =>
    dsimp only
    by_cases hh : s.handed = some q
    · rw [if_pos hh] at hn
      subst hn
      rw [if_pos (Or.inl hh)]
      rfl
    · rw [if_neg hh] at hn
      subst hn
      rw [List.take_zero, List.drop_zero, List.nil_append, List.filter_cons]
      by_cases ho : s.last ≤ i.since + s.life
      · rw [if_pos (Or.inr ho), if_pos (show okI s i = true from decide_eq_true ho)]
        rfl
      · rw [if_neg (fun z => z.elim hh ho), if_neg (by unfold okI; simpa using ho)]
        rfl
/-- when a frame may go -/
theorem when_now {t : S} (g : Good t) {n : Nat} (hn : n ≤ 1518) (h : 1000 * n ≤ t.may) : t.when_ n = t.last := by
  unfold Sf82.S.when_
  rw [if_pos (Or.inr h)]
theorem may_still {t : S} (g : Good t) {n : Nat} (hn : n ≤ 1518) (h : ¬ 1000 * n ≤ t.may) : 0 < t.rate := by
  rcases Nat.eq_zero_or_pos t.rate with z | z
  · have := g.still z
    have := g.b1
    omega
  · exact z
theorem when_later {t : S} (g : Good t) {n : Nat} (hn : n ≤ 1518) (h : ¬ 1000 * n ≤ t.may) : ((t.when_ n : Nat) : Int) = (t.last : Int) + ((1000 * (n : Int) - (t.may : Int)) + (t.rate : Int) - 1) / (t.rate : Int) ∧ t.when_ n ≠ t.last := by
  have hr := may_still g hn h
  have e : t.when_ n = t.last + (1000 * n - t.may + t.rate - 1) / t.rate := by
    unfold Sf82.S.when_
    rw [if_neg (by omega)]
  have hd : 1 ≤ (1000 * n - t.may + t.rate - 1) / t.rate := by
    rw [Nat.le_div_iff_mul_le hr]
    omega
  refine ⟨?_, by omega⟩
  rw [e]
  push_cast
  congr 2
  omega
def sp_End_time_to_go (K : PySem.W.Frag) (C : Cs) : Sp := fun vs H Q _ => ∃ (e : EA) (s : S) (n : Nat), vs = [.ref e.p, .int n] ∧ EndAt C H e s ∧ Good s ∧ n ≤ 1518 ∧ Q (.int ((s.when_ n : Nat) : Int)) H
def sp_End_remove_old (K : PySem.W.Frag) (C : Cs) : Sp := fun vs H Q _ => ∃ (e : EA) (s : S) (q : Nat), vs = [.ref e.p, .int q] ∧ EndAt C H e s ∧ q < s.queues.length ∧ s.life ≠ 0 ∧ OutOk s ∧ s.count.length = 10 ∧ (∀ x ∈ s.queues, x.items.length ≤ 64) ∧
  ∀ e' H', EndAt C H' e' (remOld s q) → Kept e e' H H' → Q .non H'
section
variable {P : Program} {w : World} {K : PySem.W.Frag} {mg : Str → Option Value} {base : Heap} {C : Cs}
theorem ok_End_time_to_go {f : Addr} {fd : FuncData} (F : Fun K "time_to_go" "End.time_to_go" s_End_time_to_go f fd) (T : Txt K mg C)  : FnOk P w K mg base CX0 1 f fd ps_End_time_to_go (sp_End_time_to_go K C) := by
  refine F.ok sc_End_time_to_go (fun vs H Q E h => ?_) (fun cdv A outer s H vs Q E hr h => ?_)
  · obtain ⟨e, s, n, rfl, _⟩ := h
    rfl
  · obtain ⟨e, s, n, rfl, R, G, hn, k⟩ := h
    obtain ⟨dx, hp⟩ := R.ob
    refine ⟨_, (pss_cons (ps_set (i := 2) sc_End_time_to_go.nd rfl (by first | exact Or.inl rfl | exact Or.inr rfl) (pe_op op_sub (pe_op op_mul (pe_gint rfl T.g_THOUSANDTHS) (pv 1)) (pe_fld (pv 0) rfl))) (pss_cons (ps_if (pt_cmpR op_le (pv 2) pe_int (nomark _)) (pss_one (ps_ret (pe_fld (pv 0) rfl))) pss_nil) (pss_one (ps_ret (pe_op op_add (pe_fld (pv 0) rfl) (pe_op op_fdivW (pe_op op_sub (pe_op op_add (pv 2) (pe_fld (pv 0) rfl)) pe_int) (pe_fld (pv 0) rfl))))))), ?_⟩
    refine ⟨_, rfl, _, _, rfl, rfl, .inl ⟨by decide, by decide⟩, _, rfl, e.p, C.End, dx, _, _, rfl, hp, T.c_End, T.n_End_may_go, l_End_may_go, _, _, rfl, rfl, ?_⟩
    refine ⟨_, rfl, _, _, rfl, rfl, _, rfl, ?_⟩
    dsimp only
    by_cases hgo : 1000 * n ≤ s.may
    · refine itP (by omega) ⟨_, rfl, e.p, C.End, dx, _, _, rfl, hp, T.c_End, T.n_End_now, l_End_now, ?_⟩
      rw [when_now G hn hgo] at k
      exact k
    · obtain ⟨hv, hne⟩ := when_later G hn hgo
      have hrate := may_still G hn hgo
      have hr2 := G.rate
      refine itN (by omega) ⟨_, rfl, e.p, C.End, dx, _, _, rfl, hp, T.c_End, T.n_End_now, l_End_now, _, rfl, _, rfl, e.p, C.End, dx, _, _, rfl, hp, T.c_End, T.n_End_pace, l_End_pace, _, _, rfl, rfl, _, _, rfl, rfl, _, rfl, e.p, C.End, dx, _, _, rfl, hp, T.c_End, T.n_End_pace, l_End_pace, _, _, rfl, rfl, ⟨by omega, by omega⟩, _, _, rfl, rfl, ?_⟩
      rw [hv] at k
      exact k
theorem ok_End_remove_old {f : Addr} {fd : FuncData} (F : Fun K "remove_old" "End.remove_old" s_End_remove_old f fd) (T : Txt K mg C) (u_End_not_out : MethOk P w K mg base 2 C.End "not_out" ps_End_not_out (sp_End_not_out K C)) (u_End_keep_only : MethOk P w K mg base 2 C.End "keep_only" ps_End_keep_only (sp_End_keep_only K C)) : FnOk P w K mg base CX0 3 f fd ps_End_remove_old (sp_End_remove_old K C) := by
  refine F.ok sc_End_remove_old (fun vs H Q E h => ?_) (fun cdv A outer s H vs Q E hr h => ?_)
  · obtain ⟨e, s, q, rfl, _⟩ := h
    rfl
  · obtain ⟨e, s, j, rfl, R, hj, hlife, hout, h10, h64, k⟩ := h
    obtain ⟨dx, hp⟩ := R.ob
    obtain ⟨x, hx⟩ : ∃ x, s.queues[j]? = some x := ⟨_, List.getElem?_eq_getElem hj⟩
    obtain ⟨q, dq, hq, r, ro, hat⟩ := R.queue_at hx
    have hw := paired_len r.ws
    have hz := sizeLine_eq
    have hx64 := h64 x (List.mem_of_getElem? hx)
    have hnl := out_le hout hx
    refine ⟨_, (pss_cons (ps_setLc (i := 2) rfl sc_End_remove_old.nd rfl rfl (sw_true rfl rfl rfl (by decide +kernel)) (pi_list (pe_mth (pv 0) T.c_End u_End_not_out hr (by decide) (pa_cons (pv 1) pa_nil))) (blkOk_by (own := [("one", 3)]) (show blkC N_End_remove_old (defScope s_End_remove_old) _ _ = true by decide +kernel)) (fun _ _ _ _ _ => pg_name (i := 3) sc_End_remove_old.nd rfl (by first | exact Or.inl rfl | exact Or.inr rfl)) (fun _ _ _ _ _ => by exact pts_one (pt_cmpR op_le (pe_op op_sub (pe_fldK (K := K) rfl (pv 0) rfl) (pe_fldK (K := K) rfl (pv 3) rfl)) (pe_fldK (K := K) rfl (pv 0) rfl) (nomark _))) (fun _ _ _ _ _ => by exact (pv 3))) (pss_one (ps_fldaug (pe_fld (pv 0) rfl) (pe_mth (pv 0) T.c_End u_End_keep_only hr (by decide) (pa_cons (pv 1) (pa_cons (pv 2) pa_nil))) in_add))), ?_⟩
    refine ⟨_, rfl, e.p, dx, _, rfl, hp, m_End_not_out, _, rfl, e, s, j, q, rfl, R, hout, hq, fun l1 n1 => ?_⟩
    have hn : outN s j = if s.handed = some j then 1 else 0 := rfl
    generalize outN s j = n at *
    refine ⟨l1, rfl, ⟨_, SqL.of upd_same⟩, fun D hD => lc_list (K := K) (a := l1) (xs := rf (q.ws.drop n)) (fun i H2 => H2 = upd (upd H l1 (.lst (rf (q.ws.drop n)))) D (.lst (rf (fw s ((q.ws.drop n).take i) ((x.items.drop n).take i))))) rfl ?_ ?_ ?_⟩
    · rintro i H2 _ rfl
      exact SqL.of (by rw [upd_ne (ne_of_none upd_same hD)]; exact upd_same)
    · rintro i y H2 hi rfl
      rw [List.getElem?_map] at hi
      cases hwi : (q.ws.drop n)[i]? with
      | none => rw [hwi] at hi; cases hi
      | some w1 =>
        rw [hwi] at hi
        obtain rfl : V.ref w1.1 = y := Option.some.inj hi
        obtain ⟨it, hit, ⟨⟨dw, wo⟩, wf⟩⟩ := Paired.getL (paired_drop n r.ws) hwi
        have sm : Same H (upd (upd H l1 (.lst (rf (q.ws.drop n)))) D (.lst (rf (fw s ((q.ws.drop n).take i) ((x.items.drop n).take i))))) := (same_upd n1).trans (same_upd hD)
        have hp2 := sm _ _ hp
        have wo2 := sm _ _ wo
        have eq1 : fw s ((q.ws.drop n).take (i + 1)) ((x.items.drop n).take (i + 1)) = fw s ((q.ws.drop n).take i) ((x.items.drop n).take i) ++ if okI s it = true then [w1] else [] := by
          rw [List.take_add_one, List.take_add_one, hwi, hit]
          refine fw_snoc s _ _ w1 it ?_
          rw [List.length_take, List.length_take, List.length_drop, List.length_drop, hw]
        refine ⟨rfl, _, rfl, e.p, C.End, dx, _, _, rfl, hp2, T.c_End, T.n_End_now, l_End_now, _, rfl, w1.1, C.Waiting, dw, _, _, rfl, wo2, T.c_Waiting, T.n_Waiting_since, l_Waiting_since, _, _, rfl, rfl, _, rfl, e.p, C.End, dx, _, _, rfl, hp2, T.c_End, T.n_End_life, l_End_life, _, _, rfl, rfl, _, rfl, ite2 (fun h1 => ?_) (fun h1 => ?_)⟩
        · have h1 := of_decide_eq_true h1
          have hok : okI s it = true := decide_eq_true (by omega)
          refine ⟨_, rfl, _, upd_same, ?_, ?_⟩
          · have := fw_le s ((q.ws.drop n).take i) ((x.items.drop n).take i)
            rw [List.length_take, List.length_drop] at this
            rw [List.length_map]
            omega
          · rw [upd_upd, eq1, if_pos hok, rf_append]
            rfl
        · have hok : ¬ okI s it = true := fun z => h1 (decide_eq_true (by have := of_decide_eq_true z; omega))
          rw [eq1, if_neg hok, List.append_nil]
    · rintro H2 rfl
      have e1 : rf (fw s ((q.ws.drop n).take (rf (q.ws.drop n)).length) ((x.items.drop n).take (rf (q.ws.drop n)).length)) = rf (fw s (q.ws.drop n) (x.items.drop n)) := by
        rw [List.length_map, List.take_length, List.length_drop, hw, ← List.length_drop, List.take_length]
      rw [e1]
      have pf0 := fw_paired s (paired_drop n r.ws)
      have msub := fw_mem s (q.ws.drop n) (x.items.drop n)
      generalize hF : fw s (q.ws.drop n) (x.items.drop n) = fs at *
      have sm2 : Same H (upd (upd H l1 (.lst (rf (q.ws.drop n)))) D (.lst (rf fs))) := (same_upd n1).trans (same_upd hD)
      generalize hH2 : upd (upd H l1 (.lst (rf (q.ws.drop n)))) D (.lst (rf fs)) = H2 at sm2
      have hD2 : H2 D = some (.lst (rf fs)) := by rw [← hH2]; exact upd_same
      have R2 := R.same sm2
      have hp2 := sm2 _ _ hp
      obtain ⟨dc, hc2⟩ := R2.cn
      have hfl : ((x.items.drop n).filter (okI s)).length ≤ x.items.length - n := by
        have := List.length_filter_le (okI s) (x.items.drop n)
        rw [List.length_drop] at this
        exact this
      refine ⟨_, rfl, e.p, C.End, dx, _, _, rfl, hp2, T.c_End, T.n_End_counts, l_End_counts, e.cn, C.Counts, dc, _, _, rfl, hc2, T.c_Counts, T.n_Counts_grown_old, l_Counts_grown_old, _, rfl, e.p, dx, _, rfl, hp2, m_End_keep_only, _, rfl, _, rfl, e, s, j, q, x, D, fs, (x.items.drop n).filter (okI s), rfl, R2, hout, hq, hx, hD2, paired_mem pf0 fun w it _ r' => r'.keep (sm2 _) (sm2 _), fun w hw' => List.mem_of_mem_drop (msub w hw'), ?_, hx64, fun e4 H4 R4 K4 => ?_⟩
      · rw [show outN s j = n from hn.symm]; omega
      rw [show outN s j = n from hn.symm] at *
      obtain ⟨dc4, hc4⟩ : ∃ dx, H4 e4.cn = some (.ins C.Counts dx (fC s)) := R4.cn
      rw [K4.cn] at hc4
      refine ⟨_, _, rfl, rfl, dc4, _, hc4, z_Counts, ?_⟩
      have ef : s.fresh s.last j x.items = x.items.take n ++ (x.items.drop n).filter (okI s) := fresh_eq hlife hn x.items
      have el : x.items.length - (n + ((x.items.drop n).filter (okI s)).length) = lost s s.last j x := by
        unfold lost
        rw [ef, List.length_append, List.length_take]
        omega
      dsimp only
      rw [p_Counts_grown_old, el, cnt_8 s (lost s s.last j x) h10, ← K4.cn]
      have eS : (({ s with queues := s.queues.set j ⟨x.weight, x.credit, x.items.take n ++ (x.items.drop n).filter (okI s)⟩ } : S).counted 8 (lost s s.last j x)) = remOld s j := by
        unfold remOld
        rw [hx, changed_set s.queues j _ x hx]
        show _ = ({ s with queues := s.queues.set j (freshQ s s.last j x) } : S).counted 8 (lost s s.last j x)
        unfold freshQ
        rw [ef]
      have R5 : EndAt C (upd H4 e4.cn (HO.ins C.Counts dc4 (fC (s.counted 8 (lost s s.last j x))))) e4 (remOld s j) := by
        rw [← eS]
        exact R4.count (k := 8) (n := lost s s.last j x) (dc := dc4)
      exact k e4 _ R5 (((Kept.same sm2).trans K4).trans (kept_upd mt_cn))
end
def sp_End_pass_time (K : PySem.W.Frag) (C : Cs) : Sp := fun vs H Q _ => ∃ (e : EA) (s : S) (now : Nat), vs = [.ref e.p, .int now] ∧ EndAt C H e s ∧ Good s ∧ s.last ≤ now ∧
  ∀ e' H', EndAt C H' e' (s.tick now) → Kept e e' H H' → Q .non H'
theorem fresh_first {s : S} {now q : Nat} {l : List Item} {i : Item} {r : List Item} (h : s.handed = some q) (hl : l = i :: r) : ∃ r', s.fresh now q l = i :: r' := by
  unfold Sf82.S.fresh
  subst hl
  by_cases h0 : s.life = 0
  · rw [if_pos h0]; exact ⟨r, rfl⟩
  · rw [if_neg h0]
    dsimp only
    rw [if_pos (Or.inl h)]
    exact ⟨_, rfl⟩
theorem out_part {s : S} (g : Good s) (now i : Nat) : OutOk (part s now i) := by
  refine ⟨fun q hq => ?_⟩
  have hq : s.handed = some q := hq
  obtain ⟨e, x, it, r, hx, hi, _⟩ := g.out q hq
  refine ⟨e, ?_⟩
  show ∃ x i_1 r, (partQ s now i)[q]? = some x ∧ x.items = i_1 :: r
  rw [partQ_get, hx]
  by_cases h : q < i
  · obtain ⟨r', hr⟩ := fresh_first (now := now) hq hi
    exact ⟨freshQ s now q x, it, r', by simp [h], hr⟩
  · exact ⟨x, it, r, by simp [h], hi⟩
theorem few_part {s : S} (g : Good s) (now i : Nat) : ∀ x ∈ (part s now i).queues, x.items.length ≤ 64 := by
  intro x hx
  obtain ⟨j, hj⟩ := List.getElem?_of_mem hx
  have hj : (partQ s now i)[j]? = some x := hj
  rw [partQ_get] at hj
  cases hy : s.queues[j]? with
  | none => rw [hy] at hj; cases hj
  | some y =>
    rw [hy] at hj
    have e : (if j < i then freshQ s now j y else y) = x := Option.some.inj hj
    have h1 := (g.at_ hy).few
    have h2 := g.e64
    subst e
    split
    · have := fresh_le s now j y.items
      show (s.fresh now j y.items).length ≤ 64
      omega
    · omega
section
variable {P : Program} {w : World} {K : PySem.W.Frag} {mg : Str → Option Value} {base : Heap} {C : Cs}
theorem ok_End_pass_time {f : Addr} {fd : FuncData} (F : Fun K "pass_time" "End.pass_time" s_End_pass_time f fd) (T : Txt K mg C) (u_End_remove_old : MethOk P w K mg base 3 C.End "remove_old" ps_End_remove_old (sp_End_remove_old K C)) : FnOk P w K mg base CX0 4 f fd ps_End_pass_time (sp_End_pass_time K C) := by
  refine F.ok sc_End_pass_time (fun vs H Q E h => ?_) (fun cdv A outer s H vs Q E hr h => ?_)
  · obtain ⟨e, s, now, rfl, _⟩ := h
    rfl
  · obtain ⟨e, s, now, rfl, R, g, hnow, k⟩ := h
    obtain ⟨dx, hp⟩ := R.ob
    have hrate := g.rate
    refine ⟨_, (pss_cons (ps_set (i := 2) sc_End_pass_time.nd rfl (by first | exact Or.inl rfl | exact Or.inr rfl) (pe_op op_mul (pe_fld (pv 0) rfl) (pe_op op_sub (pv 1) (pe_fld (pv 0) rfl)))) (pss_cons (ps_fld (pv 0) (pv 1) rfl) (pss_cons (ps_fld (pv 0) (pe_callB (call_min2 rfl) (by rfl) T.b_min (show bootBuiltins "min" = some (.builtin "min") by decide +kernel) (pa_cons (pe_fld (pv 0) rfl) (pa_cons (pe_op op_add (pe_fld (pv 0) rfl) (pv 2)) pa_nil))) rfl) (pss_one (ps_if (pt_cmpR op_gt (pe_fld (pv 0) rfl) pe_int (nomark _)) (pss_one (ps_for PassesOwn.never rfl (pi_range1 rfl T.b_range (pa_cons (pe_callB call_len_seq (by rfl) T.b_len (show bootBuiltins "len" = some (.builtin "len") by decide +kernel) (pa_cons (pe_fld (pv 0) rfl) pa_nil)) pa_nil)) (pg_name (i := 3) sc_End_pass_time.nd rfl (by first | exact Or.inl rfl | exact Or.inr rfl)) (pss_one (ps_expr (pe_mth (pv 0) T.c_End u_End_remove_old hr (by decide) (pa_cons (pv 3) pa_nil)))))) pss_nil))))), ?_⟩
    refine ⟨_, rfl, e.p, C.End, dx, _, _, rfl, hp, T.c_End, T.n_End_pace, l_End_pace, _, rfl, _, rfl, e.p, C.End, dx, _, _, rfl, hp, T.c_End, T.n_End_now, l_End_now, _, _, rfl, rfl, _, _, rfl, rfl, .inl ⟨by omega, by omega⟩, ?_⟩
    refine ⟨_, rfl, _, rfl, e.p, C.End, dx, _, rfl, hp, T.c_End, T.n_End_now, z_End, ?_⟩
    rw [p_End_now]
    refine ⟨_, rfl, e.p, C.End, dx, _, _, rfl, upd_same, T.c_End, T.n_End_most_may_go, l_End_most_may_go, _, rfl, e.p, C.End, dx, _, _, rfl, upd_same, T.c_End, T.n_End_may_go, l_End_may_go, _, rfl, _, _, rfl, rfl, _, _, rfl, _, rfl, e.p, C.End, dx, _, rfl, upd_same, T.c_End, T.n_End_may_go, z_End, ?_⟩
    rw [p_End_may_go, upd_upd]
    have em : (if (s.may : Int) + (s.rate : Int) * ((now : Int) - (s.last : Int)) < ((1000 * s.burst : Nat) : Int) then (s.may : Int) + (s.rate : Int) * ((now : Int) - (s.last : Int)) else ((1000 * s.burst : Nat) : Int)) = (((later s now).may : Nat) : Int) := by
      show _ = ((min (1000 * s.burst) (s.may + s.rate * (now - s.last)) : Nat) : Int)
      have e1 : (s.rate : Int) * ((now : Int) - (s.last : Int)) = ((s.rate * (now - s.last) : Nat) : Int) := by
        push_cast
        rw [Int.natCast_sub hnow]
      rw [e1]
      split <;> omega
    dsimp only
    rw [em]
    generalize hH1 : upd H e.p _ = H1
    have R1 : EndAt C H1 e (later s now) := by rw [← hH1]; exact R.updP (dx := dx) (s' := later s now) rfl rfl rfl rfl rfl rfl
    have K1 : Kept e e H H1 := by rw [← hH1]; exact kept_upd mt_p
    obtain ⟨d1, hp1⟩ := R1.ob
    refine ⟨_, rfl, e.p, C.End, d1, _, _, rfl, hp1, T.c_End, T.n_End_life, l_End_life, _, _, rfl, rfl, _, rfl, ite2 (fun h1 => ?_) (fun h1 => ?_)⟩
    · have hl : s.life ≠ 0 := by
        have h1 : (0 : Int) < ((later s now).life : Int) := of_decide_eq_true h1
        have e0 : (later s now).life = s.life := rfl
        omega
      have hlen := R1.len
      have h8 := g.n8
      have e9 : (later s now).queues.length = s.queues.length := rfl
      refine ⟨_, rfl, e.p, C.End, d1, _, _, rfl, hp1, T.c_End, T.n_End_queues, l_End_queues, e.lq, _, rfl, .inl (SqL.of R1.lq), _, rfl, ?_, ?_, ?_⟩
      · rw [List.length_map]; omega
      · rw [List.length_map]; omega
      have eL : (((e.qs.map fun (q : QA) => V.ref q.o).length : Nat) : Int).toNat = s.queues.length := by rw [List.length_map]; omega
      rw [eL]
      refine for_range (n := s.queues.length) (fun i σ H2 => ∃ (e2 : EA) (v : Option V), σ = [some (.ref e2.p), some (.int now), some (.int ((s.rate : Int) * ((now : Int) - (s.last : Int)))), v] ∧ EndAt C H2 e2 (part s now i) ∧ Kept e e2 H H2) ⟨e, none, rfl, by rw [part_zero]; exact R1, K1⟩ ?_ ?_
      · rintro i σ H2 hi ⟨e2, v, rfl, R2, K2⟩
        obtain ⟨d2, hp2⟩ := R2.ob
        refine ⟨_, rfl, e2.p, d2, _, rfl, hp2, m_End_remove_old, _, rfl, e2, part s now i, i, ?_, R2, ?_, hl, out_part g now i, ?_, few_part g now i, fun e3 H3 R3 K3 => ?_⟩
        · show [V.ref e2.p, V.int (0 + (i : Int))] = _
          rw [Int.zero_add]
        · show i < (partQ s now i).length
          rw [partQ_length]; exact hi
        · show ((later s now).counted 8 _).count.length = 10
          rw [count_length]; exact g.cnt
        · rw [part_step hi] at R3
          exact ⟨e3, some (.int (0 + (i : Int))), by rw [K3.p]; rfl, R3, K2.trans K3⟩
      · rintro σ H2 ⟨e2, v, rfl, R2, K2⟩
        rw [part_all] at R2
        exact k e2 H2 R2 K2
    · have hl : s.life = 0 := by
        have h1 : ¬ ((0 : Int) < ((later s now).life : Int)) := fun z => h1 (decide_eq_true z)
        have e0 : (later s now).life = s.life := rfl
        omega
      rw [tick_life0 s now hl] at k
      exact k e H1 R1 K1
end
end FL
end
section
namespace FL
open PySem L2
open Sf82 (Bytes Item Queue S does says nums EVERYBODY number)
open Sf82Neutral (listOf)
/-! ### what a call tells -/
def Tells (C : Cs) (e : EA) (H : Hp) (s' : S) (z : List Int) (Q : VK) : Prop := ∀ e' H' r, EndAt C H' e' s' → Kept e e' H H' → H r = none → H' r = some (.lst (vi z)) → Q (.ref r) H'
theorem Tells.ret {C : Cs} {e e' : EA} {H H' : Hp} {s' : S} {z : Int} {Q : VK} (k : Tells C e H s' [z] Q) (R : EndAt C H' e' s') (K : Kept e e' H H') : ([V.int z] : List V).length ≤ sizeLine ∧ ∀ p, H' p = none → Q (.ref p) (upd H' p (.lst [V.int z])) :=
  ⟨by show 1 ≤ sizeLine; decide, fun p np => k e' _ p (R.same (same_upd np)) (K.trans (Kept.same (same_upd np))) (K.live p np) upd_same⟩
theorem everybody_nb (t : Bytes) : nb t = [255, 255, 255, 255, 255, 255] ↔ t = EVERYBODY := by
  constructor
  · intro h
    exact nb_inj (h.trans rfl)
  · intro h
    rw [h]
    rfl
theorem contains_nb (gs : List Bytes) (t : Bytes) : (gs.map nb).contains (nb t) = gs.contains t := by
  induction gs with
  | nil => rfl
  | cons g r ih =>
    rw [List.map_cons, List.contains_cons, List.contains_cons, ih]
    congr 1
    by_cases h : t = g
    · subst h; simp
    · rw [show (nb t == nb g) = false from beq_eq_false_iff_ne.mpr fun z => h (nb_inj z), show (t == g) = false from beq_eq_false_iff_ne.mpr h]
theorem gsAt_of {K : PySem.W.Frag} {H : Hp} : ∀ {as : List Addr} {gs : List Bytes}, Paired (fun a g => H a = some (.lst (vi (nb g)))) as gs → GsAt K H as (gs.map nb)
  | _, _, .nil => .nil
  | _, _, .cons r t => .cons (SqL.of r) (gsAt_of t)
theorem first_at {α : Type} [BEq α] [LawfulBEq α] : ∀ {l : List α} {x : α}, l.contains x = true → ∃ j, l[j]? = some x ∧ (∀ m, m < j → l[m]? ≠ some x) ∧ l.erase x = l.eraseIdx j
  | [], x, h => by simp at h
  | a :: l, x, h => by
    by_cases e : a = x
    · subst e
      exact ⟨0, rfl, fun m hm => absurd hm (Nat.not_lt_zero _), by simp⟩
    · have h : l.contains x = true := by
        rw [List.contains_cons] at h
        rcases Bool.or_eq_true_iff.mp h with z | z
        · exact absurd (eq_of_beq z).symm e
        · exact z
      obtain ⟨j, h1, h2, h3⟩ := first_at h
      refine ⟨j + 1, h1, fun m hm => ?_, ?_⟩
      · cases m with
        | zero => exact fun z => e (Option.some.inj z)
        | succ m => exact h2 m (by omega)
      · rw [List.erase_cons, if_neg (by simpa using e), h3]
        rfl
theorem paired_erase {α β : Type} {F : α → β → Prop} : ∀ (n : Nat) {l : List α} {m : List β}, Paired F l m → Paired F (l.eraseIdx n) (m.eraseIdx n)
  | _, _, _, .nil => .nil
  | 0, _, _, .cons r t => t
  | n + 1, _, _, .cons r t => .cons r (paired_erase n t)
def hearsB (s : S) (t : Bytes) : Bool := decide (s.all = true ∨ t = s.me ∨ t = EVERYBODY ∨ s.groups.contains t = true)
def sp_End_hears (K : PySem.W.Frag) (C : Cs) : Sp := fun vs H Q _ => ∃ (e : EA) (s : S) (a : Addr) (t : Bytes), vs = [.ref e.p, .ref a] ∧ EndAt C H e s ∧ SqL K H a (vi (nb t)) ∧ ∀ H', Same H H' → Q (.bl (hearsB s t)) H'
def sp_End_set_weight (K : PySem.W.Frag) (C : Cs) : Sp := fun vs H Q _ => ∃ (e : EA) (s : S) (q w : Int), vs = [.ref e.p, .int q, .int w] ∧ EndAt C H e s ∧ Tells C e H (does s (.weight q w)).1 (listOf (does s (.weight q w)).2) Q
def sp_End_join_group (K : PySem.W.Frag) (C : Cs) : Sp := fun vs H Q _ => ∃ (e : EA) (s : S) (a : Addr) (g : Bytes) (H0 : Hp), vs = [.ref e.p, .ref a] ∧ EndAt C H e s ∧ Good s ∧ H a = some (.lst (vi (nb g))) ∧ ¬ ML e a ∧ Same H0 H ∧ H0 a = none ∧ Tells C e H0 (does s (.join g)).1 (listOf (does s (.join g)).2) Q
def sp_End_leave_group (K : PySem.W.Frag) (C : Cs) : Sp := fun vs H Q _ => ∃ (e : EA) (s : S) (a : Addr) (g : Bytes), vs = [.ref e.p, .ref a] ∧ EndAt C H e s ∧ Good s ∧ H a = some (.lst (vi (nb g))) ∧ Tells C e H (does s (.leave g)).1 (listOf (does s (.leave g)).2) Q
def sp_End_hear (K : PySem.W.Frag) (C : Cs) : Sp := fun vs H Q _ => ∃ (e : EA) (s : S) (c : Int), vs = [.ref e.p, .int c] ∧ EndAt C H e s ∧ Good s ∧ Tells C e H (does s (.hear c)).1 (listOf (does s (.hear c)).2) Q
def sp_End_came (K : PySem.W.Frag) (C : Cs) : Sp := fun vs H Q _ => ∃ (e : EA) (s : S) (a : Addr) (b : Bytes), vs = [.ref e.p, .ref a] ∧ EndAt C H e s ∧ Good s ∧ H a = some (.lst (vi (nb b))) ∧ Tells C e H (does s (.came b)).1 (listOf (does s (.came b)).2) Q
section
variable {P : Program} {w : World} {K : PySem.W.Frag} {mg : Str → Option Value} {base : Heap} {C : Cs}
theorem ok_End_hears {f : Addr} {fd : FuncData} (F : Fun K "hears" "End.hears" s_End_hears f fd) (T : Txt K mg C) (u_is_everybody : DefOk P w K mg base 1 "is_everybody" ps_is_everybody (sp_is_everybody K C)) : FnOk P w K mg base CX0 2 f fd ps_End_hears (sp_End_hears K C) := by
  refine F.ok sc_End_hears (fun vs H Q E h => ?_) (fun cdv A outer s H vs Q E hr h => ?_)
  · obtain ⟨e, s, a, t, rfl, _⟩ := h
    rfl
  · obtain ⟨e, s, a, t, rfl, R, ha, k⟩ := h
    obtain ⟨dx, hp⟩ := R.ob
    refine ⟨_, (pss_one (ps_ret (pe_or (pe_fld (pv 0) rfl) (pe_or (pe_cmpR (op_eqD (hu64 hr)) (pv 1) (pe_fld (pv 0) rfl) (nomark _)) (pe_or (pe_def u_is_everybody hr (by decide) rfl (pa_cons (pv 1) pa_nil)) (pe_one (pe_cmpR (op_inD (hu64 hr)) (pv 1) (pe_fld (pv 0) rfl) rfl))))))), ?_⟩
    refine ⟨_, rfl, e.p, C.End, dx, _, _, rfl, hp, T.c_End, T.n_End_hears_all, l_End_hears_all, _, rfl, ?_⟩
    cases hal : s.all with
    | true =>
      have e1 : hearsB s t = true := decide_eq_true (.inl hal)
      rw [e1] at k
      exact iteT (k H (Same.refl H))
    | false =>
    have hal' : ¬ s.all = true := by rw [hal]; simp
    refine iteF ⟨_, rfl, _, rfl, e.p, C.End, dx, _, _, rfl, hp, T.c_End, T.n_End_me, l_End_me, _, _, dp_ints (l := nb t) ha, dp_ints (l := nb s.me) (SqL.of R.me), shaped_ints _, shaped_ints _, _, rfl, ?_⟩
    rw [eqv_ints]
    refine ite2 (fun h1 => ?_) (fun h1 => ?_)
    · have h1 := nb_inj (of_decide_eq_true h1)
      have e1 : hearsB s t = true := decide_eq_true (.inr (.inl h1))
      rw [e1] at k
      exact k H (Same.refl H)
    · have h1 : ¬ t = s.me := fun z => h1 (decide_eq_true (by rw [z]))
      refine ⟨_, rfl, a, nb t, rfl, ha, fun H1 s1 => ⟨_, rfl, ?_⟩⟩
      refine ite2 (fun h2 => ?_) (fun h2 => ?_)
      · have h2 := (everybody_nb t).mp (of_decide_eq_true h2)
        have e1 : hearsB s t = true := decide_eq_true (.inr (.inr (.inl h2)))
        rw [e1] at k
        exact k H1 s1
      · have h2 : ¬ t = EVERYBODY := fun z => h2 (decide_eq_true ((everybody_nb t).mpr z))
        have R1 := R.same s1
        have hp1 := s1 _ _ hp
        refine ⟨_, rfl, _, rfl, e.p, C.End, dx, _, _, rfl, hp1, T.c_End, T.n_End_groups, l_End_groups, a, e.gl, nb t, e.gs, s.groups.map nb, rfl, rfl, s1.seq ha, SqL.of R1.gl, gsAt_of R1.gs, ?_⟩
        have e1 : hearsB s t = s.groups.contains t := by
          unfold hearsB
          by_cases hc : s.groups.contains t = true
          · rw [hc]; exact decide_eq_true (.inr (.inr (.inr rfl)))
          · rw [Bool.eq_false_iff.mpr hc]
            exact decide_eq_false fun z => z.elim hal' fun z => z.elim h1 fun z => z.elim h2 fun z => by cases z
        rw [if_neg (by decide), contains_nb, ← e1]
        exact k H1 s1
theorem ok_End_set_weight {f : Addr} {fd : FuncData} (F : Fun K "set_weight" "End.set_weight" s_End_set_weight f fd) (T : Txt K mg C) (u_End_has_queue : MethOk P w K mg base 1 C.End "has_queue" ps_End_has_queue (sp_End_has_queue K C)) : FnOk P w K mg base CX0 2 f fd ps_End_set_weight (sp_End_set_weight K C) := by
  refine F.ok sc_End_set_weight (fun vs H Q E h => ?_) (fun cdv A outer s H vs Q E hr h => ?_)
  · obtain ⟨e, s, q, w, rfl, _⟩ := h
    rfl
  · obtain ⟨e, s, q, w, rfl, R, k⟩ := h
    obtain ⟨dx, hp⟩ := R.ob
    refine ⟨_, (pss_cons (ps_if (PW.pt (pw_or (pt_not (pt_val (pe_mth (pv 0) T.c_End u_End_has_queue hr (by decide) (pa_cons (pv 1) pa_nil)))) (pw_or1 (pt_not (pt_chain op_le op_le pe_int (pv 2) (pe_gint rfl T.g_MOST_WEIGHT)))))) (pss_one (ps_ret (pe_lst (pa_cons (pe_gint rfl T.g_WRONG) pa_nil)))) pss_nil) (pss_cons (ps_fld (pe_ix ix_list (pe_fld (pv 0) rfl) (pv 1) (fun _ _ => rfl)) (pv 2) rfl) (pss_one (ps_ret (pe_lst (pa_cons pe_int pa_nil)))))), ?_⟩
    refine ⟨_, rfl, e.p, dx, _, rfl, hp, m_End_has_queue, _, rfl, e, s, q, rfl, R, _, rfl, ?_⟩
    cases hq : s.has q with
    | false =>
      have e1 : does s (.weight q w) = (s, says (-1)) := by simp only [does]; rw [if_pos (Or.inl hq)]
      rw [e1] at k
      exact iteT (iteT (k.ret R (Kept.refl e H)))
    | true =>
      refine iteF ?_
      by_cases hw : 1 ≤ w ∧ w ≤ 64
      · have e1 : does s (.weight q w) = (s.with_ q.toNat fun x => { x with weight := w.toNat }, says 0) := by
          simp only [does]
          have hw' : Sf82.within w 1 64 = true := by unfold Sf82.within; simp; omega
          rw [if_neg (by rw [hq, hw']; simp)]
        rw [e1] at k
        refine ⟨_, rfl, _, _, rfl, rfl, _, rfl, itP hw.1 ⟨_, _, rfl, rfl, _, rfl, itnP hw.2 ?_⟩⟩
        obtain ⟨x, hx, h0⟩ := has_lt hq
        obtain ⟨qa, dq, hqa, r, ro, hat⟩ := R.queue_at hx
        refine ⟨_, rfl, _, rfl, e.p, C.End, dx, _, _, rfl, hp, T.c_End, T.n_End_queues, l_End_queues, _, rfl, e.lq, _, _, _, rfl, rfl, SqL.of R.lq, by rw [show q = ((q.toNat : Nat) : Int) by omega]; exact hat, qa.o, C.Queue, dq, _, rfl, ro, T.c_Queue, T.n_Queue_weight, z_Queue, ?_⟩
        rw [p_Queue_weight, show w = ((w.toNat : Nat) : Int) by omega]
        have R1 := R.setW (dq := dq) hqa hx w.toNat
        have eS : ({ s with queues := s.queues.set q.toNat ⟨w.toNat, x.credit, x.items⟩ } : S) = s.with_ q.toNat fun x => { x with weight := w.toNat } := by
          unfold Sf82.S.with_
          rw [changed_set s.queues q.toNat _ x hx]
        rw [eS] at R1
        exact k.ret R1 (kept_upd (mt_o hqa))
      · have e1 : does s (.weight q w) = (s, says (-1)) := by
          simp only [does]
          have hw' : Sf82.within w 1 64 = false := by
            unfold Sf82.within
            rw [Bool.and_eq_false_iff]
            by_cases h1 : 1 ≤ w
            · right; exact decide_eq_false fun z => hw ⟨h1, z⟩
            · left; exact decide_eq_false h1
          rw [if_pos (Or.inr hw')]
        rw [e1] at k
        by_cases h1 : 1 ≤ w
        · exact ⟨_, rfl, _, _, rfl, rfl, _, rfl, itP h1 ⟨_, _, rfl, rfl, _, rfl, itnN (fun z => hw ⟨h1, z⟩) (k.ret R (Kept.refl e H))⟩⟩
        · exact ⟨_, rfl, _, _, rfl, rfl, _, rfl, itN h1 ⟨_, rfl, iteT (k.ret R (Kept.refl e H))⟩⟩
theorem ok_End_join_group {f : Addr} {fd : FuncData} (F : Fun K "join_group" "End.join_group" s_End_join_group f fd) (T : Txt K mg C) (u_is_address : DefOk P w K mg base 1 "is_address" ps_is_address (sp_is_address K C)) : FnOk P w K mg base CX0 2 f fd ps_End_join_group (sp_End_join_group K C) := by
  refine F.ok sc_End_join_group (fun vs H Q E h => ?_) (fun cdv A outer s H vs Q E hr h => ?_)
  · obtain ⟨e, s, a, g, H0, rfl, _⟩ := h
    rfl
  · obtain ⟨e, s, a, g, H0, rfl, R, G, ha, nm, s0, na0, k⟩ := h
    obtain ⟨dx, hp⟩ := R.ob
    have hz := sizeLine_eq
    refine ⟨_, (pss_cons (ps_if (pt_not (pt_val (pe_def u_is_address hr (by decide) rfl (pa_cons (pv 1) pa_nil)))) (pss_one (ps_ret (pe_lst (pa_cons (pe_gint rfl T.g_WRONG) pa_nil)))) pss_nil) (pss_cons (ps_if (pt_cmpR (op_inD (hu64 hr)) (pv 1) (pe_fld (pv 0) rfl) rfl) (pss_one (ps_ret (pe_lst (pa_cons pe_int pa_nil)))) pss_nil) (pss_cons (ps_if (pt_cmpR op_ge (pe_callB call_len_seq (by rfl) T.b_len (show bootBuiltins "len" = some (.builtin "len") by decide +kernel) (pa_cons (pe_fld (pv 0) rfl) pa_nil)) (pe_gint rfl T.g_MOST_GROUPS) (nomark _)) (pss_one (ps_ret (pe_lst (pa_cons (pe_gint rfl T.g_FULL) pa_nil)))) pss_nil) (pss_cons (ps_expr (pe_bm PySem.F.plainAttrs_list PySem.F.slot_list_append PySem.F.type_list_append mt_append (pe_fld (pv 0) rfl) (pa_cons (pv 1) pa_nil))) (pss_one (ps_ret (pe_lst (pa_cons pe_int pa_nil)))))))), ?_⟩
    refine ⟨_, rfl, a, _, rfl, SqL.of ha, _, rfl, ?_⟩
    rw [vnb_length]
    by_cases h6 : g.length = 6
    · refine itnP h6 ?_
      refine ⟨_, rfl, _, rfl, e.p, C.End, dx, _, _, rfl, hp, T.c_End, T.n_End_groups, l_End_groups, a, e.gl, nb g, e.gs, s.groups.map nb, rfl, rfl, SqL.of ha, SqL.of R.gl, gsAt_of R.gs, _, rfl, ?_⟩
      rw [if_neg (by decide), contains_nb]
      cases hc : s.groups.contains g with
      | true =>
        have e1 : does s (.join g) = (s, says 0) := by simp only [does]; rw [if_neg (fun z => z.elim G.open_ fun z => z h6), if_pos hc]
        rw [e1] at k
        exact iteT (k.ret R (Kept.same s0))
      | false =>
        refine iteF ?_
        have hlen := paired_len R.gs
        have h16' := G.gs
        refine ⟨_, rfl, e.p, C.End, dx, _, _, rfl, hp, T.c_End, T.n_End_groups, l_End_groups, e.gl, _, rfl, .inl (SqL.of R.gl), _, _, rfl, rfl, _, rfl, ?_⟩
        by_cases h16 : 16 ≤ s.groups.length
        · have e1 : does s (.join g) = (s, says (-5)) := by simp only [does]; rw [if_neg (fun z => z.elim G.open_ fun z => z h6), if_neg (by rw [hc]; simp), if_pos h16]
          rw [e1] at k
          exact itP (by rw [List.length_map]; omega) (k.ret R (Kept.same s0))
        · have e1 : does s (.join g) = ({ s with groups := s.groups ++ [g] }, says 0) := by simp only [does]; rw [if_neg (fun z => z.elim G.open_ fun z => z h6), if_neg (by rw [hc]; simp), if_neg h16]
          rw [e1] at k
          refine itN (by rw [List.length_map]; omega) ?_
          refine ⟨_, rfl, e.p, C.End, dx, _, _, rfl, hp, T.c_End, T.n_End_groups, l_End_groups, .inl ⟨rfl, _, SqL.of R.gl⟩, _, rfl, e.gl, _, _, rfl, rfl, R.gl, by rw [List.length_map]; omega, ?_⟩
          have nag : a ≠ e.gl := fun z => nm (.inl z)
          have k1 : ∀ b o, b ≠ e.gl → H b = some o → upd H e.gl (.lst (e.gs.map V.ref ++ [V.ref a])) b = some o := fun b o hb z => by rw [upd_ne hb]; exact z
          have R1 := R.setG (H' := upd H e.gl (.lst (e.gs.map V.ref ++ [V.ref a]))) (gs' := e.gs ++ [a]) (gv := s.groups ++ [g]) (by rw [List.map_append]; exact upd_same) k1
            (paired_append (paired_mem R.gs fun b x m r => k1 _ _ (fun z => R.dM _ (.inl rfl) (.inr (.inr (.inl (by rw [← z]; exact m))))) r) (.cons (k1 _ _ nag ha) .nil))
            fun b hb => by
              rcases List.mem_append.mp hb with z | z
              · exact .inl z
              · rw [List.mem_singleton.mp z]
                exact .inr nm
          refine k.ret R1 ⟨rfl, rfl, fun b o hb n => k1 b o (fun z => n (by rw [z]; exact mt_gl)) (s0 _ _ hb), fun b m => .inl m, fun b m => ?_, fun b hb => ?_⟩
          · rcases m with z | z | z | z
            · exact .inl (.inl z)
            · exact .inl (.inr (.inl z))
            · rcases List.mem_append.mp z with z | z
              · exact .inl (.inr (.inr (.inl z)))
              · rw [List.mem_singleton.mp z]
                exact .inr na0
            · exact .inl (.inr (.inr (.inr z)))
          · by_cases z : b = e.gl
            · rw [z, upd_same] at hb; cases hb
            · rw [upd_ne z] at hb; exact s0.free hb
    · have e1 : does s (.join g) = (s, says (-1)) := by simp only [does]; rw [if_pos (Or.inr h6)]
      rw [e1] at k
      exact itnN h6 (k.ret R (Kept.same s0))
theorem ok_End_leave_group {f : Addr} {fd : FuncData} (F : Fun K "leave_group" "End.leave_group" s_End_leave_group f fd) (T : Txt K mg C) (u_is_address : DefOk P w K mg base 1 "is_address" ps_is_address (sp_is_address K C)) : FnOk P w K mg base CX0 2 f fd ps_End_leave_group (sp_End_leave_group K C) := by
  refine F.ok sc_End_leave_group (fun vs H Q E h => ?_) (fun cdv A outer s H vs Q E hr h => ?_)
  · obtain ⟨e, s, a, g, rfl, _⟩ := h
    rfl
  · obtain ⟨e, s, a, g, rfl, R, G, ha, k⟩ := h
    obtain ⟨dx, hp⟩ := R.ob
    refine ⟨_, (pss_cons (ps_if (pt_not (pt_val (pe_def u_is_address hr (by decide) rfl (pa_cons (pv 1) pa_nil)))) (pss_one (ps_ret (pe_lst (pa_cons (pe_gint rfl T.g_WRONG) pa_nil)))) pss_nil) (pss_cons (ps_if (pt_cmpR (op_notInD (hu64 hr)) (pv 1) (pe_fld (pv 0) rfl) rfl) (pss_one (ps_ret (pe_lst (pa_cons (pe_gint rfl T.g_NOT_THERE) pa_nil)))) pss_nil) (pss_cons (ps_expr (pe_bm PySem.F.plainAttrs_list PySem.F.slot_list_remove PySem.F.type_list_remove (mt_removeD (hu64 hr)) (pe_fld (pv 0) rfl) (pa_cons (pv 1) pa_nil))) (pss_one (ps_ret (pe_lst (pa_cons pe_int pa_nil))))))), ?_⟩
    refine ⟨_, rfl, a, _, rfl, SqL.of ha, _, rfl, ?_⟩
    rw [vnb_length]
    by_cases h6 : g.length = 6
    · refine itnP h6 ?_
      refine ⟨_, rfl, _, rfl, e.p, C.End, dx, _, _, rfl, hp, T.c_End, T.n_End_groups, l_End_groups, a, e.gl, nb g, e.gs, s.groups.map nb, rfl, rfl, SqL.of ha, SqL.of R.gl, gsAt_of R.gs, _, rfl, ?_⟩
      rw [if_pos rfl, contains_nb]
      cases hc : s.groups.contains g with
      | false =>
        have e1 : does s (.leave g) = (s, says (-2)) := by simp only [does]; rw [if_neg (fun z => z.elim G.open_ fun z => z h6), if_pos hc]
        rw [e1] at k
        exact iteT (k.ret R (Kept.refl e H))
      | true =>
        refine iteF ?_
        have e1 : does s (.leave g) = ({ s with groups := s.groups.erase g }, says 0) := by simp only [does]; rw [if_neg (fun z => z.elim G.open_ fun z => z h6), if_neg (by rw [hc]; simp)]
        rw [e1] at k
        obtain ⟨j, h1, h2, h3⟩ := first_at hc
        refine ⟨_, rfl, e.p, C.End, dx, _, _, rfl, hp, T.c_End, T.n_End_groups, l_End_groups, .inl ⟨rfl, _, SqL.of R.gl⟩, _, rfl, e.gl, a, nb g, e.gs, s.groups.map nb, j, rfl, rfl, SqL.of ha, R.gl, gsAt_of R.gs, by rw [List.getElem?_map, h1]; rfl, fun m hm z => ?_, ?_⟩
        · rw [List.getElem?_map] at z
          cases hg : s.groups[m]? with
          | none => rw [hg] at z; cases z
          | some y =>
            rw [hg] at z
            exact h2 m hm (by rw [hg, nb_inj (Option.some.inj z)])
        have k1 : ∀ b o, b ≠ e.gl → H b = some o → upd H e.gl (.lst ((e.gs.eraseIdx j).map V.ref)) b = some o := fun b o hb z => by rw [upd_ne hb]; exact z
        have R1 := R.setG (H' := upd H e.gl (.lst ((e.gs.eraseIdx j).map V.ref))) (gs' := e.gs.eraseIdx j) (gv := s.groups.eraseIdx j) upd_same k1
          (paired_erase j (paired_mem R.gs fun b x m r => k1 _ _ (fun z => R.dM _ (.inl rfl) (.inr (.inr (.inl (by rw [← z]; exact m))))) r))
          fun b hb => .inl (List.mem_of_mem_eraseIdx hb)
        rw [← h3] at R1
        refine k.ret R1 ⟨rfl, rfl, fun b o hb n => k1 b o (fun z => n (by rw [z]; exact mt_gl)) hb, fun b m => .inl m, fun b m => ?_, fun b hb => ?_⟩
        · rcases m with z | z | z | z
          · exact .inl (.inl z)
          · exact .inl (.inr (.inl z))
          · exact .inl (.inr (.inr (.inl (List.mem_of_mem_eraseIdx z))))
          · exact .inl (.inr (.inr (.inr z)))
        · by_cases z : b = e.gl
          · rw [z, upd_same] at hb; cases hb
          · rw [upd_ne z] at hb; exact hb
    · have e1 : does s (.leave g) = (s, says (-1)) := by simp only [does]; rw [if_pos (Or.inr h6)]
      rw [e1] at k
      exact itnN h6 (k.ret R (Kept.refl e H))
theorem ok_End_hear {f : Addr} {fd : FuncData} (F : Fun K "hear" "End.hear" s_End_hear f fd) (T : Txt K mg C)  : FnOk P w K mg base CX0 1 f fd ps_End_hear (sp_End_hear K C) := by
  refine F.ok sc_End_hear (fun vs H Q E h => ?_) (fun cdv A outer s H vs Q E hr h => ?_)
  · obtain ⟨e, s, c, rfl, _⟩ := h
    rfl
  · obtain ⟨e, s, c, rfl, R, G, k⟩ := h
    obtain ⟨dx, hp⟩ := R.ob
    refine ⟨_, (pss_cons (ps_if (pt_not (pt_chain op_le op_le pe_int (pv 1) pe_int)) (pss_one (ps_ret (pe_lst (pa_cons (pe_gint rfl T.g_WRONG) pa_nil)))) pss_nil) (pss_cons (ps_fld (pv 0) (pe_cmpR op_eq (pv 1) pe_int (nomark _)) rfl) (pss_one (ps_ret (pe_lst (pa_cons pe_int pa_nil)))))), ?_⟩
    by_cases hc : 0 ≤ c ∧ c ≤ 1
    case neg =>
      have hw : Sf82.within c 0 1 = false := by
        unfold Sf82.within
        rw [Bool.and_eq_false_iff]
        by_cases h1 : 0 ≤ c
        · right; exact decide_eq_false fun z => hc ⟨h1, z⟩
        · left; exact decide_eq_false h1
      have e1 : does s (.hear c) = (s, says (-1)) := by simp only [does]; rw [if_pos (Or.inr hw)]
      rw [e1] at k
      by_cases h1 : 0 ≤ c
      · exact ⟨_, rfl, _, _, rfl, rfl, _, rfl, itP h1 ⟨_, _, rfl, rfl, _, rfl, itnN (fun z => hc ⟨h1, z⟩) (k.ret R (Kept.refl e H))⟩⟩
      · exact ⟨_, rfl, _, _, rfl, rfl, _, rfl, itN h1 ⟨_, rfl, iteT (k.ret R (Kept.refl e H))⟩⟩
    have hw : Sf82.within c 0 1 = true := by unfold Sf82.within; simp; omega
    have e1 : does s (.hear c) = ({ s with all := c == 1 }, says 0) := by
      simp only [does]
      rw [if_neg (fun z => z.elim G.open_ fun z => by rw [hw] at z; cases z)]
    rw [e1] at k
    refine ⟨_, rfl, _, _, rfl, rfl, _, rfl, itP hc.1 ⟨_, _, rfl, rfl, _, rfl, itnP hc.2 ?_⟩⟩
    refine ⟨_, rfl, rfl, _, rfl, e.p, C.End, dx, _, rfl, hp, T.c_End, T.n_End_hears_all, z_End, ?_⟩
    rw [p_End_hears_all]
    have eb : decide (V.int c = V.int 1) = (c == 1) := by
      by_cases z : c = 1
      · subst z; rfl
      · rw [decide_eq_false (fun q => z (int_iff.mp q)), beq_eq_false_iff_ne.mpr z]
    rw [eb]
    exact k.ret (R.updP (dx := dx) (s' := { s with all := c == 1 }) rfl rfl rfl rfl rfl rfl) (kept_upd mt_p)
end
end FL
end
section
namespace FL
open PySem L2
open Sf82 (Bytes Item Queue S does says nums EVERYBODY number)
open Sf82Neutral (listOf)
section
variable {P : Program} {w : World} {K : PySem.W.Frag} {mg : Str → Option Value} {base : Heap} {C : Cs}
theorem ok_End_came {f : Addr} {fd : FuncData} (F : Fun K "came" "End.came" s_End_came f fd) (T : Txt K mg C) (u_is_frame : DefOk P w K mg base 2 "is_frame" ps_is_frame (sp_is_frame K C)) (u_to_of : DefOk P w K mg base 1 "to_of" ps_to_of (sp_to_of K C)) (u_End_hears : MethOk P w K mg base 2 C.End "hears" ps_End_hears (sp_End_hears K C)) (u_sender_of : DefOk P w K mg base 1 "sender_of" ps_sender_of (sp_sender_of K C)) (u_kind_of : DefOk P w K mg base 2 "kind_of" ps_kind_of (sp_kind_of K C)) (u_body_of : DefOk P w K mg base 1 "body_of" ps_body_of (sp_body_of K C)) : FnOk P w K mg base CX0 3 f fd ps_End_came (sp_End_came K C) := by
  refine F.ok sc_End_came (fun vs H Q E h => ?_) (fun cdv A outer s H vs Q E hr h => ?_)
  · obtain ⟨e, s, a, b, rfl, _⟩ := h
    rfl
  · obtain ⟨e, s, a, b, rfl, R, G, ha, k⟩ := h
    obtain ⟨dx, hp⟩ := R.ob
    have hz := sizeLine_eq
    have h10 := G.cnt
    refine ⟨_, (pss_cons (ps_if (pt_not (pt_val (pe_def u_is_frame hr (by decide) rfl (pa_cons (pv 1) pa_nil)))) (pss_cons (ps_fldaug (pe_fld (pv 0) rfl) pe_int in_add) (pss_one (ps_ret (pe_lst (pa_cons (pe_gint rfl T.g_NO_FRAME) pa_nil))))) pss_nil) (pss_cons (ps_if (PW.pt (pw_or (pt_cmpR (op_eqD (hu64 hr)) (pe_def u_sender_of hr (by decide) rfl (pa_cons (pv 1) pa_nil)) (pe_fld (pv 0) rfl) (nomark _)) (pw_or1 (pt_not (pt_val (pe_mth (pv 0) T.c_End u_End_hears hr (by decide) (pa_cons (pe_def u_to_of hr (by decide) rfl (pa_cons (pv 1) pa_nil)) pa_nil))))))) (pss_cons (ps_fldaug (pe_fld (pv 0) rfl) pe_int in_add) (pss_one (ps_ret (pe_lst (pa_cons (pe_gint rfl T.g_NOT_FOR_HERE) pa_nil))))) pss_nil) (pss_cons (ps_fldaug (pe_fld (pv 0) rfl) pe_int in_add) (pss_cons (ps_fldaug (pe_fld (pv 0) rfl) (pe_callB call_len_seq (by rfl) T.b_len (show bootBuiltins "len" = some (.builtin "len") by decide +kernel) (pa_cons (pv 1) pa_nil)) in_add) (pss_one (ps_ret (pe_op op_cat (pe_op op_cat (pe_op op_cat (pe_lst (pa_cons (pe_gint rfl T.g_FOR_HERE) (pa_cons (pe_def u_kind_of hr (by decide) rfl (pa_cons (pv 1) pa_nil)) pa_nil))) (pe_def u_sender_of hr (by decide) rfl (pa_cons (pv 1) pa_nil))) (pe_def u_to_of hr (by decide) rfl (pa_cons (pv 1) pa_nil))) (pe_def u_body_of hr (by decide) rfl (pa_cons (pv 1) pa_nil))))))))), ?_⟩
    refine ⟨_, rfl, a, b, rfl, SqL.of ha, fun H1 s1 => ⟨_, rfl, ?_⟩⟩
    have R1 := R.same s1
    have hp1 := s1 _ _ hp
    obtain ⟨dc, hc1⟩ := R1.cn
    cases hr : Sf82.read b with
    | none =>
      have e1 : does s (.came b) = (s.counted 4 1, says (-3)) := by simp only [does]; rw [if_neg G.open_, hr]
      rw [e1] at k
      refine iteT ?_
      refine ⟨_, rfl, e.p, C.End, dx, _, _, rfl, hp1, T.c_End, T.n_End_counts, l_End_counts, e.cn, C.Counts, dc, _, _, rfl, hc1, T.c_Counts, T.n_Counts_no_frames, l_Counts_no_frames, _, _, rfl, rfl, dc, _, hc1, z_Counts, ?_⟩
      rw [p_Counts_no_frames, show (1 : Int) = ((1 : Nat) : Int) from rfl, cnt_4 s 1 h10]
      exact k.ret (R1.count (k := 4) (n := 1) (dc := dc)) ((Kept.same s1).trans (kept_upd mt_cn))
    | some f =>
      refine iteF ?_
      have hlen : 19 ≤ b.length ∧ b.length ≤ 1518 := Classical.byContradiction fun z => by rw [read_none z] at hr; cases hr
      have hf : f = ⟨b.take 6, (b.drop 6).take 6, number ((b.drop 12).take 2), (b.take (b.length - 4)).drop 14⟩ := by
        unfold Sf82.read at hr
        split at hr
        · cases hr
        · split at hr
          · exact (Option.some.inj hr).symm
          · cases hr
      have ha1 := s1 _ _ ha
      refine ⟨_, rfl, a, b, rfl, SqL.of ha1, by omega, fun l2 H2 N2 => ?_⟩
      have s2 := s1.trans N2.2.1
      have R2 := R.same s2
      have hp2 := s2 _ _ hp
      have ha2 := s2 _ _ ha
      refine ⟨_, rfl, e.p, C.End, dx, _, _, rfl, hp2, T.c_End, T.n_End_me, l_End_me, _, _, dp_ints (l := nb ((b.drop 6).take 6)) (SqL.of N2.2.2), dp_ints (l := nb s.me) (SqL.of R2.me), shaped_ints _, shaped_ints _, _, rfl, ?_⟩
      rw [eqv_ints]
      have hfr : f.from_ = (b.drop 6).take 6 := by rw [hf]
      have hto : f.to_ = b.take 6 := by rw [hf]
      have other : f.from_ = s.me ∨ hearsB s f.to_ = false → does s (.came b) = (s.counted 5 1, says 0) := fun z => by
        simp only [does]
        rw [if_neg G.open_, hr]
        dsimp only
        rw [if_neg]
        rintro ⟨z1, z2⟩
        rcases z with z | z
        · exact z1 z
        · have z := of_decide_eq_false z
          rcases z2 with z2 | z2 | z2 | z2
          · exact z (.inr (.inl z2))
          · exact z (.inr (.inr (.inl z2)))
          · exact z (.inr (.inr (.inr z2)))
          · exact z (.inl z2)
      have tellOther : ∀ (H5 : Hp) (σ : St), Same H H5 → σ = [some (.ref e.p), some (.ref a)] → (f.from_ = s.me ∨ hearsB s f.to_ = false) → ∃ (dc5 : Addr), H5 e.p = some (.ins C.End dx (fE e s)) ∧
          H5 e.cn = some (.ins C.Counts dc5 (fC s)) ∧
          (([V.int 0] : List V).length ≤ sizeLine ∧ ∀ p, upd H5 e.cn (.ins C.Counts dc5 (fC (s.counted 5 1))) p = none →
            Q (.ref p) (upd (upd H5 e.cn (.ins C.Counts dc5 (fC (s.counted 5 1)))) p (.lst [V.int 0]))) := fun H5 σ s5 _ z => by
        have R5 := R.same s5
        obtain ⟨dc5, hc5⟩ := R5.cn
        rw [other z] at k
        exact ⟨dc5, s5 _ _ hp, hc5, k.ret (R5.count (k := 5) (n := 1) (dc := dc5)) ((Kept.same s5).trans (kept_upd mt_cn))⟩
      by_cases hfrom : (b.drop 6).take 6 = s.me
      · refine itP (by rw [hfrom]) (iteT ?_)
        obtain ⟨dc5, hp5, hc5, fin⟩ := tellOther H2 _ s2 rfl (.inl (by rw [hfr]; exact hfrom))
        refine ⟨_, rfl, e.p, C.End, dx, _, _, rfl, hp5, T.c_End, T.n_End_counts, l_End_counts, e.cn, C.Counts, dc5, _, _, rfl, hc5, T.c_Counts, T.n_Counts_for_others, l_Counts_for_others, _, _, rfl, rfl, dc5, _, hc5, z_Counts, ?_⟩
        rw [p_Counts_for_others, show (1 : Int) = ((1 : Nat) : Int) from rfl, cnt_5 s 1 h10]
        exact fin
      · refine itN (fun z => hfrom (nb_inj z)) ?_
        refine ⟨_, rfl, e.p, dx, _, rfl, hp2, m_End_hears, _, rfl, a, b, rfl, SqL.of ha2, fun l3 H3 N3 => ?_⟩
        have s3 := s2.trans N3.2.1
        refine ⟨e, s, l3, b.take 6, rfl, R.same s3, SqL.of N3.2.2, fun H4 s34 => ⟨_, rfl, ?_⟩⟩
        have s4 := s3.trans s34
        cases hh : hearsB s (b.take 6) with
        | false =>
          refine iteT ?_
          obtain ⟨dc5, hp5, hc5, fin⟩ := tellOther H4 _ s4 rfl (.inr (by rw [hto]; exact hh))
          refine ⟨_, rfl, e.p, C.End, dx, _, _, rfl, hp5, T.c_End, T.n_End_counts, l_End_counts, e.cn, C.Counts, dc5, _, _, rfl, hc5, T.c_Counts, T.n_Counts_for_others, l_Counts_for_others, _, _, rfl, rfl, dc5, _, hc5, z_Counts, ?_⟩
          rw [p_Counts_for_others, show (1 : Int) = ((1 : Nat) : Int) from rfl, cnt_5 s 1 h10]
          exact fin
        | true =>
          refine iteF ?_
          have e1 : does s (.came b) = ((s.counted 2 1).counted 3 b.length, ⟨1, f.kind :: (nums f.from_ ++ (nums f.to_ ++ nums f.body))⟩) := by
            simp only [does]
            rw [if_neg G.open_, hr]
            dsimp only
            rw [if_pos]
            refine ⟨by rw [hfr]; exact hfrom, ?_⟩
            rw [hto]
            rcases of_decide_eq_true hh with z | z | z | z
            · exact .inr (.inr (.inr z))
            · exact .inl z
            · exact .inr (.inl z)
            · exact .inr (.inr (.inl z))
          rw [e1] at k
          have R4 := R.same s4
          have hp4 := s4 _ _ hp
          obtain ⟨dc4, hc4⟩ := R4.cn
          refine ⟨_, rfl, e.p, C.End, dx, _, _, rfl, hp4, T.c_End, T.n_End_counts, l_End_counts, e.cn, C.Counts, dc4, _, _, rfl, hc4, T.c_Counts, T.n_Counts_heard_frames, l_Counts_heard_frames, _, _, rfl, rfl, dc4, _, hc4, z_Counts, ?_⟩
          rw [p_Counts_heard_frames, show (1 : Int) = ((1 : Nat) : Int) from rfl, cnt_2 s 1 h10]
          have R5 := R4.count (k := 2) (n := 1) (dc := dc4)
          have k5 : ∀ b o, b ≠ e.cn → H4 b = some o → upd H4 e.cn (.ins C.Counts dc4 (fC (s.counted 2 1))) b = some o := fun b o hb z => by rw [upd_ne hb]; exact z
          have K5 : Kept e e H (upd H4 e.cn (.ins C.Counts dc4 (fC (s.counted 2 1)))) := (Kept.same s4).trans (kept_upd mt_cn)
          generalize hH5 : upd H4 e.cn _ = H5 at R5 k5 K5
          generalize hs5 : s.counted 2 1 = s5 at R5
          have c5 : s5.count.length = 10 := by rw [← hs5, count_length]; exact h10
          obtain ⟨d5, hp5⟩ := R5.ob
          obtain ⟨dc5, hc5⟩ := R5.cn
          have ha5 := k5 _ _ (ne_of (s4 _ _ ha) hc4 ne_li) (s4 _ _ ha)
          refine ⟨_, rfl, e.p, C.End, d5, _, _, rfl, hp5, T.c_End, T.n_End_counts, l_End_counts, e.cn, C.Counts, dc5, _, _, rfl, hc5, T.c_Counts, T.n_Counts_heard_bytes, l_Counts_heard_bytes, _, rfl, a, _, rfl, .inl (SqL.of ha5), _, _, rfl, rfl, dc5, _, hc5, z_Counts, ?_⟩
          rw [p_Counts_heard_bytes, vnb_length, cnt_3 s5 b.length c5]
          have R6 := R5.count (k := 3) (n := b.length) (dc := dc5)
          have k6 : ∀ x o, x ≠ e.cn → H5 x = some o → upd H5 e.cn (.ins C.Counts dc5 (fC (s5.counted 3 b.length))) x = some o := fun x o hb z => by rw [upd_ne hb]; exact z
          have K6 : Kept e e H (upd H5 e.cn (.ins C.Counts dc5 (fC (s5.counted 3 b.length)))) := K5.trans (kept_upd mt_cn)
          generalize hH6 : upd H5 e.cn _ = H6 at R6 k6 K6
          have ha6 := k6 _ _ (ne_of ha5 hc5 ne_li) ha5
          rw [hs5] at k
          -- the answer
          refine ⟨_, rfl, a, b, rfl, SqL.of ha6, by omega, fun H7 s7 => ⟨by show 2 ≤ sizeLine; decide, fun l8 n8 => ?_⟩⟩
          have s8 := s7.trans (same_upd (o := .lst [V.int 1, V.int (number ((b.drop 12).take 2))]) n8)
          refine ⟨_, rfl, a, b, rfl, SqL.of (s8 _ _ ha6), by omega, fun l9 H9 N9 => ?_⟩
          have s9 := s8.trans N9.2.1
          have z1 : ((b.drop 6).take 6).length = 6 := by rw [List.length_take, List.length_drop]; omega
          have z2 : (b.take 6).length = 6 := by rw [List.length_take]; omega
          have z3 : ((b.take (b.length - 4)).drop 14).length ≤ 1500 := by rw [List.length_drop, List.length_take]; omega
          refine ⟨l8, l9, _, _, rfl, rfl, N9.2.1 _ _ upd_same, N9.2.2, by rw [vnb_length, z1]; show 2 + 6 ≤ sizeLine; decide, fun l10 n10 => ?_⟩
          have s10 := s9.trans (same_upd (o := .lst ([V.int 1, V.int (number ((b.drop 12).take 2))] ++ vi (nb ((b.drop 6).take 6)))) n10)
          refine ⟨_, rfl, a, b, rfl, SqL.of (s10 _ _ ha6), fun l11 H11 N11 => ?_⟩
          have s11 := s10.trans N11.2.1
          refine ⟨l10, l11, _, _, rfl, rfl, N11.2.1 _ _ upd_same, N11.2.2, by rw [vnb_length, z2, List.length_append, vnb_length, z1]; show 2 + 6 + 6 ≤ sizeLine; decide, fun l12 n12 => ?_⟩
          have s12 := s11.trans (same_upd (o := .lst ([V.int 1, V.int (number ((b.drop 12).take 2))] ++ vi (nb ((b.drop 6).take 6)) ++ vi (nb (b.take 6)))) n12)
          refine ⟨_, rfl, a, b, rfl, SqL.of (s12 _ _ ha6), by omega, fun l13 H13 N13 => ?_⟩
          have s13 := s12.trans N13.2.1
          refine ⟨l12, l13, _, _, rfl, rfl, N13.2.1 _ _ upd_same, N13.2.2, by rw [vnb_length, List.length_append, List.length_append, vnb_length, z1, vnb_length, z2]; show 2 + 6 + 6 + _ ≤ sizeLine; omega, fun l14 n14 => ?_⟩
          have s14 := s13.trans (same_upd (o := .lst ([V.int 1, V.int (number ((b.drop 12).take 2))] ++ vi (nb ((b.drop 6).take 6)) ++ vi (nb (b.take 6)) ++ vi (nb ((b.take (b.length - 4)).drop 14)))) n14)
          refine k e _ l14 (R6.same s14) (K6.trans (Kept.same s14)) (K6.live _ (s13.free n14)) ?_
          rw [upd_same, hf]
          have eA : listOf ⟨1, number ((b.drop 12).take 2) :: (nums ((b.drop 6).take 6) ++ (nums (b.take 6) ++ nums ((b.take (b.length - 4)).drop 14)))⟩ = (1 : Int) :: (number ((b.drop 12).take 2) : Int) :: (nb ((b.drop 6).take 6) ++ (nb (b.take 6) ++ nb ((b.take (b.length - 4)).drop 14))) := by
            show (1 : Int) :: ((number ((b.drop 12).take 2) :: (nums ((b.drop 6).take 6) ++ (nums (b.take 6) ++ nums ((b.take (b.length - 4)).drop 14)))).map fun (n : Nat) => (n : Int)) = _
            rw [List.map_cons, List.map_append, List.map_append, nums_nb, nums_nb, nums_nb]
          rw [eA]
          show some (HO.lst _) = some (HO.lst (V.int 1 :: V.int (number ((b.drop 12).take 2)) :: vi (nb ((b.drop 6).take 6) ++ (nb (b.take 6) ++ nb ((b.take (b.length - 4)).drop 14)))))
          rw [vi_append, vi_append]
          simp only [List.cons_append, List.nil_append, List.append_assoc]
          rfl
end
end FL
end
section
namespace FL
open PySem L2
open Sf82 (Bytes Item Queue S does says nums EVERYBODY number frame)
open Sf82Neutral (listOf)
def sp_End_put (K : PySem.W.Frag) (C : Cs) : Sp := fun vs H Q _ => ∃ (e : EA) (s : S) (now : Nat) (q kind : Int) (a1 a2 : Addr) (t b : Bytes), vs = [.ref e.p, .int now, .int q, .int kind, .ref a1, .ref a2] ∧ EndAt C H e s ∧ Good s ∧ H a1 = some (.lst (vi (nb t))) ∧ H a2 = some (.lst (vi (nb b))) ∧
  ¬ Mt e a1 ∧ ¬ Mt e a2 ∧ Tells C e H (does s (.put now q t kind b)).1 (listOf (does s (.put now q t kind b)).2) Q
theorem EndAt.ids {C : Cs} {H : Hp} {e : EA} {s : S} (h : EndAt C H e s) (n : Nat) : EndAt C H e { s with ids := n } := ⟨h.ob, h.lq, h.me, h.gl, h.gs, h.cn, h.tn.like rfl rfl rfl, h.qs, h.dO, h.dL, h.dG, h.dC, h.dM⟩
theorem time_dec {s : S} (g : Good s) (now : Nat) : decide ((s.last : Int) ≤ (now : Int) ∧ (now : Int) < 9223372036854775808) = s.timeOk now := by
  cases h : s.timeOk now with
  | true =>
    have := (timeOk_iff g now).mp h
    exact decide_eq_true (by omega)
  | false =>
    refine decide_eq_false fun z => ?_
    have := (timeOk_iff g now).mpr (by omega)
    rw [h] at this
    cases this
section
variable {P : Program} {w : World} {K : PySem.W.Frag} {mg : Str → Option Value} {base : Heap} {C : Cs}
theorem ok_End_put {f : Addr} {fd : FuncData} (F : Fun K "put" "End.put" s_End_put f fd) (T : Txt K mg C) (u_End_has_queue : MethOk P w K mg base 1 C.End "has_queue" ps_End_has_queue (sp_End_has_queue K C)) (u_End_may_be_now : MethOk P w K mg base 1 C.End "may_be_now" ps_End_may_be_now (sp_End_may_be_now K C)) (u_refusal_of : DefOk P w K mg base 2 "refusal_of" ps_refusal_of (sp_refusal_of K C)) (u_End_pass_time : MethOk P w K mg base 4 C.End "pass_time" ps_End_pass_time (sp_End_pass_time K C)) (u_make_frame : DefOk P w K mg base 2 "make_frame" ps_make_frame (sp_make_frame K C)) (u_Waiting_init : MakeOk P w K mg base 1 "Waiting" C.Waiting ps_Waiting_init (sp_Waiting_init K C)) : FnOk P w K mg base CX0 5 f fd ps_End_put (sp_End_put K C) := by
  refine F.ok sc_End_put (fun vs H Q E h => ?_) (fun cdv A outer s H vs Q E hr h => ?_)
  · obtain ⟨e, s, now, q, kind, a1, a2, t, b, rfl, _⟩ := h
    rfl
  · obtain ⟨e, s, now, q, kind, a1, a2, t, b, rfl, R, G, h1, h2, m1, m2, k⟩ := h
    obtain ⟨dx, hp⟩ := R.ob
    have hz := sizeLine_eq
    have hme := G.me
    refine ⟨_, (pss_cons (ps_if (PW.pt (pw_or (pt_not (pt_val (pe_mth (pv 0) T.c_End u_End_may_be_now hr (by decide) (pa_cons (pv 1) pa_nil)))) (pw_or1 (pt_not (pt_val (pe_mth (pv 0) T.c_End u_End_has_queue hr (by decide) (pa_cons (pv 2) pa_nil))))))) (pss_one (ps_ret (pe_lst (pa_cons (pe_gint rfl T.g_WRONG) pa_nil)))) pss_nil) (pss_cons (ps_set (i := 6) sc_End_put.nd rfl (by first | exact Or.inl rfl | exact Or.inr rfl) (pe_def u_refusal_of hr (by decide) rfl (pa_cons (pv 3) (pa_cons (pv 4) (pa_cons (pe_fld (pv 0) rfl) (pa_cons (pv 5) pa_nil)))))) (pss_cons (ps_if (pt_cmpR op_notN (pv 6) pe_non (nomark _)) (pss_one (ps_ret (pe_lst (pa_cons (pv 6) pa_nil)))) pss_nil) (pss_cons (ps_expr (pe_mth (pv 0) T.c_End u_End_pass_time hr (by decide) (pa_cons (pv 1) pa_nil))) (pss_cons (ps_set (i := 7) sc_End_put.nd rfl (by first | exact Or.inl rfl | exact Or.inr rfl) (pe_fld (pe_ix ix_list (pe_fld (pv 0) rfl) (pv 2) (fun _ _ => rfl)) rfl)) (pss_cons (ps_if (pt_cmpR op_ge (pe_callB call_len_seq (by rfl) T.b_len (show bootBuiltins "len" = some (.builtin "len") by decide +kernel) (pa_cons (pv 7) pa_nil)) (pe_fld (pv 0) rfl) (nomark _)) (pss_cons (ps_fldaug (pe_fld (pv 0) rfl) pe_int in_add) (pss_one (ps_ret (pe_lst (pa_cons (pe_gint rfl T.g_FULL) pa_nil))))) pss_nil) (pss_cons (ps_expr (pe_bm PySem.F.plainAttrs_list PySem.F.slot_list_append PySem.F.type_list_append mt_append (pv 7) (pa_cons (pe_new u_Waiting_init hr (by decide) rfl (pa_cons (pe_def u_make_frame hr (by decide) rfl (pa_cons (pv 3) (pa_cons (pv 4) (pa_cons (pe_fld (pv 0) rfl) (pa_cons (pv 5) pa_nil))))) (pa_cons (pv 1) pa_nil))) pa_nil))) (pss_one (ps_ret (pe_lst (pa_cons (pe_callB call_len_seq (by rfl) T.b_len (show bootBuiltins "len" = some (.builtin "len") by decide +kernel) (pa_cons (pv 7) pa_nil)) pa_nil))))))))))), ?_⟩
    refine ⟨_, rfl, e.p, dx, _, rfl, hp, m_End_may_be_now, _, rfl, e, s, now, rfl, R, _, rfl, ?_⟩
    rw [time_dec G now]
    have wrong : (s.timeOk now = false ∨ s.has q = false ∨ t.length ≠ 6 ∨ Sf82.within kind 0 65535 = false ∨ b = []) → ([V.int (-1)] : List V).length ≤ sizeLine ∧ ∀ p, H p = none → Q (.ref p) (upd H p (.lst [V.int (-1)])) := fun z => by
      have e1 : does s (.put now q t kind b) = (s, says (-1)) := by simp only [does]; rw [if_pos z]
      rw [e1] at k
      exact k.ret R (Kept.refl e H)
    cases ht : s.timeOk now with
    | false => exact iteT (iteT (wrong (.inl ht)))
    | true =>
    refine iteF ⟨_, rfl, e.p, dx, _, rfl, hp, m_End_has_queue, _, rfl, e, s, q, rfl, R, _, rfl, ?_⟩
    cases hh : s.has q with
    | false => exact iteT (wrong (.inr (.inl hh)))
    | true =>
    refine iteF ⟨_, rfl, _, rfl, _, rfl, e.p, C.End, dx, _, _, rfl, hp, T.c_End, T.n_End_me, l_End_me, _, rfl, kind, a1, e.me, a2, _, _, _, rfl, SqL.of h1, SqL.of R.me, SqL.of h2, ?_⟩
    rw [vnb_length, vnb_length, vnb_length, hme]
    by_cases hw : Sf82.within kind 0 65535 = false ∨ t.length ≠ 6 ∨ (6 : Nat) ≠ 6 ∨ b.length = 0
    · have e1 : refV kind t.length 6 b.length = .int (-1) := by unfold refV; rw [if_pos hw]
      rw [e1]
      refine ⟨_, rfl, rfl, _, rfl, itnN (fun z => by cases z) ⟨_, rfl, wrong ?_⟩⟩
      rcases hw with z | z | z | z
      · exact .inr (.inr (.inr (.inl z)))
      · exact .inr (.inr (.inl z))
      · exact absurd rfl z
      · exact .inr (.inr (.inr (.inr (List.length_eq_zero_iff.mp z))))
    have hk : Sf82.within kind 0 65535 = true := not_false_of fun z => hw (.inl z)
    have h6 : t.length = 6 := Classical.byContradiction fun z => hw (.inr (.inl z))
    have hb : b ≠ [] := fun z => hw (.inr (.inr (.inr (by rw [z]; rfl))))
    have hbl : 0 < b.length := List.length_pos_iff.mpr hb
    have good : ¬ (s.timeOk now = false ∨ s.has q = false ∨ t.length ≠ 6 ∨ Sf82.within kind 0 65535 = false ∨ b = []) := by
      rw [ht, hh, hk]
      rintro (z | z | z | z | z)
      · cases z
      · cases z
      · exact z h6
      · cases z
      · exact hb z
    by_cases h7 : 1500 < b.length
    · have e0 : refV kind t.length 6 b.length = .int (-7) := by unfold refV; rw [if_neg hw, if_pos h7]
      have e1 : does s (.put now q t kind b) = (s, says (-7)) := by simp only [does]; rw [if_neg good, if_pos (show Sf82.MOST < b.length from h7)]
      rw [e1] at k
      rw [e0]
      exact ⟨_, rfl, rfl, _, rfl, itnN (fun z => by cases z) ⟨_, rfl, k.ret R (Kept.refl e H)⟩⟩
    have e0 : refV kind t.length 6 b.length = .non := by unfold refV; rw [if_neg hw, if_neg h7]
    rw [e0]
    refine ⟨_, rfl, rfl, _, rfl, itnP rfl ?_⟩
    have htime := (timeOk_iff G now).mp ht
    refine ⟨_, rfl, e.p, dx, _, rfl, hp, m_End_pass_time, _, rfl, e, s, now, rfl, R, G, htime.1, fun e1 H1 R1 K1 => ?_⟩
    have G1 := good_tick G htime.1 htime.2
    obtain ⟨d1, hp1⟩ := R1.ob
    rw [K1.p] at hp1
    have a11 := K1.keep _ _ h1 m1
    have a21 := K1.keep _ _ h2 m2
    obtain ⟨x0, hx0, hq0⟩ := has_lt hh
    have hlt : q.toNat < (s.tick now).queues.length := by rw [tick_length]; exact (List.getElem?_eq_some_iff.mp hx0).1
    obtain ⟨x, hx⟩ : ∃ x, (s.tick now).queues[q.toNat]? = some x := ⟨_, List.getElem?_eq_getElem hlt⟩
    obtain ⟨qa, dq, hqa, r, ro, hat⟩ := R1.queue_at hx
    have hw := paired_len r.ws
    refine ⟨_, rfl, e.p, C.End, d1, _, _, rfl, hp1, T.c_End, T.n_End_queues, l_End_queues, _, rfl, e1.lq, _, _, _, rfl, rfl, SqL.of R1.lq, by rw [show q = ((q.toNat : Nat) : Int) by omega]; exact hat, qa.o, C.Queue, dq, _, _, rfl, ro, T.c_Queue, T.n_Queue_line, l_Queue_line, ?_⟩
    refine ⟨_, rfl, qa.l, _, rfl, .inl (SqL.of r.ln), _, rfl, e.p, C.End, d1, _, _, rfl, hp1, T.c_End, T.n_End_each, l_End_each, _, _, rfl, rfl, _, rfl, ?_⟩
    rw [rf_length, hw]
    have hqe : (s.tick now).queue q.toNat = x.items := queue_eq hx
    have hea : (s.tick now).each = s.each := rfl
    by_cases hfull : s.each ≤ x.items.length
    · have e9 : does s (.put now q t kind b) = ((s.tick now).counted 7 1, says (-5)) := by
        simp only [does]
        rw [if_neg good, if_neg (show ¬ Sf82.MOST < b.length from h7), if_pos (by rw [hqe]; exact hfull)]
      rw [e9] at k
      refine itP (by rw [hea]; omega) ?_
      obtain ⟨dc, hc1⟩ := R1.cn
      refine ⟨_, rfl, e.p, C.End, d1, _, _, rfl, hp1, T.c_End, T.n_End_counts, l_End_counts, e1.cn, C.Counts, dc, _, _, rfl, hc1, T.c_Counts, T.n_Counts_refused_full, l_Counts_refused_full, _, _, rfl, rfl, dc, _, hc1, z_Counts, ?_⟩
      rw [p_Counts_refused_full, show (1 : Int) = ((1 : Nat) : Int) from rfl, cnt_7 _ 1 G1.cnt]
      exact k.ret (R1.count (k := 7) (n := 1) (dc := dc)) (K1.trans (kept_upd mt_cn))
    · have e9 : does s (.put now q t kind b) = ({ (s.tick now).with_ q.toNat (fun x => { x with items := x.items ++ [⟨(s.tick now).ids, now, frame t s.me kind.toNat b⟩] }) with ids := (s.tick now).ids + 1 }, says (((s.tick now).queue q.toNat).length + 1)) := by
        simp only [does]
        rw [if_neg good, if_neg (show ¬ Sf82.MOST < b.length from h7), if_neg (by rw [hqe]; exact hfull)]
      rw [e9] at k
      refine itN (by rw [hea]; omega) ?_
      have hkr := within_of hk
      have hx64 := (G1.at_ hx).few
      have h64 := G1.e64
      refine ⟨_, rfl, .inl ⟨rfl, _, SqL.of r.ln⟩, _, rfl, _, rfl, _, rfl, e.p, C.End, d1, _, _, rfl, hp1, T.c_End, T.n_End_me, l_End_me, _, rfl, kind.toNat, a1, e1.me, a2, t, s.me, b, ?_, a11, R1.me, a21, ?_, fun l2 H2 N2 => ⟨_, rfl, fun wx dw nx ndx nex => ?_⟩⟩
      · rw [show ((kind.toNat : Nat) : Int) = kind by omega]
      · rw [h6, G.me]; omega
      refine ⟨wx, dw, _, _, rfl, upd_same, fun H3 hwx kp => ⟨rfl, ?_⟩⟩
      have s23 : Same H2 H3 := Same.made nx ndx kp
      have s13 := N2.2.1.trans s23
      have nl2 := R1.fresh N2.1
      have R3 := R1.same s13
      have rl3 := s13 _ _ r.ln
      have ro3 := s13 _ _ ro
      refine ⟨qa.l, _, _, rfl, rfl, rl3, by rw [List.length_map]; omega, ?_⟩
      obtain ⟨dwx, hwx⟩ := hwx
      have hl23 := s23 _ _ N2.2.2
      have nwl : wx ≠ qa.l := (ne_of_none (N2.2.1 _ _ r.ln) nx).symm
      have n2l : l2 ≠ qa.l := fun z => nl2.1 (.inr (.inr ⟨q.toNat, qa, hqa, z⟩))
      generalize hH4 : upd H3 qa.l (HO.lst ((qa.ws.map fun (w : Addr × Addr) => V.ref w.1) ++ [V.ref wx])) = H4
      have k4 : ∀ y o, y ≠ qa.l → H3 y = some o → H4 y = some o := fun y o hy z => by rw [← hH4, upd_ne hy]; exact z
      have il : ∀ w ∈ qa.ws, w.2 ≠ qa.l := fun w hw z => R1.dM _ (.inr (.inr ⟨q.toNat, qa, hqa, rfl⟩)) (.inr (.inr (.inr ⟨q.toNat, qa, w, hqa, hw, z.symm⟩)))
      have hl4 : H4 qa.l = some (.lst ((qa.ws ++ [(wx, l2)]).map fun (w : Addr × Addr) => V.ref w.1)) := by rw [← hH4, upd_same, List.map_append]; rfl
      have R4 := R3.setQ (H' := H4) (q' := ⟨qa.o, qa.l, qa.ws ++ [(wx, l2)]⟩) (x' := { x with items := x.items ++ [⟨(s.tick now).ids, now, frame t s.me kind.toNat b⟩] }) hqa hx rfl rfl
        ⟨⟨dq, k4 _ _ (ne_of ro3 rl3 ne_il) ro3⟩, hl4, paired_append (paired_mem (paired_at R3.qs hqa hx).ws fun w it hw' r' => by
            obtain ⟨⟨d', z1⟩, z2⟩ := id r'
            exact r'.keep (k4 _ · (ne_of z1 rl3 ne_il)) (k4 _ · (il w hw'))) (.cons ⟨⟨dwx, k4 _ _ nwl hwx⟩, k4 _ _ n2l hl23⟩ .nil)⟩
        (fun y o _ h2 z => k4 y o h2 z) (.inl rfl) fun w hw' => by
          rcases List.mem_append.mp hw' with z | z
          · exact .inl z
          · rw [List.mem_singleton.mp z]
            exact .inr ⟨nl2.1, n2l⟩
      have eS : ({ s.tick now with queues := (s.tick now).queues.set q.toNat { x with items := x.items ++ [⟨(s.tick now).ids, now, frame t s.me kind.toNat b⟩] } } : S) = (s.tick now).with_ q.toNat fun x => { x with items := x.items ++ [⟨(s.tick now).ids, now, frame t s.me kind.toNat b⟩] } := by
        unfold Sf82.S.with_
        rw [changed_set _ q.toNat _ x hx]
      rw [eS] at R4
      have R5 := R4.ids ((s.tick now).ids + 1)
      refine ⟨_, rfl, qa.l, _, rfl, .inl (SqL.of hl4), ?_⟩
      have eV : (((qa.ws ++ [(wx, l2)]).map fun (w : Addr × Addr) => V.ref w.1).length : Int) = (((s.tick now).queue q.toNat).length : Int) + 1 := by
        rw [List.length_map, List.length_append, hw, hqe]
        simp
      rw [eV]
      rw [listOf_says] at k
      refine k.ret R5 (K1.trans (kept_line (H := H1) hqa rfl (.inl rfl) (fun w hw' => ?_) (fun y o hy n => k4 y o (fun z => n (by rw [z]; exact mt_l hqa)) (s13 _ _ hy)) fun y hy => ?_))
      · rcases List.mem_append.mp hw' with z | z
        · exact .inl z
        · rw [List.mem_singleton.mp z]
          exact .inr N2.1
      · by_cases z : y = qa.l
        · rw [z, ← hH4, upd_same] at hy; cases hy
        · rw [← hH4, upd_ne z] at hy; exact s13.free hy
end
end FL
end
section
namespace FL
open PySem L2
open Sf82 (Bytes Item Queue S does says nums EVERYBODY number frame)
open Sf82Neutral (listOf)
/-- a frame has gone -/
def sentS (s : S) (i : Item) (r : List Item) : S :=
  ((({ s with may := if s.rate = 0 then s.may else s.may - 1000 * i.bytes.length } : S).with_ s.turn fun x => { x with items := r, credit := x.credit - i.bytes.length }).counted 0 1).counted 1 i.bytes.length
def sp_End_send_first (K : PySem.W.Frag) (C : Cs) : Sp := fun vs H Q _ => ∃ (e : EA) (s : S) (x : Queue) (i : Item) (r : List Item), vs = [.ref e.p] ∧ EndAt C H e s ∧ s.queues[s.turn]? = some x ∧ x.items = i :: r ∧ i.bytes.length ≤ x.credit ∧
  (s.rate ≠ 0 → 1000 * i.bytes.length ≤ s.may) ∧ s.count.length = 10 ∧ ∀ e' H', EndAt C H' e' (sentS s i r) → Kept e e' H H' → Q .non H'
def sp_End_hand_out (K : PySem.W.Frag) (C : Cs) : Sp := fun vs H Q _ => ∃ (e : EA) (s : S) (now : Nat), vs = [.ref e.p, .int now] ∧ EndAt C H e s ∧ Good s ∧ Tells C e H (does s (.next now)).1 (listOf (does s (.next now)).2) Q
def sp_End_went (K : PySem.W.Frag) (C : Cs) : Sp := fun vs H Q _ => ∃ (e : EA) (s : S) (now : Nat) (ok : Int), vs = [.ref e.p, .int now, .int ok] ∧ EndAt C H e s ∧ Good s ∧ Tells C e H (does s (.went now ok)).1 (listOf (does s (.went now ok)).2) Q
theorem Tried.set {s : S} {j : Nat} {x : Queue} (h : s.queues[j]? = some x) (c : Nat) : Tried s { s with queues := s.queues.set j { x with credit := c } } := by
  refine ⟨by simp, fun i y hy => ?_, rfl⟩
  by_cases e : j = i
  · subst e
    rw [h] at hy
    cases hy
    exact ⟨c, List.getElem?_set_self (List.getElem?_eq_some_iff.mp h).1⟩
  · exact ⟨y.credit, by
      show (s.queues.set j { x with credit := c })[i]? = _
      rw [List.getElem?_set_ne e]
      exact hy⟩
theorem kept_turns {C : Cs} {H H' : Hp} {e : EA} {s : S} (hT : TurnsAt C H' e.tn e.cl s) (k : KeepBut e.tn e.cl H H') : Kept e e H H' := by
  obtain ⟨⟨dx, h1⟩, h2⟩ := hT
  refine ⟨rfl, rfl, fun b o hb n => k b o (fun z => n (by rw [z]; exact mt_tn)) (fun z => n (by rw [z]; exact mt_cl)) hb, fun _ m => .inl m, fun _ m => .inl m, fun b hb => ?_⟩
  cases h : H b with
  | none => rfl
  | some o =>
    rw [k b o (fun z => by rw [z, h1] at hb; cases hb) (fun z => by rw [z, h2] at hb; cases hb) h] at hb
    cases hb
section
variable {P : Program} {w : World} {K : PySem.W.Frag} {mg : Str → Option Value} {base : Heap} {C : Cs}
theorem ok_End_send_first {f : Addr} {fd : FuncData} (F : Fun K "send_first" "End.send_first" s_End_send_first f fd) (T : Txt K mg C) (u_Turns_spend : MethOk P w K mg base 1 C.Turns "spend" ps_Turns_spend (sp_Turns_spend K C)) : FnOk P w K mg base CX0 2 f fd ps_End_send_first (sp_End_send_first K C) := by
  refine F.ok sc_End_send_first (fun vs H Q E h => ?_) (fun cdv A outer s H vs Q E hr h => ?_)
  · obtain ⟨e, s, x, i, r, rfl, _⟩ := h
    rfl
  · obtain ⟨e, s, x, i, rest, rfl, R, hx, hi, hc, hm, h10, k⟩ := h
    obtain ⟨dx, hp⟩ := R.ob
    obtain ⟨⟨dt, t1⟩, t2⟩ := id R.tn
    obtain ⟨q, dq, hq, r, ro, hat⟩ := R.queue_at hx
    have hwp := r.ws
    rw [hi] at hwp
    obtain ⟨w0, ws, hws, w0at, wsat⟩ : ∃ w0 ws, q.ws = w0 :: ws ∧ WaitAt C H w0 i ∧ Paired (WaitAt C H) ws rest := by
      cases hq' : q.ws with
      | nil => rw [hq'] at hwp; cases hwp
      | cons a b => rw [hq'] at hwp; cases hwp with | cons h1 h2 => exact ⟨a, b, rfl, h1, h2⟩
    obtain ⟨⟨dw, wo⟩, wf⟩ := id w0at
    have rl := r.ln
    rw [hws] at rl
    have nlo : q.l ≠ q.o := ne_of rl ro ne_li
    have on := (List.getElem?_eq_some_iff.mp hx).1
    refine ⟨_, (pss_cons (ps_set (i := 1) sc_End_send_first.nd rfl (by first | exact Or.inl rfl | exact Or.inr rfl) (pe_callB call_len_seq (by rfl) T.b_len (show bootBuiltins "len" = some (.builtin "len") by decide +kernel) (pa_cons (pe_fld (pe_bm PySem.F.plainAttrs_list PySem.F.slot_list_pop PySem.F.type_list_pop mt_popAt (pe_fld (pe_ix ix_list (pe_fld (pv 0) rfl) (pe_fld (pe_fld (pv 0) rfl) rfl) (fun _ _ => rfl)) rfl) (pa_cons pe_int pa_nil)) rfl) pa_nil))) (pss_cons (ps_expr (pe_mth (pe_fld (pv 0) rfl) T.c_Turns u_Turns_spend hr (by decide) (pa_cons (pv 1) pa_nil))) (pss_cons (ps_if (pt_cmpR op_gt (pe_fld (pv 0) rfl) pe_int (nomark _)) (pss_one (ps_fldaug (pv 0) (pe_op op_mul (pe_gint rfl T.g_THOUSANDTHS) (pv 1)) in_sub)) pss_nil) (pss_cons (ps_fldaug (pe_fld (pv 0) rfl) pe_int in_add) (pss_one (ps_fldaug (pe_fld (pv 0) rfl) (pv 1) in_add)))))), ?_⟩
    have hseq : seqIndex? 0 (((w0 :: ws).map fun (w : Addr × Addr) => V.ref w.1).length) = some 0 := by simp [seqIndex?]
    refine ⟨_, rfl, e.p, C.End, dx, _, _, rfl, hp, T.c_End, T.n_End_queues, l_End_queues, _, rfl, e.p, C.End, dx, _, _, rfl, hp, T.c_End, T.n_End_turns, l_End_turns, e.tn, C.Turns, dt, _, _, rfl, t1, T.c_Turns, T.n_Turns_on, l_Turns_on, e.lq, _, _, _, rfl, rfl, SqL.of R.lq, hat, q.o, C.Queue, dq, _, _, rfl, ro, T.c_Queue, T.n_Queue_line, l_Queue_line, .inl ⟨rfl, _, SqL.of rl⟩, q.l, _, 0, 0, _, rfl, rfl, rl, by decide, by decide, hseq, rfl, ?_⟩
    have e1 : (((w0 :: ws).map fun (w : Addr × Addr) => V.ref w.1).eraseIdx 0) = ws.map fun (w : Addr × Addr) => V.ref w.1 := rfl
    rw [e1]
    generalize hH1 : upd H q.l (HO.lst (ws.map fun (w : Addr × Addr) => V.ref w.1)) = H1
    have k1 : ∀ b o, b ≠ q.l → H b = some o → H1 b = some o := fun b o hb z => by rw [← hH1, upd_ne hb]; exact z
    have il : ∀ w ∈ q.ws, w.2 ≠ q.l := fun w hw z => R.dM _ (.inr (.inr ⟨s.turn, q, hq, rfl⟩)) (.inr (.inr (.inr ⟨s.turn, q, w, hq, hw, z.symm⟩)))
    have wo1 := k1 _ _ (ne_of wo rl ne_il) wo
    have wf1 := k1 _ _ (il w0 (by rw [hws]; exact List.mem_cons_self)) wf
    have ro1 := k1 _ _ nlo.symm ro
    have hp1 := k1 _ _ (ne_of hp rl ne_il) hp
    have t11 := k1 _ _ (ne_of t1 rl ne_il) t1
    refine ⟨w0.1, C.Waiting, dw, _, _, rfl, wo1, T.c_Waiting, T.n_Waiting_frame, l_Waiting_frame, w0.2, _, rfl, .inl (SqL.of wf1), ?_⟩
    rw [vnb_length]
    have R1 : EndAt C H1 { e with qs := e.qs.set s.turn ⟨q.o, q.l, ws⟩ } { s with queues := s.queues.set s.turn ⟨x.weight, x.credit, rest⟩ } := by
      refine R.setQ (q' := ⟨q.o, q.l, ws⟩) hq hx rfl rfl ⟨⟨dq, ro1⟩, by show H1 q.l = _; rw [← hH1]; exact upd_same, ?_⟩ (fun b o _ h2 z => k1 b o h2 z) (.inl rfl) fun w hw => .inl (by rw [hws]; exact List.mem_cons_of_mem _ hw)
      refine paired_mem wsat fun w it hw r' => ?_
      obtain ⟨⟨d', z1⟩, z2⟩ := id r'
      exact r'.keep (k1 _ · (ne_of z1 rl ne_il)) (k1 _ · (il w (by rw [hws]; exact List.mem_cons_of_mem _ hw)))
    have K1 : Kept e { e with qs := e.qs.set s.turn ⟨q.o, q.l, ws⟩ } H H1 := by
      refine kept_line hq rfl (.inl rfl) (fun w hw => .inl (by rw [hws]; exact List.mem_cons_of_mem _ hw)) (fun b o hb n => k1 b o (fun z => n (by rw [z]; exact mt_l hq)) hb) fun b hb => ?_
      by_cases z : b = q.l
      · rw [z, ← hH1, upd_same] at hb; cases hb
      · rw [← hH1, upd_ne z] at hb; exact hb
    generalize he2 : ({ e with qs := e.qs.set s.turn ⟨q.o, q.l, ws⟩ } : EA) = e2 at R1 K1
    have ep : e2.p = e.p := K1.p
    have ecn : e2.cn = e.cn := K1.cn
    have etn : e2.tn = e.tn := by rw [← he2]
    have hx1 : ({ s with queues := s.queues.set s.turn ⟨x.weight, x.credit, rest⟩ } : S).queues[s.turn]? = some ⟨x.weight, x.credit, rest⟩ := List.getElem?_set_self on
    refine ⟨_, rfl, e.p, C.End, dx, _, _, rfl, hp1, T.c_End, T.n_End_turns, l_End_turns, e.tn, dt, _, rfl, t11, m_Turns_spend, _, rfl, e2.tn, e2.cl, { s with queues := s.queues.set s.turn ⟨x.weight, x.credit, rest⟩ }, ⟨x.weight, x.credit, rest⟩, i.bytes.length, by rw [etn], R1.tn, hx1, hc, fun H2 T2 k2 => ?_⟩
    have R2 := R1.setT T2 (fun b o _ h2 z => k2 b o h2 z) (Tried.set (x := ⟨x.weight, x.credit, rest⟩) hx1 (x.credit - i.bytes.length))
    have K2 := K1.trans (kept_turns T2 (fun b o _ h2 z => k2 b o h2 z))
    have eq2 : ({ ({ s with queues := s.queues.set s.turn ⟨x.weight, x.credit, rest⟩ } : S) with queues := ({ s with queues := s.queues.set s.turn ⟨x.weight, x.credit, rest⟩ } : S).queues.set s.turn ⟨x.weight, x.credit - i.bytes.length, rest⟩ } : S) = { s with queues := s.queues.set s.turn ⟨x.weight, x.credit - i.bytes.length, rest⟩ } := by
      show ({ s with queues := (s.queues.set s.turn ⟨x.weight, x.credit, rest⟩).set s.turn ⟨x.weight, x.credit - i.bytes.length, rest⟩ } : S) = _
      rw [List.set_set]
    have R2 : EndAt C H2 e2 { s with queues := s.queues.set s.turn ⟨x.weight, x.credit - i.bytes.length, rest⟩ } := by rw [← eq2]; exact R2
    obtain ⟨d2, hp2⟩ := R2.ob
    rw [ep] at hp2
    have eS : ({ s with queues := s.queues.set s.turn ⟨x.weight, x.credit - i.bytes.length, rest⟩, may := if s.rate = 0 then s.may else s.may - 1000 * i.bytes.length } : S) = ({ s with may := if s.rate = 0 then s.may else s.may - 1000 * i.bytes.length } : S).with_ s.turn fun x => { x with items := rest, credit := x.credit - i.bytes.length } := by
      unfold Sf82.S.with_
      rw [changed_set s.queues s.turn _ x hx]
    -- if self.pace > 0: self.may_go -= THOUSANDTHS * length
    refine ⟨_, rfl, e.p, C.End, d2, _, _, rfl, hp2, T.c_End, T.n_End_pace, l_End_pace, _, _, rfl, rfl, _, rfl, ite2 (fun hr => ?ca) (fun hr => ?cb)⟩
    case' ca =>
      have hr : s.rate ≠ 0 := by
        have hr : (0 : Int) < (s.rate : Int) := of_decide_eq_true hr
        omega
      have hm := hm hr
      refine ⟨_, rfl, e.p, C.End, d2, _, _, rfl, hp2, T.c_End, T.n_End_may_go, l_End_may_go, _, rfl, _, _, rfl, rfl, .inl ⟨by decide, by decide⟩, _, _, rfl, rfl, d2, _, hp2, z_End, ?_⟩
      rw [p_End_may_go]
      have em : (s.may : Int) - 1000 * (i.bytes.length : Int) = ((if s.rate = 0 then s.may else s.may - 1000 * i.bytes.length : Nat) : Int) := by rw [if_neg hr]; omega
      dsimp only
      rw [em]
      generalize hH3 : upd H2 e.p _ = H3
      have R3 : EndAt C H3 e2 { s with queues := s.queues.set s.turn ⟨x.weight, x.credit - i.bytes.length, rest⟩, may := if s.rate = 0 then s.may else s.may - 1000 * i.bytes.length } := by
        rw [← hH3, ← ep]
        exact R2.updP (dx := d2) (s' := { s with queues := s.queues.set s.turn ⟨x.weight, x.credit - i.bytes.length, rest⟩, may := if s.rate = 0 then s.may else s.may - 1000 * i.bytes.length }) rfl rfl rfl rfl rfl rfl
      have K3 : Kept e e2 H H3 := by rw [← hH3, ← ep]; exact K2.trans (kept_upd mt_p)
    case' cb =>
      have hr : s.rate = 0 := by
        have hr : ¬ ((0 : Int) < (s.rate : Int)) := fun z => hr (decide_eq_true z)
        omega
      have R3 : EndAt C H2 e2 { s with queues := s.queues.set s.turn ⟨x.weight, x.credit - i.bytes.length, rest⟩, may := if s.rate = 0 then s.may else s.may - 1000 * i.bytes.length } := by
        rw [if_pos hr]; exact R2
      have K3 : Kept e e2 H H2 := K2
    all_goals
      rw [eS] at R3
      generalize hs3 : ({ s with may := if s.rate = 0 then s.may else s.may - 1000 * i.bytes.length } : S).with_ s.turn (fun x => { x with items := rest, credit := x.credit - i.bytes.length }) = s3 at R3
      have c3 : s3.count.length = 10 := by rw [← hs3]; exact h10
      obtain ⟨d3, hp3⟩ := R3.ob
      obtain ⟨dc, hc3⟩ := R3.cn
      rw [ep] at hp3
      refine ⟨_, rfl, e.p, C.End, d3, _, _, rfl, hp3, T.c_End, T.n_End_counts, l_End_counts, e2.cn, C.Counts, dc, _, _, rfl, hc3, T.c_Counts, T.n_Counts_sent_frames, l_Counts_sent_frames, _, _, rfl, rfl, dc, _, hc3, z_Counts, ?_⟩
      rw [p_Counts_sent_frames, show (1 : Int) = ((1 : Nat) : Int) from rfl, cnt_0 s3 1 c3]
      have R4 := R3.count (k := 0) (n := 1) (dc := dc)
      have K4 := K3.trans (kept_upd (H := _) (e := e2) (a := e2.cn) (o := HO.ins C.Counts dc (fC (s3.counted 0 1))) mt_cn)
      generalize hH4 : upd _ e2.cn _ = H4 at R4 K4
      generalize hs4 : s3.counted 0 1 = s4 at R4
      have c4 : s4.count.length = 10 := by rw [← hs4, count_length]; exact c3
      obtain ⟨d4, hp4⟩ := R4.ob
      obtain ⟨dc4, hc4⟩ := R4.cn
      rw [ep] at hp4
      refine ⟨_, rfl, e.p, C.End, d4, _, _, rfl, hp4, T.c_End, T.n_End_counts, l_End_counts, e2.cn, C.Counts, dc4, _, _, rfl, hc4, T.c_Counts, T.n_Counts_sent_bytes, l_Counts_sent_bytes, _, rfl, _, _, rfl, rfl, dc4, _, hc4, z_Counts, ?_⟩
      rw [p_Counts_sent_bytes, cnt_1 s4 i.bytes.length c4]
      refine k e2 _ ?_ (K4.trans (kept_upd mt_cn))
      have eF : sentS s i rest = s4.counted 1 i.bytes.length := by
        unfold sentS
        rw [hs3, hs4]
      rw [eF]
      exact R4.count (k := 1) (n := i.bytes.length) (dc := dc4)
theorem ok_End_hand_out {f : Addr} {fd : FuncData} (F : Fun K "hand_out" "End.hand_out" s_End_hand_out f fd) (T : Txt K mg C) (u_End_may_be_now : MethOk P w K mg base 1 C.End "may_be_now" ps_End_may_be_now (sp_End_may_be_now K C)) (u_End_pass_time : MethOk P w K mg base 4 C.End "pass_time" ps_End_pass_time (sp_End_pass_time K C)) (u_End_has_frames : MethOk P w K mg base 1 C.End "has_frames" ps_End_has_frames (sp_End_has_frames K C)) (u_Turns_find_turn : MethOk P w K mg base 2 C.Turns "find_turn" ps_Turns_find_turn (sp_Turns_find_turn K C)) (u_End_time_to_go : MethOk P w K mg base 1 C.End "time_to_go" ps_End_time_to_go (sp_End_time_to_go K C)) : FnOk P w K mg base CX0 5 f fd ps_End_hand_out (sp_End_hand_out K C) := by
  refine F.ok sc_End_hand_out (fun vs H Q E h => ?_) (fun cdv A outer s H vs Q E hr h => ?_)
  · obtain ⟨e, s, now, rfl, _⟩ := h
    rfl
  · obtain ⟨e, s, now, rfl, R, G, k⟩ := h
    obtain ⟨dx, hp⟩ := R.ob
    have hz := sizeLine_eq
    refine ⟨_, (pss_cons (ps_if (pt_not (pt_val (pe_mth (pv 0) T.c_End u_End_may_be_now hr (by decide) (pa_cons (pv 1) pa_nil)))) (pss_one (ps_ret (pe_lst (pa_cons (pe_gint rfl T.g_WRONG) pa_nil)))) pss_nil) (pss_cons (ps_if (pt_val (pe_fld (pv 0) rfl)) (pss_one (ps_ret (pe_lst (pa_cons (pe_gint rfl T.g_NOT_NOW) pa_nil)))) pss_nil) (pss_cons (ps_expr (pe_mth (pv 0) T.c_End u_End_pass_time hr (by decide) (pa_cons (pv 1) pa_nil))) (pss_cons (ps_if (pt_not (pt_val (pe_mth0 (pv 0) T.c_End u_End_has_frames hr (by decide)))) (pss_one (ps_ret (pe_lst (pa_cons (pe_gint rfl T.g_NOTHING_WAITS) pa_nil)))) pss_nil) (pss_cons (ps_expr (pe_mth (pe_fld (pv 0) rfl) T.c_Turns u_Turns_find_turn hr (by decide) (pa_cons (pe_fld (pv 0) rfl) pa_nil))) (pss_cons (ps_set (i := 2) sc_End_hand_out.nd rfl (by first | exact Or.inl rfl | exact Or.inr rfl) (pe_fld (pe_ix ix_list (pe_fld (pe_ix ix_list (pe_fld (pv 0) rfl) (pe_fld (pe_fld (pv 0) rfl) rfl) (fun _ _ => rfl)) rfl) pe_int (fun _ _ => rfl)) rfl)) (pss_cons (ps_set (i := 3) sc_End_hand_out.nd rfl (by first | exact Or.inl rfl | exact Or.inr rfl) (pe_mth (pv 0) T.c_End u_End_time_to_go hr (by decide) (pa_cons (pe_callB call_len_seq (by rfl) T.b_len (show bootBuiltins "len" = some (.builtin "len") by decide +kernel) (pa_cons (pv 2) pa_nil)) pa_nil))) (pss_cons (ps_if (pt_cmpR op_gt (pv 3) (pv 1) (nomark _)) (pss_one (ps_ret (pe_lst (pa_cons (pe_gint rfl T.g_LATER) (pa_cons (pv 3) pa_nil))))) pss_nil) (pss_cons (ps_fld (pv 0) pe_bl rfl) (pss_one (ps_ret (pe_op op_cat (pe_lst (pa_cons (pe_gint rfl T.g_HANDED_OUT) pa_nil)) (pv 2))))))))))))), ?_⟩
    refine ⟨_, rfl, e.p, dx, _, rfl, hp, m_End_may_be_now, _, rfl, e, s, now, rfl, R, _, rfl, ?_⟩
    rw [time_dec G now]
    cases ht : s.timeOk now with
    | false =>
      have e1 : does s (.next now) = (s, says (-1)) := by simp only [does]; rw [if_pos ht]
      rw [e1] at k
      exact iteT (k.ret R (Kept.refl e H))
    | true =>
    refine iteF ⟨_, rfl, e.p, C.End, dx, _, _, rfl, hp, T.c_End, T.n_End_is_out, l_End_is_out, _, rfl, ?_⟩
    have htf : ¬ s.timeOk now = false := by rw [ht]; simp
    cases hh : s.handed with
    | some q =>
      have e1 : does s (.next now) = (s, says (-4)) := by simp only [does]; rw [if_neg htf, if_pos (by rw [hh]; simp)]
      rw [e1] at k
      exact iteT (k.ret R (Kept.refl e H))
    | none =>
    refine iteF ?_
    have hhn : ¬ s.handed ≠ none := fun z => z hh
    have htime := (timeOk_iff G now).mp ht
    refine ⟨_, rfl, e.p, dx, _, rfl, hp, m_End_pass_time, _, rfl, e, s, now, rfl, R, G, htime.1, fun e1 H1 R1 K1 => ?_⟩
    have G1 := good_tick G htime.1 htime.2
    obtain ⟨d1, hp1⟩ := R1.ob
    rw [K1.p] at hp1
    refine ⟨_, rfl, e.p, d1, _, rfl, hp1, m_End_has_frames, e1, s.tick now, by rw [K1.p], R1, G1.n8, fun H2 s2 => ⟨_, rfl, ?_⟩⟩
    have R2 := R1.same s2
    have K2 := K1.trans (Kept.same s2)
    have hp2 := s2 _ _ hp1
    cases hidle : ((s.tick now).queues.all fun (x : Queue) => x.items.isEmpty) with
    | true =>
      have e9 : does s (.next now) = (s.tick now, says 0) := by simp only [does]; rw [if_neg htf, if_neg hhn, if_pos hidle]
      rw [e9] at k
      exact iteT (k.ret R2 K2)
    | false =>
    refine iteF ?_
    have hni : ¬ ((s.tick now).queues.all fun (x : Queue) => x.items.isEmpty) = true := by rw [hidle]; simp
    obtain ⟨j, x0, i0, r0, hx0, hi0⟩ := not_idle hni
    have Fr := fair_of G1 hx0 hi0
    have hmu := mu_first (s := s.tick now) (j := j) G1.n8 (by have := G1.n1; omega)
    obtain ⟨⟨dt2, t12⟩, t22⟩ := id R2.tn
    refine ⟨_, rfl, e.p, C.End, d1, _, _, rfl, hp2, T.c_End, T.n_End_turns, l_End_turns, e1.tn, dt2, _, rfl, t12, m_Turns_find_turn, _, rfl, e.p, C.End, d1, _, _, rfl, hp2, T.c_End, T.n_End_queues, l_End_queues, e1.tn, e1.cl, e1.lq, e1.qs, s.tick now, j, rfl, R2.tn, R2.lines, Fr, hmu, fun H3 t hpick T3 k3 => ?_⟩
    obtain ⟨t', x, i, rest, hp', Tr, ton, tg, hx, hi, hc⟩ := pick_ok 100 Fr hmu
    rw [hpick] at hp'
    obtain rfl : t = t' := (Prod.mk.inj hp').2
    have hh1 : (s.tick now).handed = none := hh
    have G3 := good_tried Tr G1 hh1 ton
    have R3 := R2.setT T3 k3 Tr
    have K13 := K2.trans (kept_turns T3 k3)
    obtain ⟨d3, hp3⟩ := R3.ob
    rw [K1.p] at hp3
    obtain ⟨⟨dt3, t13⟩, t23⟩ := id T3
    obtain ⟨qa, dq, hqa, r, ro, hat⟩ := R3.queue_at hx
    obtain ⟨w0, hw0, ⟨⟨dw, wo⟩, wf⟩⟩ := Paired.get (i := 0) r.ws (by rw [hi]; rfl)
    have hlast : t.last = now := by rw [Tr.eq]; rfl
    have hi18 : i.bytes.length ≤ 1518 := ((G3.at_ hx).items i (by rw [hi]; exact List.mem_cons_self)).hi
    refine ⟨_, rfl, e.p, C.End, d3, _, _, rfl, hp3, T.c_End, T.n_End_queues, l_End_queues, _, rfl, e.p, C.End, d3, _, _, rfl, hp3, T.c_End, T.n_End_turns, l_End_turns, e1.tn, C.Turns, dt3, _, _, rfl, t13, T.c_Turns, T.n_Turns_on, l_Turns_on, e1.lq, _, _, _, rfl, rfl, SqL.of R3.lq, hat, qa.o, C.Queue, dq, _, _, rfl, ro, T.c_Queue, T.n_Queue_line, l_Queue_line, qa.l, _, _, _, rfl, rfl, SqL.of r.ln, atI_nat (j := 0) (by rw [List.getElem?_map, hw0]; rfl), w0.1, C.Waiting, dw, _, _, rfl, wo, T.c_Waiting, T.n_Waiting_frame, l_Waiting_frame, ?_⟩
    refine ⟨_, rfl, e.p, d3, _, rfl, hp3, m_End_time_to_go, _, rfl, w0.2, _, rfl, .inl (SqL.of wf), e1, t, i.bytes.length, by rw [K1.p, vnb_length], R3, G3, hi18, ?_⟩
    have spec : does s (.next now) = if t.when_ i.bytes.length = now then ({ t with handed := some t.turn }, ⟨1, nums i.bytes⟩) else (t, ⟨2, [t.when_ i.bytes.length]⟩) := by
      simp only [does]
      rw [if_neg htf, if_neg hhn, if_neg hni, show Sf82.FUEL = 100 from rfl, hpick]
      dsimp only
      rw [queue_eq hx, hi]
    refine ⟨_, rfl, _, rfl, _, _, rfl, rfl, _, rfl, ?_⟩
    dsimp only
    by_cases hgo : 1000 * i.bytes.length ≤ t.may
    · have hwn := when_now G3 hi18 hgo
      rw [if_pos (by rw [hwn]; exact hlast)] at spec
      rw [spec] at k
      refine itN (by rw [hwn, hlast]; omega) ?_
      refine ⟨_, rfl, e.p, C.End, d3, _, rfl, hp3, T.c_End, T.n_End_is_out, z_End, ?_⟩
      rw [p_End_is_out, ← K1.p]
      have R4 : EndAt C (upd H3 e1.p (.ins C.End d3 (fE e1 { t with handed := some t.turn }))) e1 { t with handed := some t.turn } := R3.updP (dx := d3) (s' := { t with handed := some t.turn }) rfl rfl rfl rfl rfl rfl
      have nwf : w0.2 ≠ e1.p := by rw [K1.p]; exact ne_of wf hp3 ne_li
      refine ⟨by show 1 ≤ sizeLine; decide, fun l5 n5 => ⟨_, rfl, l5, w0.2, _, vi (nb i.bytes), rfl, rfl, upd_same, ?_, ?_, fun l6 n6 => ?_⟩⟩
      · rw [upd_ne (fun z => by rw [← z, upd_ne nwf, wf] at n5; cases n5), upd_ne nwf]; exact wf
      · rw [vnb_length]; show 1 + _ ≤ sizeLine; omega
      · have s6 := (same_upd (o := HO.lst [V.int 1]) n5).trans (same_upd (o := HO.lst ([V.int 1] ++ vi (nb i.bytes))) n6)
        refine k e1 _ l6 (R4.same s6) ((K13.trans (kept_upd mt_p)).trans (Kept.same s6)) ((K13.trans (kept_upd mt_p)).live _ ((same_upd n5).free n6)) ?_
        rw [upd_same]
        have eA : listOf ⟨1, nums i.bytes⟩ = 1 :: nb i.bytes := by
          show (1 : Int) :: ((nums i.bytes).map fun (n : Nat) => (n : Int)) = _
          rw [nums_nb]
        rw [eA]
        rfl
    · obtain ⟨hv, hne⟩ := when_later G3 hi18 hgo
      have hge : t.last ≤ t.when_ i.bytes.length := by
        unfold Sf82.S.when_
        split
        · exact Nat.le_refl _
        · exact Nat.le_add_right _ _
      rw [if_neg (by rw [← hlast]; exact hne)] at spec
      rw [spec] at k
      refine itP (by omega) ?_
      refine ⟨_, rfl, by show 2 ≤ sizeLine; decide, fun l5 n5 => ?_⟩
      exact k e1 _ l5 (R3.same (same_upd n5)) (K13.trans (Kept.same (same_upd n5))) (K13.live _ n5) upd_same
theorem ok_End_went {f : Addr} {fd : FuncData} (F : Fun K "went" "End.went" s_End_went f fd) (T : Txt K mg C) (u_End_may_be_now : MethOk P w K mg base 1 C.End "may_be_now" ps_End_may_be_now (sp_End_may_be_now K C)) (u_End_pass_time : MethOk P w K mg base 4 C.End "pass_time" ps_End_pass_time (sp_End_pass_time K C)) (u_End_send_first : MethOk P w K mg base 2 C.End "send_first" ps_End_send_first (sp_End_send_first K C)) : FnOk P w K mg base CX0 5 f fd ps_End_went (sp_End_went K C) := by
  refine F.ok sc_End_went (fun vs H Q E h => ?_) (fun cdv A outer s H vs Q E hr h => ?_)
  · obtain ⟨e, s, now, ok, rfl, _⟩ := h
    rfl
  · obtain ⟨e, s, now, ok, rfl, R, G, k⟩ := h
    obtain ⟨dx, hp⟩ := R.ob
    refine ⟨_, (pss_cons (ps_if (PW.pt (pw_or (pt_not (pt_val (pe_mth (pv 0) T.c_End u_End_may_be_now hr (by decide) (pa_cons (pv 1) pa_nil)))) (pw_or1 (pt_not (pt_chain op_le op_le pe_int (pv 2) pe_int))))) (pss_one (ps_ret (pe_lst (pa_cons (pe_gint rfl T.g_WRONG) pa_nil)))) pss_nil) (pss_cons (ps_if (pt_not (pt_val (pe_fld (pv 0) rfl))) (pss_one (ps_ret (pe_lst (pa_cons (pe_gint rfl T.g_NOT_NOW) pa_nil)))) pss_nil) (pss_cons (ps_expr (pe_mth (pv 0) T.c_End u_End_pass_time hr (by decide) (pa_cons (pv 1) pa_nil))) (pss_cons (ps_fld (pv 0) pe_bl rfl) (pss_cons (ps_if (pt_cmpR op_eq (pv 2) pe_int (nomark _)) (pss_one (ps_expr (pe_mth0 (pv 0) T.c_End u_End_send_first hr (by decide)))) (pss_one (ps_fldaug (pe_fld (pv 0) rfl) pe_int in_add))) (pss_one (ps_ret (pe_lst (pa_cons pe_int pa_nil))))))))), ?_⟩
    refine ⟨_, rfl, e.p, dx, _, rfl, hp, m_End_may_be_now, _, rfl, e, s, now, rfl, R, _, rfl, ?_⟩
    rw [time_dec G now]
    have wrong : (s.timeOk now = false ∨ Sf82.within ok 0 1 = false) → ([V.int (-1)] : List V).length ≤ sizeLine ∧ ∀ p, H p = none → Q (.ref p) (upd H p (.lst [V.int (-1)])) := fun z => by
      have e1 : does s (.went now ok) = (s, says (-1)) := by simp only [does]; rw [if_pos z]
      rw [e1] at k
      exact k.ret R (Kept.refl e H)
    cases ht : s.timeOk now with
    | false => exact iteT (iteT (wrong (.inl ht)))
    | true =>
    refine iteF ?_
    by_cases hok : 0 ≤ ok ∧ ok ≤ 1
    case neg =>
      have hw : Sf82.within ok 0 1 = false := by
        unfold Sf82.within
        rw [Bool.and_eq_false_iff]
        by_cases h1 : 0 ≤ ok
        · right; exact decide_eq_false fun z => hok ⟨h1, z⟩
        · left; exact decide_eq_false h1
      by_cases h1 : 0 ≤ ok
      · exact ⟨_, rfl, _, _, rfl, rfl, _, rfl, itP h1 ⟨_, _, rfl, rfl, _, rfl, itnN (fun z => hok ⟨h1, z⟩) (wrong (.inr hw))⟩⟩
      · exact ⟨_, rfl, _, _, rfl, rfl, _, rfl, itN h1 ⟨_, rfl, iteT (wrong (.inr hw))⟩⟩
    have hw : Sf82.within ok 0 1 = true := by unfold Sf82.within; simp; omega
    have good : ¬ (s.timeOk now = false ∨ Sf82.within ok 0 1 = false) := by rw [ht, hw]; simp
    refine ⟨_, rfl, _, _, rfl, rfl, _, rfl, itP hok.1 ⟨_, _, rfl, rfl, _, rfl, itnP hok.2 ?_⟩⟩
    refine ⟨_, rfl, e.p, C.End, dx, _, _, rfl, hp, T.c_End, T.n_End_is_out, l_End_is_out, _, rfl, ?_⟩
    cases hh : s.handed with
    | none =>
      have e1 : does s (.went now ok) = (s, says (-4)) := by simp only [does]; rw [if_neg good, hh]
      rw [e1] at k
      exact iteT (k.ret R (Kept.refl e H))
    | some q =>
    refine iteF ?_
    have htime := (timeOk_iff G now).mp ht
    refine ⟨_, rfl, e.p, dx, _, rfl, hp, m_End_pass_time, _, rfl, e, s, now, rfl, R, G, htime.1, fun e1 H1 R1 K1 => ?_⟩
    have G1 := good_tick G htime.1 htime.2
    obtain ⟨d1, hp1⟩ := R1.ob
    rw [K1.p] at hp1
    refine ⟨_, rfl, e.p, C.End, d1, _, rfl, hp1, T.c_End, T.n_End_is_out, z_End, ?_⟩
    rw [p_End_is_out, ← K1.p]
    generalize hH2 : upd H1 e1.p _ = H2
    have R2 : EndAt C H2 e1 { s.tick now with handed := none } := by rw [← hH2]; exact R1.updP (dx := d1) (s' := { s.tick now with handed := none }) rfl rfl rfl rfl rfl rfl
    have K2 : Kept e e1 H H2 := by rw [← hH2]; exact K1.trans (kept_upd mt_p)
    obtain ⟨d2, hp2⟩ := R2.ob
    refine ⟨_, rfl, rfl, _, rfl, ?_⟩
    by_cases h0 : ok = 0
    · have e9 : does s (.went now ok) = (({ s.tick now with handed := none } : S).counted 9 1, says 0) := by simp only [does]; rw [if_neg good, hh]; dsimp only; rw [if_pos h0]
      rw [e9] at k
      refine itN (by rw [int_iff]; omega) ?_
      obtain ⟨dc, hc2⟩ := R2.cn
      refine ⟨_, rfl, e1.p, C.End, d2, _, _, rfl, hp2, T.c_End, T.n_End_counts, l_End_counts, e1.cn, C.Counts, dc, _, _, rfl, hc2, T.c_Counts, T.n_Counts_not_taken, l_Counts_not_taken, _, _, rfl, rfl, dc, _, hc2, z_Counts, ?_⟩
      rw [p_Counts_not_taken, show (1 : Int) = ((1 : Nat) : Int) from rfl, cnt_9 { s.tick now with handed := none } 1 G1.cnt]
      exact k.ret (R2.count (k := 9) (n := 1) (dc := dc)) (K2.trans (kept_upd mt_cn))
    · obtain ⟨hq, x, i, rest, hx, hi, hc, hm⟩ := G1.out q hh
      have e9 : does s (.went now ok) = (sentS { s.tick now with handed := none } i rest, says 0) := by
        simp only [does]
        rw [if_neg good, hh]
        dsimp only
        rw [if_neg h0, queue_eq hx, hi]
        dsimp only
        rw [hq]
        rfl
      rw [e9] at k
      refine itP (by rw [int_iff]; omega) ?_
      refine ⟨_, rfl, e1.p, d2, _, rfl, hp2, m_End_send_first, e1, { s.tick now with handed := none }, x, i, rest, rfl, R2, by rw [hq] at hx; exact hx, hi, hc, hm, G1.cnt, fun e3 H3 R3 K3 => ?_⟩
      exact k.ret R3 (K2.trans K3)
end
end FL
end
section
namespace FL
open PySem L2
open Sf82 (Bytes Item Queue S does says nums EVERYBODY number frame)
open Sf82Neutral (listOf)
def sp_End_waits (K : PySem.W.Frag) (C : Cs) : Sp := fun vs H Q _ => ∃ (e : EA) (s : S) (now : Nat) (q : Int), vs = [.ref e.p, .int now, .int q] ∧ EndAt C H e s ∧ Good s ∧ Tells C e H (does s (.waits now q)).1 (listOf (does s (.waits now q)).2) Q
def sp_End_drop (K : PySem.W.Frag) (C : Cs) : Sp := fun vs H Q _ => ∃ (e : EA) (s : S) (q : Int), vs = [.ref e.p, .int q] ∧ EndAt C H e s ∧ Good s ∧ Tells C e H (does s (.drop q)).1 (listOf (does s (.drop q)).2) Q
theorem good_out {s : S} (g : Good s) : OutOk s := ⟨fun q hq => by
  obtain ⟨e, x, i, r, hx, hi, _⟩ := g.out q hq
  exact ⟨e, x, i, r, hx, hi⟩⟩
theorem sum_nat : ∀ l : List Nat, (l.map fun (n : Nat) => (n : Int)).sum = ((l.sum : Nat) : Int)
  | [] => rfl
  | a :: l => by
    rw [List.map_cons, List.sum_cons, List.sum_cons, sum_nat l]
    push_cast
    rfl
/-- the lengths of the frames that wait -/
def lens (l : List Item) : List Int := l.map fun (i : Item) => ((i.bytes.length : Nat) : Int)
theorem lens_sum (l : List Item) : (lens l).sum = (((l.map fun (i : Item) => i.bytes.length).sum : Nat) : Int) := by
  rw [← sum_nat, List.map_map]
  rfl
section
variable {P : Program} {w : World} {K : PySem.W.Frag} {mg : Str → Option Value} {base : Heap} {C : Cs}
theorem ok_End_waits {f : Addr} {fd : FuncData} (F : Fun K "waits" "End.waits" s_End_waits f fd) (T : Txt K mg C) (u_End_has_queue : MethOk P w K mg base 1 C.End "has_queue" ps_End_has_queue (sp_End_has_queue K C)) (u_End_may_be_now : MethOk P w K mg base 1 C.End "may_be_now" ps_End_may_be_now (sp_End_may_be_now K C)) (u_End_pass_time : MethOk P w K mg base 4 C.End "pass_time" ps_End_pass_time (sp_End_pass_time K C)) : FnOk P w K mg base CX0 5 f fd ps_End_waits (sp_End_waits K C) := by
  refine F.ok sc_End_waits (fun vs H Q E h => ?_) (fun cdv A outer s H vs Q E hr h => ?_)
  · obtain ⟨e, s, now, q, rfl, _⟩ := h
    rfl
  · obtain ⟨e, s, now, q, rfl, R, G, k⟩ := h
    obtain ⟨dx, hp⟩ := R.ob
    have hz := sizeLine_eq
    refine ⟨_, (pss_cons (ps_if (PW.pt (pw_or (pt_not (pt_val (pe_mth (pv 0) T.c_End u_End_may_be_now hr (by decide) (pa_cons (pv 1) pa_nil)))) (pw_or1 (pt_not (pt_val (pe_mth (pv 0) T.c_End u_End_has_queue hr (by decide) (pa_cons (pv 2) pa_nil))))))) (pss_one (ps_ret (pe_lst (pa_cons (pe_gint rfl T.g_WRONG) pa_nil)))) pss_nil) (pss_cons (ps_expr (pe_mth (pv 0) T.c_End u_End_pass_time hr (by decide) (pa_cons (pv 1) pa_nil))) (pss_cons (ps_set (i := 3) sc_End_waits.nd rfl (by first | exact Or.inl rfl | exact Or.inr rfl) (pe_fld (pe_ix ix_list (pe_fld (pv 0) rfl) (pv 2) (fun _ _ => rfl)) rfl)) (pss_cons (ps_set (i := 4) sc_End_waits.nd rfl (by first | exact Or.inl rfl | exact Or.inr rfl) (pe_ifExp (pt_cmpR op_gt (pe_callB call_len_seq (by rfl) T.b_len (show bootBuiltins "len" = some (.builtin "len") by decide +kernel) (pa_cons (pv 3) pa_nil)) pe_int (nomark _)) (pe_op op_sub (pv 1) (pe_fld (pe_ix ix_list (pv 3) pe_int (fun _ _ => rfl)) rfl)) pe_int)) (pss_one (ps_ret (pe_lst (pa_cons pe_int (pa_cons (pe_callB call_len_seq (by rfl) T.b_len (show bootBuiltins "len" = some (.builtin "len") by decide +kernel) (pa_cons (pv 3) pa_nil)) (pa_cons (pe_callB (cr_sum rfl) (by rfl) T.b_sum (show bootBuiltins "sum" = some (.builtin "sum") by decide +kernel) (pa_cons (pe_lc rfl sc_End_waits.nd (pi_list (pv 3)) (blkOk_by (own := [("one", 5)]) (show blkC N_End_waits (defScope s_End_waits) _ _ = true by decide +kernel)) (fun _ _ _ _ _ => pg_name (i := 5) sc_End_waits.nd rfl (by first | exact Or.inl rfl | exact Or.inr rfl)) (fun _ _ _ _ _ => pts_nil) (fun _ _ _ _ _ => by exact (pe_callB (call_len_seqK (K := K) rfl) (by rfl) T.b_len (show bootBuiltins "len" = some (.builtin "len") by decide +kernel) (pa_cons (pe_fldK (K := K) rfl (pv 5) rfl) pa_nil)))) pa_nil)) (pa_cons (pv 4) pa_nil))))))))))), ?_⟩
    refine ⟨_, rfl, e.p, dx, _, rfl, hp, m_End_may_be_now, _, rfl, e, s, now, rfl, R, _, rfl, ?_⟩
    rw [time_dec G now]
    have wrong : (s.timeOk now = false ∨ s.has q = false) → ([V.int (-1)] : List V).length ≤ sizeLine ∧ ∀ p, H p = none → Q (.ref p) (upd H p (.lst [V.int (-1)])) := fun z => by
      have e1 : does s (.waits now q) = (s, says (-1)) := by simp only [does]; rw [if_pos z]
      rw [e1] at k
      exact k.ret R (Kept.refl e H)
    cases ht : s.timeOk now with
    | false => exact iteT (iteT (wrong (.inl ht)))
    | true =>
    refine iteF ⟨_, rfl, e.p, dx, _, rfl, hp, m_End_has_queue, _, rfl, e, s, q, rfl, R, _, rfl, ?_⟩
    cases hh : s.has q with
    | false => exact iteT (wrong (.inr hh))
    | true =>
    refine iteF ?_
    have good : ¬ (s.timeOk now = false ∨ s.has q = false) := by rw [ht, hh]; simp
    have htime := (timeOk_iff G now).mp ht
    refine ⟨_, rfl, e.p, dx, _, rfl, hp, m_End_pass_time, _, rfl, e, s, now, rfl, R, G, htime.1, fun e1 H1 R1 K1 => ?_⟩
    have G1 := good_tick G htime.1 htime.2
    obtain ⟨d1, hp1⟩ := R1.ob
    rw [K1.p] at hp1
    obtain ⟨x0, hx0, hq0⟩ := has_lt hh
    have hlt : q.toNat < (s.tick now).queues.length := by rw [tick_length]; exact (List.getElem?_eq_some_iff.mp hx0).1
    obtain ⟨x, hx⟩ : ∃ x, (s.tick now).queues[q.toNat]? = some x := ⟨_, List.getElem?_eq_getElem hlt⟩
    obtain ⟨qa, dq, hqa, r, ro, hat⟩ := R1.queue_at hx
    have hw := paired_len r.ws
    have hqe : (s.tick now).queue q.toNat = x.items := queue_eq hx
    have hx64 := (G1.at_ hx).few
    have h64 := G1.e64
    have spec : does s (.waits now q) = (s.tick now, ⟨0, [x.items.length, (x.items.map fun (i : Item) => i.bytes.length).sum, match x.items with
      | i :: _ => now - i.since
      | [] => 0]⟩) := by
      simp only [does]
      rw [if_neg good, hqe]
      rfl
    rw [spec] at k
    refine ⟨_, rfl, e.p, C.End, d1, _, _, rfl, hp1, T.c_End, T.n_End_queues, l_End_queues, _, rfl, e1.lq, _, _, _, rfl, rfl, SqL.of R1.lq, by rw [show q = ((q.toNat : Nat) : Int) by omega]; exact hat, qa.o, C.Queue, dq, _, _, rfl, ro, T.c_Queue, T.n_Queue_line, l_Queue_line, ?_⟩
    refine ⟨_, rfl, qa.l, _, rfl, .inl (SqL.of r.ln), _, _, rfl, rfl, _, rfl, ?_⟩
    rw [rf_length, hw]
    -- the answer, whatever the age
    have fin : ∀ (g : Nat), (match x.items with
      | i :: _ => now - i.since
      | [] => 0) = g → ∀ σ : St, σ = [some (.ref e.p), some (.int now), some (.int q), some (.ref qa.l), some (.int g), none] → ∀ D, H1 D = none → ∀ l5, upd H1 D (.lst (vi (lens x.items))) l5 = none → Q (.ref l5) (upd (upd H1 D (.lst (vi (lens x.items)))) l5 (.lst [V.int 0, V.int (x.items.length : Int), V.int (((x.items.map fun (i : Item) => i.bytes.length).sum : Nat) : Int), V.int (g : Int)])) := fun g hg σ _ D hD l5 n5 => by
      rw [hg] at k
      have s5 := (same_upd (o := HO.lst (vi (lens x.items))) hD).trans (same_upd (o := HO.lst [V.int 0, V.int (x.items.length : Int), V.int (((x.items.map fun (i : Item) => i.bytes.length).sum : Nat) : Int), V.int (g : Int)]) n5)
      exact k e1 _ l5 (R1.same s5) (K1.trans (Kept.same s5)) (K1.live _ ((same_upd hD).free n5)) upd_same
    cases hi : x.items with
    | nil =>
      rw [hi] at fin
      refine itN (by rw [List.length_nil]; decide) ?_
      refine ⟨_, rfl, qa.l, _, rfl, .inl (SqL.of r.ln), _, rfl, qa.l, rfl, ⟨_, SqL.of r.ln⟩, fun D hD => lc_list (K := K) (a := qa.l) (xs := rf qa.ws) (fun i H2 => H2 = upd H1 D (.lst (vi ((lens x.items).take i)))) rfl ?_ ?_ ?_⟩
      · rintro i H2 _ rfl
        exact SqL.of (same_upd hD _ _ r.ln)
      · rintro i y H2 hiy rfl
        rw [hi] at hw
        rw [List.length_eq_zero_iff.mp hw] at hiy
        cases hiy
      · rintro H2 rfl
        refine ⟨D, lens x.items, rfl, SqL.of ?_, _, rfl, by show 4 ≤ sizeLine; decide, fun l5 n5 => ?_⟩
        · rw [upd_same, List.take_of_length_le (by rw [rf_length, hw]; unfold lens; rw [List.length_map]; exact Nat.le_refl _)]
        · rw [List.take_of_length_le (by rw [rf_length, hw]; unfold lens; rw [List.length_map]; exact Nat.le_refl _)] at n5 ⊢
          rw [rf_length, hw, lens_sum]
          rw [hi] at n5 ⊢
          exact fin 0 rfl _ rfl D hD l5 n5
    | cons i0 rest =>
      rw [hi] at fin
      refine itP (by rw [List.length_cons]; omega) ?_
      obtain ⟨w0, hw0, ⟨⟨dw, wo⟩, wf⟩⟩ := Paired.get (i := 0) r.ws (by rw [hi]; rfl)
      have hsince := ((G1.at_ hx).items i0 (by rw [hi]; exact List.mem_cons_self)).since
      have hlast : (s.tick now).last = now := rfl
      refine ⟨_, rfl, _, rfl, qa.l, _, _, _, rfl, rfl, SqL.of r.ln, atI_nat (j := 0) (by rw [List.getElem?_map, hw0]; rfl), w0.1, C.Waiting, dw, _, _, rfl, wo, T.c_Waiting, T.n_Waiting_since, l_Waiting_since, _, _, rfl, rfl, ?_⟩
      have eg : (now : Int) - (i0.since : Int) = ((now - i0.since : Nat) : Int) := by omega
      dsimp only
      rw [eg]
      refine ⟨_, rfl, qa.l, _, rfl, .inl (SqL.of r.ln), _, rfl, qa.l, rfl, ⟨_, SqL.of r.ln⟩, fun D hD => lc_list (K := K) (a := qa.l) (xs := rf qa.ws) (fun i H2 => H2 = upd H1 D (.lst (vi ((lens x.items).take i)))) rfl ?_ ?_ ?_⟩
      · rintro i H2 _ rfl
        exact SqL.of (same_upd hD _ _ r.ln)
      · rintro i y H2 hiy rfl
        rw [List.getElem?_map] at hiy
        cases hwi : qa.ws[i]? with
        | none => rw [hwi] at hiy; cases hiy
        | some w1 =>
          rw [hwi] at hiy
          obtain rfl : V.ref w1.1 = y := Option.some.inj hiy
          obtain ⟨it, hit, ⟨⟨dw1, wo1⟩, wf1⟩⟩ := Paired.getL r.ws hwi
          have sm : Same H1 (upd H1 D (.lst (vi ((lens x.items).take i)))) := same_upd hD
          have wo2 := sm _ _ wo1
          refine ⟨rfl, _, rfl, w1.1, C.Waiting, dw1, _, _, rfl, wo2, T.c_Waiting, T.n_Waiting_frame, l_Waiting_frame, w1.2, _, rfl, .inl (SqL.of (sm _ _ wf1)), _, upd_same, ?_, ?_⟩
          · rw [List.length_map, List.length_take]
            unfold lens
            rw [List.length_map]
            omega
          · rw [upd_upd, vnb_length]
            have e2 : (lens x.items)[i]? = some ((it.bytes.length : Nat) : Int) := by unfold lens; rw [List.getElem?_map, hit]; rfl
            rw [List.take_add_one, e2, vi_append]
            rfl
      · rintro H2 rfl
        refine ⟨D, lens x.items, rfl, SqL.of ?_, _, rfl, by show 4 ≤ sizeLine; decide, fun l5 n5 => ?_⟩
        · rw [upd_same, List.take_of_length_le (by rw [rf_length, hw]; unfold lens; rw [List.length_map]; exact Nat.le_refl _)]
        · rw [List.take_of_length_le (by rw [rf_length, hw]; unfold lens; rw [List.length_map]; exact Nat.le_refl _)] at n5 ⊢
          rw [rf_length, hw, lens_sum]
          rw [hi] at n5 ⊢
          exact fin (now - i0.since) rfl _ rfl D hD l5 n5
theorem ok_End_drop {f : Addr} {fd : FuncData} (F : Fun K "drop" "End.drop" s_End_drop f fd) (T : Txt K mg C) (u_End_has_queue : MethOk P w K mg base 1 C.End "has_queue" ps_End_has_queue (sp_End_has_queue K C)) (u_End_keep_only : MethOk P w K mg base 2 C.End "keep_only" ps_End_keep_only (sp_End_keep_only K C)) : FnOk P w K mg base CX0 3 f fd ps_End_drop (sp_End_drop K C) := by
  refine F.ok sc_End_drop (fun vs H Q E h => ?_) (fun cdv A outer s H vs Q E hr h => ?_)
  · obtain ⟨e, s, q, rfl, _⟩ := h
    rfl
  · obtain ⟨e, s, q, rfl, R, G, k⟩ := h
    obtain ⟨dx, hp⟩ := R.ob
    have hz := sizeLine_eq
    refine ⟨_, (pss_cons (ps_if (pt_not (pt_val (pe_mth (pv 0) T.c_End u_End_has_queue hr (by decide) (pa_cons (pv 1) pa_nil)))) (pss_one (ps_ret (pe_lst (pa_cons (pe_gint rfl T.g_WRONG) pa_nil)))) pss_nil) (pss_cons (ps_set (i := 2) sc_End_drop.nd rfl (by first | exact Or.inl rfl | exact Or.inr rfl) (pe_mth (pv 0) T.c_End u_End_keep_only hr (by decide) (pa_cons (pv 1) (pa_cons (pe_lst pa_nil) pa_nil)))) (pss_cons (ps_fldaug (pe_fld (pv 0) rfl) (pv 2) in_add) (pss_one (ps_ret (pe_lst (pa_cons (pv 2) pa_nil))))))), ?_⟩
    refine ⟨_, rfl, e.p, dx, _, rfl, hp, m_End_has_queue, _, rfl, e, s, q, rfl, R, _, rfl, ?_⟩
    cases hh : s.has q with
    | false =>
      have e1 : does s (.drop q) = (s, says (-1)) := by simp only [does]; rw [if_pos hh]
      rw [e1] at k
      exact iteT (k.ret R (Kept.refl e H))
    | true =>
    refine iteF ?_
    obtain ⟨x, hx, hq0⟩ := has_lt hh
    obtain ⟨qa, dq, hqa, r, ro, hat⟩ := R.queue_at hx
    have hx64 := (G.at_ hx).few
    have h64 := G.e64
    have hout := good_out G
    have hle := out_le hout hx
    have hqe : s.queue q.toNat = x.items := queue_eq hx
    have hl : (if s.handed = some q.toNat then x.items.take 1 else []) = x.items.take (outN s q.toNat) := by
      unfold outN
      split
      · rfl
      · rfl
    have hll : (x.items.take (outN s q.toNat)).length = outN s q.toNat := by rw [List.length_take]; omega
    have spec : does s (.drop q) = (({ s with queues := s.queues.set q.toNat ⟨x.weight, x.credit, x.items.take (outN s q.toNat) ++ []⟩ } : S).counted 6 (x.items.length - (outN s q.toNat + 0)), says ((x.items.length - (outN s q.toNat + 0) : Nat) : Int)) := by
      simp only [does]
      rw [if_neg (by rw [hh]; simp), hqe, hl, hll]
      unfold Sf82.S.with_
      rw [changed_set s.queues q.toNat _ x hx, List.append_nil]
      rfl
    rw [spec] at k
    refine ⟨_, rfl, e.p, dx, _, rfl, hp, m_End_keep_only, _, rfl, Nat.zero_le _, fun l1 n1 => ?_⟩
    have s1 := same_upd (o := HO.lst []) n1
    have R1 := R.same s1
    refine ⟨e, s, q.toNat, qa, x, l1, [], [], by rw [show ((q.toNat : Nat) : Int) = q by omega], R1, hout, hqa, hx, upd_same, .nil, (fun w hw => by cases hw), by simpa using hle, by omega, fun e2 H2 R2 K2 => ?_⟩
    obtain ⟨d2, hp2⟩ := R2.ob
    obtain ⟨dc2, hc2⟩ : ∃ dx, H2 e2.cn = some (.ins C.Counts dx (fC s)) := R2.cn
    rw [K2.p] at hp2
    refine ⟨_, rfl, e.p, C.End, d2, _, _, rfl, hp2, T.c_End, T.n_End_counts, l_End_counts, e2.cn, C.Counts, dc2, _, _, rfl, hc2, T.c_Counts, T.n_Counts_dropped, l_Counts_dropped, _, rfl, _, _, rfl, rfl, dc2, _, hc2, z_Counts, ?_⟩
    rw [p_Counts_dropped, cnt_6 s _ G.cnt]
    refine ⟨_, rfl, ?_⟩
    exact k.ret (R2.count (k := 6) (dc := dc2)) (((Kept.same s1).trans K2).trans (kept_upd mt_cn))
end
end FL
end
section
namespace FL
open PySem L2
open Sf82 (Bytes Item Queue S does says nums EVERYBODY number frame)
open Sf82Neutral (listOf)
/-! ### what is due -/
/-- from when the next frame may go -/
def paceO (u : S) : Option Nat := if u.handed ≠ none ∨ (u.queues.all fun (x : Queue) => x.items.isEmpty) = true then none else match S.pick Sf82.FUEL u with
  | (some q, t) => (match t.queue q with
    | i :: _ => some (t.when_ i.bytes.length)
    | [] => none)
  | (none, _) => none
def agesQ (s : S) (x : Queue × Nat) : List Nat := (if s.handed = some x.2 then x.1.items.drop 1 else x.1.items).map fun (i : Item) => i.since + s.life + 1
def ages (s : S) : List Nat := if s.life = 0 then [] else s.queues.zipIdx.flatMap (agesQ s)
def minO (m : Option Nat) (n : Nat) : Option Nat := some (match m with
  | none => n
  | some k => min k n)
theorem oldest_eq (s : S) : s.oldest = (ages s).foldl minO none := by
  unfold Sf82.S.oldest ages
  by_cases h : s.life = 0
  · rw [if_pos h, if_pos h]; rfl
  · rw [if_neg h, if_neg h]; rfl
theorem fold_some : ∀ (l : List Nat) (k : Nat), ∃ m, l.foldl minO (some k) = some m ∧ m ∈ k :: l ∧ ∀ y ∈ k :: l, m ≤ y
  | [], k => ⟨k, rfl, List.mem_cons_self, fun y hy => by rw [List.mem_singleton.mp hy]; exact Nat.le_refl _⟩
  | n :: l, k => by
    obtain ⟨m, h1, h2, h3⟩ := fold_some l (min k n)
    have hm := h3 _ List.mem_cons_self
    refine ⟨m, h1, ?_, fun y hy => ?_⟩
    · rcases List.mem_cons.mp h2 with z | z
      · rcases Nat.le_total k n with q | q
        · rw [Nat.min_eq_left q] at z; rw [z]; exact List.mem_cons_self
        · rw [Nat.min_eq_right q] at z; rw [z]; exact List.mem_cons_of_mem _ List.mem_cons_self
      · exact List.mem_cons_of_mem _ (List.mem_cons_of_mem _ z)
    · rcases List.mem_cons.mp hy with z | z
      · rw [z]; exact Nat.le_trans hm (Nat.min_le_left _ _)
      · rcases List.mem_cons.mp z with z | z
        · rw [z]; exact Nat.le_trans hm (Nat.min_le_right _ _)
        · exact h3 y (List.mem_cons_of_mem _ z)
theorem oldest_nil {s : S} (h : ages s = []) : s.oldest = none := by rw [oldest_eq, h]; rfl
theorem oldest_cons {s : S} (h : ages s ≠ []) : ∃ m, s.oldest = some m ∧ m ∈ ages s ∧ ∀ y ∈ ages s, m ≤ y := by
  rw [oldest_eq]
  cases hl : ages s with
  | nil => exact absurd hl h
  | cons n l => exact fold_some l n
def natsI (l : List Nat) : List Int := l.map fun (n : Nat) => (n : Int)
def paceL (u : S) : List Nat := match paceO u with
  | none => []
  | some a => [a]
def sp_End_times_to_go (K : PySem.W.Frag) (C : Cs) : Sp := fun vs H Q _ => ∃ (e : EA) (s : S), vs = [.ref e.p] ∧ EndAt C H e s ∧ Good s ∧ ∀ l H', Same H H' → H' l = some (.lst (vi (natsI (paceL s)))) → Q (.ref l) H'
def sp_End_times_of_age (K : PySem.W.Frag) (C : Cs) : Sp := fun vs H Q _ => ∃ (e : EA) (s : S), vs = [.ref e.p] ∧ EndAt C H e s ∧ Good s ∧ ∀ l H', Same H H' → H' l = some (.lst (vi (natsI (ages s)))) → Q (.ref l) H'
def sp_End_due (K : PySem.W.Frag) (C : Cs) : Sp := fun vs H Q _ => ∃ (e : EA) (s : S) (now : Nat), vs = [.ref e.p, .int now] ∧ EndAt C H e s ∧ Good s ∧ Tells C e H (does s (.due now)).1 (listOf (does s (.due now)).2) Q
theorem agesQ_eq (s : S) (x : Queue) (j : Nat) : agesQ s (x, j) = (x.items.drop (outN s j)).map fun (i : Item) => i.since + s.life + 1 := by
  unfold agesQ outN
  dsimp only
  split
  · rfl
  · rfl
theorem agesQ_len {s : S} (g : Good s) {x : Queue} {j : Nat} (hx : s.queues[j]? = some x) : (agesQ s (x, j)).length ≤ 64 := by
  rw [agesQ_eq, List.length_map, List.length_drop]
  have := (g.at_ hx).few
  have := g.e64
  omega
theorem ages_part {s : S} (g : Good s) : ∀ i, ((s.queues.zipIdx.take i).flatMap (agesQ s)).length ≤ i * 64
  | 0 => by simp
  | i + 1 => by
    have ih := ages_part g i
    rw [List.take_add_one, List.flatMap_append, List.length_append]
    cases hx : s.queues[i]? with
    | none =>
      have hz : s.queues.zipIdx[i]? = none := by rw [List.getElem?_zipIdx, hx]; rfl
      rw [hz]
      simp only [Option.toList_none, List.flatMap_nil, List.length_nil, Nat.add_zero]
      omega
    | some x =>
      have hz : s.queues.zipIdx[i]? = some (x, i) := by rw [List.getElem?_zipIdx, hx]; simp
      rw [hz]
      have := agesQ_len g hx
      simp only [Option.toList_some, List.flatMap_cons, List.flatMap_nil, List.append_nil]
      omega
theorem natsI_append (a b : List Nat) : natsI (a ++ b) = natsI a ++ natsI b := List.map_append ..
theorem natsI_length (a : List Nat) : (natsI a).length = a.length := List.length_map ..
section
variable {P : Program} {w : World} {K : PySem.W.Frag} {mg : Str → Option Value} {base : Heap} {C : Cs}
theorem ok_End_times_to_go {f : Addr} {fd : FuncData} (F : Fun K "times_to_go" "End.times_to_go" s_End_times_to_go f fd) (T : Txt K mg C) (u_End_has_frames : MethOk P w K mg base 1 C.End "has_frames" ps_End_has_frames (sp_End_has_frames K C)) (u_Turns_trial : MethOk P w K mg base 3 C.Turns "trial" ps_Turns_trial (sp_Turns_trial K C)) (u_Turns_find_turn : MethOk P w K mg base 2 C.Turns "find_turn" ps_Turns_find_turn (sp_Turns_find_turn K C)) (u_End_time_to_go : MethOk P w K mg base 1 C.End "time_to_go" ps_End_time_to_go (sp_End_time_to_go K C)) : FnOk P w K mg base CX0 4 f fd ps_End_times_to_go (sp_End_times_to_go K C) := by
  refine F.ok sc_End_times_to_go (fun vs H Q E h => ?_) (fun cdv A outer s H vs Q E hr h => ?_)
  · obtain ⟨e, s, rfl, _⟩ := h
    rfl
  · obtain ⟨e, s, rfl, R, G, k⟩ := h
    obtain ⟨dx, hp⟩ := R.ob
    refine ⟨_, (pss_cons (ps_if (PW.pt (pw_or (pt_val (pe_fld (pv 0) rfl)) (pw_or1 (pt_not (pt_val (pe_mth0 (pv 0) T.c_End u_End_has_frames hr (by decide))))))) (pss_one (ps_ret (pe_lst pa_nil))) pss_nil) (pss_cons (ps_set (i := 1) sc_End_times_to_go.nd rfl (by first | exact Or.inl rfl | exact Or.inr rfl) (pe_mth0 (pe_fld (pv 0) rfl) T.c_Turns u_Turns_trial hr (by decide))) (pss_cons (ps_expr (pe_mth (pv 1) T.c_Turns u_Turns_find_turn hr (by decide) (pa_cons (pe_fld (pv 0) rfl) pa_nil))) (pss_one (ps_ret (pe_lst (pa_cons (pe_mth (pv 0) T.c_End u_End_time_to_go hr (by decide) (pa_cons (pe_callB call_len_seq (by rfl) T.b_len (show bootBuiltins "len" = some (.builtin "len") by decide +kernel) (pa_cons (pe_fld (pe_ix ix_list (pe_fld (pe_ix ix_list (pe_fld (pv 0) rfl) (pe_fld (pv 1) rfl) (fun _ _ => rfl)) rfl) pe_int (fun _ _ => rfl)) rfl) pa_nil)) pa_nil)) pa_nil))))))), ?_⟩
    refine ⟨_, rfl, e.p, C.End, dx, _, _, rfl, hp, T.c_End, T.n_End_is_out, l_End_is_out, _, rfl, ?_⟩
    cases hh : s.handed with
    | some q =>
      have e1 : paceL s = [] := by
        have : paceO s = none := by unfold paceO; rw [if_pos (Or.inl (by rw [hh]; simp))]
        unfold paceL
        rw [this]
      rw [e1] at k
      exact iteT (iteT ⟨Nat.zero_le _, fun p np => k p _ (same_upd np) upd_same⟩)
    | none =>
    refine iteF ⟨_, rfl, e.p, dx, _, rfl, hp, m_End_has_frames, e, s, rfl, R, G.n8, fun H2 s2 => ⟨_, rfl, ?_⟩⟩
    have R2 := R.same s2
    have hp2 := s2 _ _ hp
    cases hidle : (s.queues.all fun (x : Queue) => x.items.isEmpty) with
    | true =>
      have e1 : paceL s = [] := by
        have : paceO s = none := by unfold paceO; rw [if_pos (Or.inr hidle)]
        unfold paceL
        rw [this]
      rw [e1] at k
      exact iteT ⟨Nat.zero_le _, fun p np => k p _ (s2.trans (same_upd np)) upd_same⟩
    | false =>
    refine iteF ?_
    have hni : ¬ (s.queues.all fun (x : Queue) => x.items.isEmpty) = true := by rw [hidle]; simp
    obtain ⟨j, x0, i0, r0, hx0, hi0⟩ := not_idle hni
    have Fr := fair_of G hx0 hi0
    have hmu := mu_first (s := s) (j := j) G.n8 (by have := G.n1; omega)
    obtain ⟨⟨dt2, t12⟩, t22⟩ := id R2.tn
    refine ⟨_, rfl, e.p, C.End, dx, _, _, rfl, hp2, T.c_End, T.n_End_turns, l_End_turns, e.tn, dt2, _, rfl, t12, m_Turns_trial, e.tn, e.cl, s, rfl, R2.tn, fun tn cl H3 ntn ncl s3 T3 => ?_⟩
    have s23 := s2.trans s3
    have hp3 := s3 _ _ hp2
    obtain ⟨⟨dt3, t13⟩, t23⟩ := id T3
    refine ⟨_, rfl, tn, dt3, _, rfl, t13, m_Turns_find_turn, _, rfl, e.p, C.End, dx, _, _, rfl, hp3, T.c_End, T.n_End_queues, l_End_queues, tn, cl, e.lq, e.qs, s, j, rfl, T3, R2.linesNew ncl s3, Fr, hmu, fun H4 t hpick T4 k4 => ?_⟩
    have s34 : Same H2 H4 := fun b o hb => k4 b o (ne_of_none hb ntn) (ne_of_none hb ncl) (s3 b o hb)
    have s4 := s2.trans s34
    have R4 := R.same s4
    have hp4 := s4 _ _ hp
    obtain ⟨t', x, i, rest, hp', Tr, ton, tg, hx, hi, hc⟩ := pick_ok 100 Fr hmu
    rw [hpick] at hp'
    obtain rfl : t = t' := (Prod.mk.inj hp').2
    obtain ⟨⟨dt4, t14⟩, t24⟩ := id T4
    -- the same queue as s has it
    have hlt : t.turn < s.queues.length := by rw [← Tr.len]; exact ton
    obtain ⟨y, hy⟩ : ∃ y, s.queues[t.turn]? = some y := ⟨_, List.getElem?_eq_getElem hlt⟩
    obtain ⟨c, hcx⟩ := Tr.get t.turn y hy
    rw [hx] at hcx
    have hyx : y.items = x.items := by cases hcx; rfl
    have hyi : y.items = i :: rest := by rw [hyx]; exact hi
    obtain ⟨qa, dq, hqa, r, ro, hat⟩ := R4.queue_at hy
    obtain ⟨w0, hw0, ⟨⟨dw, wo⟩, wf⟩⟩ := Paired.get (i := 0) r.ws (by rw [hyi]; rfl)
    have hi18 : i.bytes.length ≤ 1518 := ((G.at_ hy).items i (by rw [hyi]; exact List.mem_cons_self)).hi
    have ewn : t.when_ i.bytes.length = s.when_ i.bytes.length := by
      unfold Sf82.S.when_
      rw [Tr.eq]
    have e1 : paceL s = [s.when_ i.bytes.length] := by
      have : paceO s = some (s.when_ i.bytes.length) := by
        unfold paceO
        rw [if_neg (fun z => z.elim (fun z => z hh) fun z => hni z), show Sf82.FUEL = 100 from rfl, hpick]
        dsimp only
        rw [queue_eq hx, hi]
        dsimp only
        rw [ewn]
      unfold paceL
      rw [this]
    rw [e1] at k
    refine ⟨_, rfl, e.p, dx, _, rfl, hp4, m_End_time_to_go, _, rfl, e.p, C.End, dx, _, _, rfl, hp4, T.c_End, T.n_End_queues, l_End_queues, _, rfl, tn, C.Turns, dt4, _, _, rfl, t14, T.c_Turns, T.n_Turns_on, l_Turns_on, e.lq, _, _, _, rfl, rfl, SqL.of R4.lq, hat, qa.o, C.Queue, dq, _, _, rfl, ro, T.c_Queue, T.n_Queue_line, l_Queue_line, qa.l, _, _, _, rfl, rfl, SqL.of r.ln, atI_nat (j := 0) (by rw [List.getElem?_map, hw0]; rfl), w0.1, C.Waiting, dw, _, _, rfl, wo, T.c_Waiting, T.n_Waiting_frame, l_Waiting_frame, w0.2, _, rfl, .inl (SqL.of wf), e, s, i.bytes.length, by rw [vnb_length], R4, G, hi18, by show 1 ≤ sizeLine; decide, fun l5 n5 => ?_⟩
    exact k l5 _ (s4.trans (same_upd n5)) upd_same
theorem ok_End_times_of_age {f : Addr} {fd : FuncData} (F : Fun K "times_of_age" "End.times_of_age" s_End_times_of_age f fd) (T : Txt K mg C) (u_End_not_out : MethOk P w K mg base 2 C.End "not_out" ps_End_not_out (sp_End_not_out K C)) : FnOk P w K mg base CX0 3 f fd ps_End_times_of_age (sp_End_times_of_age K C) := by
  refine F.ok sc_End_times_of_age (fun vs H Q E h => ?_) (fun cdv A outer s H vs Q E hr h => ?_)
  · obtain ⟨e, s, rfl, _⟩ := h
    rfl
  · obtain ⟨e, s, rfl, R, G, k⟩ := h
    obtain ⟨dx, hp⟩ := R.ob
    have hz := sizeLine_eq
    refine ⟨_, (pss_cons (ps_set (i := 1) sc_End_times_of_age.nd rfl (by first | exact Or.inl rfl | exact Or.inr rfl) (pe_lst pa_nil)) (pss_cons (ps_if (pt_cmpR op_gt (pe_fld (pv 0) rfl) pe_int (nomark _)) (pss_one (ps_for PassesOwn.never rfl (pi_range1 rfl T.b_range (pa_cons (pe_callB call_len_seq (by rfl) T.b_len (show bootBuiltins "len" = some (.builtin "len") by decide +kernel) (pa_cons (pe_fld (pv 0) rfl) pa_nil)) pa_nil)) (pg_name (i := 2) sc_End_times_of_age.nd rfl (by first | exact Or.inl rfl | exact Or.inr rfl)) (pss_one (ps_expr (pe_bm PySem.F.plainAttrs_list PySem.F.slot_list_extend PySem.F.type_list_extend mt_extend (pv 1) (pa_cons (pe_lc rfl sc_End_times_of_age.nd (pi_list (pe_mth (pv 0) T.c_End u_End_not_out hr (by decide) (pa_cons (pv 2) pa_nil))) (blkOk_by (own := [("one", 3)]) (show blkC N_End_times_of_age (defScope s_End_times_of_age) _ _ = true by decide +kernel)) (fun _ _ _ _ _ => pg_name (i := 3) sc_End_times_of_age.nd rfl (by first | exact Or.inl rfl | exact Or.inr rfl)) (fun _ _ _ _ _ => pts_nil) (fun _ _ _ _ _ => by exact (pe_op op_add (pe_op op_add (pe_fldK (K := K) rfl (pv 3) rfl) (pe_fldK (K := K) rfl (pv 0) rfl)) pe_int))) pa_nil)))))) pss_nil) (pss_one (ps_ret (pv 1))))), ?_⟩
    refine ⟨Nat.zero_le _, fun l0 n0 => ?_⟩
    have s0 := same_upd (o := HO.lst []) n0
    have hp0 := s0 _ _ hp
    refine ⟨_, rfl, e.p, C.End, dx, _, _, rfl, hp0, T.c_End, T.n_End_life, l_End_life, _, _, rfl, rfl, _, rfl, ite2 (fun h1 => ?_) (fun h1 => ?_)⟩
    · have hl : s.life ≠ 0 := by
        have h1 : (0 : Int) < (s.life : Int) := of_decide_eq_true h1
        omega
      have hlen := R.len
      have h8 := G.n8
      refine ⟨_, rfl, e.p, C.End, dx, _, _, rfl, hp0, T.c_End, T.n_End_queues, l_End_queues, e.lq, _, rfl, .inl (SqL.of (s0 _ _ R.lq)), _, rfl, ?_, ?_, ?_⟩
      · rw [List.length_map]; omega
      · rw [List.length_map]; omega
      have eL : (((e.qs.map fun (q : QA) => V.ref q.o).length : Nat) : Int).toNat = s.queues.length := by rw [List.length_map]; omega
      rw [eL]
      refine for_range (n := s.queues.length) (fun i σ H2 => ∃ (v : Option V), σ = [some (.ref e.p), some (.ref l0), v, none] ∧ Same H H2 ∧ H2 l0 = some (.lst (vi (natsI ((s.queues.zipIdx.take i).flatMap (agesQ s)))))) ⟨none, rfl, s0, upd_same⟩ ?_ ?_
      · rintro i σ H2 hi ⟨v, rfl, s2, h2⟩
        obtain ⟨x, hx⟩ : ∃ x, s.queues[i]? = some x := ⟨_, List.getElem?_eq_getElem hi⟩
        have R2 := R.same s2
        have hp2 := s2 _ _ hp
        obtain ⟨q, dq, hq, r, ro, hat⟩ := R2.queue_at hx
        have hw := paired_len r.ws
        have hpart := ages_part G i
        have hx64 := (G.at_ hx).few
        have h64 := G.e64
        refine ⟨_, rfl, .inl ⟨rfl, _, SqL.of h2⟩, _, rfl, e.p, dx, _, rfl, hp2, m_End_not_out, _, rfl, e, s, i, q, ?_, R2, good_out G, hq, fun l1 n1 => ?_⟩
        · show [V.ref e.p, V.int (0 + (i : Int))] = _
          rw [Int.zero_add]
        generalize hn : outN s i = n
        have s1 := same_upd (o := HO.lst (rf (q.ws.drop n))) n1
        refine ⟨l1, rfl, ⟨_, SqL.of upd_same⟩, fun D hD => lc_list (K := K) (a := l1) (xs := rf (q.ws.drop n)) (fun m H3 => H3 = upd (upd H2 l1 (.lst (rf (q.ws.drop n)))) D (.lst (vi (natsI ((agesQ s (x, i)).take m))))) rfl ?_ ?_ ?_⟩
        · rintro m H3 _ rfl
          exact SqL.of (by rw [upd_ne (ne_of_none upd_same hD)]; exact upd_same)
        · rintro m y H3 hm rfl
          rw [List.getElem?_map] at hm
          cases hwi : (q.ws.drop n)[m]? with
          | none => rw [hwi] at hm; cases hm
          | some w1 =>
            rw [hwi] at hm
            obtain rfl : V.ref w1.1 = y := Option.some.inj hm
            obtain ⟨it, hit, ⟨⟨dw, wo⟩, wf⟩⟩ := Paired.getL (paired_drop n r.ws) hwi
            have sm : Same H2 (upd (upd H2 l1 (.lst (rf (q.ws.drop n)))) D (.lst (vi (natsI ((agesQ s (x, i)).take m))))) := s1.trans (same_upd hD)
            have hp3 := sm _ _ hp2
            have wo3 := sm _ _ wo
            refine ⟨rfl, _, rfl, w1.1, C.Waiting, dw, _, _, rfl, wo3, T.c_Waiting, T.n_Waiting_since, l_Waiting_since, _, rfl, e.p, C.End, dx, _, _, rfl, hp3, T.c_End, T.n_End_life, l_End_life, _, _, rfl, rfl, _, _, rfl, rfl, _, upd_same, ?_, ?_⟩
            · have := agesQ_len G hx
              rw [List.length_map, natsI_length, List.length_take]
              omega
            · rw [upd_upd]
              have e2 : (agesQ s (x, i))[m]? = some (it.since + s.life + 1) := by rw [agesQ_eq, hn, List.getElem?_map, hit]; rfl
              rw [List.take_add_one, e2, natsI_append, vi_append]
              rfl
        · rintro H3 rfl
          have e3 : (agesQ s (x, i)).take (rf (q.ws.drop n)).length = agesQ s (x, i) := by
            refine List.take_of_length_le ?_
            rw [rf_length, List.length_drop, hw, agesQ_eq, hn, List.length_map, List.length_drop]
            exact Nat.le_refl _
          rw [e3]
          have sD : Same H2 (upd (upd H2 l1 (.lst (rf (q.ws.drop n)))) D (.lst (vi (natsI (agesQ s (x, i)))))) := s1.trans (same_upd hD)
          refine ⟨l0, D, _, _, rfl, rfl, sD _ _ h2, upd_same, ?_, ?_⟩
          · have := agesQ_len G hx
            have : i * 64 ≤ 8 * 64 := Nat.mul_le_mul_right _ (by omega)
            rw [List.length_map, List.length_map, natsI_length, natsI_length]
            omega
          · have hz' : s.queues.zipIdx[i]? = some (x, i) := by rw [List.getElem?_zipIdx, hx]; simp
            have nl0 : ∀ b o, H b = some o → b ≠ l0 := fun b o hb => ne_of_none hb n0
            refine ⟨some (.int (0 + (i : Int))), rfl, fun b o hb => ?_, ?_⟩
            · rw [upd_ne (nl0 b o hb)]
              exact sD _ _ (s2 _ _ hb)
            · rw [upd_same, List.take_add_one, hz', List.flatMap_append, natsI_append, vi_append]
              simp
      · rintro σ H2 ⟨v, rfl, s2, h2⟩
        refine ⟨_, rfl, k l0 H2 s2 ?_⟩
        rw [h2]
        unfold ages
        rw [if_neg hl, List.take_of_length_le (by simp)]
    · have hl : s.life = 0 := by
        have h1 : ¬ ((0 : Int) < (s.life : Int)) := fun z => h1 (decide_eq_true z)
        omega
      refine ⟨_, rfl, k l0 _ s0 ?_⟩
      rw [upd_same]
      unfold ages
      rw [if_pos hl]
      rfl
theorem ok_End_due {f : Addr} {fd : FuncData} (F : Fun K "due" "End.due" s_End_due f fd) (T : Txt K mg C) (u_End_may_be_now : MethOk P w K mg base 1 C.End "may_be_now" ps_End_may_be_now (sp_End_may_be_now K C)) (u_End_pass_time : MethOk P w K mg base 4 C.End "pass_time" ps_End_pass_time (sp_End_pass_time K C)) (u_End_times_to_go : MethOk P w K mg base 4 C.End "times_to_go" ps_End_times_to_go (sp_End_times_to_go K C)) (u_End_times_of_age : MethOk P w K mg base 3 C.End "times_of_age" ps_End_times_of_age (sp_End_times_of_age K C)) : FnOk P w K mg base CX0 5 f fd ps_End_due (sp_End_due K C) := by
  refine F.ok sc_End_due (fun vs H Q E h => ?_) (fun cdv A outer s H vs Q E hr h => ?_)
  · obtain ⟨e, s, now, rfl, _⟩ := h
    rfl
  · obtain ⟨e, s, now, rfl, R, G, k⟩ := h
    obtain ⟨dx, hp⟩ := R.ob
    have hz := sizeLine_eq
    refine ⟨_, (pss_cons (ps_if (pt_not (pt_val (pe_mth (pv 0) T.c_End u_End_may_be_now hr (by decide) (pa_cons (pv 1) pa_nil)))) (pss_one (ps_ret (pe_lst (pa_cons (pe_gint rfl T.g_WRONG) pa_nil)))) pss_nil) (pss_cons (ps_expr (pe_mth (pv 0) T.c_End u_End_pass_time hr (by decide) (pa_cons (pv 1) pa_nil))) (pss_cons (ps_set (i := 2) sc_End_due.nd rfl (by first | exact Or.inl rfl | exact Or.inr rfl) (pe_op op_cat (pe_mth0 (pv 0) T.c_End u_End_times_to_go hr (by decide)) (pe_mth0 (pv 0) T.c_End u_End_times_of_age hr (by decide)))) (pss_cons (ps_if (pt_cmpR op_eq (pe_callB call_len_seq (by rfl) T.b_len (show bootBuiltins "len" = some (.builtin "len") by decide +kernel) (pa_cons (pv 2) pa_nil)) pe_int (nomark _)) (pss_one (ps_ret (pe_lst (pa_cons (pe_gint rfl T.g_NOT_THERE) pa_nil)))) pss_nil) (pss_one (ps_ret (pe_lst (pa_cons pe_int (pa_cons (pe_callB (cr_min rfl) (by rfl) T.b_min (show bootBuiltins "min" = some (.builtin "min") by decide +kernel) (pa_cons (pv 2) pa_nil)) pa_nil))))))))), ?_⟩
    refine ⟨_, rfl, e.p, dx, _, rfl, hp, m_End_may_be_now, _, rfl, e, s, now, rfl, R, _, rfl, ?_⟩
    rw [time_dec G now]
    cases ht : s.timeOk now with
    | false =>
      have e1 : does s (.due now) = (s, says (-1)) := by simp only [does]; rw [if_pos ht]
      rw [e1] at k
      exact iteT (k.ret R (Kept.refl e H))
    | true =>
    refine iteF ?_
    have htf : ¬ s.timeOk now = false := by rw [ht]; simp
    have htime := (timeOk_iff G now).mp ht
    refine ⟨_, rfl, e.p, dx, _, rfl, hp, m_End_pass_time, _, rfl, e, s, now, rfl, R, G, htime.1, fun e1 H1 R1 K1 => ?_⟩
    have G1 := good_tick G htime.1 htime.2
    obtain ⟨d1, hp1⟩ := R1.ob
    rw [K1.p] at hp1
    generalize hu : s.tick now = u at *
    have spec : does s (.due now) = (u, match paceO u, u.oldest with
      | none, none => says (-2)
      | some a, none => ⟨0, [a]⟩
      | none, some b => ⟨0, [b]⟩
      | some a, some b => ⟨0, [min a b]⟩) := by
      simp only [does]
      rw [if_neg htf, hu]
      rfl
    rw [spec] at k
    refine ⟨_, rfl, e.p, d1, _, rfl, hp1, m_End_times_to_go, e1, u, by rw [K1.p], R1, G1, fun l2 H2 s2 h2 => ?_⟩
    have hp2 := s2 _ _ hp1
    refine ⟨_, rfl, e.p, d1, _, rfl, hp2, m_End_times_of_age, e1, u, by rw [K1.p], R1.same s2, G1, fun l3 H3 s3 h3 => ?_⟩
    have hpl : (paceL u).length ≤ 1 := by
      unfold paceL
      cases paceO u <;> simp
    have hal : (ages u).length ≤ 512 := by
      unfold ages
      split
      · exact Nat.zero_le _
      · have := ages_part G1 u.queues.length
        rw [List.take_of_length_le (by simp)] at this
        have := Nat.mul_le_mul_right 64 G1.n8
        omega
    refine ⟨l2, l3, _, _, rfl, rfl, s3 _ _ h2, h3, by rw [List.length_map, List.length_map, natsI_length, natsI_length]; omega, fun l4 n4 => ?_⟩
    rw [← vi_append, ← natsI_append]
    have s4 := (s2.trans s3).trans (same_upd (o := HO.lst (vi (natsI (paceL u ++ ages u)))) n4)
    refine ⟨_, rfl, l4, _, rfl, .inl (SqL.of upd_same), rfl, _, rfl, ?_⟩
    rw [List.length_map, natsI_length]
    generalize hH4 : upd H3 l4 (HO.lst (vi (natsI (paceL u ++ ages u)))) = H4 at s4
    have h4 : H4 l4 = some (.lst (vi (natsI (paceL u ++ ages u)))) := by rw [← hH4]; exact upd_same
    have R4 := R1.same s4
    have K4 := K1.trans (Kept.same s4)
    -- none
    by_cases hn : paceL u ++ ages u = []
    · obtain ⟨hn1, hn2⟩ := List.append_eq_nil_iff.mp hn
      have hp0 : paceO u = none := by
        unfold paceL at hn1
        cases hq : paceO u with
        | none => rfl
        | some a => rw [hq] at hn1; cases hn1
      rw [hp0, oldest_nil hn2] at k
      exact itP (by rw [int_iff, hn]; rfl) (k.ret R4 K4)
    · have hpos : 0 < (paceL u ++ ages u).length := List.length_pos_iff.mpr hn
      refine itN (by rw [int_iff]; omega) ?_
      -- one that is the least
      have least : ∃ m : Nat, (match paceO u, u.oldest with
          | none, none => says (-2)
          | some a, none => ⟨0, [a]⟩
          | none, some b => ⟨0, [b]⟩
          | some a, some b => ⟨0, [min a b]⟩) = (⟨0, [m]⟩ : Sf82.Ans) ∧ m ∈ paceL u ++ ages u ∧ ∀ y ∈ paceL u ++ ages u, m ≤ y := by
        cases hq : paceO u with
        | none =>
          have e1 : paceL u = [] := by unfold paceL; rw [hq]
          rw [e1, List.nil_append] at hn ⊢
          obtain ⟨m, h1, h2, h3⟩ := oldest_cons hn
          rw [h1]
          exact ⟨m, rfl, h2, h3⟩
        | some a =>
          have e1 : paceL u = [a] := by unfold paceL; rw [hq]
          rw [e1]
          by_cases ha : ages u = []
          · rw [oldest_nil ha, ha]
            exact ⟨a, rfl, List.mem_cons_self, fun y hy => by
              have : y = a := by simpa using hy
              omega⟩
          · obtain ⟨m, h1, h2, h3⟩ := oldest_cons ha
            rw [h1]
            refine ⟨min a m, rfl, ?_, fun y hy => ?_⟩
            · rcases Nat.le_total a m with q | q
              · rw [Nat.min_eq_left q]; exact List.mem_append_left _ List.mem_cons_self
              · rw [Nat.min_eq_right q]; exact List.mem_append_right _ h2
            · rcases List.mem_append.mp hy with z | z
              · have : y = a := by simpa using z
                have := Nat.min_le_left a m
                omega
              · have := h3 y z
                have := Nat.min_le_right a m
                omega
      obtain ⟨m, em, hm1, hm2⟩ := least
      rw [em] at k
      refine ⟨_, rfl, l4, natsI (paceL u ++ ages u), rfl, SqL.of h4, by rw [natsI_length]; exact hpos, fun z hz1 hz2 => ?_⟩
      have ez : z = (m : Int) := by
        obtain ⟨y, hy, rfl⟩ := List.mem_map.mp hz1
        have h1 := hm2 y hy
        have h2 := hz2 (m : Int) (List.mem_map.mpr ⟨m, hm1, rfl⟩)
        omega
      rw [ez]
      refine ⟨by show 2 ≤ sizeLine; decide, fun l5 n5 => ?_⟩
      exact k e1 _ l5 (R4.same (same_upd n5)) (K4.trans (Kept.same (same_upd n5))) (K4.live _ n5) upd_same
end
end FL
end
section
namespace FL
open PySem L2
open Sf82 (Bytes Item Queue S does says nums EVERYBODY number frame closed)
open Sf82Neutral (listOf)
/-- an end that is new in all -/
def openS (now : Nat) (me : Bytes) (q e l r b : Nat) : S := { closed with me := me, each := e, life := l, rate := r, burst := b, queues := List.replicate q ⟨1, 0, []⟩, may := 1000 * b, last := now }
structure NewQs (C : Cs) (Hb H : Hp) (D : Addr) (qs : List QA) : Prop where
  lst : H D = some (.lst (qs.map fun q => V.ref q.o))
  same : Same Hb H
  at_ : ∀ (j : Nat) (q : QA), qs[j]? = some q → (∃ dx, H q.o = some (.ins C.Queue dx (f_Queue (.int 1) (.ref q.l)))) ∧ H q.l = some (.lst []) ∧ q.ws = [] ∧ Hb q.o = none ∧ Hb q.l = none ∧ q.l ≠ D
  dO : ∀ (i j : Nat) (a b : QA), qs[i]? = some a → qs[j]? = some b → a.o = b.o → i = j
  dL : ∀ (i j : Nat) (a b : QA), qs[i]? = some a → qs[j]? = some b → a.l = b.l → i = j
theorem NewQs.nil {C : Cs} {H : Hp} {D : Addr} (h : H D = none) : NewQs C H (upd H D (.lst [])) D [] :=
  ⟨upd_same, same_upd h, fun j q h => by simp at h, fun i j a b h => by simp at h, fun i j a b h => by simp at h⟩
theorem NewQs.snoc {C : Cs} {Hb H H' : Hp} {D x l : Addr} {qs : List QA} (h : NewQs C Hb H D qs) (nx : H x = none) (nl : H l = none) (nxl : l ≠ x) (k : Same H H') (hx : ∃ dx, H' x = some (.ins C.Queue dx (f_Queue (.int 1) (.ref l)))) (hl : H' l = some (.lst [])) (hD : Hb D = none) :
    NewQs C Hb (upd H' D (.lst ((qs.map fun (q : QA) => V.ref q.o) ++ [V.ref x]))) D (qs ++ [⟨x, l, []⟩]) := by
  have nDx : x ≠ D := (ne_of_none h.lst nx).symm
  have nDl : l ≠ D := (ne_of_none h.lst nl).symm
  have get' : ∀ (i : Nat) (a : QA), (qs ++ [⟨x, l, []⟩])[i]? = some a → (i < qs.length ∧ qs[i]? = some a) ∨ (i = qs.length ∧ a = ⟨x, l, []⟩) := fun i a hi => by
    rcases Nat.lt_trichotomy i qs.length with z | z | z
    · rw [List.getElem?_append_left z] at hi
      exact .inl ⟨z, hi⟩
    · subst z
      simp at hi
      exact .inr ⟨rfl, hi.symm⟩
    · rw [List.getElem?_eq_none (by simp; omega)] at hi
      cases hi
  refine ⟨by rw [upd_same, List.map_append]; rfl, fun b o hb => ?_, fun j q hq => ?_, fun i j a b ha hb hab => ?_, fun i j a b ha hb hab => ?_⟩
  · rw [upd_ne (ne_of_none hb hD)]
    exact k _ _ (h.same _ _ hb)
  · rcases get' j q hq with ⟨_, z⟩ | ⟨_, rfl⟩
    · obtain ⟨⟨dx, h1⟩, h2, h3, h4, h5, h6⟩ := h.at_ j q z
      exact ⟨⟨dx, by rw [upd_ne (ne_of h1 h.lst ne_il)]; exact k _ _ h1⟩, by rw [upd_ne h6]; exact k _ _ h2, h3, h4, h5, h6⟩
    · obtain ⟨dx, hx⟩ := hx
      exact ⟨⟨dx, by show upd H' D _ x = _; rw [upd_ne nDx]; exact hx⟩, by show upd H' D _ l = _; rw [upd_ne nDl]; exact hl, rfl, h.same.free nx, h.same.free nl, nDl⟩
  · rcases get' i a ha with ⟨z1, y1⟩ | ⟨z1, rfl⟩ <;> rcases get' j b hb with ⟨z2, y2⟩ | ⟨z2, rfl⟩
    · exact h.dO i j a b y1 y2 hab
    · obtain ⟨⟨dx, h1⟩, _⟩ := h.at_ i a y1
      exact absurd hab (ne_of_none h1 nx)
    · obtain ⟨⟨dx, h1⟩, _⟩ := h.at_ j b y2
      exact absurd hab.symm (ne_of_none h1 nx)
    · omega
  · rcases get' i a ha with ⟨z1, y1⟩ | ⟨z1, rfl⟩ <;> rcases get' j b hb with ⟨z2, y2⟩ | ⟨z2, rfl⟩
    · exact h.dL i j a b y1 y2 hab
    · obtain ⟨_, h1, _⟩ := h.at_ i a y1
      exact absurd hab (ne_of_none h1 nl)
    · obtain ⟨_, h1, _⟩ := h.at_ j b y2
      exact absurd hab.symm (ne_of_none h1 nl)
    · omega
def sp_End_init (K : PySem.W.Frag) (C : Cs) : Sp := fun vs H Q _ => ∃ (p dx a : Addr) (now q ea li ra bu : Nat) (me : Bytes), vs = [.ref p, .int now, .int q, .int ea, .int li, .int ra, .int bu, .ref a] ∧ H p = some (.ins C.End dx []) ∧ H a = some (.lst (vi (nb me))) ∧ q ≤ 8 ∧
  ∀ e H', e.p = p → EndAt C H' e (openS now me q ea li ra bu) → (∀ b o, H b = some o → b ≠ p → H' b = some o) → (∀ b, Mt e b → b = p ∨ H b = none) → (∀ b, IL e b → b = a ∨ H b = none) → Q .non H'
def Opens (now : Nat) (me : Bytes) (q e l r b : Int) : Prop := now < Sf82.TIMES ∧ me.length = 6 ∧ me ≠ EVERYBODY ∧ Sf82.within q 1 8 = true ∧ Sf82.within e 1 64 = true ∧ Sf82.within l 0 3600000 = true ∧ 0 ≤ r ∧ r < 2 ^ 32 ∧ Sf82.within b 1518 16777216 = true
def sp_open_end (K : PySem.W.Frag) (C : Cs) : Sp := fun vs H Q _ => ∃ (a : Addr) (now : Nat) (q ea li ra bu : Int) (me : Bytes), vs = [.int now, .int q, .int ea, .int li, .int ra, .int bu, .ref a] ∧ H a = some (.lst (vi (nb me))) ∧
  (Opens now me q ea li ra bu → ∀ e H', EndAt C H' e (openS now me q.toNat ea.toNat li.toNat ra.toNat bu.toNat) → Same H H' → (∀ b, Mt e b → H b = none) → (∀ b, IL e b → b = a ∨ H b = none) → Q (.ref e.p) H') ∧
  (¬ Opens now me q ea li ra bu → ∀ H', Same H H' → Q .non H')
theorem lk_most (v0 v1 v2 v3 v4 v5 : V) : ([("now", v0), ("queues", v1), ("each", v2), ("life", v3), ("pace", v4), ("most_may_go", v5)] : List (Str × V)).lookup ("most_may_go" : Str) = some v5 := lookup_at (i := 5) (show (["now", "queues", "each", "life", "pace", "most_may_go"] : List Str).Nodup by decide +kernel) rfl
section
variable {P : Program} {w : World} {K : PySem.W.Frag} {mg : Str → Option Value} {base : Heap} {C : Cs}
theorem ok_End_init {f : Addr} {fd : FuncData} (F : Fun K "__init__" "End.__init__" s_End_init f fd) (T : Txt K mg C) (u_Queue_init : MakeOk P w K mg base 1 "Queue" C.Queue ps_Queue_init (sp_Queue_init K C)) (u_Turns_init : MakeOk P w K mg base 1 "Turns" C.Turns ps_Turns_init (sp_Turns_init K C)) (u_Counts_init : MakeOk P w K mg base 1 "Counts" C.Counts ps_Counts_init (sp_Counts_init K C)) : FnOk P w K mg base CX0 3 f fd ps_End_init (sp_End_init K C) := by
  refine F.ok sc_End_init (fun vs H Q E h => ?_) (fun cdv A outer s H vs Q E hr h => ?_)
  · obtain ⟨p, dx, a, now, q, ea, li, ra, bu, me, rfl, _⟩ := h
    rfl
  · obtain ⟨p, dx, a, now, q, ea, li, ra, bu, me, rfl, hp, ha, hq8, k⟩ := h
    have hz := sizeLine_eq
    refine ⟨_, (pss_cons (ps_fld (pv 0) (pv 1) rfl) (pss_cons (ps_fld (pv 0) (pe_lc rfl sc_End_init.nd (pi_range1 rfl T.b_range (pa_cons (pv 2) pa_nil)) (blkOk_by (own := [("k", 8)]) (show blkC N_End_init (defScope s_End_init) _ _ = true by decide +kernel)) (fun _ _ _ _ _ => pg_name (i := 8) sc_End_init.nd rfl (by first | exact Or.inl rfl | exact Or.inr rfl)) (fun _ _ _ _ _ => pts_nil) (fun _ _ _ _ _ => by exact (pe_new0 u_Queue_init hr (by decide) rfl))) rfl) (pss_cons (ps_fld (pv 0) (pv 3) rfl) (pss_cons (ps_fld (pv 0) (pv 4) rfl) (pss_cons (ps_fld (pv 0) (pv 5) rfl) (pss_cons (ps_fld (pv 0) (pe_op op_mul (pe_gint rfl T.g_THOUSANDTHS) (pv 6)) rfl) (pss_cons (ps_fld (pv 0) (pe_fld (pv 0) rfl) rfl) (pss_cons (ps_fld (pv 0) (pv 7) rfl) (pss_cons (ps_fld (pv 0) (pe_new u_Turns_init hr (by decide) rfl (pa_cons pe_int (pa_cons pe_bl (pa_cons (pe_lc rfl sc_End_init.nd (pi_range1 rfl T.b_range (pa_cons (pv 2) pa_nil)) (blkOk_by (own := [("k", 8)]) (show blkC N_End_init (defScope s_End_init) _ _ = true by decide +kernel)) (fun _ _ _ _ _ => pg_name (i := 8) sc_End_init.nd rfl (by first | exact Or.inl rfl | exact Or.inr rfl)) (fun _ _ _ _ _ => pts_nil) (fun _ _ _ _ _ => by exact pe_int)) pa_nil)))) rfl) (pss_cons (ps_fld (pv 0) pe_bl rfl) (pss_cons (ps_fld (pv 0) (pe_lst pa_nil) rfl) (pss_cons (ps_fld (pv 0) pe_bl rfl) (pss_one (ps_fld (pv 0) (pe_new0 u_Counts_init hr (by decide) rfl) rfl)))))))))))))), ?_⟩
    have nap : a ≠ p := ne_of ha hp ne_li
    -- now
    refine ⟨_, rfl, _, rfl, p, C.End, dx, [], rfl, hp, T.c_End, T.n_End_now, (by show 0 < 1000; decide), ?_⟩
    rw [i_End_0]
    generalize hG0 : upd H p (HO.ins C.End dx [("now", V.int now)]) = G0
    have hp0 : G0 p = some (.ins C.End dx [("now", V.int now)]) := by rw [← hG0]; exact upd_same
    have k0 : ∀ b o, H b = some o → b ≠ p → G0 b = some o := fun b o hb n => by rw [← hG0, upd_ne n]; exact hb
    have l0 : ∀ b, G0 b = none → H b = none := fun b hb => by
      by_cases z : b = p
      · rw [z, hp0] at hb; cases hb
      · rw [← hG0, upd_ne z] at hb; exact hb
    -- queues
    refine ⟨_, rfl, (q : Int), rfl, by omega, by omega, fun D hD => lc_range (n := q) (fun i G => ∃ qs : List QA, qs.length = i ∧ NewQs C G0 G D qs) ⟨[], rfl, NewQs.nil hD⟩ ?_ ?_⟩
    · rintro i G hi ⟨qs, hl, N⟩
      refine ⟨rfl, fun x d nx nd ne => ⟨x, d, rfl, upd_same, fun l G' hl0 nlx hx hl' kp => ⟨rfl, _, Same.made nx nd kp _ _ N.lst, ?_, ?_⟩⟩⟩
      · rw [List.length_map]; omega
      · have nl : G l = none := by
          rw [upd_ne nlx] at hl0
          by_cases z : l = d
          · rw [z, upd_same] at hl0; cases hl0
          · rw [upd_ne z] at hl0; exact hl0
        exact ⟨qs ++ [⟨x, l, []⟩], by simp [hl], N.snoc nx nl nlx (Same.made nx nd kp) hx hl' hD⟩
    · rintro G1 ⟨qs, hl, N⟩
      have hp1 := N.same _ _ hp0
      refine ⟨_, rfl, p, C.End, dx, _, rfl, hp1, T.c_End, T.n_End_queues, (by show 1 < 1000; decide), ?_⟩
      rw [i_End_1]
      refine ⟨_, rfl, _, rfl, p, C.End, dx, _, rfl, upd_same, T.c_End, T.n_End_each, (by show 2 < 1000; decide), ?_⟩
      rw [i_End_2, upd_upd]
      refine ⟨_, rfl, _, rfl, p, C.End, dx, _, rfl, upd_same, T.c_End, T.n_End_life, (by show 3 < 1000; decide), ?_⟩
      rw [i_End_3, upd_upd]
      refine ⟨_, rfl, _, rfl, p, C.End, dx, _, rfl, upd_same, T.c_End, T.n_End_pace, (by show 4 < 1000; decide), ?_⟩
      rw [i_End_4, upd_upd]
      refine ⟨_, rfl, _, _, rfl, rfl, .inl ⟨by decide, by decide⟩, _, rfl, p, C.End, dx, _, rfl, upd_same, T.c_End, T.n_End_most_may_go, (by show 5 < 1000; decide), ?_⟩
      rw [i_End_5, upd_upd]
      refine ⟨_, rfl, p, C.End, dx, _, _, rfl, upd_same, T.c_End, T.n_End_most_may_go, lk_most _ _ _ _ _ _, _, rfl, p, C.End, dx, _, rfl, upd_same, T.c_End, T.n_End_may_go, (by show 6 < 1000; decide), ?_⟩
      rw [i_End_6, upd_upd]
      refine ⟨_, rfl, _, rfl, p, C.End, dx, _, rfl, upd_same, T.c_End, T.n_End_me, (by show 7 < 1000; decide), ?_⟩
      rw [i_End_7, upd_upd]
      have eb : (1000 : Int) * (bu : Int) = ((1000 * bu : Nat) : Int) := by push_cast; rfl
      dsimp only
      rw [eb]
      generalize hG2 : upd G1 p _ = G2
      have hp2 := (congrFun hG2 p).symm.trans upd_same
      have k2 : ∀ b o, G1 b = some o → b ≠ p → G2 b = some o := fun b o hb n => by rw [← hG2, upd_ne n]; exact hb
      have l2 : ∀ b, G2 b = none → G1 b = none := fun b hb => by
        by_cases z : b = p
        · rw [z, hp2] at hb; cases hb
        · rw [← hG2, upd_ne z] at hb; exact hb
      -- turns
      refine ⟨_, rfl, (q : Int), rfl, by omega, by omega, fun D2 hD2 => lc_range (n := q) (fun i G => G = upd G2 D2 (.lst (List.replicate i (V.int 0)))) rfl ?_ ?_⟩
      · rintro i G hi rfl
        refine ⟨rfl, _, upd_same, ?_, ?_⟩
        · rw [List.length_replicate]; omega
        · rw [upd_upd, ← List.replicate_succ']
      · rintro G3 rfl
        refine fun tn d3 n3 nd3 ne3 => ⟨tn, d3, _, _, _, rfl, upd_same, fun G4 hx4 kp4 => ⟨rfl, ?_⟩⟩
        have s3 := same_upd (o := HO.lst (List.replicate q (V.int 0))) hD2
        have s34 : Same (upd G2 D2 (HO.lst (List.replicate q (V.int 0)))) G4 := Same.made n3 nd3 kp4
        have s24 := s3.trans s34
        have hD4 := s34 _ _ upd_same
        obtain ⟨d4, hx4⟩ := hx4
        have hp4 := s24 _ _ hp2
        have ntp : tn ≠ p := (ne_of_none (s3 _ _ hp2) n3).symm
        have nDp : D2 ≠ p := (ne_of_none hp2 hD2).symm
        have ntD : tn ≠ D2 := (ne_of_none (show upd G2 D2 (HO.lst (List.replicate q (V.int 0))) D2 = _ from upd_same) n3).symm
        refine ⟨_, rfl, p, C.End, dx, _, rfl, hp4, T.c_End, T.n_End_turns, (by show 8 < 1000; decide), ?_⟩
        rw [i_End_8]
        refine ⟨_, rfl, p, C.End, dx, _, rfl, upd_same, T.c_End, T.n_End_is_out, (by show 9 < 1000; decide), ?_⟩
        rw [i_End_9, upd_upd]
        generalize hG5 : upd G4 p _ = G5
        have hp5 := (congrFun hG5 p).symm.trans upd_same
        have k5 : ∀ b o, G4 b = some o → b ≠ p → G5 b = some o := fun b o hb n => by rw [← hG5, upd_ne n]; exact hb
        have l5 : ∀ b, G5 b = none → G4 b = none := fun b hb => by
          by_cases z : b = p
          · rw [z, hp5] at hb; cases hb
          · rw [← hG5, upd_ne z] at hb; exact hb
        -- groups, hears_all
        refine ⟨Nat.zero_le _, fun lg ng => ?_⟩
        have s6 := same_upd (o := HO.lst []) ng
        have ngp : lg ≠ p := (ne_of_none hp5 ng).symm
        refine ⟨_, rfl, p, C.End, dx, _, rfl, s6 _ _ hp5, T.c_End, T.n_End_groups, (by show 10 < 1000; decide), ?_⟩
        rw [i_End_10]
        refine ⟨_, rfl, p, C.End, dx, _, rfl, upd_same, T.c_End, T.n_End_hears_all, (by show 11 < 1000; decide), ?_⟩
        rw [i_End_11, upd_upd]
        generalize hG7 : upd (upd G5 lg (HO.lst [])) p _ = G7
        have hp7 := (congrFun hG7 p).symm.trans upd_same
        have k7 : ∀ b o, G5 b = some o → b ≠ p → G7 b = some o := fun b o hb n => by rw [← hG7, upd_ne n]; exact s6 _ _ hb
        have hg7 : G7 lg = some (.lst []) := by rw [← hG7, upd_ne ngp]; exact upd_same
        have l7 : ∀ b, G7 b = none → G5 b = none := fun b hb => by
          by_cases z : b = p
          · rw [z, hp7] at hb; cases hb
          · rw [← hG7, upd_ne z] at hb; exact s6.free hb
        -- counts
        refine fun cn d8 n8 nd8 ne8 => ⟨cn, d8, rfl, upd_same, fun G8 hx8 kp8 => ⟨rfl, ?_⟩⟩
        have s8 : Same G7 G8 := Same.made n8 nd8 kp8
        have hp8 := s8 _ _ hp7
        have ncp : cn ≠ p := (ne_of_none hp7 n8).symm
        refine ⟨_, rfl, p, C.End, dx, _, rfl, hp8, T.c_End, T.n_End_counts, (by show 12 < 1000; decide), ?_⟩
        rw [i_End_12]
        generalize hG9 : upd G8 p _ = G9
        obtain ⟨d9, hx8⟩ := hx8
        have hp9 := (congrFun hG9 p).symm.trans upd_same
        have k9 : ∀ b o, G8 b = some o → b ≠ p → G9 b = some o := fun b o hb n => by rw [← hG9, upd_ne n]; exact hb
        have up1 : ∀ b o, G1 b = some o → b ≠ p → G9 b = some o := fun b o hb n => k9 b o (s8 _ _ (k7 b o (k5 b o (s24 _ _ (k2 b o hb n)) n) n)) n
        have up4 : ∀ b o, G4 b = some o → b ≠ p → G9 b = some o := fun b o hb n => k9 b o (s8 _ _ (k7 b o (k5 b o hb n) n)) n
        have up0 : ∀ b o, H b = some o → b ≠ p → G9 b = some o := fun b o hb n => up1 b o (N.same _ _ (k0 b o hb n)) n
        have f1 : ∀ b, G1 b = none → H b = none := fun b hb => l0 b (N.same.free hb)
        have fD : H D = none := l0 D hD
        have fD2 : H D2 = none := f1 _ (l2 _ hD2)
        have ftn : H tn = none := f1 _ (l2 _ (s3.free n3))
        have flg : G1 lg = none := l2 _ (s24.free (l5 _ ng))
        have fcn : G5 cn = none := l7 _ n8
        have f4 : ∀ b, G4 b = none → G1 b = none := fun b hb => l2 _ (s24.free hb)
        have nDp1 : D ≠ p := ne_of N.lst hp1 ne_li
        have nDD2 : D ≠ D2 := fun z => by have := l2 _ hD2; rw [← z, N.lst] at this; cases this
        have nDlg : D ≠ lg := fun z => by rw [← z, N.lst] at flg; cases flg
        have n2lg : D2 ≠ lg := fun z => by have := l5 _ ng; rw [← z, hD4] at this; cases this
        have hme9 := up0 _ _ ha nap
        have naD2 : a ≠ D2 := fun z => by rw [← z, ha] at fD2; cases fD2
        have nalg : a ≠ lg := fun z => by have := f1 _ flg; rw [← z, ha] at this; cases this
        have hql : ∀ (j : Nat) (y : QA), qs[j]? = some y → y.l ≠ D2 ∧ y.l ≠ lg ∧ y.l ≠ a ∧ y.o ≠ p ∧ y.l ≠ p := fun j y hy => by
          obtain ⟨⟨dy, h1⟩, h2, h3, h4, h5, h6⟩ := N.at_ j y hy
          refine ⟨fun z => ?_, fun z => ?_, fun z => ?_, fun z => ?_, fun z => ?_⟩
          · have := l2 _ hD2; rw [← z, h2] at this; cases this
          · rw [← z, h2] at flg; cases flg
          · have := k0 _ _ ha nap; rw [← z, h5] at this; cases this
          · rw [z, hp0] at h4; cases h4
          · rw [z, hp0] at h5; cases h5
        have hlen : qs.length = (List.replicate q (⟨1, 0, []⟩ : Queue)).length := by rw [List.length_replicate]; exact hl
        refine k ⟨p, D, a, lg, cn, tn, D2, [], qs⟩ G9 rfl ?_ up0 ?_ ?_
        · refine ⟨⟨dx, hp9⟩, up1 _ _ N.lst nDp1, hme9, ?_, .nil, ⟨d9, ?_⟩, ⟨⟨d4, up4 _ _ hx4 ntp⟩, ?_⟩, ?_, N.dO, N.dL, fun i y hy => ⟨(hql i y hy).2.1, (hql i y hy).1⟩, n2lg.symm, ?_⟩
          · exact k9 _ _ (s8 _ _ hg7) ngp
          · exact k9 _ _ hx8 ncp
          · show G9 D2 = some (.lst (crs (openS now me q ea li ra bu)))
            have ec : crs (openS now me q ea li ra bu) = List.replicate q (V.int 0) := by
              unfold crs openS
              simp
            rw [ec]
            exact up4 _ _ hD4 nDp
          · refine paired_of hlen fun i y x hy hx => ?_
            have hx : (List.replicate q (⟨1, 0, []⟩ : Queue))[i]? = some x := hx
            have ex : x = ⟨1, 0, []⟩ := (List.mem_replicate.mp (List.mem_of_getElem? hx)).2
            obtain ⟨⟨dy, h1⟩, h2, h3, h4, h5, h6⟩ := N.at_ i y hy
            obtain ⟨_, _, _, h7, h8⟩ := hql i y hy
            subst ex
            refine ⟨⟨dy, up1 _ _ h1 h7⟩, ?_, ?_⟩
            · rw [h3]; exact up1 _ _ h2 h8
            · rw [h3]; exact .nil
          · intro b hb hi
            rcases hi with z | z | z | ⟨j, y, w, hy, hw, z⟩
            · have z : b = D := z
              rcases hb with y | y | ⟨j, y, hy, y'⟩
              · have y : b = lg := y
                exact nDlg (by rw [← z, y])
              · have y : b = D2 := y
                exact nDD2 (by rw [← z, y])
              · obtain ⟨_, _, _, _, _, h6⟩ := N.at_ j y hy
                exact h6 (by rw [← y', z])
            · have z : b = a := z
              rcases hb with y | y | ⟨j, y, hy, y'⟩
              · have y : b = lg := y
                exact nalg (by rw [← z, y])
              · have y : b = D2 := y
                exact naD2 (by rw [← z, y])
              · exact (hql j y hy).2.2.1 (by rw [← y', z])
            · cases z
            · obtain ⟨_, _, h3, _⟩ := N.at_ j y hy
              rw [h3] at hw
              cases hw
        · intro b hb
          rcases hb with z | z | z | (z | z | ⟨j, y, hy, z⟩) | ⟨j, y, hy, z⟩
          · exact .inl z
          · exact .inr (by rw [z]; exact f1 _ (f4 _ (l5 _ fcn)))
          · exact .inr (by rw [z]; exact ftn)
          · exact .inr (by rw [z]; exact f1 _ flg)
          · exact .inr (by rw [z]; exact fD2)
          · obtain ⟨_, _, _, _, h5, _⟩ := N.at_ j y hy
            exact .inr (by rw [z]; exact l0 _ h5)
          · obtain ⟨_, _, _, h4, _, _⟩ := N.at_ j y hy
            exact .inr (by rw [z]; exact l0 _ h4)
        · intro b hb
          rcases hb with z | z | z | ⟨j, y, w, hy, hw, z⟩
          · exact .inr (by rw [z]; exact fD)
          · exact .inl z
          · cases z
          · obtain ⟨_, _, h3, _⟩ := N.at_ j y hy
            rw [h3] at hw
            cases hw
theorem ok_open_end {f : Addr} {fd : FuncData} (F : Fun K "open_end" "open_end" s_open_end f fd) (T : Txt K mg C) (u_is_everybody : DefOk P w K mg base 1 "is_everybody" ps_is_everybody (sp_is_everybody K C)) (u_is_address : DefOk P w K mg base 1 "is_address" ps_is_address (sp_is_address K C)) (u_End_init : MakeOk P w K mg base 3 "End" C.End ps_End_init (sp_End_init K C)) : FnOk P w K mg base CX0 5 f fd ps_open_end (sp_open_end K C) := by
  refine F.ok sc_open_end (fun vs H Q E h => ?_) (fun cdv A outer s H vs Q E hr h => ?_)
  · obtain ⟨a, now, q, ea, li, ra, bu, me, rfl, _⟩ := h
    rfl
  · obtain ⟨a, now, q, ea, li, ra, bu, me, rfl, ha, k, k'⟩ := h
    refine ⟨_, (pss_cons (ps_if (PW.pt (pw_or (pt_cmpR op_ge (pv 0) (pe_gint rfl T.g_TIME_LIMIT) (nomark _)) (pw_or (pt_not (pt_chain op_le op_le pe_int (pv 1) (pe_gint rfl T.g_MOST_QUEUES))) (pw_or1 (pt_not (pt_chain op_le op_le pe_int (pv 2) (pe_gint rfl T.g_MOST_EACH))))))) (pss_one (ps_ret pe_non)) pss_nil) (pss_cons (ps_if (PW.pt (pw_or (pt_not (pt_chain op_le op_le pe_int (pv 3) (pe_gint rfl T.g_LONGEST_LIFE))) (pw_or1 (pt_not (pt_chain op_le op_le pe_int (pv 4) (pe_gint rfl T.g_HIGHEST_RATE)))))) (pss_one (ps_ret pe_non)) pss_nil) (pss_cons (ps_if (pt_not (pt_chain op_le op_le (pe_gint rfl T.g_LEAST_BURST) (pv 5) (pe_gint rfl T.g_MOST_BURST))) (pss_one (ps_ret pe_non)) pss_nil) (pss_cons (ps_if (PW.pt (pw_or (pt_not (pt_val (pe_def u_is_address hr (by decide) rfl (pa_cons (pv 6) pa_nil)))) (pw_or1 (pt_val (pe_def u_is_everybody hr (by decide) rfl (pa_cons (pv 6) pa_nil)))))) (pss_one (ps_ret pe_non)) pss_nil) (pss_one (ps_ret (pe_new u_End_init hr (by decide) rfl (pa_cons (pv 0) (pa_cons (pv 1) (pa_cons (pv 2) (pa_cons (pv 3) (pa_cons (pv 4) (pa_cons (pv 5) (pa_cons (pv 6) pa_nil)))))))))))))), ?_⟩
    have win : ∀ (z : Int) (lo hi : Nat), Sf82.within z lo hi = true ↔ ((lo : Int) ≤ z ∧ z ≤ (hi : Int)) := fun z lo hi => ⟨fun h => within_of h, fun h => by unfold Sf82.within; simp; omega⟩
    refine ⟨_, rfl, _, _, rfl, rfl, _, rfl, ?_⟩
    by_cases h1 : now < 9223372036854775808
    case neg => exact itP (by omega) (iteT (k' (fun z => h1 z.1) H (Same.refl H)))
    refine itN (by omega) ⟨_, rfl, _, _, rfl, rfl, _, rfl, ?_⟩
    by_cases h2 : 1 ≤ q
    case neg => exact itN h2 ⟨_, rfl, iteT (iteT (k' (fun z => h2 ((win _ _ _).mp z.2.2.2.1).1) H (Same.refl H)))⟩
    refine itP h2 ⟨_, _, rfl, rfl, _, rfl, ?_⟩
    by_cases h3 : q ≤ 8
    case neg => exact itnN h3 (iteT (k' (fun z => h3 ((win _ _ _).mp z.2.2.2.1).2) H (Same.refl H)))
    refine itnP h3 ⟨_, rfl, _, _, rfl, rfl, _, rfl, ?_⟩
    by_cases h4 : 1 ≤ ea
    case neg => exact itN h4 ⟨_, rfl, iteT (k' (fun z => h4 ((win _ _ _).mp z.2.2.2.2.1).1) H (Same.refl H))⟩
    refine itP h4 ⟨_, _, rfl, rfl, _, rfl, ?_⟩
    by_cases h5 : ea ≤ 64
    case neg => exact itnN h5 (k' (fun z => h5 ((win _ _ _).mp z.2.2.2.2.1).2) H (Same.refl H))
    refine itnP h5 ⟨_, rfl, _, _, rfl, rfl, _, rfl, ?_⟩
    by_cases h6 : 0 ≤ li
    case neg => exact itN h6 ⟨_, rfl, iteT (iteT (k' (fun z => h6 ((win _ _ _).mp z.2.2.2.2.2.1).1) H (Same.refl H)))⟩
    refine itP h6 ⟨_, _, rfl, rfl, _, rfl, ?_⟩
    by_cases h7 : li ≤ 3600000
    case neg => exact itnN h7 (iteT (k' (fun z => h7 ((win _ _ _).mp z.2.2.2.2.2.1).2) H (Same.refl H)))
    refine itnP h7 ⟨_, rfl, _, _, rfl, rfl, _, rfl, ?_⟩
    by_cases h8 : 0 ≤ ra
    case neg => exact itN h8 ⟨_, rfl, iteT (k' (fun z => h8 z.2.2.2.2.2.2.1) H (Same.refl H))⟩
    refine itP h8 ⟨_, _, rfl, rfl, _, rfl, ?_⟩
    by_cases h9 : ra ≤ 4294967295
    case neg => exact itnN h9 (k' (fun z => h9 (by have := z.2.2.2.2.2.2.2.1; omega)) H (Same.refl H))
    refine itnP h9 ⟨_, rfl, _, _, rfl, rfl, _, rfl, ?_⟩
    by_cases h10 : 1518 ≤ bu
    case neg => exact itN h10 ⟨_, rfl, iteT (k' (fun z => h10 ((win _ _ _).mp z.2.2.2.2.2.2.2.2).1) H (Same.refl H))⟩
    refine itP h10 ⟨_, _, rfl, rfl, _, rfl, ?_⟩
    by_cases h11 : bu ≤ 16777216
    case neg => exact itnN h11 (k' (fun z => h11 ((win _ _ _).mp z.2.2.2.2.2.2.2.2).2) H (Same.refl H))
    refine itnP h11 ⟨_, rfl, a, _, rfl, SqL.of ha, _, rfl, ?_⟩
    rw [vnb_length]
    by_cases h12 : me.length = 6
    case neg => exact itnN h12 (iteT (k' (fun z => h12 z.2.1) H (Same.refl H)))
    refine itnP h12 ⟨_, rfl, a, nb me, rfl, SqL.of ha, fun H1 s1 => ⟨_, rfl, ?_⟩⟩
    by_cases h13 : me = EVERYBODY
    · exact itP ((everybody_nb me).mpr h13) (k' (fun z => z.2.2.1 h13) H1 s1)
    refine itN (fun z => h13 ((everybody_nb me).mp z)) ?_
    have ok : Opens now me q ea li ra bu := ⟨h1, h12, h13, (win _ _ _).mpr ⟨h2, h3⟩, (win _ _ _).mpr ⟨h4, h5⟩, (win _ _ _).mpr ⟨h6, h7⟩, h8, by omega, (win _ _ _).mpr ⟨h10, h11⟩⟩
    refine ⟨_, rfl, _, rfl, _, rfl, _, rfl, _, rfl, _, rfl, _, rfl, fun x dx nx ndx nex => ?_⟩
    have sU : Same H1 (upd (upd H1 dx (.own x)) x (.ins C.End dx [])) := (same_upd ndx).trans (same_upd (by rw [upd_ne nex.symm]; exact nx))
    refine ⟨x, dx, a, now, q.toNat, ea.toNat, li.toNat, ra.toNat, bu.toNat, me, ?_, upd_same, sU _ _ (s1 _ _ ha), by omega, fun e H' ep R kp m1 m2 => ⟨rfl, ?_⟩⟩
    · rw [show ((q.toNat : Nat) : Int) = q by omega, show ((ea.toNat : Nat) : Int) = ea by omega, show ((li.toNat : Nat) : Int) = li by omega, show ((ra.toNat : Nat) : Int) = ra by omega, show ((bu.toNat : Nat) : Int) = bu by omega]
    have sM : Same H1 H' := Same.made nx ndx kp
    rw [← ep]
    refine k ok e H' R (s1.trans sM) (fun b hb => ?_) fun b hb => ?_
    · rcases m1 b hb with z | z
      · rw [z]; exact s1.free nx
      · exact s1.free (sU.free z)
    · rcases m2 b hb with z | z
      · exact .inl z
      · exact .inr (s1.free (sU.free z))
end
end FL
end
section
namespace FL
open PySem L2
open Sf82 (Bytes Item Queue S does says nums EVERYBODY number frame closed)
open Sf82Neutral (listOf)
/-! ### the desk -/
def endV (eo : Option EA) : V := match eo with
  | none => .non
  | some e => .ref e.p
abbrev fD (a : Addr) (k : Nat) (v : V) : List (Str × V) := f_Desk (.ref a) (.int (k : Int)) v
theorem sql_offI {K : PySem.W.Frag} {H : Hp} {a d c x : Addr} {f : List (Str × V)} {xs : List V} {o : HO} (h : SqL K H a xs) (hd : H d = some (.ins c x f)) : SqL K (upd H d o) a xs := by
  rcases h with (h | ⟨ob, h⟩) | h
  · exact .inl (.inl (by rw [upd_ne (ne_of h hd ne_li)]; exact h))
  · exact .inl (.inr ⟨ob, by rw [upd_ne (ne_of h hd (fun z => by cases z))]; exact h⟩)
  · exact .inr h
def sp_Desk_init (K : PySem.W.Frag) (C : Cs) : Sp := fun vs H Q _ => ∃ (p dx a : Addr), vs = [.ref p, .ref a] ∧ H p = some (.ins C.Desk dx []) ∧ ∀ H', (∃ d, H' p = some (.ins C.Desk d (fD a 0 .non))) → (∀ b o, H b = some o → b ≠ p → H' b = some o) → Q .non H'
def sp_Desk_is_done (K : PySem.W.Frag) (C : Cs) : Sp := fun vs H Q _ => ∃ (d a dx : Addr) (k : Nat) (v : V) (l : List Int), vs = [.ref d] ∧ H d = some (.ins C.Desk dx (fD a k v)) ∧ SqL K H a (vi l) ∧ Q (.bl (decide (l.length ≤ k))) H
def sp_Desk_take_number (K : PySem.W.Frag) (C : Cs) : Sp := fun vs H Q _ => ∃ (d a dx : Addr) (k : Nat) (v : V) (l : List Int) (z : Int), vs = [.ref d] ∧ H d = some (.ins C.Desk dx (fD a k v)) ∧ SqL K H a (vi l) ∧ l[k]? = some z ∧ Q (.int z) (upd H d (.ins C.Desk dx (fD a (k + 1) v)))
def sp_Desk_take_row (K : PySem.W.Frag) (C : Cs) : Sp := fun vs H Q _ => ∃ (d a dx : Addr) (k : Nat) (v : V) (l : List Int) (m : Nat), vs = [.ref d] ∧ H d = some (.ins C.Desk dx (fD a k v)) ∧ SqL K H a (vi l) ∧ l[k]? = some (m : Int) ∧ k + 1 + m ≤ l.length ∧
  ∀ r, upd H d (.ins C.Desk dx (fD a (k + 1 + m) v)) r = none → Q (.ref r) (upd (upd H d (.ins C.Desk dx (fD a (k + 1 + m) v))) r (.lst (vi ((l.drop (k + 1)).take m))))
/-- everything but the desk's own object is as it was -/
def KeepD (d : Addr) (H H' : Hp) : Prop := ∀ b o, b ≠ d → H b = some o → H' b = some o
def sp_Desk_take_given (K : PySem.W.Frag) (C : Cs) : Sp := fun vs H Q _ => ∃ (d a dx : Addr) (k : Nat) (v : V) (l : List Int) (c : Int) (n m : Nat) (rs : List (List Int)) (t : List Int), vs = [.ref d, .int c] ∧ H d = some (.ins C.Desk dx (fD a k v)) ∧ SqL K H a (vi l) ∧ PySf82.shape c = some (n, m) ∧ l.length ≤ 16000 ∧ k + n ≤ l.length ∧
  PyFlat.rows m (l.drop (k + n)) = some (rs, t) ∧
  ∀ g as k' H', k' ≤ l.length → l.drop k' = t → H' d = some (.ins C.Desk dx (fD a k' v)) → KeepD d H H' → (∀ b, H' b = none → H b = none) → H' g = some (.lst (vi ((l.drop k).take n) ++ as.map V.ref)) → Paired (fun x y => H' x = some (.lst (vi y)) ∧ H x = none) as rs → Q (.ref g) H'
/-! ### rows -/
theorem row_some {t x s : List Int} (h : PyFlat.row t = some (x, s)) : ∃ (m : Nat) (r : List Int), t = (m : Int) :: r ∧ m ≤ r.length ∧ x = r.take m ∧ s = r.drop m := by
  cases t with
  | nil => cases h
  | cons n r =>
    simp only [PyFlat.row] at h
    split at h
    · rename_i hc
      obtain ⟨h0, h1⟩ := hc
      have h := Option.some.inj h
      have hx := (Prod.mk.inj h).1
      have hs := (Prod.mk.inj h).2
      exact ⟨n.toNat, r, by rw [Int.toNat_of_nonneg h0], h1, hx.symm, hs.symm⟩
    · cases h
theorem rows_succ {k : Nat} {r : List Int} {xs : List (List Int)} {t : List Int} (h : PyFlat.rows (k + 1) r = some (xs, t)) : ∃ x s ys, PyFlat.row r = some (x, s) ∧ PyFlat.rows k s = some (ys, t) ∧ xs = x :: ys := by
  simp only [PyFlat.rows] at h
  cases hr : PyFlat.row r with
  | none => rw [hr] at h; cases h
  | some p =>
    obtain ⟨x, s⟩ := p
    rw [hr] at h
    dsimp only at h
    cases hs : PyFlat.rows k s with
    | none => rw [hs] at h; cases h
    | some p2 =>
      obtain ⟨ys, t2⟩ := p2
      rw [hs] at h
      have h := Option.some.inj h
      have h1 := (Prod.mk.inj h).1
      have h2 := (Prod.mk.inj h).2
      exact ⟨x, s, ys, rfl, by rw [h2] at hs; exact hs, h1.symm⟩
/-- as far as the i-th row -/
theorem rows_upto : ∀ (i m : Nat) {r : List Int} {xs : List (List Int)} {t : List Int}, PyFlat.rows m r = some (xs, t) → i < m → ∃ u x s, PyFlat.rows i r = some (xs.take i, u) ∧ PyFlat.row u = some (x, s) ∧ xs[i]? = some x ∧ PyFlat.rows (i + 1) r = some (xs.take (i + 1), s)
  | _, 0, _, _, _, _, hi => absurd hi (Nat.not_lt_zero _)
  | 0, m + 1, r, xs, t, h, _ => by
    obtain ⟨x, s, ys, h1, h2, rfl⟩ := rows_succ h
    refine ⟨r, x, s, rfl, h1, rfl, ?_⟩
    simp only [PyFlat.rows]
    rw [h1]
    rfl
  | i + 1, m + 1, r, xs, t, h, hi => by
    obtain ⟨x, s, ys, h1, h2, rfl⟩ := rows_succ h
    obtain ⟨u, y, s', g1, g2, g3, g4⟩ := rows_upto i m h2 (by omega)
    refine ⟨u, y, s', ?_, g2, g3, ?_⟩
    · simp only [PyFlat.rows]
      rw [h1]
      dsimp only
      rw [g1]
      rfl
    · have e : PyFlat.rows (i + 1 + 1) r = match PyFlat.row r with
        | none => none
        | some (x, s) => match PyFlat.rows (i + 1) s with
          | none => none
          | some (xs, t) => some (x :: xs, t) := rfl
      rw [e, h1]
      dsimp only
      rw [g4]
      rfl
theorem rows_len : ∀ (m : Nat) {r : List Int} {xs : List (List Int)} {t : List Int}, PyFlat.rows m r = some (xs, t) → xs.length = m
  | 0, r, xs, t, h => by
    have h := Option.some.inj h
    rw [← (Prod.mk.inj h).1]
    rfl
  | m + 1, r, xs, t, h => by
    obtain ⟨x, s, ys, h1, h2, rfl⟩ := rows_succ h
    rw [List.length_cons, rows_len m h2]
theorem drop_cons {l : List Int} {k : Nat} {z : Int} {r : List Int} (h : l.drop k = z :: r) : l[k]? = some z ∧ l.drop (k + 1) = r ∧ k + 1 ≤ l.length := by
  have hk : k < l.length := by
    refine Classical.byContradiction fun q => ?_
    rw [List.drop_eq_nil_of_le (by omega)] at h
    cases h
  rw [List.drop_eq_getElem_cons hk] at h
  injection h with h1 h2
  exact ⟨by rw [List.getElem?_eq_getElem hk, h1], h2, hk⟩
theorem shape_cases {c : Int} {n m : Nat} (h : PySf82.shape c = some (n, m)) : (c = 1 ∧ n = 6 ∧ m = 1) ∨ (c = 2 ∧ n = 2 ∧ m = 0) ∨ (c = 3 ∧ n = 3 ∧ m = 2) ∨ (c = 4 ∧ n = 1 ∧ m = 0) ∨ (c = 5 ∧ n = 2 ∧ m = 0) ∨ (c = 6 ∧ n = 0 ∧ m = 1) ∨ (c = 7 ∧ n = 0 ∧ m = 1) ∨ (c = 8 ∧ n = 0 ∧ m = 1) ∨ (c = 9 ∧ n = 1 ∧ m = 0) ∨ (c = 10 ∧ n = 2 ∧ m = 0) ∨ (c = 11 ∧ n = 1 ∧ m = 0) ∨ (c = 12 ∧ n = 0 ∧ m = 0) ∨ (c = 13 ∧ n = 1 ∧ m = 3) ∨ (c = 14 ∧ n = 0 ∧ m = 1) ∨ (c = 15 ∧ n = 1 ∧ m = 0) := by
  unfold PySf82.shape at h
  by_cases h1 : c = 1
  · rw [if_pos h1] at h; cases h; exact .inl ⟨h1, rfl, rfl⟩
  rw [if_neg h1] at h
  clear h1
  by_cases h1 : c = 2
  · rw [if_pos h1] at h; cases h; exact .inr (.inl ⟨h1, rfl, rfl⟩)
  rw [if_neg h1] at h
  clear h1
  by_cases h1 : c = 3
  · rw [if_pos h1] at h; cases h; exact .inr (.inr (.inl ⟨h1, rfl, rfl⟩))
  rw [if_neg h1] at h
  clear h1
  by_cases h1 : c = 4
  · rw [if_pos h1] at h; cases h; exact .inr (.inr (.inr (.inl ⟨h1, rfl, rfl⟩)))
  rw [if_neg h1] at h
  clear h1
  by_cases h1 : c = 5
  · rw [if_pos h1] at h; cases h; exact .inr (.inr (.inr (.inr (.inl ⟨h1, rfl, rfl⟩))))
  rw [if_neg h1] at h
  clear h1
  by_cases h1 : c = 6
  · rw [if_pos h1] at h; cases h; exact .inr (.inr (.inr (.inr (.inr (.inl ⟨h1, rfl, rfl⟩)))))
  rw [if_neg h1] at h
  clear h1
  by_cases h1 : c = 7
  · rw [if_pos h1] at h; cases h; exact .inr (.inr (.inr (.inr (.inr (.inr (.inl ⟨h1, rfl, rfl⟩))))))
  rw [if_neg h1] at h
  clear h1
  by_cases h1 : c = 8
  · rw [if_pos h1] at h; cases h; exact .inr (.inr (.inr (.inr (.inr (.inr (.inr (.inl ⟨h1, rfl, rfl⟩)))))))
  rw [if_neg h1] at h
  clear h1
  by_cases h1 : c = 9
  · rw [if_pos h1] at h; cases h; exact .inr (.inr (.inr (.inr (.inr (.inr (.inr (.inr (.inl ⟨h1, rfl, rfl⟩))))))))
  rw [if_neg h1] at h
  clear h1
  by_cases h1 : c = 10
  · rw [if_pos h1] at h; cases h; exact .inr (.inr (.inr (.inr (.inr (.inr (.inr (.inr (.inr (.inl ⟨h1, rfl, rfl⟩)))))))))
  rw [if_neg h1] at h
  clear h1
  by_cases h1 : c = 11
  · rw [if_pos h1] at h; cases h; exact .inr (.inr (.inr (.inr (.inr (.inr (.inr (.inr (.inr (.inr (.inl ⟨h1, rfl, rfl⟩))))))))))
  rw [if_neg h1] at h
  clear h1
  by_cases h1 : c = 12
  · rw [if_pos h1] at h; cases h; exact .inr (.inr (.inr (.inr (.inr (.inr (.inr (.inr (.inr (.inr (.inr (.inl ⟨h1, rfl, rfl⟩)))))))))))
  rw [if_neg h1] at h
  clear h1
  by_cases h1 : c = 13
  · rw [if_pos h1] at h; cases h; exact .inr (.inr (.inr (.inr (.inr (.inr (.inr (.inr (.inr (.inr (.inr (.inr (.inl ⟨h1, rfl, rfl⟩))))))))))))
  rw [if_neg h1] at h
  clear h1
  by_cases h1 : c = 14
  · rw [if_pos h1] at h; cases h; exact .inr (.inr (.inr (.inr (.inr (.inr (.inr (.inr (.inr (.inr (.inr (.inr (.inr (.inl ⟨h1, rfl, rfl⟩)))))))))))))
  rw [if_neg h1] at h
  clear h1
  by_cases h1 : c = 15
  · rw [if_pos h1] at h; cases h; exact .inr (.inr (.inr (.inr (.inr (.inr (.inr (.inr (.inr (.inr (.inr (.inr (.inr (.inr (⟨h1, rfl, rfl⟩))))))))))))))
  rw [if_neg h1] at h
  clear h1
  cases h
section
variable {P : Program} {w : World} {K : PySem.W.Frag} {mg : Str → Option Value} {base : Heap} {C : Cs}
/-- the table of the calls' forms -/
theorem forms_at (T : Txt K mg C) {c : Int} {n m : Nat} (h : PySf82.shape c = some (n, m)) : ∃ (kvs : List (Int × V)) (x : Addr), KD K C.FORMS kvs ∧ kvs.lookup c = some (.ref x) ∧ KTup K x [(n : Int), (m : Int)] := by
  rcases shape_cases h with ⟨rfl, rfl, rfl⟩ | ⟨rfl, rfl, rfl⟩ | ⟨rfl, rfl, rfl⟩ | ⟨rfl, rfl, rfl⟩ | ⟨rfl, rfl, rfl⟩ | ⟨rfl, rfl, rfl⟩ | ⟨rfl, rfl, rfl⟩ | ⟨rfl, rfl, rfl⟩ | ⟨rfl, rfl, rfl⟩ | ⟨rfl, rfl, rfl⟩ | ⟨rfl, rfl, rfl⟩ | ⟨rfl, rfl, rfl⟩ | ⟨rfl, rfl, rfl⟩ | ⟨rfl, rfl, rfl⟩ | ⟨rfl, rfl, rfl⟩
  · exact ⟨_, _, T.g_FORMS.2, rfl, T.t_FORMS_1⟩
  · exact ⟨_, _, T.g_FORMS.2, rfl, T.t_FORMS_2⟩
  · exact ⟨_, _, T.g_FORMS.2, rfl, T.t_FORMS_3⟩
  · exact ⟨_, _, T.g_FORMS.2, rfl, T.t_FORMS_4⟩
  · exact ⟨_, _, T.g_FORMS.2, rfl, T.t_FORMS_5⟩
  · exact ⟨_, _, T.g_FORMS.2, rfl, T.t_FORMS_6⟩
  · exact ⟨_, _, T.g_FORMS.2, rfl, T.t_FORMS_7⟩
  · exact ⟨_, _, T.g_FORMS.2, rfl, T.t_FORMS_8⟩
  · exact ⟨_, _, T.g_FORMS.2, rfl, T.t_FORMS_9⟩
  · exact ⟨_, _, T.g_FORMS.2, rfl, T.t_FORMS_10⟩
  · exact ⟨_, _, T.g_FORMS.2, rfl, T.t_FORMS_11⟩
  · exact ⟨_, _, T.g_FORMS.2, rfl, T.t_FORMS_12⟩
  · exact ⟨_, _, T.g_FORMS.2, rfl, T.t_FORMS_13⟩
  · exact ⟨_, _, T.g_FORMS.2, rfl, T.t_FORMS_14⟩
  · exact ⟨_, _, T.g_FORMS.2, rfl, T.t_FORMS_15⟩
theorem shape_le {c : Int} {n m : Nat} (h : PySf82.shape c = some (n, m)) : n ≤ 6 ∧ m ≤ 3 := by
  rcases shape_cases h with ⟨_, rfl, rfl⟩ | ⟨_, rfl, rfl⟩ | ⟨_, rfl, rfl⟩ | ⟨_, rfl, rfl⟩ | ⟨_, rfl, rfl⟩ | ⟨_, rfl, rfl⟩ | ⟨_, rfl, rfl⟩ | ⟨_, rfl, rfl⟩ | ⟨_, rfl, rfl⟩ | ⟨_, rfl, rfl⟩ | ⟨_, rfl, rfl⟩ | ⟨_, rfl, rfl⟩ | ⟨_, rfl, rfl⟩ | ⟨_, rfl, rfl⟩ | ⟨_, rfl, rfl⟩ <;> decide
theorem ok_Desk_init {f : Addr} {fd : FuncData} (F : Fun K "__init__" "Desk.__init__" s_Desk_init f fd) (T : Txt K mg C)  : FnOk P w K mg base CX0 1 f fd ps_Desk_init (sp_Desk_init K C) := by
  refine F.ok sc_Desk_init (fun vs H Q E h => ?_) (fun cdv A outer s H vs Q E hr h => ?_)
  · obtain ⟨p, dx, a, rfl, _⟩ := h
    rfl
  · obtain ⟨p, dx, a, rfl, hp, k⟩ := h
    refine ⟨_, (pss_cons (ps_fld (pv 0) (pv 1) rfl) (pss_cons (ps_fld (pv 0) pe_int rfl) (pss_one (ps_fld (pv 0) pe_non rfl)))), ?_⟩
    refine ⟨_, rfl, _, rfl, p, C.Desk, dx, [], rfl, hp, T.c_Desk, T.n_Desk_calls, (by show 0 < 1000; decide), ?_⟩
    rw [i_Desk_0]
    refine ⟨_, rfl, p, C.Desk, dx, _, rfl, upd_same, T.c_Desk, T.n_Desk_place, (by show 1 < 1000; decide), ?_⟩
    rw [i_Desk_1, upd_upd]
    refine ⟨_, rfl, p, C.Desk, dx, _, rfl, upd_same, T.c_Desk, T.n_Desk_end, (by show 2 < 1000; decide), ?_⟩
    rw [i_Desk_2, upd_upd]
    exact k _ ⟨dx, upd_same⟩ fun b o hb n => by rw [upd_ne n]; exact hb
theorem ok_Desk_is_done {f : Addr} {fd : FuncData} (F : Fun K "is_done" "Desk.is_done" s_Desk_is_done f fd) (T : Txt K mg C)  : FnOk P w K mg base CX0 1 f fd ps_Desk_is_done (sp_Desk_is_done K C) := by
  refine F.ok sc_Desk_is_done (fun vs H Q E h => ?_) (fun cdv A outer s H vs Q E hr h => ?_)
  · obtain ⟨d, a, dx, k, v, l, rfl, _⟩ := h
    rfl
  · obtain ⟨d, a, dx, k, v, l, rfl, hd, ha, q⟩ := h
    refine ⟨_, (pss_one (ps_ret (pe_cmpR op_ge (pe_fld (pv 0) rfl) (pe_callB call_len_seq (by rfl) T.b_len (show bootBuiltins "len" = some (.builtin "len") by decide +kernel) (pa_cons (pe_fld (pv 0) rfl) pa_nil)) (nomark _)))), ?_⟩
    refine ⟨_, rfl, d, C.Desk, dx, _, _, rfl, hd, T.c_Desk, T.n_Desk_place, l_Desk_place, _, rfl, d, C.Desk, dx, _, _, rfl, hd, T.c_Desk, T.n_Desk_calls, l_Desk_calls, a, _, rfl, .inl ha, _, _, rfl, rfl, ?_⟩
    have e : decide (((vi l).length : Int) ≤ (k : Int)) = decide (l.length ≤ k) := dec_iff (by rw [List.length_map]; omega)
    dsimp only
    rw [e]
    exact q
theorem ok_Desk_take_number {f : Addr} {fd : FuncData} (F : Fun K "take_number" "Desk.take_number" s_Desk_take_number f fd) (T : Txt K mg C)  : FnOk P w K mg base CX0 1 f fd ps_Desk_take_number (sp_Desk_take_number K C) := by
  refine F.ok sc_Desk_take_number (fun vs H Q E h => ?_) (fun cdv A outer s H vs Q E hr h => ?_)
  · obtain ⟨d, a, dx, k, v, l, z, rfl, _⟩ := h
    rfl
  · obtain ⟨d, a, dx, k, v, l, z, rfl, hd, ha, hz, q⟩ := h
    refine ⟨_, (pss_cons (ps_set (i := 1) sc_Desk_take_number.nd rfl (by first | exact Or.inl rfl | exact Or.inr rfl) (pe_ix ix_list (pe_fld (pv 0) rfl) (pe_fld (pv 0) rfl) (fun _ _ => rfl))) (pss_cons (ps_fldaug (pv 0) pe_int in_add) (pss_one (ps_ret (pv 1))))), ?_⟩
    refine ⟨_, rfl, d, C.Desk, dx, _, _, rfl, hd, T.c_Desk, T.n_Desk_calls, l_Desk_calls, _, rfl, d, C.Desk, dx, _, _, rfl, hd, T.c_Desk, T.n_Desk_place, l_Desk_place, a, _, _, _, rfl, rfl, ha, atI_nat (by rw [List.getElem?_map, hz]; rfl), ?_⟩
    refine ⟨_, rfl, d, C.Desk, dx, _, _, rfl, hd, T.c_Desk, T.n_Desk_place, l_Desk_place, _, _, rfl, rfl, dx, _, hd, z_Desk, ?_⟩
    rw [p_Desk_place]
    exact ⟨_, rfl, q⟩
theorem ok_Desk_take_row {f : Addr} {fd : FuncData} (F : Fun K "take_row" "Desk.take_row" s_Desk_take_row f fd) (T : Txt K mg C) (u_Desk_take_number : MethOk P w K mg base 1 C.Desk "take_number" ps_Desk_take_number (sp_Desk_take_number K C)) : FnOk P w K mg base CX0 2 f fd ps_Desk_take_row (sp_Desk_take_row K C) := by
  refine F.ok sc_Desk_take_row (fun vs H Q E h => ?_) (fun cdv A outer s H vs Q E hr h => ?_)
  · obtain ⟨d, a, dx, k, v, l, m, rfl, _⟩ := h
    rfl
  · obtain ⟨d, a, dx, k, v, l, m, rfl, hd, ha, hz, hl, q⟩ := h
    refine ⟨_, (pss_cons (ps_set (i := 1) sc_Desk_take_row.nd rfl (by first | exact Or.inl rfl | exact Or.inr rfl) (pe_mth0 (pv 0) T.c_Desk u_Desk_take_number hr (by decide))) (pss_cons (ps_set (i := 2) sc_Desk_take_row.nd rfl (by first | exact Or.inl rfl | exact Or.inr rfl) (pe_fld (pv 0) rfl)) (pss_cons (ps_fldaug (pv 0) (pv 1) in_add) (pss_one (ps_ret (pe_slice sl_list (pe_fld (pv 0) rfl) (po_some (pv 2)) (po_some (pe_fld (pv 0) rfl)))))))), ?_⟩
    refine ⟨_, rfl, d, dx, _, rfl, hd, m_Desk_take_number, d, a, dx, k, v, l, m, rfl, hd, ha, hz, ?_⟩
    have hd1 : upd H d (.ins C.Desk dx (fD a (k + 1) v)) d = some (.ins C.Desk dx (fD a (k + 1) v)) := upd_same
    refine ⟨_, rfl, d, C.Desk, dx, _, _, rfl, hd1, T.c_Desk, T.n_Desk_place, l_Desk_place, ?_⟩
    refine ⟨_, rfl, d, C.Desk, dx, _, _, rfl, hd1, T.c_Desk, T.n_Desk_place, l_Desk_place, _, rfl, _, _, rfl, rfl, dx, _, hd1, z_Desk, ?_⟩
    rw [p_Desk_place, upd_upd]
    have ek : ((k + 1 : Nat) : Int) + (m : Int) = ((k + 1 + m : Nat) : Int) := by push_cast; rfl
    dsimp only
    rw [ek]
    have hd2 : upd H d (.ins C.Desk dx (fD a (k + 1 + m) v)) d = some (.ins C.Desk dx (fD a (k + 1 + m) v)) := upd_same
    refine ⟨_, rfl, d, C.Desk, dx, _, _, rfl, hd2, T.c_Desk, T.n_Desk_calls, l_Desk_calls, _, rfl, _, rfl, _, rfl, d, C.Desk, dx, _, _, rfl, hd2, T.c_Desk, T.n_Desk_place, l_Desk_place, _, rfl, a, _, rfl, sql_offI ha hd, fun r nr => ?_⟩
    rw [cut_mid _ _ _ (by rw [List.length_map]; omega), show k + 1 + m - (k + 1) = m by omega, ← List.map_drop, ← List.map_take]
    exact q r nr
theorem ok_Desk_take_given {f : Addr} {fd : FuncData} (F : Fun K "take_given" "Desk.take_given" s_Desk_take_given f fd) (T : Txt K mg C) (u_Desk_take_number : MethOk P w K mg base 1 C.Desk "take_number" ps_Desk_take_number (sp_Desk_take_number K C)) (u_Desk_take_row : MethOk P w K mg base 2 C.Desk "take_row" ps_Desk_take_row (sp_Desk_take_row K C)) : FnOk P w K mg base CX0 3 f fd ps_Desk_take_given (sp_Desk_take_given K C) := by
  refine F.ok sc_Desk_take_given (fun vs H Q E h => ?_) (fun cdv A outer s H vs Q E hr h => ?_)
  · obtain ⟨d, a, dx, k, v, l, c, n, m, rs, t, rfl, _⟩ := h
    rfl
  · obtain ⟨d, a, dx, k, v, l, c, n, m, rs, t, rfl, hd, ha, hsh, h16, hkn, hrows, q⟩ := h
    have hz := sizeLine_eq
    obtain ⟨kvs, x, hkd, hlk, htup⟩ := forms_at T hsh
    obtain ⟨hn6, hm3⟩ := shape_le hsh
    refine ⟨_, (pss_cons (ps_set (i := 2) sc_Desk_take_given.nd rfl (by first | exact Or.inl rfl | exact Or.inr rfl) (pe_kget (pe_gref rfl T.g_FORMS.1) (pv 1) (fun _ _ => rfl))) (pss_cons (ps_set (i := 3) sc_Desk_take_given.nd rfl (by first | exact Or.inl rfl | exact Or.inr rfl) (pe_lst pa_nil)) (pss_cons (ps_for PassesOwn.never rfl (pi_range1 rfl T.b_range (pa_cons (pe_ix ix_tup (pv 2) pe_int (fun _ _ => rfl)) pa_nil)) (pg_name (i := 4) sc_Desk_take_given.nd rfl (by first | exact Or.inl rfl | exact Or.inr rfl)) (pss_one (ps_expr (pe_bm PySem.F.plainAttrs_list PySem.F.slot_list_append PySem.F.type_list_append mt_append (pv 3) (pa_cons (pe_mth0 (pv 0) T.c_Desk u_Desk_take_number hr (by decide)) pa_nil))))) (pss_cons (ps_for PassesOwn.never rfl (pi_range1 rfl T.b_range (pa_cons (pe_ix ix_tup (pv 2) pe_int (fun _ _ => rfl)) pa_nil)) (pg_name (i := 4) sc_Desk_take_given.nd rfl (by first | exact Or.inl rfl | exact Or.inr rfl)) (pss_one (ps_expr (pe_bm PySem.F.plainAttrs_list PySem.F.slot_list_append PySem.F.type_list_append mt_append (pv 3) (pa_cons (pe_mth0 (pv 0) T.c_Desk u_Desk_take_row hr (by decide)) pa_nil))))) (pss_one (ps_ret (pv 3))))))), ?_⟩
    refine ⟨_, rfl, _, kvs, c, _, rfl, rfl, hkd, hlk, Nat.zero_le _, fun g ng => ?_⟩
    have s0 := same_upd (o := HO.lst []) ng
    have ndg : d ≠ g := ne_of_none hd ng
    refine ⟨_, rfl, x, _, _, _, rfl, rfl, htup.seq, atI_nat (j := 0) rfl, _, rfl, by omega, by omega, ?_⟩
    rw [show ((n : Nat) : Int).toNat = n from rfl]
    refine for_range (n := n) (fun i σ H2 => ∃ y : Option V, σ = [some (.ref d), some (.int c), some (.ref x), some (.ref g), y] ∧ H2 d = some (.ins C.Desk dx (fD a (k + i) v)) ∧ H2 g = some (.lst (vi ((l.drop k).take i))) ∧ KeepD d H H2 ∧ SqL K H2 a (vi l) ∧ ∀ b, H2 b = none → H b = none) ⟨none, rfl, s0 _ _ hd, upd_same, fun b o _ z => s0 b o z, s0.seq ha, fun b z => s0.free z⟩ ?_ ?_
    · rintro i σ H2 hi ⟨y, rfl, hd2, hg2, k2, ha2, f2⟩
      have hki : k + i < l.length := by omega
      obtain ⟨z, hz1⟩ : ∃ z, l[k + i]? = some z := ⟨_, List.getElem?_eq_getElem hki⟩
      refine ⟨_, rfl, .inl ⟨rfl, _, SqL.of hg2⟩, _, rfl, d, dx, _, rfl, hd2, m_Desk_take_number, d, a, dx, k + i, v, l, z, rfl, hd2, ha2, hz1, g, _, _, rfl, rfl, by rw [upd_ne ndg.symm]; exact hg2, ?_, ?_⟩
      · rw [List.length_map, List.length_take]; omega
      · have e1 : (l.drop k).take (i + 1) = (l.drop k).take i ++ [z] := by rw [List.take_add_one, List.getElem?_drop, hz1]; rfl
        refine ⟨some (.int (0 + (i : Int))), rfl, ?_, ?_, fun b o hb z' => ?_, ?_, fun b z' => ?_⟩
        · rw [upd_ne ndg, upd_same]; rfl
        · rw [upd_same, e1, vi_append]; rfl
        · have hbg : b ≠ g := ne_of_none z' ng
          rw [upd_ne hbg, upd_ne hb]; exact k2 b o hb z'
        · rcases ha with (h | ⟨ob, h⟩) | h
          · exact .inl (.inl (by rw [upd_ne (ne_of_none h ng), upd_ne (ne_of h hd ne_li)]; exact k2 _ _ (ne_of h hd ne_li) h))
          · exact .inl (.inr ⟨ob, by rw [upd_ne (ne_of_none h ng), upd_ne (ne_of h hd (fun z => by cases z))]; exact k2 _ _ (ne_of h hd (fun z => by cases z)) h⟩)
          · exact .inr h
        · by_cases zg : b = g
          · rw [zg]; exact ng
          · rw [upd_ne zg] at z'
            by_cases zd : b = d
            · rw [zd, upd_same] at z'; cases z'
            · rw [upd_ne zd] at z'; exact f2 b z'
    · rintro σ H2 ⟨y, rfl, hd2, hg2, k2, ha2, f2⟩
      refine ⟨_, rfl, x, _, _, _, rfl, rfl, htup.seq, atI_nat (j := 1) rfl, _, rfl, by omega, by omega, ?_⟩
      rw [show ((m : Nat) : Int).toNat = m from rfl]
      refine for_range (n := m) (fun i σ H3 => ∃ (y : Option V) (as : List Addr) (k3 : Nat) (u : List Int), σ = [some (.ref d), some (.int c), some (.ref x), some (.ref g), y] ∧ H3 d = some (.ins C.Desk dx (fD a k3 v)) ∧ H3 g = some (.lst (vi ((l.drop k).take n) ++ as.map V.ref)) ∧ KeepD d H H3 ∧ (∀ b, H3 b = none → H b = none) ∧ k3 ≤ l.length ∧ l.drop k3 = u ∧ PyFlat.rows i (l.drop (k + n)) = some (rs.take i, u) ∧ Paired (fun x y => H3 x = some (.lst (vi y)) ∧ H x = none ∧ x ≠ g) as (rs.take i))
        ⟨y, [], k + n, l.drop (k + n), rfl, hd2, by rw [List.map_nil, List.append_nil]; exact hg2, k2, f2, hkn, rfl, rfl, .nil⟩ ?_ ?_
      · rintro i σ H3 hi ⟨y, as, k3, u, rfl, hd3, hg3, kk3, f3, hk3, hu, hr3, pr⟩
        obtain ⟨u', x1, s1, g1, g2, g3, g4⟩ := rows_upto i m hrows hi
        rw [hr3] at g1
        obtain rfl : u = u' := (Prod.mk.inj (Option.some.inj g1)).2
        obtain ⟨mm, r, hu2, hmr, hx1, hs1⟩ := row_some g2
        obtain ⟨c1, c2, c3⟩ := drop_cons (hu.trans hu2)
        have hrl : r.length = l.length - (k3 + 1) := by rw [← c2, List.length_drop]
        have ha3 : SqL K H3 a (vi l) := by
          rcases ha with (h | ⟨ob, h⟩) | h
          · exact .inl (.inl (kk3 _ _ (ne_of h hd ne_li) h))
          · exact .inl (.inr ⟨ob, kk3 _ _ (ne_of h hd (fun z => by cases z)) h⟩)
          · exact .inr h
        have hal : as.length ≤ i := by
          have := paired_len pr
          rw [List.length_take] at this
          omega
        refine ⟨_, rfl, .inl ⟨rfl, _, SqL.of hg3⟩, _, rfl, d, dx, _, rfl, hd3, m_Desk_take_row, d, a, dx, k3, v, l, mm, rfl, hd3, ha3, c1, by omega, fun r1 nr1 => ?_⟩
        have nrd : r1 ≠ d := fun z => by rw [z, upd_same] at nr1; cases nr1
        have nr3 : H3 r1 = none := by rw [upd_ne nrd] at nr1; exact nr1
        have nrg : r1 ≠ g := (ne_of_none hg3 nr3).symm
        refine ⟨g, _, _, rfl, rfl, by rw [upd_ne nrg.symm, upd_ne ndg.symm]; exact hg3, ?_, ?_⟩
        · rw [List.length_append, List.length_map, List.length_map, List.length_take]; omega
        · refine ⟨some (.int (0 + (i : Int))), as ++ [r1], k3 + 1 + mm, s1, rfl, ?_, ?_, fun b o hb z' => ?_, fun b z' => ?_, by omega, ?_, g4, ?_⟩
          · rw [upd_ne ndg, upd_ne nrd.symm, upd_same]
          · rw [upd_same, List.map_append, ← List.append_assoc]; rfl
          · have hbg : b ≠ g := ne_of_none z' ng
            have hbr : b ≠ r1 := ne_of_none (kk3 b o hb z') nr3
            rw [upd_ne hbg, upd_ne hbr, upd_ne hb]; exact kk3 b o hb z'
          · by_cases zg : b = g
            · rw [zg]; exact ng
            · rw [upd_ne zg] at z'
              by_cases zr : b = r1
              · rw [zr]; exact f3 _ nr3
              · rw [upd_ne zr] at z'
                by_cases zd : b = d
                · rw [zd, upd_same] at z'; cases z'
                · rw [upd_ne zd] at z'; exact f3 b z'
          · rw [hs1, ← c2, List.drop_drop]
          · rw [List.take_add_one, g3]
            refine paired_append (paired_mem pr fun x' y' hm' r' => ?_) (.cons ⟨?_, f3 _ nr3, nrg⟩ .nil)
            · obtain ⟨r1', r2', r3'⟩ := r'
              have hxr : x' ≠ r1 := ne_of_none r1' nr3
              have hxd : x' ≠ d := fun z => by rw [z, hd] at r2'; cases r2'
              exact ⟨by rw [upd_ne r3', upd_ne hxr, upd_ne hxd]; exact r1', r2', r3'⟩
            · rw [upd_ne nrg, upd_same, c2, hx1]
      · rintro σ H3 ⟨y, as, k3, u, rfl, hd3, hg3, kk3, f3, hk3, hu, hr3, pr⟩
        have hml := rows_len m hrows
        rw [List.take_of_length_le (by omega)] at hr3 pr
        rw [hrows] at hr3
        obtain rfl : t = u := (Prod.mk.inj (Option.some.inj hr3)).2
        exact ⟨_, rfl, q g as k3 H3 hk3 hu hd3 kk3 f3 hg3 (paired_mem pr fun x' y' _ r' => ⟨r'.1, r'.2.1⟩)⟩
end
end FL
end
section
namespace FL
open PySem L2
open Sf82 (Bytes Item Queue S does says nums EVERYBODY number frame closed)
open Sf82Neutral (listOf)
/-- the end that is open, or none -/
def LiveAt (C : Cs) (H : Hp) (eo : Option EA) (s : S) : Prop := match eo with
  | none => s = closed
  | some e => EndAt C H e s ∧ Good s
theorem count_list {l : List Nat} (h : l.length = 10) : [V.int ((l.getD 0 0 : Nat) : Int), V.int ((l.getD 1 0 : Nat) : Int), V.int ((l.getD 2 0 : Nat) : Int), V.int ((l.getD 3 0 : Nat) : Int), V.int ((l.getD 4 0 : Nat) : Int), V.int ((l.getD 5 0 : Nat) : Int), V.int ((l.getD 6 0 : Nat) : Int), V.int ((l.getD 7 0 : Nat) : Int), V.int ((l.getD 8 0 : Nat) : Int), V.int ((l.getD 9 0 : Nat) : Int)] = vi (l.map fun (n : Nat) => (n : Int)) := by
  match l, h with
  | [_, _, _, _, _, _, _, _, _, _], _ => rfl
def countsL (s : S) : List Int := listOf (does s .counts).2
def sp_Desk_answer_counts (K : PySem.W.Frag) (C : Cs) : Sp := fun vs H Q _ => ∃ (d a dx : Addr) (k : Nat) (eo : Option EA) (s : S), vs = [.ref d] ∧ H d = some (.ins C.Desk dx (fD a k (endV eo))) ∧ LiveAt C H eo s ∧ ∀ l H', H l = none → Same H H' → H' l = some (.lst (vi (countsL s))) → Q (.ref l) H'
def sp_Desk_answer_opening (K : PySem.W.Frag) (C : Cs) : Sp := fun vs H Q _ => ∃ (d a dx g r : Addr) (k : Nat) (v : V) (now : Nat) (q ea li ra bu : Int) (me : Bytes), vs = [.ref d, .ref g] ∧ H d = some (.ins C.Desk dx (fD a k v)) ∧ H g = some (.lst [.int now, .int q, .int ea, .int li, .int ra, .int bu, .ref r]) ∧ H r = some (.lst (vi (nb me))) ∧
  (Opens now me q ea li ra bu → ∀ e H' p, EndAt C H' e (openS now me q.toNat ea.toNat li.toNat ra.toNat bu.toNat) → KeepD d H H' → H' d = some (.ins C.Desk dx (fD a k (.ref e.p))) → (∀ b, Mt e b → H b = none) → (∀ b, IL e b → b = r ∨ H b = none) → H p = none → H' p = some (.lst (vi [0])) → Q (.ref p) H') ∧
  (¬ Opens now me q ea li ra bu → ∀ H' p, H p = none → Same H H' → H' p = some (.lst (vi [-1])) → Q (.ref p) H')
/-- a call that needs an end, with what is given -/
inductive CallAt (H0 H : Hp) : Int → List V → Sf82.Call → Prop
  | weight (q w : Int) : CallAt H0 H 2 [.int q, .int w] (.weight q w)
  | put (now : Nat) (q kind : Int) (a1 a2 : Addr) (t b : Bytes) : H a1 = some (.lst (vi (nb t))) → H a2 = some (.lst (vi (nb b))) → H0 a1 = none → H0 a2 = none → CallAt H0 H 3 [.int now, .int q, .int kind, .ref a1, .ref a2] (.put now q t kind b)
  | next (now : Nat) : CallAt H0 H 4 [.int now] (.next now)
  | went (now : Nat) (ok : Int) : CallAt H0 H 5 [.int now, .int ok] (.went now ok)
  | came (a : Addr) (b : Bytes) : H a = some (.lst (vi (nb b))) → CallAt H0 H 6 [.ref a] (.came b)
  | join (a : Addr) (b : Bytes) : H a = some (.lst (vi (nb b))) → H0 a = none → CallAt H0 H 7 [.ref a] (.join b)
  | leave (a : Addr) (b : Bytes) : H a = some (.lst (vi (nb b))) → CallAt H0 H 8 [.ref a] (.leave b)
  | hear (c : Int) : CallAt H0 H 9 [.int c] (.hear c)
  | waits (now : Nat) (q : Int) : CallAt H0 H 10 [.int now, .int q] (.waits now q)
  | drop (q : Int) : CallAt H0 H 11 [.int q] (.drop q)
  | due (now : Nat) : CallAt H0 H 15 [.int now] (.due now)
def sp_answer_at (K : PySem.W.Frag) (C : Cs) : Sp := fun vs H Q _ => ∃ (e : EA) (s : S) (n : Int) (g : Addr) (gv : List V) (c : Sf82.Call) (H0 : Hp), vs = [.ref e.p, .int n, .ref g] ∧ EndAt C H0 e s ∧ Same H0 H ∧ Good s ∧ H g = some (.lst gv) ∧ CallAt H0 H n gv c ∧ Tells C e H0 (does s c).1 (listOf (does s c).2) Q
theorem Tells.from {C : Cs} {e : EA} {H0 H : Hp} {s' : S} {z : List Int} {Q : VK} (k : Tells C e H0 s' z Q) (s : Same H0 H) : Tells C e H s' z Q := fun e' H' r R K hn hr => k e' H' r R (K.from s) (s.free hn) hr
section
variable {P : Program} {w : World} {K : PySem.W.Frag} {mg : Str → Option Value} {base : Heap} {C : Cs}
theorem ok_Desk_answer_counts {f : Addr} {fd : FuncData} (F : Fun K "answer_counts" "Desk.answer_counts" s_Desk_answer_counts f fd) (T : Txt K mg C) (u_Counts_init : MakeOk P w K mg base 1 "Counts" C.Counts ps_Counts_init (sp_Counts_init K C)) (u_Counts_in_order : MethOk P w K mg base 1 C.Counts "in_order" ps_Counts_in_order (sp_Counts_in_order K C)) : FnOk P w K mg base CX0 3 f fd ps_Desk_answer_counts (sp_Desk_answer_counts K C) := by
  refine F.ok sc_Desk_answer_counts (fun vs H Q E h => ?_) (fun cdv A outer s H vs Q E hr h => ?_)
  · obtain ⟨d, a, dx, k, eo, s, rfl, _⟩ := h
    rfl
  · obtain ⟨d, a, dx, k, eo, s, rfl, hd, L, q⟩ := h
    refine ⟨_, (pss_cons (ps_set (i := 1) sc_Desk_answer_counts.nd rfl (by first | exact Or.inl rfl | exact Or.inr rfl) (pe_ifExp (pt_cmpR op_isN (pe_fld (pv 0) rfl) pe_non (nomark _)) (pe_new0 u_Counts_init hr (by decide) rfl) (pe_fld (pe_fld (pv 0) rfl) rfl))) (pss_one (ps_ret (pe_op op_cat (pe_lst (pa_cons pe_int pa_nil)) (pe_mth0 (pv 1) T.c_Counts u_Counts_in_order hr (by decide)))))), ?_⟩
    refine ⟨_, rfl, d, C.Desk, dx, _, _, rfl, hd, T.c_Desk, T.n_Desk_end, l_Desk_end, rfl, _, rfl, ?_⟩
    cases eo with
    | none =>
      obtain rfl : s = closed := L
      refine itP rfl (fun x dc nx ndx nex => ⟨x, dc, rfl, upd_same, fun H1 hx kp => ⟨rfl, ?_⟩⟩)
      have s1 : Same H H1 := Same.made nx ndx kp
      obtain ⟨dc1, hx⟩ := hx
      refine ⟨by show 1 ≤ sizeLine; decide, fun l1 n1 => ?_⟩
      have s2 := same_upd (o := HO.lst [V.int 0]) n1
      have hx2 := s2 _ _ hx
      refine ⟨_, rfl, x, dc1, _, rfl, hx2, m_Counts_in_order, x, dc1, _, _, _, _, _, _, _, _, _, _, rfl, hx2, fun l3 H3 s3 h3 => ⟨l1, l3, _, _, rfl, rfl, s3 _ _ upd_same, h3, by show 11 ≤ sizeLine; decide, fun l4 n4 => ?_⟩⟩
      refine q l4 _ (((s1.trans s2).trans s3).free n4) (((s1.trans s2).trans s3).trans (same_upd n4)) ?_
      rw [upd_same]
      rfl
    | some e =>
      obtain ⟨R, G⟩ := L
      obtain ⟨de, hp⟩ := R.ob
      obtain ⟨dc, hc⟩ := R.cn
      refine itN (fun z => by cases z) ⟨_, rfl, d, C.Desk, dx, _, _, rfl, hd, T.c_Desk, T.n_Desk_end, l_Desk_end, e.p, C.End, de, _, _, rfl, hp, T.c_End, T.n_End_counts, l_End_counts, ?_⟩
      refine ⟨by show 1 ≤ sizeLine; decide, fun l1 n1 => ?_⟩
      have s2 := same_upd (o := HO.lst [V.int 0]) n1
      have hc2 := s2 _ _ hc
      refine ⟨_, rfl, e.cn, dc, _, rfl, hc2, m_Counts_in_order, e.cn, dc, _, _, _, _, _, _, _, _, _, _, rfl, hc2, fun l3 H3 s3 h3 => ⟨l1, l3, _, _, rfl, rfl, s3 _ _ upd_same, h3, by show 11 ≤ sizeLine; decide, fun l4 n4 => ?_⟩⟩
      refine q l4 _ ((s2.trans s3).free n4) ((s2.trans s3).trans (same_upd n4)) ?_
      have e1 := count_list G.cnt
      have e2 : countsL s = 0 :: s.count.map fun (n : Nat) => (n : Int) := rfl
      rw [upd_same, e2]
      show some (HO.lst (V.int 0 :: [cI s 0, cI s 1, cI s 2, cI s 3, cI s 4, cI s 5, cI s 6, cI s 7, cI s 8, cI s 9])) = some (HO.lst (V.int 0 :: vi (s.count.map fun (n : Nat) => (n : Int))))
      rw [← e1]
      rfl
theorem ok_Desk_answer_opening {f : Addr} {fd : FuncData} (F : Fun K "answer_opening" "Desk.answer_opening" s_Desk_answer_opening f fd) (T : Txt K mg C) (u_open_end : DefOk P w K mg base 5 "open_end" ps_open_end (sp_open_end K C)) : FnOk P w K mg base CX0 6 f fd ps_Desk_answer_opening (sp_Desk_answer_opening K C) := by
  refine F.ok sc_Desk_answer_opening (fun vs H Q E h => ?_) (fun cdv A outer s H vs Q E hr h => ?_)
  · obtain ⟨d, a, dx, g, r, k, v, now, q, ea, li, ra, bu, me, rfl, _⟩ := h
    rfl
  · obtain ⟨d, a, dx, g, r, k, v, now, q, ea, li, ra, bu, me, rfl, hd, hg, hr', k1, k2⟩ := h
    refine ⟨_, (pss_cons (ps_set (i := 2) sc_Desk_answer_opening.nd rfl (by first | exact Or.inl rfl | exact Or.inr rfl) (pe_def u_open_end hr (by decide) rfl (pa_cons (pe_ix ix_list (pv 1) pe_int (fun _ _ => rfl)) (pa_cons (pe_ix ix_list (pv 1) pe_int (fun _ _ => rfl)) (pa_cons (pe_ix ix_list (pv 1) pe_int (fun _ _ => rfl)) (pa_cons (pe_ix ix_list (pv 1) pe_int (fun _ _ => rfl)) (pa_cons (pe_ix ix_list (pv 1) pe_int (fun _ _ => rfl)) (pa_cons (pe_ix ix_list (pv 1) pe_int (fun _ _ => rfl)) (pa_cons (pe_ix ix_list (pv 1) pe_int (fun _ _ => rfl)) pa_nil))))))))) (pss_cons (ps_if (pt_cmpR op_isN (pv 2) pe_non (nomark _)) (pss_one (ps_ret (pe_lst (pa_cons (pe_gint rfl T.g_WRONG) pa_nil)))) pss_nil) (pss_cons (ps_fld (pv 0) (pv 2) rfl) (pss_one (ps_ret (pe_lst (pa_cons pe_int pa_nil))))))), ?_⟩
    refine ⟨_, rfl, g, _, _, _, rfl, rfl, SqL.of hg, atI_nat (j := 0) rfl, _, rfl, g, _, _, _, rfl, rfl, SqL.of hg, atI_nat (j := 1) rfl, _, rfl, g, _, _, _, rfl, rfl, SqL.of hg, atI_nat (j := 2) rfl, _, rfl, g, _, _, _, rfl, rfl, SqL.of hg, atI_nat (j := 3) rfl, _, rfl, g, _, _, _, rfl, rfl, SqL.of hg, atI_nat (j := 4) rfl, _, rfl, g, _, _, _, rfl, rfl, SqL.of hg, atI_nat (j := 5) rfl, _, rfl, g, _, _, _, rfl, rfl, SqL.of hg, atI_nat (j := 6) rfl, ?_⟩
    refine ⟨r, now, q, ea, li, ra, bu, me, rfl, hr', fun ok e H1 R s1 m1 m2 => ?_, fun no H1 s1 => ?_⟩
    · have hd1 := s1 _ _ hd
      refine ⟨_, rfl, rfl, _, rfl, itN (fun z => by cases z) ⟨_, rfl, _, rfl, d, C.Desk, dx, _, rfl, hd1, T.c_Desk, T.n_Desk_end, z_Desk, ?_⟩⟩
      rw [p_Desk_end]
      refine ⟨by show 1 ≤ sizeLine; decide, fun p np => ?_⟩
      have R2 := R.offO (o := HO.ins C.Desk dx (fD a k (.ref e.p))) hd1 rfl
      have s2 := same_upd (o := HO.lst [V.int 0]) np
      refine k1 ok e _ p (R2.same s2) (fun b o hb z => s2 _ _ (by rw [upd_ne hb]; exact s1 _ _ z)) (s2 _ _ upd_same) m1 m2 (s1.free (by by_cases z : p = d; (rw [z, upd_same] at np; cases np); rw [upd_ne z] at np; exact np)) upd_same
    · exact ⟨_, rfl, rfl, _, rfl, itP rfl ⟨by show 1 ≤ sizeLine; decide, fun p np => k2 no _ p (s1.free np) (s1.trans (same_upd np)) upd_same⟩⟩
theorem ok_answer_at {f : Addr} {fd : FuncData} (F : Fun K "answer_at" "answer_at" s_answer_at f fd) (T : Txt K mg C) (u_End_set_weight : MethOk P w K mg base 2 C.End "set_weight" ps_End_set_weight (sp_End_set_weight K C)) (u_End_put : MethOk P w K mg base 5 C.End "put" ps_End_put (sp_End_put K C)) (u_End_hand_out : MethOk P w K mg base 5 C.End "hand_out" ps_End_hand_out (sp_End_hand_out K C)) (u_End_went : MethOk P w K mg base 5 C.End "went" ps_End_went (sp_End_went K C)) (u_End_came : MethOk P w K mg base 3 C.End "came" ps_End_came (sp_End_came K C)) (u_End_join_group : MethOk P w K mg base 2 C.End "join_group" ps_End_join_group (sp_End_join_group K C)) (u_End_leave_group : MethOk P w K mg base 2 C.End "leave_group" ps_End_leave_group (sp_End_leave_group K C)) (u_End_hear : MethOk P w K mg base 1 C.End "hear" ps_End_hear (sp_End_hear K C)) (u_End_waits : MethOk P w K mg base 5 C.End "waits" ps_End_waits (sp_End_waits K C)) (u_End_drop : MethOk P w K mg base 3 C.End "drop" ps_End_drop (sp_End_drop K C)) (u_End_due : MethOk P w K mg base 5 C.End "due" ps_End_due (sp_End_due K C)) : FnOk P w K mg base CX0 6 f fd ps_answer_at (sp_answer_at K C) := by
  refine F.ok sc_answer_at (fun vs H Q E h => ?_) (fun cdv A outer s H vs Q E hr h => ?_)
  · obtain ⟨e, s, n, g, gv, c, H0, rfl, _⟩ := h
    rfl
  · obtain ⟨e, s, n, g, gv, c, H0, rfl, R0, s0, G, hg, hc, k⟩ := h
    have R := R0.same s0
    obtain ⟨dx, hp⟩ := R.ob
    have k' := k.from s0
    refine ⟨_, (pss_cons (ps_if (pt_cmpR op_eq (pv 1) (pe_gint rfl T.g_WEIGHT) (nomark _)) (pss_one (ps_ret (pe_mth (pv 0) T.c_End u_End_set_weight hr (by decide) (pa_cons (pe_ix ix_list (pv 2) pe_int (fun _ _ => rfl)) (pa_cons (pe_ix ix_list (pv 2) pe_int (fun _ _ => rfl)) pa_nil))))) pss_nil) (pss_cons (ps_if (pt_cmpR op_eq (pv 1) (pe_gint rfl T.g_PUT) (nomark _)) (pss_one (ps_ret (pe_mth (pv 0) T.c_End u_End_put hr (by decide) (pa_cons (pe_ix ix_list (pv 2) pe_int (fun _ _ => rfl)) (pa_cons (pe_ix ix_list (pv 2) pe_int (fun _ _ => rfl)) (pa_cons (pe_ix ix_list (pv 2) pe_int (fun _ _ => rfl)) (pa_cons (pe_ix ix_list (pv 2) pe_int (fun _ _ => rfl)) (pa_cons (pe_ix ix_list (pv 2) pe_int (fun _ _ => rfl)) pa_nil)))))))) pss_nil) (pss_cons (ps_if (pt_cmpR op_eq (pv 1) (pe_gint rfl T.g_NEXT) (nomark _)) (pss_one (ps_ret (pe_mth (pv 0) T.c_End u_End_hand_out hr (by decide) (pa_cons (pe_ix ix_list (pv 2) pe_int (fun _ _ => rfl)) pa_nil)))) pss_nil) (pss_cons (ps_if (pt_cmpR op_eq (pv 1) (pe_gint rfl T.g_WENT) (nomark _)) (pss_one (ps_ret (pe_mth (pv 0) T.c_End u_End_went hr (by decide) (pa_cons (pe_ix ix_list (pv 2) pe_int (fun _ _ => rfl)) (pa_cons (pe_ix ix_list (pv 2) pe_int (fun _ _ => rfl)) pa_nil))))) pss_nil) (pss_cons (ps_if (pt_cmpR op_eq (pv 1) (pe_gint rfl T.g_CAME) (nomark _)) (pss_one (ps_ret (pe_mth (pv 0) T.c_End u_End_came hr (by decide) (pa_cons (pe_ix ix_list (pv 2) pe_int (fun _ _ => rfl)) pa_nil)))) pss_nil) (pss_cons (ps_if (pt_cmpR op_eq (pv 1) (pe_gint rfl T.g_JOIN) (nomark _)) (pss_one (ps_ret (pe_mth (pv 0) T.c_End u_End_join_group hr (by decide) (pa_cons (pe_ix ix_list (pv 2) pe_int (fun _ _ => rfl)) pa_nil)))) pss_nil) (pss_cons (ps_if (pt_cmpR op_eq (pv 1) (pe_gint rfl T.g_LEAVE) (nomark _)) (pss_one (ps_ret (pe_mth (pv 0) T.c_End u_End_leave_group hr (by decide) (pa_cons (pe_ix ix_list (pv 2) pe_int (fun _ _ => rfl)) pa_nil)))) pss_nil) (pss_cons (ps_if (pt_cmpR op_eq (pv 1) (pe_gint rfl T.g_HEAR) (nomark _)) (pss_one (ps_ret (pe_mth (pv 0) T.c_End u_End_hear hr (by decide) (pa_cons (pe_ix ix_list (pv 2) pe_int (fun _ _ => rfl)) pa_nil)))) pss_nil) (pss_cons (ps_if (pt_cmpR op_eq (pv 1) (pe_gint rfl T.g_WAITS) (nomark _)) (pss_one (ps_ret (pe_mth (pv 0) T.c_End u_End_waits hr (by decide) (pa_cons (pe_ix ix_list (pv 2) pe_int (fun _ _ => rfl)) (pa_cons (pe_ix ix_list (pv 2) pe_int (fun _ _ => rfl)) pa_nil))))) pss_nil) (pss_cons (ps_if (pt_cmpR op_eq (pv 1) (pe_gint rfl T.g_DROP) (nomark _)) (pss_one (ps_ret (pe_mth (pv 0) T.c_End u_End_drop hr (by decide) (pa_cons (pe_ix ix_list (pv 2) pe_int (fun _ _ => rfl)) pa_nil)))) pss_nil) (pss_one (ps_ret (pe_mth (pv 0) T.c_End u_End_due hr (by decide) (pa_cons (pe_ix ix_list (pv 2) pe_int (fun _ _ => rfl)) pa_nil)))))))))))))), ?_⟩
    cases hc with
    | weight q w =>
      refine ⟨_, rfl, rfl, _, rfl, itP rfl ?_⟩
      exact ⟨_, rfl, e.p, dx, _, rfl, hp, m_End_set_weight, _, rfl, g, _, _, _, rfl, rfl, SqL.of hg, atI_nat (j := 0) rfl, _, rfl, g, _, _, _, rfl, rfl, SqL.of hg, atI_nat (j := 1) rfl, e, s, q, w, rfl, R, k'⟩
    | put now q kind a1 a2 t b h1 h2 n1 n2 =>
      refine ⟨_, rfl, rfl, _, rfl, itN (by rw [int_iff]; decide) ?_⟩
      refine ⟨_, rfl, rfl, _, rfl, itP rfl ?_⟩
      exact ⟨_, rfl, e.p, dx, _, rfl, hp, m_End_put, _, rfl, g, _, _, _, rfl, rfl, SqL.of hg, atI_nat (j := 0) rfl, _, rfl, g, _, _, _, rfl, rfl, SqL.of hg, atI_nat (j := 1) rfl, _, rfl, g, _, _, _, rfl, rfl, SqL.of hg, atI_nat (j := 2) rfl, _, rfl, g, _, _, _, rfl, rfl, SqL.of hg, atI_nat (j := 3) rfl, _, rfl, g, _, _, _, rfl, rfl, SqL.of hg, atI_nat (j := 4) rfl,
        e, s, now, q, kind, a1, a2, t, b, rfl, R, G, h1, h2, fun z => R0.there (.inl z) n1, fun z => R0.there (.inl z) n2, k'⟩
    | next now =>
      iterate 2 refine ⟨_, rfl, rfl, _, rfl, itN (by rw [int_iff]; decide) ?_⟩
      refine ⟨_, rfl, rfl, _, rfl, itP rfl ?_⟩
      exact ⟨_, rfl, e.p, dx, _, rfl, hp, m_End_hand_out, _, rfl, g, _, _, _, rfl, rfl, SqL.of hg, atI_nat (j := 0) rfl, e, s, now, rfl, R, G, k'⟩
    | went now ok =>
      iterate 3 refine ⟨_, rfl, rfl, _, rfl, itN (by rw [int_iff]; decide) ?_⟩
      refine ⟨_, rfl, rfl, _, rfl, itP rfl ?_⟩
      exact ⟨_, rfl, e.p, dx, _, rfl, hp, m_End_went, _, rfl, g, _, _, _, rfl, rfl, SqL.of hg, atI_nat (j := 0) rfl, _, rfl, g, _, _, _, rfl, rfl, SqL.of hg, atI_nat (j := 1) rfl, e, s, now, ok, rfl, R, G, k'⟩
    | came a b h1 =>
      iterate 4 refine ⟨_, rfl, rfl, _, rfl, itN (by rw [int_iff]; decide) ?_⟩
      refine ⟨_, rfl, rfl, _, rfl, itP rfl ?_⟩
      exact ⟨_, rfl, e.p, dx, _, rfl, hp, m_End_came, _, rfl, g, _, _, _, rfl, rfl, SqL.of hg, atI_nat (j := 0) rfl, e, s, a, b, rfl, R, G, h1, k'⟩
    | join a b h1 n1 =>
      iterate 5 refine ⟨_, rfl, rfl, _, rfl, itN (by rw [int_iff]; decide) ?_⟩
      refine ⟨_, rfl, rfl, _, rfl, itP rfl ?_⟩
      exact ⟨_, rfl, e.p, dx, _, rfl, hp, m_End_join_group, _, rfl, g, _, _, _, rfl, rfl, SqL.of hg, atI_nat (j := 0) rfl, e, s, a, b, H0, rfl, R, G, h1, (R0.fresh n1).1, s0, n1, k⟩
    | leave a b h1 =>
      iterate 6 refine ⟨_, rfl, rfl, _, rfl, itN (by rw [int_iff]; decide) ?_⟩
      refine ⟨_, rfl, rfl, _, rfl, itP rfl ?_⟩
      exact ⟨_, rfl, e.p, dx, _, rfl, hp, m_End_leave_group, _, rfl, g, _, _, _, rfl, rfl, SqL.of hg, atI_nat (j := 0) rfl, e, s, a, b, rfl, R, G, h1, k'⟩
    | hear c =>
      iterate 7 refine ⟨_, rfl, rfl, _, rfl, itN (by rw [int_iff]; decide) ?_⟩
      refine ⟨_, rfl, rfl, _, rfl, itP rfl ?_⟩
      exact ⟨_, rfl, e.p, dx, _, rfl, hp, m_End_hear, _, rfl, g, _, _, _, rfl, rfl, SqL.of hg, atI_nat (j := 0) rfl, e, s, c, rfl, R, G, k'⟩
    | waits now q =>
      iterate 8 refine ⟨_, rfl, rfl, _, rfl, itN (by rw [int_iff]; decide) ?_⟩
      refine ⟨_, rfl, rfl, _, rfl, itP rfl ?_⟩
      exact ⟨_, rfl, e.p, dx, _, rfl, hp, m_End_waits, _, rfl, g, _, _, _, rfl, rfl, SqL.of hg, atI_nat (j := 0) rfl, _, rfl, g, _, _, _, rfl, rfl, SqL.of hg, atI_nat (j := 1) rfl, e, s, now, q, rfl, R, G, k'⟩
    | drop q =>
      iterate 9 refine ⟨_, rfl, rfl, _, rfl, itN (by rw [int_iff]; decide) ?_⟩
      refine ⟨_, rfl, rfl, _, rfl, itP rfl ?_⟩
      exact ⟨_, rfl, e.p, dx, _, rfl, hp, m_End_drop, _, rfl, g, _, _, _, rfl, rfl, SqL.of hg, atI_nat (j := 0) rfl, e, s, q, rfl, R, G, k'⟩
    | due now =>
      iterate 10 refine ⟨_, rfl, rfl, _, rfl, itN (by rw [int_iff]; decide) ?_⟩
      exact ⟨_, rfl, e.p, dx, _, rfl, hp, m_End_due, _, rfl, g, _, _, _, rfl, rfl, SqL.of hg, atI_nat (j := 0) rfl, e, s, now, rfl, R, G, k'⟩
end
end FL
end
section
namespace FL
open PySem L2
open Sf82 (Bytes Item Queue S does says nums EVERYBODY number frame closed)
open Sf82Neutral (listOf step asked1 bs)
/-! ### one call of the list -/
structure World1 (C : Cs) (H0 : Hp) (a d : Addr) (H : Hp) (k : Nat) (eo : Option EA) (s : S) : Prop where
  same : Same H0 H
  nd : H0 d = none
  desk : ∃ dx, H d = some (.ins C.Desk dx (fD a k (endV eo)))
  live : LiveAt C H eo s
  foot : ∀ e, eo = some e → ∀ b, Mt e b → H0 b = none
/-- a list that is no part of the end -/
def NotIn (eo : Option EA) (t : Addr) : Prop := ∀ e, eo = some e → ¬ ML e t ∧ ¬ IL e t
theorem EndAt.noList {C : Cs} {H : Hp} {e : EA} {s : S} {t : Addr} {xs : List V} (h : EndAt C H e s) (ht : H t = some (.lst xs)) (hn : ¬ ML e t) : ¬ Mt e t := by
  obtain ⟨⟨dx, g1⟩, g2, g3, g4, g5, ⟨dc, g6⟩, ⟨⟨dt, t1⟩, t2⟩, g7, _⟩ := h
  rintro (rfl | rfl | rfl | z | ⟨i, b, hb, rfl⟩)
  · exact ne_of ht g1 ne_li rfl
  · exact ne_of ht g6 ne_li rfl
  · exact ne_of ht t1 ne_li rfl
  · exact hn z
  · obtain ⟨y, _, ry⟩ := Paired.getL g7 hb
    obtain ⟨dq, z⟩ := ry.ob
    exact ne_of ht z ne_li rfl
theorem nb_bs {l : List Int} (h : l.all (fun (z : Int) => Sf82Neutral.natural z 8) = true) : nb (bs l) = l := by
  induction l with
  | nil => rfl
  | cons z r ih =>
    rw [List.all_cons, Bool.and_eq_true] at h
    have h1 : 0 ≤ z ∧ z < 2 ^ 8 := by
      have := h.1
      unfold Sf82Neutral.natural at this
      simpa using this
    show ((UInt8.ofNat z.toNat).toNat : Int) :: nb (bs r) = z :: r
    rw [ih h.2, UInt8.toNat_ofNat', Nat.mod_eq_of_lt (by omega)]
    congr 1
    omega
theorem nat_of {z : Int} {b : Nat} (h : Sf82Neutral.natural z b = true) : ((z.toNat : Nat) : Int) = z := by
  unfold Sf82Neutral.natural at h
  simp at h
  omega
theorem len1 {α : Type} {l : List α} (h : l.length = 1) : ∃ a, l = [a] := by
  match l, h with
  | [a], _ => exact ⟨a, rfl⟩
theorem len2 {α : Type} {l : List α} (h : l.length = 2) : ∃ a b, l = [a, b] := by
  match l, h with
  | [a, b], _ => exact ⟨a, b, rfl⟩
theorem len3 {α : Type} {l : List α} (h : l.length = 3) : ∃ a b c, l = [a, b, c] := by
  match l, h with
  | [a, b, c], _ => exact ⟨a, b, c, rfl⟩
theorem len6 {α : Type} {l : List α} (h : l.length = 6) : ∃ a b c d e f, l = [a, b, c, d, e, f] := by
  match l, h with
  | [a, b, c, d, e, f], _ => exact ⟨a, b, c, d, e, f, rfl⟩
theorem paired1 {α β : Type} {F : α → β → Prop} {l : List α} {b : β} (h : Paired F l [b]) : ∃ a, l = [a] ∧ F a b := by
  cases h with
  | cons r t => cases t; exact ⟨_, rfl, r⟩
theorem paired2 {α β : Type} {F : α → β → Prop} {l : List α} {b c : β} (h : Paired F l [b, c]) : ∃ x y, l = [x, y] ∧ F x b ∧ F y c := by
  cases h with
  | cons r t => obtain ⟨y, rfl, ry⟩ := paired1 t; exact ⟨_, y, rfl, r, ry⟩
theorem paired3 {α β : Type} {F : α → β → Prop} {l : List α} {b c d : β} (h : Paired F l [b, c, d]) : ∃ x y z, l = [x, y, z] ∧ F x b ∧ F y c ∧ F z d := by
  cases h with
  | cons r t => obtain ⟨y, z, rfl, ry, rz⟩ := paired2 t; exact ⟨_, y, z, rfl, r, ry, rz⟩
theorem paired0 {α β : Type} {F : α → β → Prop} {l : List α} (h : Paired F l []) : l = [] := by cases h; rfl
theorem call_some {r : List Int} {c : List (List Int)} {t : List Int} (h : PyFlat.call PySf82.shape r = some (c, t)) : ∃ p q n m xs, r = p :: q ∧ PySf82.shape p = some (n, m) ∧ n ≤ q.length ∧ PyFlat.rows m (q.drop n) = some (xs, t) ∧ c = (p :: q.take n) :: xs := by
  cases r with
  | nil => cases h
  | cons p q =>
    simp only [PyFlat.call] at h
    cases hs : PySf82.shape p with
    | none => rw [hs] at h; cases h
    | some nm =>
      obtain ⟨n, m⟩ := nm
      rw [hs] at h
      dsimp only at h
      split at h
      · cases h
      · rename_i hn
        cases hr : PyFlat.rows m (q.drop n) with
        | none => rw [hr] at h; cases h
        | some xt =>
          obtain ⟨xs, t2⟩ := xt
          rw [hr] at h
          have h := Option.some.inj h
          have h1 := (Prod.mk.inj h).1
          have h2 := (Prod.mk.inj h).2
          exact ⟨p, q, n, m, xs, rfl, hs, by omega, by rw [h2] at hr; exact hr, h1.symm⟩
theorem opens_does {s : S} {now : Nat} {me : Bytes} {q e l r b : Int} (ok : Opens now me q e l r b) : does s (.open_ now me q e l r b) = (openS now me q.toNat e.toNat l.toNat r.toNat b.toNat, says 0) := by
  unfold Opens at ok
  simp only [does]
  rw [if_pos ok]
  rfl
theorem not_opens_does {s : S} {now : Nat} {me : Bytes} {q e l r b : Int} (no : ¬ Opens now me q e l r b) : does s (.open_ now me q e l r b) = (s, says (-1)) := by
  unfold Opens at no
  simp only [does]
  rw [if_neg no]
def sp_Desk_answer_call (K : PySem.W.Frag) (C : Cs) : Sp := fun vs H Q _ => ∃ (H0 : Hp) (l : List Int) (a d : Addr) (k : Nat) (eo : Option EA) (s : S) (c : List (List Int)) (t : List Int), vs = [.ref d] ∧ SqL K H0 a (vi l) ∧ l.length ≤ 16000 ∧ World1 C H0 a d H k eo s ∧ PyFlat.call PySf82.shape (l.drop k) = some (c, t) ∧ asked1 c = true ∧
  ∀ eo' H' r k', World1 C H0 a d H' k' eo' (step s c).1 → k' ≤ l.length → l.drop k' = t → H r = none → H' r = some (.lst (vi (step s c).2)) → (∀ u xs, H u = some (.lst xs) → NotIn eo u → H' u = some (.lst xs) ∧ NotIn eo' u) → Q (.ref r) H'
section
variable {P : Program} {w : World} {K : PySem.W.Frag} {mg : Str → Option Value} {base : Heap} {C : Cs}
theorem ok_Desk_answer_call {f : Addr} {fd : FuncData} (F : Fun K "answer_call" "Desk.answer_call" s_Desk_answer_call f fd) (T : Txt K mg C) (u_Desk_take_number : MethOk P w K mg base 1 C.Desk "take_number" ps_Desk_take_number (sp_Desk_take_number K C)) (u_Desk_take_given : MethOk P w K mg base 3 C.Desk "take_given" ps_Desk_take_given (sp_Desk_take_given K C)) (u_Desk_answer_opening : MethOk P w K mg base 6 C.Desk "answer_opening" ps_Desk_answer_opening (sp_Desk_answer_opening K C)) (u_Desk_answer_counts : MethOk P w K mg base 3 C.Desk "answer_counts" ps_Desk_answer_counts (sp_Desk_answer_counts K C)) (u_answer_make : DefOk P w K mg base 3 "answer_make" ps_answer_make (sp_answer_make K C)) (u_answer_read : DefOk P w K mg base 3 "answer_read" ps_answer_read (sp_answer_read K C)) (u_answer_at : DefOk P w K mg base 6 "answer_at" ps_answer_at (sp_answer_at K C)) : FnOk P w K mg base CX0 7 f fd ps_Desk_answer_call (sp_Desk_answer_call K C) := by
  refine F.ok sc_Desk_answer_call (fun vs H Q E h => ?_) (fun cdv A outer s H vs Q E hr h => ?_)
  · obtain ⟨H0, l, a, d, k, eo, s, c, t, rfl, _⟩ := h
    rfl
  · obtain ⟨H0, l, a, d, k, eo, s, c, t, rfl, hl0, h16, W, hcall, hask, q⟩ := h
    obtain ⟨dx, hd⟩ := W.desk
    have ha := W.same.seq hl0
    obtain ⟨p, rr, n, m, rs, hr0, hsh, hn, hrows, hc⟩ := call_some hcall
    obtain ⟨c1, c2, c3⟩ := drop_cons hr0
    have hrl : rr.length = l.length - (k + 1) := by rw [← c2, List.length_drop]
    rw [← c2, List.drop_drop] at hrows
    rw [← c2] at hc
    refine ⟨_, (pss_cons (ps_set (i := 1) sc_Desk_answer_call.nd rfl (by first | exact Or.inl rfl | exact Or.inr rfl) (pe_mth0 (pv 0) T.c_Desk u_Desk_take_number hr (by decide))) (pss_cons (ps_set (i := 2) sc_Desk_answer_call.nd rfl (by first | exact Or.inl rfl | exact Or.inr rfl) (pe_mth (pv 0) T.c_Desk u_Desk_take_given hr (by decide) (pa_cons (pv 1) pa_nil))) (pss_cons (ps_if (pt_cmpR op_eq (pv 1) (pe_gint rfl T.g_OPEN) (nomark _)) (pss_one (ps_ret (pe_mth (pv 0) T.c_Desk u_Desk_answer_opening hr (by decide) (pa_cons (pv 2) pa_nil)))) pss_nil) (pss_cons (ps_if (pt_cmpR op_eq (pv 1) (pe_gint rfl T.g_COUNTS) (nomark _)) (pss_one (ps_ret (pe_mth0 (pv 0) T.c_Desk u_Desk_answer_counts hr (by decide)))) pss_nil) (pss_cons (ps_if (pt_cmpR op_eq (pv 1) (pe_gint rfl T.g_MAKE) (nomark _)) (pss_one (ps_ret (pe_def u_answer_make hr (by decide) rfl (pa_cons (pe_ix ix_list (pv 2) pe_int (fun _ _ => rfl)) (pa_cons (pe_ix ix_list (pv 2) pe_int (fun _ _ => rfl)) (pa_cons (pe_ix ix_list (pv 2) pe_int (fun _ _ => rfl)) (pa_cons (pe_ix ix_list (pv 2) pe_int (fun _ _ => rfl)) pa_nil))))))) pss_nil) (pss_cons (ps_if (pt_cmpR op_eq (pv 1) (pe_gint rfl T.g_READ) (nomark _)) (pss_one (ps_ret (pe_def u_answer_read hr (by decide) rfl (pa_cons (pe_ix ix_list (pv 2) pe_int (fun _ _ => rfl)) pa_nil)))) pss_nil) (pss_cons (ps_if (pt_cmpR op_isN (pe_fld (pv 0) rfl) pe_non (nomark _)) (pss_one (ps_ret (pe_lst (pa_cons (pe_gint rfl T.g_WRONG) pa_nil)))) pss_nil) (pss_one (ps_ret (pe_def u_answer_at hr (by decide) rfl (pa_cons (pe_fld (pv 0) rfl) (pa_cons (pv 1) (pa_cons (pv 2) pa_nil))))))))))))), ?_⟩
    refine ⟨_, rfl, d, dx, _, rfl, hd, m_Desk_take_number, d, a, dx, k, _, l, p, rfl, hd, ha, c1, ?_⟩
    generalize hH1 : upd H d (HO.ins C.Desk dx (fD a (k + 1) (endV eo))) = H1
    have hd1 : H1 d = some (.ins C.Desk dx (fD a (k + 1) (endV eo))) := by rw [← hH1]; exact upd_same
    have ha1 : SqL K H1 a (vi l) := by rw [← hH1]; exact sql_offI ha hd
    refine ⟨_, rfl, d, dx, _, rfl, hd1, m_Desk_take_given, _, rfl, d, a, dx, k + 1, _, l, p, n, m, rs, t, rfl, hd1, ha1, hsh, h16, by omega, hrows, fun g as k' H2 hk' hu hd2 kd f2 hg2 pr => ?_⟩
    -- the heap as it was, the desk's place moved on
    have nd := W.nd
    generalize hHb : upd H d (HO.ins C.Desk dx (fD a k' (endV eo))) = Hb
    have hdb : Hb d = some (.ins C.Desk dx (fD a k' (endV eo))) := by rw [← hHb]; exact upd_same
    have kb : ∀ b o, b ≠ d → H b = some o → Hb b = some o := fun b o hb z => by rw [← hHb, upd_ne hb]; exact z
    have sb : Same Hb H2 := fun b o z => by
      by_cases hb : b = d
      · subst hb
        rw [hdb] at z
        rw [hd2]
        exact z
      · refine kd b o hb ?_
        rw [← hHb, upd_ne hb] at z
        rw [← hH1, upd_ne hb]
        exact z
    have s0b : Same H0 Hb := fun b o z => kb b o (ne_of_none z nd) (W.same _ _ z)
    have s02 := s0b.trans sb
    have lb : ∀ b, H2 b = none → Hb b = none := fun b z => sb.free z
    have fb : ∀ b, H1 b = none → Hb b = none := fun b z => by
      by_cases hb : b = d
      · rw [hb, hd1] at z; cases z
      · rw [← hH1, upd_ne hb] at z
        rw [← hHb, upd_ne hb]
        exact z
    have liveb : LiveAt C Hb eo s := by
      have L := W.live
      cases eo with
      | none => exact L
      | some e => exact ⟨by rw [← hHb]; exact L.1.offO hd rfl, L.2⟩
    have live2 : ∀ H', Same Hb H' → LiveAt C H' eo s := fun H' z => by
      cases eo with
      | none => exact liveb
      | some e => exact ⟨liveb.1.same z, liveb.2⟩
    have ub : ∀ u xs, H u = some (.lst xs) → Hb u = some (.lst xs) := fun u xs z => kb u _ (ne_of z hd ne_li) z
    -- answers that leave the end as it is
    have hfr : ∀ r, Hb r = none → H r = none := fun r z => by
      have hb : r ≠ d := fun y => by rw [y, hdb] at z; cases z
      rw [← hHb, upd_ne hb] at z
      exact z
    have quiet : ∀ z : List Int, step s c = (s, z) → ∀ r H', H2 r = none → Same H2 H' → H' r = some (.lst (vi z)) → Q (.ref r) H' := fun z hz r H' nr sm hr' => by
      rw [hz] at q
      exact q eo H' r k' ⟨s02.trans sm, nd, ⟨dx, sm _ _ hd2⟩, live2 H' (sb.trans sm), W.foot⟩ hk' hu (hfr r (lb r nr)) hr' fun u xs hu' hni => ⟨sm _ _ (sb _ _ (ub u xs hu')), hni⟩
    have wrong : step s c = (s, [-1]) → ([V.int (-1)] : List V).length ≤ sizeLine ∧ ∀ x, H2 x = none → Q (.ref x) (upd H2 x (.lst [V.int (-1)])) := fun hz =>
      ⟨by show 1 ≤ sizeLine; decide, fun x nx => quiet [-1] hz x _ nx (same_upd nx) upd_same⟩
    -- answers of the end
    have tells : ∀ (e : EA) (sc : Sf82.Call), eo = some e → step s c = ((does s sc).1, listOf (does s sc).2) → Good (does s sc).1 → Tells C e Hb (does s sc).1 (listOf (does s sc).2) Q := fun e sc he hz hG e' H' r R' K' nr hr' => by
      subst he
      rw [hz] at q
      obtain ⟨Rb, G⟩ := liveb
      have nmd : ¬ Mt e d := Rb.noDesk hdb rfl
      have hep : endV (some e') = endV (some e) := by show V.ref e'.p = V.ref e.p; rw [K'.p]
      have hfoot : ∀ b, Mt e' b → H0 b = none := fun b hb => by
        rcases K'.foot b hb with z | z
        · exact W.foot e rfl b z
        · exact s0b.free z
      refine q (some e') H' r k' ⟨fun b o z => K'.keep b o (s0b _ _ z) fun mm => ?_, nd, ⟨dx, by rw [hep]; exact K'.keep _ _ hdb nmd⟩, ⟨R', hG⟩, fun e2 he2 => by cases he2; exact hfoot⟩ hk' hu (hfr r nr) hr' fun u xs hu' hni => ?_
      · rw [W.foot e rfl b mm] at z
        cases z
      · obtain ⟨h1, h2⟩ := hni e rfl
        have hub := ub u xs hu'
        have nm := Rb.noList hub h1
        refine ⟨K'.keep _ _ hub nm, fun e2 he2 => ?_⟩
        cases he2
        refine ⟨fun z => ?_, fun z => ?_⟩
        · rcases K'.foot u (.inr (.inr (.inr (.inl z)))) with y | y
          · exact nm y
          · rw [hub] at y; cases y
        · rcases K'.own u z with y | y
          · exact h2 y
          · rw [hub] at y; cases y
    have prH : ∀ {x y}, (H2 x = some (.lst (vi y)) ∧ H1 x = none) → H2 x = some (.lst (vi y)) ∧ Hb x = none := fun h => ⟨h.1, fb _ h.2⟩
    -- a call that needs an end
    have needs : ∀ (gv : List V) (sc : Sf82.Call), H2 g = some (.lst gv) → CallAt Hb H2 p gv sc → step s c = ((does s sc).1, listOf (does s sc).2) → does closed sc = (closed, says (-1)) → (Good s → Good (does s sc).1) →
        (if decide (endV eo = V.non) = true then ([V.int (-1)] : List V).length ≤ sizeLine ∧ ∀ x, H2 x = none → Q (.ref x) (upd H2 x (.lst [V.int (-1)])) else sp_answer_at K C [endV eo, .int p, .ref g] H2 Q E0) := fun gv sc hgv hca hst hcl hgd => by
      cases eo with
      | none =>
        obtain rfl : s = closed := liveb
        refine itP rfl (wrong ?_)
        rw [hst, hcl]
        rfl
      | some e =>
        refine itN (fun z => by cases z) ?_
        exact ⟨e, s, p, g, gv, sc, Hb, rfl, liveb.1, sb, liveb.2, hgv, hca, tells e sc rfl hst (hgd liveb.2)⟩
    have hnl : ((l.drop (k + 1)).take n).length = n := by rw [List.length_take, List.length_drop]; omega
    have hml := rows_len m hrows
    generalize hns : (l.drop (k + 1)).take n = ns at *
    rcases shape_cases hsh with ⟨ep, en, em⟩ | ⟨ep, en, em⟩ | ⟨ep, en, em⟩ | ⟨ep, en, em⟩ | ⟨ep, en, em⟩ | ⟨ep, en, em⟩ | ⟨ep, en, em⟩ | ⟨ep, en, em⟩ | ⟨ep, en, em⟩ | ⟨ep, en, em⟩ | ⟨ep, en, em⟩ | ⟨ep, en, em⟩ | ⟨ep, en, em⟩ | ⟨ep, en, em⟩ | ⟨ep, en, em⟩
    · subst ep en em
      obtain ⟨x0, x1, x2, x3, x4, x5, rfl⟩ := len6 hnl
      obtain ⟨r0, rfl⟩ := len1 hml
      obtain ⟨a0, rfl, h0⟩ := paired1 pr
      subst hc
      have hask : (Sf82Neutral.natural x0 64 && (Sf82Neutral.whole32 x1 && (Sf82Neutral.whole32 x2 && (Sf82Neutral.whole32 x3 && ((decide (-(2 ^ 63) ≤ x4) && decide (x4 < 2 ^ 63)) && (Sf82Neutral.whole32 x5 && (r0.all (fun (z : Int) => Sf82Neutral.natural z 8)))))))) = true := hask
      simp only [Bool.and_eq_true] at hask
      obtain ⟨k0, k1, k2, k3, k4, k5, k6⟩ := hask
      have n0 := nat_of k0
      have b6 := nb_bs k6
      rw [← b6] at h0
      have h0 := prH h0
      have hg3 : H2 g = some (.lst [.int ((x0.toNat : Nat) : Int), .int x1, .int x2, .int x3, .int x4, .int x5, .ref a0]) := by rw [n0]; exact hg2
      refine ⟨_, rfl, rfl, _, rfl, itP rfl ?_⟩
      have hstep : step s [[1, x0, x1, x2, x3, x4, x5], r0] = ((does s (.open_ x0.toNat (bs r0) x1 x2 x3 x4 x5)).1, listOf (does s (.open_ x0.toNat (bs r0) x1 x2 x3 x4 x5)).2) := rfl
      refine ⟨_, rfl, d, dx, _, rfl, hd2, m_Desk_answer_opening, _, rfl, d, a, dx, g, a0, k', _, x0.toNat, x1, x2, x3, x4, x5, bs r0, rfl, hd2, hg3, h0.1, fun ok e H3 r R kd3 hd3 m1 m2 nr3 hr3 => ?_, fun no H3 r nr3 s3 h3 => ?_⟩
      · have hs : does s (.open_ x0.toNat (bs r0) x1 x2 x3 x4 x5) = (openS x0.toNat (bs r0) x1.toNat x2.toNat x3.toNat x4.toNat x5.toNat, says 0) := opens_does ok
        have hgood : Good (openS x0.toNat (bs r0) x1.toNat x2.toNat x3.toNat x4.toNat x5.toNat) := by
          have hl := live_open (s := closed) (.inl rfl) (now := x0.toNat) (me := bs r0) (q := x1) (e := x2) (l' := x3) (r := x4) (b := x5)
          have hs2 : (does closed (.open_ x0.toNat (bs r0) x1 x2 x3 x4 x5)).1 = openS x0.toNat (bs r0) x1.toNat x2.toNat x3.toNat x4.toNat x5.toNat := by rw [opens_does ok]
          rw [hs2] at hl
          rcases hl with z | z
          · exfalso
            have h1 := congrArg Sf82.S.burst z
            have h2 : x5.toNat = 0 := h1
            have h3 := within_of ok.2.2.2.2.2.2.2.2
            omega
          · exact z
        rw [hstep, hs] at q
        have k23 : ∀ b o, b ≠ d → Hb b = some o → H3 b = some o := fun b o hb z => kd3 b o hb (sb _ _ z)
        refine q (some e) H3 r k' ⟨fun b o z => k23 b o (ne_of_none z nd) (s0b _ _ z), nd, ⟨dx, hd3⟩, ⟨R, hgood⟩, fun e2 he2 b hb => ?_⟩ hk' hu (hfr r (lb r nr3)) hr3 fun u xs hu' hni => ?_
        · cases he2
          exact s02.free (m1 b hb)
        · have hub := ub u xs hu'
          refine ⟨k23 u _ (ne_of hub hdb ne_li) hub, fun e2 he2 => ?_⟩
          cases he2
          refine ⟨fun z => ?_, fun z => ?_⟩
          · have y := m1 u (.inr (.inr (.inr (.inl z))))
            rw [sb _ _ hub] at y
            cases y
          · rcases m2 u z with y | y
            · rw [y] at hub
              rw [h0.2] at hub
              cases hub
            · rw [sb _ _ hub] at y
              cases y
      · have hs : does s (.open_ x0.toNat (bs r0) x1 x2 x3 x4 x5) = (s, says (-1)) := not_opens_does no
        exact quiet [-1] (by rw [hstep, hs]; rfl) r H3 nr3 s3 h3
    · subst ep en em
      obtain ⟨x0, x1, rfl⟩ := len2 hnl
      obtain rfl := List.length_eq_zero_iff.mp hml
      obtain rfl := paired0 pr
      subst hc
      have hask : (Sf82Neutral.whole32 x0 && (Sf82Neutral.whole32 x1)) = true := hask
      simp only [Bool.and_eq_true] at hask
      obtain ⟨k0, k1⟩ := hask
      have hg3 : H2 g = some (.lst [.int x0, .int x1]) := hg2
      refine ⟨_, rfl, rfl, _, rfl, itN (by rw [int_iff]; decide) ?_⟩
      refine ⟨_, rfl, rfl, _, rfl, itN (by rw [int_iff]; decide) ?_⟩
      refine ⟨_, rfl, rfl, _, rfl, itN (by rw [int_iff]; decide) ?_⟩
      refine ⟨_, rfl, rfl, _, rfl, itN (by rw [int_iff]; decide) ?_⟩
      refine ⟨_, rfl, d, C.Desk, dx, _, _, rfl, hd2, T.c_Desk, T.n_Desk_end, l_Desk_end, rfl, _, rfl, ?_⟩
      have fin := needs _ (.weight x0 x1) hg3 (.weight x0 x1) rfl (closed_weight _ _) (fun G => good_weight G _ _)
      by_cases he : endV eo = V.non
      · rw [if_pos (decide_eq_true he)] at fin
        exact itP he fin
      · rw [if_neg (by simpa using he)] at fin
        exact itN he ⟨_, rfl, d, C.Desk, dx, _, _, rfl, hd2, T.c_Desk, T.n_Desk_end, l_Desk_end, _, rfl, _, rfl, fin⟩
    · subst ep en em
      obtain ⟨x0, x1, x2, rfl⟩ := len3 hnl
      obtain ⟨r0, r1, rfl⟩ := len2 hml
      obtain ⟨a0, a1, rfl, h0, h1⟩ := paired2 pr
      subst hc
      have hask : (Sf82Neutral.natural x0 64 && (Sf82Neutral.whole32 x1 && (Sf82Neutral.whole32 x2 && (r0.all (fun (z : Int) => Sf82Neutral.natural z 8) && (r1.all (fun (z : Int) => Sf82Neutral.natural z 8)))))) = true := hask
      simp only [Bool.and_eq_true] at hask
      obtain ⟨k0, k1, k2, k3, k4⟩ := hask
      have n0 := nat_of k0
      have b3 := nb_bs k3
      have b4 := nb_bs k4
      rw [← b3] at h0
      have h0 := prH h0
      rw [← b4] at h1
      have h1 := prH h1
      have hg3 : H2 g = some (.lst [.int ((x0.toNat : Nat) : Int), .int x1, .int x2, .ref a0, .ref a1]) := by rw [n0]; exact hg2
      refine ⟨_, rfl, rfl, _, rfl, itN (by rw [int_iff]; decide) ?_⟩
      refine ⟨_, rfl, rfl, _, rfl, itN (by rw [int_iff]; decide) ?_⟩
      refine ⟨_, rfl, rfl, _, rfl, itN (by rw [int_iff]; decide) ?_⟩
      refine ⟨_, rfl, rfl, _, rfl, itN (by rw [int_iff]; decide) ?_⟩
      refine ⟨_, rfl, d, C.Desk, dx, _, _, rfl, hd2, T.c_Desk, T.n_Desk_end, l_Desk_end, rfl, _, rfl, ?_⟩
      have fin := needs _ (.put x0.toNat x1 (bs r0) x2 (bs r1)) hg3 (.put x0.toNat x1 x2 a0 a1 (bs r0) (bs r1) h0.1 h1.1 h0.2 h1.2) rfl (closed_put _ _ _ _ _) (fun G => good_put G _ _ _ _ _)
      by_cases he : endV eo = V.non
      · rw [if_pos (decide_eq_true he)] at fin
        exact itP he fin
      · rw [if_neg (by simpa using he)] at fin
        exact itN he ⟨_, rfl, d, C.Desk, dx, _, _, rfl, hd2, T.c_Desk, T.n_Desk_end, l_Desk_end, _, rfl, _, rfl, fin⟩
    · subst ep en em
      obtain ⟨x0, rfl⟩ := len1 hnl
      obtain rfl := List.length_eq_zero_iff.mp hml
      obtain rfl := paired0 pr
      subst hc
      have hask : (Sf82Neutral.natural x0 64) = true := hask
      have k0 := hask
      have n0 := nat_of k0
      have hg3 : H2 g = some (.lst [.int ((x0.toNat : Nat) : Int)]) := by rw [n0]; exact hg2
      refine ⟨_, rfl, rfl, _, rfl, itN (by rw [int_iff]; decide) ?_⟩
      refine ⟨_, rfl, rfl, _, rfl, itN (by rw [int_iff]; decide) ?_⟩
      refine ⟨_, rfl, rfl, _, rfl, itN (by rw [int_iff]; decide) ?_⟩
      refine ⟨_, rfl, rfl, _, rfl, itN (by rw [int_iff]; decide) ?_⟩
      refine ⟨_, rfl, d, C.Desk, dx, _, _, rfl, hd2, T.c_Desk, T.n_Desk_end, l_Desk_end, rfl, _, rfl, ?_⟩
      have fin := needs _ (.next x0.toNat) hg3 (.next x0.toNat) rfl (closed_next _) (fun G => good_next G _)
      by_cases he : endV eo = V.non
      · rw [if_pos (decide_eq_true he)] at fin
        exact itP he fin
      · rw [if_neg (by simpa using he)] at fin
        exact itN he ⟨_, rfl, d, C.Desk, dx, _, _, rfl, hd2, T.c_Desk, T.n_Desk_end, l_Desk_end, _, rfl, _, rfl, fin⟩
    · subst ep en em
      obtain ⟨x0, x1, rfl⟩ := len2 hnl
      obtain rfl := List.length_eq_zero_iff.mp hml
      obtain rfl := paired0 pr
      subst hc
      have hask : (Sf82Neutral.natural x0 64 && (Sf82Neutral.whole32 x1)) = true := hask
      simp only [Bool.and_eq_true] at hask
      obtain ⟨k0, k1⟩ := hask
      have n0 := nat_of k0
      have hg3 : H2 g = some (.lst [.int ((x0.toNat : Nat) : Int), .int x1]) := by rw [n0]; exact hg2
      refine ⟨_, rfl, rfl, _, rfl, itN (by rw [int_iff]; decide) ?_⟩
      refine ⟨_, rfl, rfl, _, rfl, itN (by rw [int_iff]; decide) ?_⟩
      refine ⟨_, rfl, rfl, _, rfl, itN (by rw [int_iff]; decide) ?_⟩
      refine ⟨_, rfl, rfl, _, rfl, itN (by rw [int_iff]; decide) ?_⟩
      refine ⟨_, rfl, d, C.Desk, dx, _, _, rfl, hd2, T.c_Desk, T.n_Desk_end, l_Desk_end, rfl, _, rfl, ?_⟩
      have fin := needs _ (.went x0.toNat x1) hg3 (.went x0.toNat x1) rfl (closed_went _ _) (fun G => good_went G _ _)
      by_cases he : endV eo = V.non
      · rw [if_pos (decide_eq_true he)] at fin
        exact itP he fin
      · rw [if_neg (by simpa using he)] at fin
        exact itN he ⟨_, rfl, d, C.Desk, dx, _, _, rfl, hd2, T.c_Desk, T.n_Desk_end, l_Desk_end, _, rfl, _, rfl, fin⟩
    · subst ep en em
      obtain rfl := List.length_eq_zero_iff.mp hnl
      obtain ⟨r0, rfl⟩ := len1 hml
      obtain ⟨a0, rfl, h0⟩ := paired1 pr
      subst hc
      have hask : (r0.all (fun (z : Int) => Sf82Neutral.natural z 8)) = true := hask
      have k0 := hask
      have b0 := nb_bs k0
      rw [← b0] at h0
      have h0 := prH h0
      have hg3 : H2 g = some (.lst [.ref a0]) := hg2
      refine ⟨_, rfl, rfl, _, rfl, itN (by rw [int_iff]; decide) ?_⟩
      refine ⟨_, rfl, rfl, _, rfl, itN (by rw [int_iff]; decide) ?_⟩
      refine ⟨_, rfl, rfl, _, rfl, itN (by rw [int_iff]; decide) ?_⟩
      refine ⟨_, rfl, rfl, _, rfl, itN (by rw [int_iff]; decide) ?_⟩
      refine ⟨_, rfl, d, C.Desk, dx, _, _, rfl, hd2, T.c_Desk, T.n_Desk_end, l_Desk_end, rfl, _, rfl, ?_⟩
      have fin := needs _ (.came (bs r0)) hg3 (.came a0 (bs r0) h0.1) rfl (closed_came _) (fun G => good_came G _)
      by_cases he : endV eo = V.non
      · rw [if_pos (decide_eq_true he)] at fin
        exact itP he fin
      · rw [if_neg (by simpa using he)] at fin
        exact itN he ⟨_, rfl, d, C.Desk, dx, _, _, rfl, hd2, T.c_Desk, T.n_Desk_end, l_Desk_end, _, rfl, _, rfl, fin⟩
    · subst ep en em
      obtain rfl := List.length_eq_zero_iff.mp hnl
      obtain ⟨r0, rfl⟩ := len1 hml
      obtain ⟨a0, rfl, h0⟩ := paired1 pr
      subst hc
      have hask : (r0.all (fun (z : Int) => Sf82Neutral.natural z 8)) = true := hask
      have k0 := hask
      have b0 := nb_bs k0
      rw [← b0] at h0
      have h0 := prH h0
      have hg3 : H2 g = some (.lst [.ref a0]) := hg2
      refine ⟨_, rfl, rfl, _, rfl, itN (by rw [int_iff]; decide) ?_⟩
      refine ⟨_, rfl, rfl, _, rfl, itN (by rw [int_iff]; decide) ?_⟩
      refine ⟨_, rfl, rfl, _, rfl, itN (by rw [int_iff]; decide) ?_⟩
      refine ⟨_, rfl, rfl, _, rfl, itN (by rw [int_iff]; decide) ?_⟩
      refine ⟨_, rfl, d, C.Desk, dx, _, _, rfl, hd2, T.c_Desk, T.n_Desk_end, l_Desk_end, rfl, _, rfl, ?_⟩
      have fin := needs _ (.join (bs r0)) hg3 (.join a0 (bs r0) h0.1 h0.2) rfl (closed_join _) (fun G => good_join G _)
      by_cases he : endV eo = V.non
      · rw [if_pos (decide_eq_true he)] at fin
        exact itP he fin
      · rw [if_neg (by simpa using he)] at fin
        exact itN he ⟨_, rfl, d, C.Desk, dx, _, _, rfl, hd2, T.c_Desk, T.n_Desk_end, l_Desk_end, _, rfl, _, rfl, fin⟩
    · subst ep en em
      obtain rfl := List.length_eq_zero_iff.mp hnl
      obtain ⟨r0, rfl⟩ := len1 hml
      obtain ⟨a0, rfl, h0⟩ := paired1 pr
      subst hc
      have hask : (r0.all (fun (z : Int) => Sf82Neutral.natural z 8)) = true := hask
      have k0 := hask
      have b0 := nb_bs k0
      rw [← b0] at h0
      have h0 := prH h0
      have hg3 : H2 g = some (.lst [.ref a0]) := hg2
      refine ⟨_, rfl, rfl, _, rfl, itN (by rw [int_iff]; decide) ?_⟩
      refine ⟨_, rfl, rfl, _, rfl, itN (by rw [int_iff]; decide) ?_⟩
      refine ⟨_, rfl, rfl, _, rfl, itN (by rw [int_iff]; decide) ?_⟩
      refine ⟨_, rfl, rfl, _, rfl, itN (by rw [int_iff]; decide) ?_⟩
      refine ⟨_, rfl, d, C.Desk, dx, _, _, rfl, hd2, T.c_Desk, T.n_Desk_end, l_Desk_end, rfl, _, rfl, ?_⟩
      have fin := needs _ (.leave (bs r0)) hg3 (.leave a0 (bs r0) h0.1) rfl (closed_leave _) (fun G => good_leave G _)
      by_cases he : endV eo = V.non
      · rw [if_pos (decide_eq_true he)] at fin
        exact itP he fin
      · rw [if_neg (by simpa using he)] at fin
        exact itN he ⟨_, rfl, d, C.Desk, dx, _, _, rfl, hd2, T.c_Desk, T.n_Desk_end, l_Desk_end, _, rfl, _, rfl, fin⟩
    · subst ep en em
      obtain ⟨x0, rfl⟩ := len1 hnl
      obtain rfl := List.length_eq_zero_iff.mp hml
      obtain rfl := paired0 pr
      subst hc
      have hask : (Sf82Neutral.whole32 x0) = true := hask
      have k0 := hask
      have hg3 : H2 g = some (.lst [.int x0]) := hg2
      refine ⟨_, rfl, rfl, _, rfl, itN (by rw [int_iff]; decide) ?_⟩
      refine ⟨_, rfl, rfl, _, rfl, itN (by rw [int_iff]; decide) ?_⟩
      refine ⟨_, rfl, rfl, _, rfl, itN (by rw [int_iff]; decide) ?_⟩
      refine ⟨_, rfl, rfl, _, rfl, itN (by rw [int_iff]; decide) ?_⟩
      refine ⟨_, rfl, d, C.Desk, dx, _, _, rfl, hd2, T.c_Desk, T.n_Desk_end, l_Desk_end, rfl, _, rfl, ?_⟩
      have fin := needs _ (.hear x0) hg3 (.hear x0) rfl (closed_hear _) (fun G => good_hear G _)
      by_cases he : endV eo = V.non
      · rw [if_pos (decide_eq_true he)] at fin
        exact itP he fin
      · rw [if_neg (by simpa using he)] at fin
        exact itN he ⟨_, rfl, d, C.Desk, dx, _, _, rfl, hd2, T.c_Desk, T.n_Desk_end, l_Desk_end, _, rfl, _, rfl, fin⟩
    · subst ep en em
      obtain ⟨x0, x1, rfl⟩ := len2 hnl
      obtain rfl := List.length_eq_zero_iff.mp hml
      obtain rfl := paired0 pr
      subst hc
      have hask : (Sf82Neutral.natural x0 64 && (Sf82Neutral.whole32 x1)) = true := hask
      simp only [Bool.and_eq_true] at hask
      obtain ⟨k0, k1⟩ := hask
      have n0 := nat_of k0
      have hg3 : H2 g = some (.lst [.int ((x0.toNat : Nat) : Int), .int x1]) := by rw [n0]; exact hg2
      refine ⟨_, rfl, rfl, _, rfl, itN (by rw [int_iff]; decide) ?_⟩
      refine ⟨_, rfl, rfl, _, rfl, itN (by rw [int_iff]; decide) ?_⟩
      refine ⟨_, rfl, rfl, _, rfl, itN (by rw [int_iff]; decide) ?_⟩
      refine ⟨_, rfl, rfl, _, rfl, itN (by rw [int_iff]; decide) ?_⟩
      refine ⟨_, rfl, d, C.Desk, dx, _, _, rfl, hd2, T.c_Desk, T.n_Desk_end, l_Desk_end, rfl, _, rfl, ?_⟩
      have fin := needs _ (.waits x0.toNat x1) hg3 (.waits x0.toNat x1) rfl (closed_waits _ _) (fun G => good_waits G _ _)
      by_cases he : endV eo = V.non
      · rw [if_pos (decide_eq_true he)] at fin
        exact itP he fin
      · rw [if_neg (by simpa using he)] at fin
        exact itN he ⟨_, rfl, d, C.Desk, dx, _, _, rfl, hd2, T.c_Desk, T.n_Desk_end, l_Desk_end, _, rfl, _, rfl, fin⟩
    · subst ep en em
      obtain ⟨x0, rfl⟩ := len1 hnl
      obtain rfl := List.length_eq_zero_iff.mp hml
      obtain rfl := paired0 pr
      subst hc
      have hask : (Sf82Neutral.whole32 x0) = true := hask
      have k0 := hask
      have hg3 : H2 g = some (.lst [.int x0]) := hg2
      refine ⟨_, rfl, rfl, _, rfl, itN (by rw [int_iff]; decide) ?_⟩
      refine ⟨_, rfl, rfl, _, rfl, itN (by rw [int_iff]; decide) ?_⟩
      refine ⟨_, rfl, rfl, _, rfl, itN (by rw [int_iff]; decide) ?_⟩
      refine ⟨_, rfl, rfl, _, rfl, itN (by rw [int_iff]; decide) ?_⟩
      refine ⟨_, rfl, d, C.Desk, dx, _, _, rfl, hd2, T.c_Desk, T.n_Desk_end, l_Desk_end, rfl, _, rfl, ?_⟩
      have fin := needs _ (.drop x0) hg3 (.drop x0) rfl (closed_drop _) (fun G => good_drop G _)
      by_cases he : endV eo = V.non
      · rw [if_pos (decide_eq_true he)] at fin
        exact itP he fin
      · rw [if_neg (by simpa using he)] at fin
        exact itN he ⟨_, rfl, d, C.Desk, dx, _, _, rfl, hd2, T.c_Desk, T.n_Desk_end, l_Desk_end, _, rfl, _, rfl, fin⟩
    · subst ep en em
      obtain rfl := List.length_eq_zero_iff.mp hnl
      obtain rfl := List.length_eq_zero_iff.mp hml
      obtain rfl := paired0 pr
      subst hc
      have hg3 : H2 g = some (.lst []) := hg2
      refine ⟨_, rfl, rfl, _, rfl, itN (by rw [int_iff]; decide) ?_⟩
      refine ⟨_, rfl, rfl, _, rfl, itP rfl ?_⟩
      exact ⟨_, rfl, d, dx, _, rfl, hd2, m_Desk_answer_counts, d, a, dx, k', eo, s, rfl, hd2, live2 H2 sb, fun r H3 n3 s3 h3 => quiet (countsL s) rfl r H3 n3 s3 h3⟩
    · subst ep en em
      obtain ⟨x0, rfl⟩ := len1 hnl
      obtain ⟨r0, r1, r2, rfl⟩ := len3 hml
      obtain ⟨a0, a1, a2, rfl, h0, h1, h2⟩ := paired3 pr
      subst hc
      have hask : (Sf82Neutral.whole32 x0 && (r0.all (fun (z : Int) => Sf82Neutral.natural z 8) && (r1.all (fun (z : Int) => Sf82Neutral.natural z 8) && (r2.all (fun (z : Int) => Sf82Neutral.natural z 8))))) = true := hask
      simp only [Bool.and_eq_true] at hask
      obtain ⟨k0, k1, k2, k3⟩ := hask
      have b1 := nb_bs k1
      have b2 := nb_bs k2
      have b3 := nb_bs k3
      rw [← b1] at h0
      have h0 := prH h0
      rw [← b2] at h1
      have h1 := prH h1
      rw [← b3] at h2
      have h2 := prH h2
      have hg3 : H2 g = some (.lst [.int x0, .ref a0, .ref a1, .ref a2]) := hg2
      refine ⟨_, rfl, rfl, _, rfl, itN (by rw [int_iff]; decide) ?_⟩
      refine ⟨_, rfl, rfl, _, rfl, itN (by rw [int_iff]; decide) ?_⟩
      refine ⟨_, rfl, rfl, _, rfl, itP rfl ?_⟩
      exact ⟨_, rfl, g, _, _, _, rfl, rfl, SqL.of hg3, atI_nat (j := 0) rfl, _, rfl, g, _, _, _, rfl, rfl, SqL.of hg3, atI_nat (j := 1) rfl, _, rfl, g, _, _, _, rfl, rfl, SqL.of hg3, atI_nat (j := 2) rfl, _, rfl, g, _, _, _, rfl, rfl, SqL.of hg3, atI_nat (j := 3) rfl, x0, a0, a1, a2, bs r0, bs r1, bs r2, rfl, h0.1, h1.1, h2.1, fun r H3 n3 s3 h3 => quiet (makeL (bs r0) (bs r1) x0 (bs r2)) rfl r H3 n3 s3 h3⟩
    · subst ep en em
      obtain rfl := List.length_eq_zero_iff.mp hnl
      obtain ⟨r0, rfl⟩ := len1 hml
      obtain ⟨a0, rfl, h0⟩ := paired1 pr
      subst hc
      have hask : (r0.all (fun (z : Int) => Sf82Neutral.natural z 8)) = true := hask
      have k0 := hask
      have b0 := nb_bs k0
      rw [← b0] at h0
      have h0 := prH h0
      have hg3 : H2 g = some (.lst [.ref a0]) := hg2
      refine ⟨_, rfl, rfl, _, rfl, itN (by rw [int_iff]; decide) ?_⟩
      refine ⟨_, rfl, rfl, _, rfl, itN (by rw [int_iff]; decide) ?_⟩
      refine ⟨_, rfl, rfl, _, rfl, itN (by rw [int_iff]; decide) ?_⟩
      refine ⟨_, rfl, rfl, _, rfl, itP rfl ?_⟩
      exact ⟨_, rfl, g, _, _, _, rfl, rfl, SqL.of hg3, atI_nat (j := 0) rfl, a0, bs r0, rfl, h0.1, fun r H3 n3 s3 h3 => quiet (readL (bs r0)) rfl r H3 n3 s3 h3⟩
    · subst ep en em
      obtain ⟨x0, rfl⟩ := len1 hnl
      obtain rfl := List.length_eq_zero_iff.mp hml
      obtain rfl := paired0 pr
      subst hc
      have hask : (Sf82Neutral.natural x0 64) = true := hask
      have k0 := hask
      have n0 := nat_of k0
      have hg3 : H2 g = some (.lst [.int ((x0.toNat : Nat) : Int)]) := by rw [n0]; exact hg2
      refine ⟨_, rfl, rfl, _, rfl, itN (by rw [int_iff]; decide) ?_⟩
      refine ⟨_, rfl, rfl, _, rfl, itN (by rw [int_iff]; decide) ?_⟩
      refine ⟨_, rfl, rfl, _, rfl, itN (by rw [int_iff]; decide) ?_⟩
      refine ⟨_, rfl, rfl, _, rfl, itN (by rw [int_iff]; decide) ?_⟩
      refine ⟨_, rfl, d, C.Desk, dx, _, _, rfl, hd2, T.c_Desk, T.n_Desk_end, l_Desk_end, rfl, _, rfl, ?_⟩
      have fin := needs _ (.due x0.toNat) hg3 (.due x0.toNat) rfl (closed_due _) (fun G => good_due G _)
      by_cases he : endV eo = V.non
      · rw [if_pos (decide_eq_true he)] at fin
        exact itP he fin
      · rw [if_neg (by simpa using he)] at fin
        exact itN he ⟨_, rfl, d, C.Desk, dx, _, _, rfl, hd2, T.c_Desk, T.n_Desk_end, l_Desk_end, _, rfl, _, rfl, fin⟩
end
end FL
end
section
namespace FL
open PySem L2
open Sf82 (S closed)
open Sf82Neutral (step asked1 numbers start)
theorem whole_id (c : List (List Int)) : PySf82.whole c = c := by
  unfold PySf82.whole
  split <;> rfl
theorem calls_eq (l : List Int) : PySf82.calls l = PyFlat.calls PySf82.shape l.length l := by
  unfold PySf82.calls
  cases PyFlat.calls PySf82.shape l.length l with
  | none => rfl
  | some cs =>
    show some (cs.map PySf82.whole) = some cs
    congr 1
    rw [List.map_congr_left (fun c _ => whole_id c), List.map_id']
theorem calls_nil {f : Nat} {cs : List (List (List Int))} (h : PyFlat.calls PySf82.shape f [] = some cs) : cs = [] := by
  cases f <;> exact (Option.some.inj h).symm
theorem calls_cons {f : Nat} {p : Int} {r : List Int} {cs : List (List (List Int))} (h : PyFlat.calls PySf82.shape f (p :: r) = some cs) : ∃ f' c t cs', PyFlat.call PySf82.shape (p :: r) = some (c, t) ∧ PyFlat.calls PySf82.shape f' t = some cs' ∧ cs = c :: cs' := by
  cases f with
  | zero => cases h
  | succ f =>
    simp only [PyFlat.calls] at h
    cases hc : PyFlat.call PySf82.shape (p :: r) with
    | none => rw [hc] at h; cases h
    | some ct =>
      obtain ⟨c, t⟩ := ct
      rw [hc] at h
      dsimp only at h
      cases hs : PyFlat.calls PySf82.shape f t with
      | none => rw [hs] at h; cases h
      | some cs' =>
        rw [hs] at h
        exact ⟨f, c, t, cs', rfl, hs, (Option.some.inj h).symm⟩
def sp_ans (K : PySem.W.Frag) : Sp := fun vs H Q _ => ∃ (a : Addr) (l : List Int), vs = [.ref a] ∧ SqL K H a (vi l) ∧ l.length ≤ 16000 ∧ PySf82.answers_asked l = true ∧ ∀ H' p, H' p = some (.lst (vi (PySf82.answers l))) → Q (.ref p) H'
def sp_answers (K : PySem.W.Frag) (C : Cs) : Sp := sp_ans K
section
variable {P : Program} {w : World} {K : PySem.W.Frag} {mg : Str → Option Value} {base : Heap} {C : Cs}
theorem ok_answers {f : Addr} {fd : FuncData} (F : Fun K "answers" "answers" s_answers f fd) (T : Txt K mg C) (u_Desk_init : MakeOk P w K mg base 1 "Desk" C.Desk ps_Desk_init (sp_Desk_init K C)) (u_Desk_is_done : MethOk P w K mg base 1 C.Desk "is_done" ps_Desk_is_done (sp_Desk_is_done K C)) (u_Desk_answer_call : MethOk P w K mg base 7 C.Desk "answer_call" ps_Desk_answer_call (sp_Desk_answer_call K C)) : FnOk P w K mg base CX0 8 f fd ps_answers (sp_answers K C) := by
  refine F.ok sc_answers (fun vs H Q E h => ?_) (fun cdv A outer s H vs Q E hr h => ?_)
  · obtain ⟨a, l, rfl, _⟩ := h
    rfl
  · obtain ⟨a, l, rfl, ha, h16, hask, k⟩ := h
    have hz := sizeLine_eq
    obtain ⟨cs, hcs⟩ : ∃ cs, PyFlat.calls PySf82.shape l.length l = some cs := by
      unfold PySf82.answers_asked at hask
      rw [calls_eq] at hask
      cases h : PyFlat.calls PySf82.shape l.length l with
      | none => rw [h] at hask; cases hask
      | some cs => exact ⟨cs, rfl⟩
    have hans : PySf82.answers l = PyFlat.told (PyFlat.played step start cs) := by
      unfold PySf82.answers
      rw [calls_eq, hcs]
    have hask2 : (PyFlat.atMost 1000 cs && Sf82Neutral.asked cs) = true := by
      unfold PySf82.answers_asked at hask
      rw [calls_eq, hcs] at hask
      exact hask
    rw [Bool.and_eq_true] at hask2
    have h1000 : cs.length ≤ 1000 := by
      have := hask2.1
      unfold PyFlat.atMost at this
      exact of_decide_eq_true this
    have hall : (∀ c ∈ cs, asked1 c = true) ∧ numbers start cs < 1000000 := by
      have := hask2.2
      unfold Sf82Neutral.asked at this
      rw [Bool.and_eq_true, Bool.and_eq_true] at this
      exact ⟨fun c hc => List.all_eq_true.mp this.1.2 c hc, of_decide_eq_true this.2⟩
    rw [hans] at k
    refine ⟨_, (pss_cons (ps_set (i := 1) sc_answers.nd rfl (by first | exact Or.inl rfl | exact Or.inr rfl) (pe_new u_Desk_init hr (by decide) rfl (pa_cons (pv 0) pa_nil))) (pss_cons (ps_set (i := 2) sc_answers.nd rfl (by first | exact Or.inl rfl | exact Or.inr rfl) (pe_lst pa_nil)) (pss_cons (ps_while PassesOwn.never (pt_not (pt_val (pe_mth0 (pv 1) T.c_Desk u_Desk_is_done hr (by decide)))) (pss_cons (ps_set (i := 3) sc_answers.nd rfl (by first | exact Or.inl rfl | exact Or.inr rfl) (pe_mth0 (pv 1) T.c_Desk u_Desk_answer_call hr (by decide))) (pss_cons (ps_expr (pe_bm PySem.F.plainAttrs_list PySem.F.slot_list_append PySem.F.type_list_append mt_append (pv 2) (pa_cons (pe_callB call_len_seq (by rfl) T.b_len (show bootBuiltins "len" = some (.builtin "len") by decide +kernel) (pa_cons (pv 3) pa_nil)) pa_nil))) (pss_one (ps_expr (pe_bm PySem.F.plainAttrs_list PySem.F.slot_list_extend PySem.F.type_list_extend mt_extend (pv 2) (pa_cons (pv 3) pa_nil))))))) (pss_one (ps_ret (pv 2)))))), ?_⟩
    refine ⟨_, rfl, fun d dd nd ndd ned => ⟨d, dd, a, rfl, upd_same, fun H1 hd kp => ⟨rfl, ?_⟩⟩⟩
    have s1 : Same H H1 := Same.made nd ndd kp
    obtain ⟨d1, hd⟩ := hd
    refine ⟨Nat.zero_le _, fun t nt => ?_⟩
    have s2 := same_upd (o := HO.lst []) nt
    have nt0 : H t = none := s1.free nt
    have ndt : d ≠ t := ne_of_none hd nt
    have hsz0 : ([] : List Int).length + numbers closed cs + cs.length ≤ 1001000 := by
      have h9 : numbers closed cs < 1000000 := hall.2
      show 0 + numbers closed cs + cs.length ≤ 1001000
      omega
    refine ⟨fun m σ H2 => ∃ (k2 : Nat) (eo : Option EA) (s : S) (f : Nat) (cs2 : List (List (List Int))) (z : List Int) (v : Option V), σ = [some (.ref a), some (.ref d), some (.ref t), v] ∧ World1 C H a d H2 k2 eo s ∧ H2 t = some (.lst (vi z)) ∧ NotIn eo t ∧ k2 ≤ l.length ∧
      PyFlat.calls PySf82.shape f (l.drop k2) = some cs2 ∧ (∀ c ∈ cs2, asked1 c = true) ∧ PyFlat.told (PyFlat.played step start cs) = z ++ PyFlat.told (PyFlat.played step s cs2) ∧ z.length + numbers s cs2 + cs2.length ≤ 1001000 ∧ cs2.length = m,
      ⟨cs.length, 0, none, closed, l.length, cs, [], none, rfl, ⟨s1.trans s2, nd, ⟨d1, s2 _ _ hd⟩, rfl, (fun e he => by cases he)⟩, upd_same, (fun e he => by cases he), Nat.zero_le _, hcs, hall.1, rfl, hsz0, rfl⟩, ?_⟩
    rintro m σ H2 ⟨k2, eo, s, f, cs2, z, v, rfl, W, ht, hni, hk2, hcalls, hall2, htold, hsz, hm⟩
    obtain ⟨dx, hd2⟩ := W.desk
    have ha2 := W.same.seq ha
    refine ⟨_, rfl, d, dx, _, rfl, hd2, m_Desk_is_done, d, a, dx, k2, _, l, rfl, hd2, ha2, _, rfl, ?_⟩
    by_cases hdone : l.length ≤ k2
    · refine itnP hdone ?_
      rw [List.drop_eq_nil_of_le hdone] at hcalls
      obtain rfl := calls_nil hcalls
      refine ⟨_, rfl, k H2 t ?_⟩
      rw [ht, htold]
      show _ = some (HO.lst (vi (z ++ [])))
      rw [List.append_nil]
    · refine itnN hdone ?_
      have hlt : k2 < l.length := by omega
      have hdr := List.drop_eq_getElem_cons hlt
      rw [hdr] at hcalls
      obtain ⟨f', c, tt, cs3, hcall, hcalls', rfl⟩ := calls_cons hcalls
      rw [← hdr] at hcall
      refine ⟨fun σ' H' => ∃ m', m' < m ∧ ∃ (k2 : Nat) (eo : Option EA) (s : S) (f : Nat) (cs2 : List (List (List Int))) (z : List Int) (v : Option V), σ' = [some (.ref a), some (.ref d), some (.ref t), v] ∧ World1 C H a d H' k2 eo s ∧ H' t = some (.lst (vi z)) ∧ NotIn eo t ∧ k2 ≤ l.length ∧
        PyFlat.calls PySf82.shape f (l.drop k2) = some cs2 ∧ (∀ c ∈ cs2, asked1 c = true) ∧ PyFlat.told (PyFlat.played step start cs) = z ++ PyFlat.told (PyFlat.played step s cs2) ∧ z.length + numbers s cs2 + cs2.length ≤ 1001000 ∧ cs2.length = m', fun _ _ h => h, ?_⟩
      refine ⟨_, rfl, d, dx, _, rfl, hd2, m_Desk_answer_call, H, l, a, d, k2, eo, s, c, tt, rfl, ha, h16, W, hcall, hall2 c List.mem_cons_self, fun eo' H3 r k' W' hk' hu nr hr3 prot => ?_⟩
      obtain ⟨ht3, hni3⟩ := prot t _ ht hni
      have hrt : r ≠ t := (ne_of_none ht nr).symm
      have hn1 : numbers s (c :: cs3) = (step s c).2.length + numbers (step s c).1 cs3 := rfl
      rw [List.length_cons, hn1] at hsz
      generalize hst : step s c = y at *
      obtain ⟨s', ans⟩ := y
      dsimp only at *
      refine ⟨_, rfl, .inl ⟨rfl, _, SqL.of ht3⟩, _, rfl, r, _, rfl, .inl (SqL.of hr3), t, _, _, rfl, rfl, ht3, by rw [List.length_map]; omega, ?_⟩
      have hr4 : upd H3 t (HO.lst (vi z ++ [V.int ((vi ans).length : Int)])) r = some (.lst (vi ans)) := by rw [upd_ne hrt]; exact hr3
      refine ⟨_, rfl, .inl ⟨rfl, _, SqL.of upd_same⟩, _, rfl, t, r, _, _, rfl, rfl, upd_same, hr4, by rw [List.length_append, List.length_map, List.length_map, List.length_singleton]; omega, ?_⟩
      rw [upd_upd]
      obtain ⟨d3, hd3⟩ := W'.desk
      refine ⟨cs3.length, by rw [← hm, List.length_cons]; omega, k', eo', s', f', cs3, z ++ ((ans.length : Int) :: ans), some (.ref r), rfl, ⟨fun b o hb => ?_, W'.nd, ⟨d3, ?_⟩, ?_, W'.foot⟩, ?_, hni3, hk', by rw [hu]; exact hcalls', fun c' hc' => hall2 c' (List.mem_cons_of_mem _ hc'), ?_, ?_, rfl⟩
      · rw [upd_ne (ne_of_none hb nt0)]; exact W'.same _ _ hb
      · rw [upd_ne ndt]; exact hd3
      · have L := W'.live
        cases eo' with
        | none => exact L
        | some e => exact ⟨L.1.off ht3 (hni3 e rfl).1 (hni3 e rfl).2, L.2⟩
      · rw [upd_same, vi_append, List.length_map, List.append_assoc]; rfl
      · rw [htold]
        show z ++ PyFlat.told ((step s c).2 :: PyFlat.played step (step s c).1 cs3) = _
        rw [hst]
        show z ++ (((ans.length : Int) :: ans) ++ PyFlat.told (PyFlat.played step s' cs3)) = _
        rw [List.append_assoc]
      · rw [List.length_append, List.length_cons]
        omega
end
end FL
end
section
namespace FL
open PySem L2
/-! ### what the top has written -/
structure ClsF (K : PySem.W.Frag) (x : Str) (C : Addr) : Prop where
  at_ : PySem.W.nsIn K mainGlobals x = some (some (.ref C))
  cls : Cls K C
  mks : PySem.W.makesIn K C = true
  kc : PySem.W.keepIn K (.ref C) = true
theorem cls_mk {K : PySem.W.Frag} {x : Str} {C : Addr} (a : PySem.W.nsIn K mainGlobals x = some (some (.ref C))) (pg : PySem.W.plainGet K C Str.empty = true) (hd : PySem.W.hasDictIn K C = true) (po : PySem.W.plainOver K C = true) (sa : PySem.W.findIn K (.ref C) "__setattr__" = some (some (.builtin "object.__setattr__"))) (mk : PySem.W.makesIn K C = true) (kc : PySem.W.keepIn K (.ref C) = true) : ClsF K x C := ⟨a, ⟨pg, hd, po, sa⟩, mk, kc⟩
def MethF (K : PySem.W.Frag) (C : Addr) (m qual : Str) (st : Stmt) : Prop := ∃ f fd, Meth K C m f ∧ Fun K m qual st f fd
theorem meth_mk {K : PySem.W.Frag} {C f : Addr} {m qual : Str} {st : Stmt} {oc : Value} {od an : Option Addr} {osl : Array (Option Value)} {kV doc pm cdv ct : Value} (a : PySem.W.findIn K (.ref C) m = some (some (.ref f))) (i : PySem.W.isFn K (.ref f) = true)
    (l : K.lookup f = some ⟨oc, od, .func (PySem.W.fnOf m qual (defArgs st) (defBody st) (defScope st) .none kV doc pm an cdv ct), osl⟩) (c : PySem.W.codeIn K cdv qual = true) (k : PySem.W.keepIn K (.ref f) = true) : MethF K C m qual st := ⟨f, _, ⟨a, i, k⟩, fun_mk l c k⟩
def DefF (K : PySem.W.Frag) (x : Str) (st : Stmt) : Prop := ∃ f fd, PySem.W.nsIn K mainGlobals x = some (some (.ref f)) ∧ Fun K x x st f fd
theorem def_mk {K : PySem.W.Frag} {f : Addr} {x : Str} {st : Stmt} {oc : Value} {od an : Option Addr} {osl : Array (Option Value)} {kV doc pm cdv ct : Value} (a : PySem.W.nsIn K mainGlobals x = some (some (.ref f)))
    (l : K.lookup f = some ⟨oc, od, .func (PySem.W.fnOf x x (defArgs st) (defBody st) (defScope st) .none kV doc pm an cdv ct), osl⟩) (c : PySem.W.codeIn K cdv x = true) (k : PySem.W.keepIn K (.ref f) = true) : DefF K x st := ⟨f, _, a, fun_mk l c k⟩
def IntF (K : PySem.W.Frag) (x : Str) (i : Int) : Prop := ∃ t, PySem.W.nsIn K mainGlobals x = some (some (.int i t))
theorem int_mk {K : PySem.W.Frag} {x : Str} {i : Int} {t : Tok} (a : PySem.W.nsIn K mainGlobals x = some (some (.int i t))) : IntF K x i := ⟨t, a⟩
theorem IntF.gi {K : PySem.W.Frag} {h : Heap} {mg : Str → Option Value} {x : Str} {i : Int} (f : IntF K x i) (X : K.In h) (G : h.Ns mainGlobals mg) : GI mg x i := by
  obtain ⟨t, a⟩ := f
  exact ⟨t, PySem.W.mg_of X G a⟩
theorem tup_mk {K : PySem.W.Frag} {a : Addr} {l : List Int} {d : Option Addr} {its : Array Value} {n : Nat} {sl : Array (Option Value)} (h : K.lookup a = some ⟨.type "tuple", d, .seq its n, sl⟩) (hz : its.size ≤ sizeLine) (v : Vals (l.map V.int) its.toList) : KTup K a l := ⟨d, its, n, sl, h, hz, v⟩
theorem dict_mk {K : PySem.W.Frag} {a : Addr} {kvs : List (Int × V)} {es : Array DictEntry} {ep : Nat} (h : K.lookup a = some ⟨.type "dict", none, .dict es ep, #[]⟩) (k : KEs es.toList kvs) (nd : (kvs.map (·.1)).Nodup) : KD K a kvs := ⟨es, ep, h, k, nd⟩
theorem none_mk {K : PySem.W.Frag} {h : Heap} {mg : Str → Option Value} {x : Str} (X : K.In h) (G : h.Ns mainGlobals mg) (a : PySem.W.nsIn K mainGlobals x = some none) : mg x = none := PySem.W.mg_none_of X G a
set_option maxHeartbeats 0 in
theorem all_mk {prog : Program} {w : World} {K : PySem.W.Frag} {h : Heap} {mg : Str → Option Value} {fa : Addr} {C : Cs} (X : K.In h) (G : h.Ns mainGlobals mg) (hfa : mg "answers" = some (.ref fa))
    (c_Counts : ClsF K "Counts" C.Counts)
    (n_Counts_sent_frames : PySem.W.findIn K (.ref C.Counts) "sent_frames" = some none)
    (n_Counts_sent_bytes : PySem.W.findIn K (.ref C.Counts) "sent_bytes" = some none)
    (n_Counts_heard_frames : PySem.W.findIn K (.ref C.Counts) "heard_frames" = some none)
    (n_Counts_heard_bytes : PySem.W.findIn K (.ref C.Counts) "heard_bytes" = some none)
    (n_Counts_no_frames : PySem.W.findIn K (.ref C.Counts) "no_frames" = some none)
    (n_Counts_for_others : PySem.W.findIn K (.ref C.Counts) "for_others" = some none)
    (n_Counts_dropped : PySem.W.findIn K (.ref C.Counts) "dropped" = some none)
    (n_Counts_refused_full : PySem.W.findIn K (.ref C.Counts) "refused_full" = some none)
    (n_Counts_grown_old : PySem.W.findIn K (.ref C.Counts) "grown_old" = some none)
    (n_Counts_not_taken : PySem.W.findIn K (.ref C.Counts) "not_taken" = some none)
    (c_Turns : ClsF K "Turns" C.Turns)
    (n_Turns_on : PySem.W.findIn K (.ref C.Turns) "on" = some none)
    (n_Turns_has_share : PySem.W.findIn K (.ref C.Turns) "has_share" = some none)
    (n_Turns_credit_of : PySem.W.findIn K (.ref C.Turns) "credit_of" = some none)
    (c_Waiting : ClsF K "Waiting" C.Waiting)
    (n_Waiting_frame : PySem.W.findIn K (.ref C.Waiting) "frame" = some none)
    (n_Waiting_since : PySem.W.findIn K (.ref C.Waiting) "since" = some none)
    (c_Queue : ClsF K "Queue" C.Queue)
    (n_Queue_weight : PySem.W.findIn K (.ref C.Queue) "weight" = some none)
    (n_Queue_line : PySem.W.findIn K (.ref C.Queue) "line" = some none)
    (c_End : ClsF K "End" C.End)
    (n_End_now : PySem.W.findIn K (.ref C.End) "now" = some none)
    (n_End_queues : PySem.W.findIn K (.ref C.End) "queues" = some none)
    (n_End_each : PySem.W.findIn K (.ref C.End) "each" = some none)
    (n_End_life : PySem.W.findIn K (.ref C.End) "life" = some none)
    (n_End_pace : PySem.W.findIn K (.ref C.End) "pace" = some none)
    (n_End_most_may_go : PySem.W.findIn K (.ref C.End) "most_may_go" = some none)
    (n_End_may_go : PySem.W.findIn K (.ref C.End) "may_go" = some none)
    (n_End_me : PySem.W.findIn K (.ref C.End) "me" = some none)
    (n_End_turns : PySem.W.findIn K (.ref C.End) "turns" = some none)
    (n_End_is_out : PySem.W.findIn K (.ref C.End) "is_out" = some none)
    (n_End_groups : PySem.W.findIn K (.ref C.End) "groups" = some none)
    (n_End_hears_all : PySem.W.findIn K (.ref C.End) "hears_all" = some none)
    (n_End_counts : PySem.W.findIn K (.ref C.End) "counts" = some none)
    (c_Desk : ClsF K "Desk" C.Desk)
    (n_Desk_calls : PySem.W.findIn K (.ref C.Desk) "calls" = some none)
    (n_Desk_place : PySem.W.findIn K (.ref C.Desk) "place" = some none)
    (n_Desk_end : PySem.W.findIn K (.ref C.Desk) "end" = some none)
    (m_Counts_init : MethF K C.Counts "__init__" "Counts.__init__" s_Counts_init)
    (m_Counts_in_order : MethF K C.Counts "in_order" "Counts.in_order" s_Counts_in_order)
    (d_is_address : DefF K "is_address" s_is_address)
    (d_is_everybody : DefF K "is_everybody" s_is_everybody)
    (d_is_kind : DefF K "is_kind" s_is_kind)
    (d_bytes_of : DefF K "bytes_of" s_bytes_of)
    (d_number_of : DefF K "number_of" s_number_of)
    (d_crc32c : DefF K "crc32c" s_crc32c)
    (d_refusal_of : DefF K "refusal_of" s_refusal_of)
    (d_make_frame : DefF K "make_frame" s_make_frame)
    (d_is_frame : DefF K "is_frame" s_is_frame)
    (d_to_of : DefF K "to_of" s_to_of)
    (d_sender_of : DefF K "sender_of" s_sender_of)
    (d_kind_of : DefF K "kind_of" s_kind_of)
    (d_body_of : DefF K "body_of" s_body_of)
    (d_answer_make : DefF K "answer_make" s_answer_make)
    (d_answer_read : DefF K "answer_read" s_answer_read)
    (m_Turns_init : MethF K C.Turns "__init__" "Turns.__init__" s_Turns_init)
    (m_Turns_trial : MethF K C.Turns "trial" "Turns.trial" s_Turns_trial)
    (m_Turns_try_turn : MethF K C.Turns "try_turn" "Turns.try_turn" s_Turns_try_turn)
    (m_Turns_find_turn : MethF K C.Turns "find_turn" "Turns.find_turn" s_Turns_find_turn)
    (m_Turns_spend : MethF K C.Turns "spend" "Turns.spend" s_Turns_spend)
    (m_Waiting_init : MethF K C.Waiting "__init__" "Waiting.__init__" s_Waiting_init)
    (m_Queue_init : MethF K C.Queue "__init__" "Queue.__init__" s_Queue_init)
    (m_End_init : MethF K C.End "__init__" "End.__init__" s_End_init)
    (m_End_has_queue : MethF K C.End "has_queue" "End.has_queue" s_End_has_queue)
    (m_End_set_weight : MethF K C.End "set_weight" "End.set_weight" s_End_set_weight)
    (m_End_may_be_now : MethF K C.End "may_be_now" "End.may_be_now" s_End_may_be_now)
    (m_End_how_many_out : MethF K C.End "how_many_out" "End.how_many_out" s_End_how_many_out)
    (m_End_not_out : MethF K C.End "not_out" "End.not_out" s_End_not_out)
    (m_End_keep_only : MethF K C.End "keep_only" "End.keep_only" s_End_keep_only)
    (m_End_remove_old : MethF K C.End "remove_old" "End.remove_old" s_End_remove_old)
    (m_End_pass_time : MethF K C.End "pass_time" "End.pass_time" s_End_pass_time)
    (m_End_put : MethF K C.End "put" "End.put" s_End_put)
    (m_End_has_frames : MethF K C.End "has_frames" "End.has_frames" s_End_has_frames)
    (m_End_time_to_go : MethF K C.End "time_to_go" "End.time_to_go" s_End_time_to_go)
    (m_End_hand_out : MethF K C.End "hand_out" "End.hand_out" s_End_hand_out)
    (m_End_send_first : MethF K C.End "send_first" "End.send_first" s_End_send_first)
    (m_End_went : MethF K C.End "went" "End.went" s_End_went)
    (m_End_hears : MethF K C.End "hears" "End.hears" s_End_hears)
    (m_End_came : MethF K C.End "came" "End.came" s_End_came)
    (m_End_join_group : MethF K C.End "join_group" "End.join_group" s_End_join_group)
    (m_End_leave_group : MethF K C.End "leave_group" "End.leave_group" s_End_leave_group)
    (m_End_hear : MethF K C.End "hear" "End.hear" s_End_hear)
    (m_End_waits : MethF K C.End "waits" "End.waits" s_End_waits)
    (m_End_drop : MethF K C.End "drop" "End.drop" s_End_drop)
    (m_End_times_to_go : MethF K C.End "times_to_go" "End.times_to_go" s_End_times_to_go)
    (m_End_times_of_age : MethF K C.End "times_of_age" "End.times_of_age" s_End_times_of_age)
    (m_End_due : MethF K C.End "due" "End.due" s_End_due)
    (d_open_end : DefF K "open_end" s_open_end)
    (m_Desk_init : MethF K C.Desk "__init__" "Desk.__init__" s_Desk_init)
    (m_Desk_is_done : MethF K C.Desk "is_done" "Desk.is_done" s_Desk_is_done)
    (m_Desk_take_number : MethF K C.Desk "take_number" "Desk.take_number" s_Desk_take_number)
    (m_Desk_take_row : MethF K C.Desk "take_row" "Desk.take_row" s_Desk_take_row)
    (m_Desk_take_given : MethF K C.Desk "take_given" "Desk.take_given" s_Desk_take_given)
    (m_Desk_answer_opening : MethF K C.Desk "answer_opening" "Desk.answer_opening" s_Desk_answer_opening)
    (m_Desk_answer_counts : MethF K C.Desk "answer_counts" "Desk.answer_counts" s_Desk_answer_counts)
    (d_answer_at : DefF K "answer_at" s_answer_at)
    (m_Desk_answer_call : MethF K C.Desk "answer_call" "Desk.answer_call" s_Desk_answer_call)
    (d_answers : DefF K "answers" s_answers)
    (i_WRONG : IntF K "WRONG" (-1))
    (i_NOT_THERE : IntF K "NOT_THERE" (-2))
    (i_NO_FRAME : IntF K "NO_FRAME" (-3))
    (i_NOT_NOW : IntF K "NOT_NOW" (-4))
    (i_FULL : IntF K "FULL" (-5))
    (i_TOO_LONG : IntF K "TOO_LONG" (-7))
    (i_ADDRESS_LENGTH : IntF K "ADDRESS_LENGTH" (6))
    (i_HIGHEST_KIND : IntF K "HIGHEST_KIND" (65535))
    (i_LONGEST_BODY : IntF K "LONGEST_BODY" (1500))
    (i_HEAD_LENGTH : IntF K "HEAD_LENGTH" (14))
    (i_CHECK_LENGTH : IntF K "CHECK_LENGTH" (4))
    (i_SHORTEST_FRAME : IntF K "SHORTEST_FRAME" (19))
    (i_LONGEST_FRAME : IntF K "LONGEST_FRAME" (1518))
    (i_ALL_ONES : IntF K "ALL_ONES" (4294967295))
    (i_POLYNOMIAL : IntF K "POLYNOMIAL" (2197175160))
    (i_SHARE : IntF K "SHARE" (256))
    (i_NOTHING_WAITS : IntF K "NOTHING_WAITS" (0))
    (i_HANDED_OUT : IntF K "HANDED_OUT" (1))
    (i_LATER : IntF K "LATER" (2))
    (i_NOT_FOR_HERE : IntF K "NOT_FOR_HERE" (0))
    (i_FOR_HERE : IntF K "FOR_HERE" (1))
    (i_TIME_LIMIT : IntF K "TIME_LIMIT" (9223372036854775808))
    (i_MOST_QUEUES : IntF K "MOST_QUEUES" (8))
    (i_MOST_EACH : IntF K "MOST_EACH" (64))
    (i_LONGEST_LIFE : IntF K "LONGEST_LIFE" (3600000))
    (i_HIGHEST_RATE : IntF K "HIGHEST_RATE" (4294967295))
    (i_LEAST_BURST : IntF K "LEAST_BURST" (1518))
    (i_MOST_BURST : IntF K "MOST_BURST" (16777216))
    (i_MOST_WEIGHT : IntF K "MOST_WEIGHT" (64))
    (i_MOST_GROUPS : IntF K "MOST_GROUPS" (16))
    (i_THOUSANDTHS : IntF K "THOUSANDTHS" (1000))
    (i_OPEN : IntF K "OPEN" (1))
    (i_WEIGHT : IntF K "WEIGHT" (2))
    (i_PUT : IntF K "PUT" (3))
    (i_NEXT : IntF K "NEXT" (4))
    (i_WENT : IntF K "WENT" (5))
    (i_CAME : IntF K "CAME" (6))
    (i_JOIN : IntF K "JOIN" (7))
    (i_LEAVE : IntF K "LEAVE" (8))
    (i_HEAR : IntF K "HEAR" (9))
    (i_WAITS : IntF K "WAITS" (10))
    (i_DROP : IntF K "DROP" (11))
    (i_COUNTS : IntF K "COUNTS" (12))
    (i_MAKE : IntF K "MAKE" (13))
    (i_READ : IntF K "READ" (14))
    (a_EVERYBODY : PySem.W.nsIn K mainGlobals "EVERYBODY" = some (some (.ref C.EVERYBODY)))
    (t_EVERYBODY : KTup K C.EVERYBODY [255, 255, 255, 255, 255, 255])
    (a_FORMS : PySem.W.nsIn K mainGlobals "FORMS" = some (some (.ref C.FORMS)))
    (t_FORMS : KD K C.FORMS [(1, .ref C.FORMS_1), (2, .ref C.FORMS_2), (3, .ref C.FORMS_3), (4, .ref C.FORMS_4), (5, .ref C.FORMS_5), (6, .ref C.FORMS_6), (7, .ref C.FORMS_7), (8, .ref C.FORMS_8), (9, .ref C.FORMS_9), (10, .ref C.FORMS_10), (11, .ref C.FORMS_11), (12, .ref C.FORMS_12), (13, .ref C.FORMS_13), (14, .ref C.FORMS_14), (15, .ref C.FORMS_15)])
    (t_FORMS_1 : KTup K C.FORMS_1 [6, 1])
    (t_FORMS_2 : KTup K C.FORMS_2 [2, 0])
    (t_FORMS_3 : KTup K C.FORMS_3 [3, 2])
    (t_FORMS_4 : KTup K C.FORMS_4 [1, 0])
    (t_FORMS_5 : KTup K C.FORMS_5 [2, 0])
    (t_FORMS_6 : KTup K C.FORMS_6 [0, 1])
    (t_FORMS_7 : KTup K C.FORMS_7 [0, 1])
    (t_FORMS_8 : KTup K C.FORMS_8 [0, 1])
    (t_FORMS_9 : KTup K C.FORMS_9 [1, 0])
    (t_FORMS_10 : KTup K C.FORMS_10 [2, 0])
    (t_FORMS_11 : KTup K C.FORMS_11 [1, 0])
    (t_FORMS_12 : KTup K C.FORMS_12 [0, 0])
    (t_FORMS_13 : KTup K C.FORMS_13 [1, 3])
    (t_FORMS_14 : KTup K C.FORMS_14 [0, 1])
    (t_FORMS_15 : KTup K C.FORMS_15 [1, 0])
    (b_any : PySem.W.nsIn K mainGlobals "any" = some none)
    (b_len : PySem.W.nsIn K mainGlobals "len" = some none)
    (b_list : PySem.W.nsIn K mainGlobals "list" = some none)
    (b_min : PySem.W.nsIn K mainGlobals "min" = some none)
    (b_range : PySem.W.nsIn K mainGlobals "range" = some none)
    (b_sum : PySem.W.nsIn K mainGlobals "sum" = some none)
    (b_tuple : PySem.W.nsIn K mainGlobals "tuple" = some none)
    : ∃ fd : FuncData, (∀ (s : Shared) (u : Value), BindsTo s fd ⟨[u], []⟩ [("calls", u)]) ∧ ∀ base : Heap, K.In base → base.Ns mainGlobals mg → FnOk prog w K mg base CX0 8 fa fd ["calls"] (sp_answers K C) := by
  have T : Txt K mg C := ⟨c_Counts.cls, n_Counts_sent_frames, n_Counts_sent_bytes, n_Counts_heard_frames, n_Counts_heard_bytes, n_Counts_no_frames, n_Counts_for_others, n_Counts_dropped, n_Counts_refused_full, n_Counts_grown_old, n_Counts_not_taken, c_Turns.cls, n_Turns_on, n_Turns_has_share, n_Turns_credit_of, c_Waiting.cls, n_Waiting_frame, n_Waiting_since, c_Queue.cls, n_Queue_weight, n_Queue_line, c_End.cls, n_End_now, n_End_queues, n_End_each, n_End_life, n_End_pace, n_End_most_may_go, n_End_may_go, n_End_me, n_End_turns, n_End_is_out, n_End_groups, n_End_hears_all, n_End_counts, c_Desk.cls, n_Desk_calls, n_Desk_place, n_Desk_end, i_WRONG.gi X G, i_NOT_THERE.gi X G, i_NO_FRAME.gi X G, i_NOT_NOW.gi X G, i_FULL.gi X G, i_TOO_LONG.gi X G, i_ADDRESS_LENGTH.gi X G, ⟨PySem.W.mg_of X G a_EVERYBODY, t_EVERYBODY⟩, i_HIGHEST_KIND.gi X G, i_LONGEST_BODY.gi X G, i_HEAD_LENGTH.gi X G, i_CHECK_LENGTH.gi X G, i_SHORTEST_FRAME.gi X G, i_LONGEST_FRAME.gi X G, i_ALL_ONES.gi X G, i_POLYNOMIAL.gi X G, i_SHARE.gi X G, i_NOTHING_WAITS.gi X G, i_HANDED_OUT.gi X G, i_LATER.gi X G, i_NOT_FOR_HERE.gi X G, i_FOR_HERE.gi X G, i_TIME_LIMIT.gi X G, i_MOST_QUEUES.gi X G, i_MOST_EACH.gi X G, i_LONGEST_LIFE.gi X G, i_HIGHEST_RATE.gi X G, i_LEAST_BURST.gi X G, i_MOST_BURST.gi X G, i_MOST_WEIGHT.gi X G, i_MOST_GROUPS.gi X G, i_THOUSANDTHS.gi X G, i_OPEN.gi X G, i_WEIGHT.gi X G, i_PUT.gi X G, i_NEXT.gi X G, i_WENT.gi X G, i_CAME.gi X G, i_JOIN.gi X G, i_LEAVE.gi X G, i_HEAR.gi X G, i_WAITS.gi X G, i_DROP.gi X G, i_COUNTS.gi X G, i_MAKE.gi X G, i_READ.gi X G, ⟨PySem.W.mg_of X G a_FORMS, t_FORMS⟩, t_FORMS_1, t_FORMS_2, t_FORMS_3, t_FORMS_4, t_FORMS_5, t_FORMS_6, t_FORMS_7, t_FORMS_8, t_FORMS_9, t_FORMS_10, t_FORMS_11, t_FORMS_12, t_FORMS_13, t_FORMS_14, t_FORMS_15, none_mk X G b_any, none_mk X G b_len, none_mk X G b_list, none_mk X G b_min, none_mk X G b_range, none_mk X G b_sum, none_mk X G b_tuple⟩
  have u_Counts_init : ∀ base : Heap, K.In base → base.Ns mainGlobals mg → MakeOk prog w K mg base 1 "Counts" C.Counts ps_Counts_init (sp_Counts_init K C) := by
    intro base KB GB
    obtain ⟨f, fd, M, F⟩ := m_Counts_init
    exact ⟨f, fd, ok_Counts_init F T , ⟨c_Counts.mks, M.at_, M.fn, c_Counts.kc⟩, PySem.W.mg_of X G c_Counts.at_, F.binds (ps := ps_Counts_init) fun _ _ _ _ _ _ us hl => match us, hl with | [_], _ => rfl⟩
  have u_Counts_in_order : ∀ base : Heap, K.In base → base.Ns mainGlobals mg → MethOk prog w K mg base 1 C.Counts "in_order" ps_Counts_in_order (sp_Counts_in_order K C) := by
    intro base KB GB
    obtain ⟨f, fd, M, F⟩ := m_Counts_in_order
    exact ⟨f, fd, ok_Counts_in_order F T , M, F.binds (ps := ps_Counts_in_order) fun _ _ _ _ _ _ us hl => match us, hl with | [_], _ => rfl⟩
  have u_is_address : ∀ base : Heap, K.In base → base.Ns mainGlobals mg → DefOk prog w K mg base 1 "is_address" ps_is_address (sp_is_address K C) := by
    intro base KB GB
    obtain ⟨f, fd, a, F⟩ := d_is_address
    exact ⟨f, fd, ok_is_address F T , PySem.W.mg_of X G a, F.kp, F.binds (ps := ps_is_address) fun _ _ _ _ _ _ us hl => match us, hl with | [_], _ => rfl⟩
  have u_is_everybody : ∀ base : Heap, K.In base → base.Ns mainGlobals mg → DefOk prog w K mg base 1 "is_everybody" ps_is_everybody (sp_is_everybody K C) := by
    intro base KB GB
    obtain ⟨f, fd, a, F⟩ := d_is_everybody
    exact ⟨f, fd, ok_is_everybody F T , PySem.W.mg_of X G a, F.kp, F.binds (ps := ps_is_everybody) fun _ _ _ _ _ _ us hl => match us, hl with | [_], _ => rfl⟩
  have u_is_kind : ∀ base : Heap, K.In base → base.Ns mainGlobals mg → DefOk prog w K mg base 1 "is_kind" ps_is_kind (sp_is_kind K C) := by
    intro base KB GB
    obtain ⟨f, fd, a, F⟩ := d_is_kind
    exact ⟨f, fd, ok_is_kind F T , PySem.W.mg_of X G a, F.kp, F.binds (ps := ps_is_kind) fun _ _ _ _ _ _ us hl => match us, hl with | [_], _ => rfl⟩
  have u_bytes_of : ∀ base : Heap, K.In base → base.Ns mainGlobals mg → DefOk prog w K mg base 1 "bytes_of" ps_bytes_of (sp_bytes_of K C) := by
    intro base KB GB
    obtain ⟨f, fd, a, F⟩ := d_bytes_of
    exact ⟨f, fd, ok_bytes_of F T , PySem.W.mg_of X G a, F.kp, F.binds (ps := ps_bytes_of) fun _ _ _ _ _ _ us hl => match us, hl with | [_, _], _ => rfl⟩
  have u_number_of : ∀ base : Heap, K.In base → base.Ns mainGlobals mg → DefOk prog w K mg base 1 "number_of" ps_number_of (sp_number_of K C) := by
    intro base KB GB
    obtain ⟨f, fd, a, F⟩ := d_number_of
    exact ⟨f, fd, ok_number_of F T , PySem.W.mg_of X G a, F.kp, F.binds (ps := ps_number_of) fun _ _ _ _ _ _ us hl => match us, hl with | [_], _ => rfl⟩
  have u_crc32c : ∀ base : Heap, K.In base → base.Ns mainGlobals mg → DefOk prog w K mg base 1 "crc32c" ps_crc32c (sp_crc32c K C) := by
    intro base KB GB
    obtain ⟨f, fd, a, F⟩ := d_crc32c
    exact ⟨f, fd, ok_crc32c F T , PySem.W.mg_of X G a, F.kp, F.binds (ps := ps_crc32c) fun _ _ _ _ _ _ us hl => match us, hl with | [_], _ => rfl⟩
  have u_refusal_of : ∀ base : Heap, K.In base → base.Ns mainGlobals mg → DefOk prog w K mg base 2 "refusal_of" ps_refusal_of (sp_refusal_of K C) := by
    intro base KB GB
    obtain ⟨f, fd, a, F⟩ := d_refusal_of
    exact ⟨f, fd, ok_refusal_of F T (u_is_address base KB GB) (u_is_kind base KB GB), PySem.W.mg_of X G a, F.kp, F.binds (ps := ps_refusal_of) fun _ _ _ _ _ _ us hl => match us, hl with | [_, _, _, _], _ => rfl⟩
  have u_make_frame : ∀ base : Heap, K.In base → base.Ns mainGlobals mg → DefOk prog w K mg base 2 "make_frame" ps_make_frame (sp_make_frame K C) := by
    intro base KB GB
    obtain ⟨f, fd, a, F⟩ := d_make_frame
    exact ⟨f, fd, ok_make_frame F T (u_bytes_of base KB GB) (u_crc32c base KB GB), PySem.W.mg_of X G a, F.kp, F.binds (ps := ps_make_frame) fun _ _ _ _ _ _ us hl => match us, hl with | [_, _, _, _], _ => rfl⟩
  have u_is_frame : ∀ base : Heap, K.In base → base.Ns mainGlobals mg → DefOk prog w K mg base 2 "is_frame" ps_is_frame (sp_is_frame K C) := by
    intro base KB GB
    obtain ⟨f, fd, a, F⟩ := d_is_frame
    exact ⟨f, fd, ok_is_frame F T (u_number_of base KB GB) (u_crc32c base KB GB), PySem.W.mg_of X G a, F.kp, F.binds (ps := ps_is_frame) fun _ _ _ _ _ _ us hl => match us, hl with | [_], _ => rfl⟩
  have u_to_of : ∀ base : Heap, K.In base → base.Ns mainGlobals mg → DefOk prog w K mg base 1 "to_of" ps_to_of (sp_to_of K C) := by
    intro base KB GB
    obtain ⟨f, fd, a, F⟩ := d_to_of
    exact ⟨f, fd, ok_to_of F T , PySem.W.mg_of X G a, F.kp, F.binds (ps := ps_to_of) fun _ _ _ _ _ _ us hl => match us, hl with | [_], _ => rfl⟩
  have u_sender_of : ∀ base : Heap, K.In base → base.Ns mainGlobals mg → DefOk prog w K mg base 1 "sender_of" ps_sender_of (sp_sender_of K C) := by
    intro base KB GB
    obtain ⟨f, fd, a, F⟩ := d_sender_of
    exact ⟨f, fd, ok_sender_of F T , PySem.W.mg_of X G a, F.kp, F.binds (ps := ps_sender_of) fun _ _ _ _ _ _ us hl => match us, hl with | [_], _ => rfl⟩
  have u_kind_of : ∀ base : Heap, K.In base → base.Ns mainGlobals mg → DefOk prog w K mg base 2 "kind_of" ps_kind_of (sp_kind_of K C) := by
    intro base KB GB
    obtain ⟨f, fd, a, F⟩ := d_kind_of
    exact ⟨f, fd, ok_kind_of F T (u_number_of base KB GB), PySem.W.mg_of X G a, F.kp, F.binds (ps := ps_kind_of) fun _ _ _ _ _ _ us hl => match us, hl with | [_], _ => rfl⟩
  have u_body_of : ∀ base : Heap, K.In base → base.Ns mainGlobals mg → DefOk prog w K mg base 1 "body_of" ps_body_of (sp_body_of K C) := by
    intro base KB GB
    obtain ⟨f, fd, a, F⟩ := d_body_of
    exact ⟨f, fd, ok_body_of F T , PySem.W.mg_of X G a, F.kp, F.binds (ps := ps_body_of) fun _ _ _ _ _ _ us hl => match us, hl with | [_], _ => rfl⟩
  have u_answer_make : ∀ base : Heap, K.In base → base.Ns mainGlobals mg → DefOk prog w K mg base 3 "answer_make" ps_answer_make (sp_answer_make K C) := by
    intro base KB GB
    obtain ⟨f, fd, a, F⟩ := d_answer_make
    exact ⟨f, fd, ok_answer_make F T (u_refusal_of base KB GB) (u_make_frame base KB GB), PySem.W.mg_of X G a, F.kp, F.binds (ps := ps_answer_make) fun _ _ _ _ _ _ us hl => match us, hl with | [_, _, _, _], _ => rfl⟩
  have u_answer_read : ∀ base : Heap, K.In base → base.Ns mainGlobals mg → DefOk prog w K mg base 3 "answer_read" ps_answer_read (sp_answer_read K C) := by
    intro base KB GB
    obtain ⟨f, fd, a, F⟩ := d_answer_read
    exact ⟨f, fd, ok_answer_read F T (u_is_frame base KB GB) (u_kind_of base KB GB) (u_to_of base KB GB) (u_sender_of base KB GB) (u_body_of base KB GB), PySem.W.mg_of X G a, F.kp, F.binds (ps := ps_answer_read) fun _ _ _ _ _ _ us hl => match us, hl with | [_], _ => rfl⟩
  have u_Turns_init : ∀ base : Heap, K.In base → base.Ns mainGlobals mg → MakeOk prog w K mg base 1 "Turns" C.Turns ps_Turns_init (sp_Turns_init K C) := by
    intro base KB GB
    obtain ⟨f, fd, M, F⟩ := m_Turns_init
    exact ⟨f, fd, ok_Turns_init F T , ⟨c_Turns.mks, M.at_, M.fn, c_Turns.kc⟩, PySem.W.mg_of X G c_Turns.at_, F.binds (ps := ps_Turns_init) fun _ _ _ _ _ _ us hl => match us, hl with | [_, _, _, _], _ => rfl⟩
  have u_Turns_trial : ∀ base : Heap, K.In base → base.Ns mainGlobals mg → MethOk prog w K mg base 3 C.Turns "trial" ps_Turns_trial (sp_Turns_trial K C) := by
    intro base KB GB
    obtain ⟨f, fd, M, F⟩ := m_Turns_trial
    exact ⟨f, fd, ok_Turns_trial F T (u_Turns_init base KB GB), M, F.binds (ps := ps_Turns_trial) fun _ _ _ _ _ _ us hl => match us, hl with | [_], _ => rfl⟩
  have u_Turns_try_turn : ∀ base : Heap, K.In base → base.Ns mainGlobals mg → MethOk prog w K mg base 1 C.Turns "try_turn" ps_Turns_try_turn (sp_Turns_try_turn K C) := by
    intro base KB GB
    obtain ⟨f, fd, M, F⟩ := m_Turns_try_turn
    exact ⟨f, fd, ok_Turns_try_turn F T , M, F.binds (ps := ps_Turns_try_turn) fun _ _ _ _ _ _ us hl => match us, hl with | [_, _], _ => rfl⟩
  have u_Turns_find_turn : ∀ base : Heap, K.In base → base.Ns mainGlobals mg → MethOk prog w K mg base 2 C.Turns "find_turn" ps_Turns_find_turn (sp_Turns_find_turn K C) := by
    intro base KB GB
    obtain ⟨f, fd, M, F⟩ := m_Turns_find_turn
    exact ⟨f, fd, ok_Turns_find_turn F T (u_Turns_try_turn base KB GB), M, F.binds (ps := ps_Turns_find_turn) fun _ _ _ _ _ _ us hl => match us, hl with | [_, _], _ => rfl⟩
  have u_Turns_spend : ∀ base : Heap, K.In base → base.Ns mainGlobals mg → MethOk prog w K mg base 1 C.Turns "spend" ps_Turns_spend (sp_Turns_spend K C) := by
    intro base KB GB
    obtain ⟨f, fd, M, F⟩ := m_Turns_spend
    exact ⟨f, fd, ok_Turns_spend F T , M, F.binds (ps := ps_Turns_spend) fun _ _ _ _ _ _ us hl => match us, hl with | [_, _], _ => rfl⟩
  have u_Waiting_init : ∀ base : Heap, K.In base → base.Ns mainGlobals mg → MakeOk prog w K mg base 1 "Waiting" C.Waiting ps_Waiting_init (sp_Waiting_init K C) := by
    intro base KB GB
    obtain ⟨f, fd, M, F⟩ := m_Waiting_init
    exact ⟨f, fd, ok_Waiting_init F T , ⟨c_Waiting.mks, M.at_, M.fn, c_Waiting.kc⟩, PySem.W.mg_of X G c_Waiting.at_, F.binds (ps := ps_Waiting_init) fun _ _ _ _ _ _ us hl => match us, hl with | [_, _, _], _ => rfl⟩
  have u_Queue_init : ∀ base : Heap, K.In base → base.Ns mainGlobals mg → MakeOk prog w K mg base 1 "Queue" C.Queue ps_Queue_init (sp_Queue_init K C) := by
    intro base KB GB
    obtain ⟨f, fd, M, F⟩ := m_Queue_init
    exact ⟨f, fd, ok_Queue_init F T , ⟨c_Queue.mks, M.at_, M.fn, c_Queue.kc⟩, PySem.W.mg_of X G c_Queue.at_, F.binds (ps := ps_Queue_init) fun _ _ _ _ _ _ us hl => match us, hl with | [_], _ => rfl⟩
  have u_End_init : ∀ base : Heap, K.In base → base.Ns mainGlobals mg → MakeOk prog w K mg base 3 "End" C.End ps_End_init (sp_End_init K C) := by
    intro base KB GB
    obtain ⟨f, fd, M, F⟩ := m_End_init
    exact ⟨f, fd, ok_End_init F T (u_Queue_init base KB GB) (u_Turns_init base KB GB) (u_Counts_init base KB GB), ⟨c_End.mks, M.at_, M.fn, c_End.kc⟩, PySem.W.mg_of X G c_End.at_, F.binds (ps := ps_End_init) fun _ _ _ _ _ _ us hl => match us, hl with | [_, _, _, _, _, _, _, _], _ => rfl⟩
  have u_End_has_queue : ∀ base : Heap, K.In base → base.Ns mainGlobals mg → MethOk prog w K mg base 1 C.End "has_queue" ps_End_has_queue (sp_End_has_queue K C) := by
    intro base KB GB
    obtain ⟨f, fd, M, F⟩ := m_End_has_queue
    exact ⟨f, fd, ok_End_has_queue F T , M, F.binds (ps := ps_End_has_queue) fun _ _ _ _ _ _ us hl => match us, hl with | [_, _], _ => rfl⟩
  have u_End_set_weight : ∀ base : Heap, K.In base → base.Ns mainGlobals mg → MethOk prog w K mg base 2 C.End "set_weight" ps_End_set_weight (sp_End_set_weight K C) := by
    intro base KB GB
    obtain ⟨f, fd, M, F⟩ := m_End_set_weight
    exact ⟨f, fd, ok_End_set_weight F T (u_End_has_queue base KB GB), M, F.binds (ps := ps_End_set_weight) fun _ _ _ _ _ _ us hl => match us, hl with | [_, _, _], _ => rfl⟩
  have u_End_may_be_now : ∀ base : Heap, K.In base → base.Ns mainGlobals mg → MethOk prog w K mg base 1 C.End "may_be_now" ps_End_may_be_now (sp_End_may_be_now K C) := by
    intro base KB GB
    obtain ⟨f, fd, M, F⟩ := m_End_may_be_now
    exact ⟨f, fd, ok_End_may_be_now F T , M, F.binds (ps := ps_End_may_be_now) fun _ _ _ _ _ _ us hl => match us, hl with | [_, _], _ => rfl⟩
  have u_End_how_many_out : ∀ base : Heap, K.In base → base.Ns mainGlobals mg → MethOk prog w K mg base 1 C.End "how_many_out" ps_End_how_many_out (sp_End_how_many_out K C) := by
    intro base KB GB
    obtain ⟨f, fd, M, F⟩ := m_End_how_many_out
    exact ⟨f, fd, ok_End_how_many_out F T , M, F.binds (ps := ps_End_how_many_out) fun _ _ _ _ _ _ us hl => match us, hl with | [_, _], _ => rfl⟩
  have u_End_not_out : ∀ base : Heap, K.In base → base.Ns mainGlobals mg → MethOk prog w K mg base 2 C.End "not_out" ps_End_not_out (sp_End_not_out K C) := by
    intro base KB GB
    obtain ⟨f, fd, M, F⟩ := m_End_not_out
    exact ⟨f, fd, ok_End_not_out F T (u_End_how_many_out base KB GB), M, F.binds (ps := ps_End_not_out) fun _ _ _ _ _ _ us hl => match us, hl with | [_, _], _ => rfl⟩
  have u_End_keep_only : ∀ base : Heap, K.In base → base.Ns mainGlobals mg → MethOk prog w K mg base 2 C.End "keep_only" ps_End_keep_only (sp_End_keep_only K C) := by
    intro base KB GB
    obtain ⟨f, fd, M, F⟩ := m_End_keep_only
    exact ⟨f, fd, ok_End_keep_only F T (u_End_how_many_out base KB GB), M, F.binds (ps := ps_End_keep_only) fun _ _ _ _ _ _ us hl => match us, hl with | [_, _, _], _ => rfl⟩
  have u_End_remove_old : ∀ base : Heap, K.In base → base.Ns mainGlobals mg → MethOk prog w K mg base 3 C.End "remove_old" ps_End_remove_old (sp_End_remove_old K C) := by
    intro base KB GB
    obtain ⟨f, fd, M, F⟩ := m_End_remove_old
    exact ⟨f, fd, ok_End_remove_old F T (u_End_not_out base KB GB) (u_End_keep_only base KB GB), M, F.binds (ps := ps_End_remove_old) fun _ _ _ _ _ _ us hl => match us, hl with | [_, _], _ => rfl⟩
  have u_End_pass_time : ∀ base : Heap, K.In base → base.Ns mainGlobals mg → MethOk prog w K mg base 4 C.End "pass_time" ps_End_pass_time (sp_End_pass_time K C) := by
    intro base KB GB
    obtain ⟨f, fd, M, F⟩ := m_End_pass_time
    exact ⟨f, fd, ok_End_pass_time F T (u_End_remove_old base KB GB), M, F.binds (ps := ps_End_pass_time) fun _ _ _ _ _ _ us hl => match us, hl with | [_, _], _ => rfl⟩
  have u_End_put : ∀ base : Heap, K.In base → base.Ns mainGlobals mg → MethOk prog w K mg base 5 C.End "put" ps_End_put (sp_End_put K C) := by
    intro base KB GB
    obtain ⟨f, fd, M, F⟩ := m_End_put
    exact ⟨f, fd, ok_End_put F T (u_End_has_queue base KB GB) (u_End_may_be_now base KB GB) (u_refusal_of base KB GB) (u_End_pass_time base KB GB) (u_make_frame base KB GB) (u_Waiting_init base KB GB), M, F.binds (ps := ps_End_put) fun _ _ _ _ _ _ us hl => match us, hl with | [_, _, _, _, _, _], _ => rfl⟩
  have u_End_has_frames : ∀ base : Heap, K.In base → base.Ns mainGlobals mg → MethOk prog w K mg base 1 C.End "has_frames" ps_End_has_frames (sp_End_has_frames K C) := by
    intro base KB GB
    obtain ⟨f, fd, M, F⟩ := m_End_has_frames
    exact ⟨f, fd, ok_End_has_frames F T , M, F.binds (ps := ps_End_has_frames) fun _ _ _ _ _ _ us hl => match us, hl with | [_], _ => rfl⟩
  have u_End_time_to_go : ∀ base : Heap, K.In base → base.Ns mainGlobals mg → MethOk prog w K mg base 1 C.End "time_to_go" ps_End_time_to_go (sp_End_time_to_go K C) := by
    intro base KB GB
    obtain ⟨f, fd, M, F⟩ := m_End_time_to_go
    exact ⟨f, fd, ok_End_time_to_go F T , M, F.binds (ps := ps_End_time_to_go) fun _ _ _ _ _ _ us hl => match us, hl with | [_, _], _ => rfl⟩
  have u_End_hand_out : ∀ base : Heap, K.In base → base.Ns mainGlobals mg → MethOk prog w K mg base 5 C.End "hand_out" ps_End_hand_out (sp_End_hand_out K C) := by
    intro base KB GB
    obtain ⟨f, fd, M, F⟩ := m_End_hand_out
    exact ⟨f, fd, ok_End_hand_out F T (u_End_may_be_now base KB GB) (u_End_pass_time base KB GB) (u_End_has_frames base KB GB) (u_Turns_find_turn base KB GB) (u_End_time_to_go base KB GB), M, F.binds (ps := ps_End_hand_out) fun _ _ _ _ _ _ us hl => match us, hl with | [_, _], _ => rfl⟩
  have u_End_send_first : ∀ base : Heap, K.In base → base.Ns mainGlobals mg → MethOk prog w K mg base 2 C.End "send_first" ps_End_send_first (sp_End_send_first K C) := by
    intro base KB GB
    obtain ⟨f, fd, M, F⟩ := m_End_send_first
    exact ⟨f, fd, ok_End_send_first F T (u_Turns_spend base KB GB), M, F.binds (ps := ps_End_send_first) fun _ _ _ _ _ _ us hl => match us, hl with | [_], _ => rfl⟩
  have u_End_went : ∀ base : Heap, K.In base → base.Ns mainGlobals mg → MethOk prog w K mg base 5 C.End "went" ps_End_went (sp_End_went K C) := by
    intro base KB GB
    obtain ⟨f, fd, M, F⟩ := m_End_went
    exact ⟨f, fd, ok_End_went F T (u_End_may_be_now base KB GB) (u_End_pass_time base KB GB) (u_End_send_first base KB GB), M, F.binds (ps := ps_End_went) fun _ _ _ _ _ _ us hl => match us, hl with | [_, _, _], _ => rfl⟩
  have u_End_hears : ∀ base : Heap, K.In base → base.Ns mainGlobals mg → MethOk prog w K mg base 2 C.End "hears" ps_End_hears (sp_End_hears K C) := by
    intro base KB GB
    obtain ⟨f, fd, M, F⟩ := m_End_hears
    exact ⟨f, fd, ok_End_hears F T (u_is_everybody base KB GB), M, F.binds (ps := ps_End_hears) fun _ _ _ _ _ _ us hl => match us, hl with | [_, _], _ => rfl⟩
  have u_End_came : ∀ base : Heap, K.In base → base.Ns mainGlobals mg → MethOk prog w K mg base 3 C.End "came" ps_End_came (sp_End_came K C) := by
    intro base KB GB
    obtain ⟨f, fd, M, F⟩ := m_End_came
    exact ⟨f, fd, ok_End_came F T (u_is_frame base KB GB) (u_to_of base KB GB) (u_End_hears base KB GB) (u_sender_of base KB GB) (u_kind_of base KB GB) (u_body_of base KB GB), M, F.binds (ps := ps_End_came) fun _ _ _ _ _ _ us hl => match us, hl with | [_, _], _ => rfl⟩
  have u_End_join_group : ∀ base : Heap, K.In base → base.Ns mainGlobals mg → MethOk prog w K mg base 2 C.End "join_group" ps_End_join_group (sp_End_join_group K C) := by
    intro base KB GB
    obtain ⟨f, fd, M, F⟩ := m_End_join_group
    exact ⟨f, fd, ok_End_join_group F T (u_is_address base KB GB), M, F.binds (ps := ps_End_join_group) fun _ _ _ _ _ _ us hl => match us, hl with | [_, _], _ => rfl⟩
  have u_End_leave_group : ∀ base : Heap, K.In base → base.Ns mainGlobals mg → MethOk prog w K mg base 2 C.End "leave_group" ps_End_leave_group (sp_End_leave_group K C) := by
    intro base KB GB
    obtain ⟨f, fd, M, F⟩ := m_End_leave_group
    exact ⟨f, fd, ok_End_leave_group F T (u_is_address base KB GB), M, F.binds (ps := ps_End_leave_group) fun _ _ _ _ _ _ us hl => match us, hl with | [_, _], _ => rfl⟩
  have u_End_hear : ∀ base : Heap, K.In base → base.Ns mainGlobals mg → MethOk prog w K mg base 1 C.End "hear" ps_End_hear (sp_End_hear K C) := by
    intro base KB GB
    obtain ⟨f, fd, M, F⟩ := m_End_hear
    exact ⟨f, fd, ok_End_hear F T , M, F.binds (ps := ps_End_hear) fun _ _ _ _ _ _ us hl => match us, hl with | [_, _], _ => rfl⟩
  have u_End_waits : ∀ base : Heap, K.In base → base.Ns mainGlobals mg → MethOk prog w K mg base 5 C.End "waits" ps_End_waits (sp_End_waits K C) := by
    intro base KB GB
    obtain ⟨f, fd, M, F⟩ := m_End_waits
    exact ⟨f, fd, ok_End_waits F T (u_End_has_queue base KB GB) (u_End_may_be_now base KB GB) (u_End_pass_time base KB GB), M, F.binds (ps := ps_End_waits) fun _ _ _ _ _ _ us hl => match us, hl with | [_, _, _], _ => rfl⟩
  have u_End_drop : ∀ base : Heap, K.In base → base.Ns mainGlobals mg → MethOk prog w K mg base 3 C.End "drop" ps_End_drop (sp_End_drop K C) := by
    intro base KB GB
    obtain ⟨f, fd, M, F⟩ := m_End_drop
    exact ⟨f, fd, ok_End_drop F T (u_End_has_queue base KB GB) (u_End_keep_only base KB GB), M, F.binds (ps := ps_End_drop) fun _ _ _ _ _ _ us hl => match us, hl with | [_, _], _ => rfl⟩
  have u_End_times_to_go : ∀ base : Heap, K.In base → base.Ns mainGlobals mg → MethOk prog w K mg base 4 C.End "times_to_go" ps_End_times_to_go (sp_End_times_to_go K C) := by
    intro base KB GB
    obtain ⟨f, fd, M, F⟩ := m_End_times_to_go
    exact ⟨f, fd, ok_End_times_to_go F T (u_End_has_frames base KB GB) (u_Turns_trial base KB GB) (u_Turns_find_turn base KB GB) (u_End_time_to_go base KB GB), M, F.binds (ps := ps_End_times_to_go) fun _ _ _ _ _ _ us hl => match us, hl with | [_], _ => rfl⟩
  have u_End_times_of_age : ∀ base : Heap, K.In base → base.Ns mainGlobals mg → MethOk prog w K mg base 3 C.End "times_of_age" ps_End_times_of_age (sp_End_times_of_age K C) := by
    intro base KB GB
    obtain ⟨f, fd, M, F⟩ := m_End_times_of_age
    exact ⟨f, fd, ok_End_times_of_age F T (u_End_not_out base KB GB), M, F.binds (ps := ps_End_times_of_age) fun _ _ _ _ _ _ us hl => match us, hl with | [_], _ => rfl⟩
  have u_End_due : ∀ base : Heap, K.In base → base.Ns mainGlobals mg → MethOk prog w K mg base 5 C.End "due" ps_End_due (sp_End_due K C) := by
    intro base KB GB
    obtain ⟨f, fd, M, F⟩ := m_End_due
    exact ⟨f, fd, ok_End_due F T (u_End_may_be_now base KB GB) (u_End_pass_time base KB GB) (u_End_times_to_go base KB GB) (u_End_times_of_age base KB GB), M, F.binds (ps := ps_End_due) fun _ _ _ _ _ _ us hl => match us, hl with | [_, _], _ => rfl⟩
  have u_open_end : ∀ base : Heap, K.In base → base.Ns mainGlobals mg → DefOk prog w K mg base 5 "open_end" ps_open_end (sp_open_end K C) := by
    intro base KB GB
    obtain ⟨f, fd, a, F⟩ := d_open_end
    exact ⟨f, fd, ok_open_end F T (u_is_everybody base KB GB) (u_is_address base KB GB) (u_End_init base KB GB), PySem.W.mg_of X G a, F.kp, F.binds (ps := ps_open_end) fun _ _ _ _ _ _ us hl => match us, hl with | [_, _, _, _, _, _, _], _ => rfl⟩
  have u_Desk_init : ∀ base : Heap, K.In base → base.Ns mainGlobals mg → MakeOk prog w K mg base 1 "Desk" C.Desk ps_Desk_init (sp_Desk_init K C) := by
    intro base KB GB
    obtain ⟨f, fd, M, F⟩ := m_Desk_init
    exact ⟨f, fd, ok_Desk_init F T , ⟨c_Desk.mks, M.at_, M.fn, c_Desk.kc⟩, PySem.W.mg_of X G c_Desk.at_, F.binds (ps := ps_Desk_init) fun _ _ _ _ _ _ us hl => match us, hl with | [_, _], _ => rfl⟩
  have u_Desk_is_done : ∀ base : Heap, K.In base → base.Ns mainGlobals mg → MethOk prog w K mg base 1 C.Desk "is_done" ps_Desk_is_done (sp_Desk_is_done K C) := by
    intro base KB GB
    obtain ⟨f, fd, M, F⟩ := m_Desk_is_done
    exact ⟨f, fd, ok_Desk_is_done F T , M, F.binds (ps := ps_Desk_is_done) fun _ _ _ _ _ _ us hl => match us, hl with | [_], _ => rfl⟩
  have u_Desk_take_number : ∀ base : Heap, K.In base → base.Ns mainGlobals mg → MethOk prog w K mg base 1 C.Desk "take_number" ps_Desk_take_number (sp_Desk_take_number K C) := by
    intro base KB GB
    obtain ⟨f, fd, M, F⟩ := m_Desk_take_number
    exact ⟨f, fd, ok_Desk_take_number F T , M, F.binds (ps := ps_Desk_take_number) fun _ _ _ _ _ _ us hl => match us, hl with | [_], _ => rfl⟩
  have u_Desk_take_row : ∀ base : Heap, K.In base → base.Ns mainGlobals mg → MethOk prog w K mg base 2 C.Desk "take_row" ps_Desk_take_row (sp_Desk_take_row K C) := by
    intro base KB GB
    obtain ⟨f, fd, M, F⟩ := m_Desk_take_row
    exact ⟨f, fd, ok_Desk_take_row F T (u_Desk_take_number base KB GB), M, F.binds (ps := ps_Desk_take_row) fun _ _ _ _ _ _ us hl => match us, hl with | [_], _ => rfl⟩
  have u_Desk_take_given : ∀ base : Heap, K.In base → base.Ns mainGlobals mg → MethOk prog w K mg base 3 C.Desk "take_given" ps_Desk_take_given (sp_Desk_take_given K C) := by
    intro base KB GB
    obtain ⟨f, fd, M, F⟩ := m_Desk_take_given
    exact ⟨f, fd, ok_Desk_take_given F T (u_Desk_take_number base KB GB) (u_Desk_take_row base KB GB), M, F.binds (ps := ps_Desk_take_given) fun _ _ _ _ _ _ us hl => match us, hl with | [_, _], _ => rfl⟩
  have u_Desk_answer_opening : ∀ base : Heap, K.In base → base.Ns mainGlobals mg → MethOk prog w K mg base 6 C.Desk "answer_opening" ps_Desk_answer_opening (sp_Desk_answer_opening K C) := by
    intro base KB GB
    obtain ⟨f, fd, M, F⟩ := m_Desk_answer_opening
    exact ⟨f, fd, ok_Desk_answer_opening F T (u_open_end base KB GB), M, F.binds (ps := ps_Desk_answer_opening) fun _ _ _ _ _ _ us hl => match us, hl with | [_, _], _ => rfl⟩
  have u_Desk_answer_counts : ∀ base : Heap, K.In base → base.Ns mainGlobals mg → MethOk prog w K mg base 3 C.Desk "answer_counts" ps_Desk_answer_counts (sp_Desk_answer_counts K C) := by
    intro base KB GB
    obtain ⟨f, fd, M, F⟩ := m_Desk_answer_counts
    exact ⟨f, fd, ok_Desk_answer_counts F T (u_Counts_init base KB GB) (u_Counts_in_order base KB GB), M, F.binds (ps := ps_Desk_answer_counts) fun _ _ _ _ _ _ us hl => match us, hl with | [_], _ => rfl⟩
  have u_answer_at : ∀ base : Heap, K.In base → base.Ns mainGlobals mg → DefOk prog w K mg base 6 "answer_at" ps_answer_at (sp_answer_at K C) := by
    intro base KB GB
    obtain ⟨f, fd, a, F⟩ := d_answer_at
    exact ⟨f, fd, ok_answer_at F T (u_End_set_weight base KB GB) (u_End_put base KB GB) (u_End_hand_out base KB GB) (u_End_went base KB GB) (u_End_came base KB GB) (u_End_join_group base KB GB) (u_End_leave_group base KB GB) (u_End_hear base KB GB) (u_End_waits base KB GB) (u_End_drop base KB GB) (u_End_due base KB GB), PySem.W.mg_of X G a, F.kp, F.binds (ps := ps_answer_at) fun _ _ _ _ _ _ us hl => match us, hl with | [_, _, _], _ => rfl⟩
  have u_Desk_answer_call : ∀ base : Heap, K.In base → base.Ns mainGlobals mg → MethOk prog w K mg base 7 C.Desk "answer_call" ps_Desk_answer_call (sp_Desk_answer_call K C) := by
    intro base KB GB
    obtain ⟨f, fd, M, F⟩ := m_Desk_answer_call
    exact ⟨f, fd, ok_Desk_answer_call F T (u_Desk_take_number base KB GB) (u_Desk_take_given base KB GB) (u_Desk_answer_opening base KB GB) (u_Desk_answer_counts base KB GB) (u_answer_make base KB GB) (u_answer_read base KB GB) (u_answer_at base KB GB), M, F.binds (ps := ps_Desk_answer_call) fun _ _ _ _ _ _ us hl => match us, hl with | [_], _ => rfl⟩
  obtain ⟨f, fd, a, F⟩ := d_answers
  have e := hfa.symm.trans (PySem.W.mg_of X G a)
  cases e
  obtain ⟨oc, od, kV, doc, pm, an, cdv, ct, osl, rfl, lk, hcd⟩ := id F.ex
  exact ⟨_, fun s v => .of_eq rfl, fun base KB GB => ok_answers F T (u_Desk_init base KB GB) (u_Desk_is_done base KB GB) (u_Desk_answer_call base KB GB)⟩
theorem all_at {prog : Program} {w : World} {K : PySem.W.Frag} {h : Heap} {mg : Str → Option Value} {fa : Addr} {x_Counts x_Turns x_Waiting x_Queue x_End x_Desk x_EVERYBODY x_FORMS x_FORMS_1 x_FORMS_2 x_FORMS_3 x_FORMS_4 x_FORMS_5 x_FORMS_6 x_FORMS_7 x_FORMS_8 x_FORMS_9 x_FORMS_10 x_FORMS_11 x_FORMS_12 x_FORMS_13 x_FORMS_14 x_FORMS_15 : Addr} (X : K.In h) (G : h.Ns mainGlobals mg) (hfa : mg "answers" = some (.ref fa))
    (c_Counts : ClsF K "Counts" x_Counts)
    (n_Counts_sent_frames : PySem.W.findIn K (.ref x_Counts) "sent_frames" = some none)
    (n_Counts_sent_bytes : PySem.W.findIn K (.ref x_Counts) "sent_bytes" = some none)
    (n_Counts_heard_frames : PySem.W.findIn K (.ref x_Counts) "heard_frames" = some none)
    (n_Counts_heard_bytes : PySem.W.findIn K (.ref x_Counts) "heard_bytes" = some none)
    (n_Counts_no_frames : PySem.W.findIn K (.ref x_Counts) "no_frames" = some none)
    (n_Counts_for_others : PySem.W.findIn K (.ref x_Counts) "for_others" = some none)
    (n_Counts_dropped : PySem.W.findIn K (.ref x_Counts) "dropped" = some none)
    (n_Counts_refused_full : PySem.W.findIn K (.ref x_Counts) "refused_full" = some none)
    (n_Counts_grown_old : PySem.W.findIn K (.ref x_Counts) "grown_old" = some none)
    (n_Counts_not_taken : PySem.W.findIn K (.ref x_Counts) "not_taken" = some none)
    (c_Turns : ClsF K "Turns" x_Turns)
    (n_Turns_on : PySem.W.findIn K (.ref x_Turns) "on" = some none)
    (n_Turns_has_share : PySem.W.findIn K (.ref x_Turns) "has_share" = some none)
    (n_Turns_credit_of : PySem.W.findIn K (.ref x_Turns) "credit_of" = some none)
    (c_Waiting : ClsF K "Waiting" x_Waiting)
    (n_Waiting_frame : PySem.W.findIn K (.ref x_Waiting) "frame" = some none)
    (n_Waiting_since : PySem.W.findIn K (.ref x_Waiting) "since" = some none)
    (c_Queue : ClsF K "Queue" x_Queue)
    (n_Queue_weight : PySem.W.findIn K (.ref x_Queue) "weight" = some none)
    (n_Queue_line : PySem.W.findIn K (.ref x_Queue) "line" = some none)
    (c_End : ClsF K "End" x_End)
    (n_End_now : PySem.W.findIn K (.ref x_End) "now" = some none)
    (n_End_queues : PySem.W.findIn K (.ref x_End) "queues" = some none)
    (n_End_each : PySem.W.findIn K (.ref x_End) "each" = some none)
    (n_End_life : PySem.W.findIn K (.ref x_End) "life" = some none)
    (n_End_pace : PySem.W.findIn K (.ref x_End) "pace" = some none)
    (n_End_most_may_go : PySem.W.findIn K (.ref x_End) "most_may_go" = some none)
    (n_End_may_go : PySem.W.findIn K (.ref x_End) "may_go" = some none)
    (n_End_me : PySem.W.findIn K (.ref x_End) "me" = some none)
    (n_End_turns : PySem.W.findIn K (.ref x_End) "turns" = some none)
    (n_End_is_out : PySem.W.findIn K (.ref x_End) "is_out" = some none)
    (n_End_groups : PySem.W.findIn K (.ref x_End) "groups" = some none)
    (n_End_hears_all : PySem.W.findIn K (.ref x_End) "hears_all" = some none)
    (n_End_counts : PySem.W.findIn K (.ref x_End) "counts" = some none)
    (c_Desk : ClsF K "Desk" x_Desk)
    (n_Desk_calls : PySem.W.findIn K (.ref x_Desk) "calls" = some none)
    (n_Desk_place : PySem.W.findIn K (.ref x_Desk) "place" = some none)
    (n_Desk_end : PySem.W.findIn K (.ref x_Desk) "end" = some none)
    (m_Counts_init : MethF K x_Counts "__init__" "Counts.__init__" s_Counts_init)
    (m_Counts_in_order : MethF K x_Counts "in_order" "Counts.in_order" s_Counts_in_order)
    (d_is_address : DefF K "is_address" s_is_address)
    (d_is_everybody : DefF K "is_everybody" s_is_everybody)
    (d_is_kind : DefF K "is_kind" s_is_kind)
    (d_bytes_of : DefF K "bytes_of" s_bytes_of)
    (d_number_of : DefF K "number_of" s_number_of)
    (d_crc32c : DefF K "crc32c" s_crc32c)
    (d_refusal_of : DefF K "refusal_of" s_refusal_of)
    (d_make_frame : DefF K "make_frame" s_make_frame)
    (d_is_frame : DefF K "is_frame" s_is_frame)
    (d_to_of : DefF K "to_of" s_to_of)
    (d_sender_of : DefF K "sender_of" s_sender_of)
    (d_kind_of : DefF K "kind_of" s_kind_of)
    (d_body_of : DefF K "body_of" s_body_of)
    (d_answer_make : DefF K "answer_make" s_answer_make)
    (d_answer_read : DefF K "answer_read" s_answer_read)
    (m_Turns_init : MethF K x_Turns "__init__" "Turns.__init__" s_Turns_init)
    (m_Turns_trial : MethF K x_Turns "trial" "Turns.trial" s_Turns_trial)
    (m_Turns_try_turn : MethF K x_Turns "try_turn" "Turns.try_turn" s_Turns_try_turn)
    (m_Turns_find_turn : MethF K x_Turns "find_turn" "Turns.find_turn" s_Turns_find_turn)
    (m_Turns_spend : MethF K x_Turns "spend" "Turns.spend" s_Turns_spend)
    (m_Waiting_init : MethF K x_Waiting "__init__" "Waiting.__init__" s_Waiting_init)
    (m_Queue_init : MethF K x_Queue "__init__" "Queue.__init__" s_Queue_init)
    (m_End_init : MethF K x_End "__init__" "End.__init__" s_End_init)
    (m_End_has_queue : MethF K x_End "has_queue" "End.has_queue" s_End_has_queue)
    (m_End_set_weight : MethF K x_End "set_weight" "End.set_weight" s_End_set_weight)
    (m_End_may_be_now : MethF K x_End "may_be_now" "End.may_be_now" s_End_may_be_now)
    (m_End_how_many_out : MethF K x_End "how_many_out" "End.how_many_out" s_End_how_many_out)
    (m_End_not_out : MethF K x_End "not_out" "End.not_out" s_End_not_out)
    (m_End_keep_only : MethF K x_End "keep_only" "End.keep_only" s_End_keep_only)
    (m_End_remove_old : MethF K x_End "remove_old" "End.remove_old" s_End_remove_old)
    (m_End_pass_time : MethF K x_End "pass_time" "End.pass_time" s_End_pass_time)
    (m_End_put : MethF K x_End "put" "End.put" s_End_put)
    (m_End_has_frames : MethF K x_End "has_frames" "End.has_frames" s_End_has_frames)
    (m_End_time_to_go : MethF K x_End "time_to_go" "End.time_to_go" s_End_time_to_go)
    (m_End_hand_out : MethF K x_End "hand_out" "End.hand_out" s_End_hand_out)
    (m_End_send_first : MethF K x_End "send_first" "End.send_first" s_End_send_first)
    (m_End_went : MethF K x_End "went" "End.went" s_End_went)
    (m_End_hears : MethF K x_End "hears" "End.hears" s_End_hears)
    (m_End_came : MethF K x_End "came" "End.came" s_End_came)
    (m_End_join_group : MethF K x_End "join_group" "End.join_group" s_End_join_group)
    (m_End_leave_group : MethF K x_End "leave_group" "End.leave_group" s_End_leave_group)
    (m_End_hear : MethF K x_End "hear" "End.hear" s_End_hear)
    (m_End_waits : MethF K x_End "waits" "End.waits" s_End_waits)
    (m_End_drop : MethF K x_End "drop" "End.drop" s_End_drop)
    (m_End_times_to_go : MethF K x_End "times_to_go" "End.times_to_go" s_End_times_to_go)
    (m_End_times_of_age : MethF K x_End "times_of_age" "End.times_of_age" s_End_times_of_age)
    (m_End_due : MethF K x_End "due" "End.due" s_End_due)
    (d_open_end : DefF K "open_end" s_open_end)
    (m_Desk_init : MethF K x_Desk "__init__" "Desk.__init__" s_Desk_init)
    (m_Desk_is_done : MethF K x_Desk "is_done" "Desk.is_done" s_Desk_is_done)
    (m_Desk_take_number : MethF K x_Desk "take_number" "Desk.take_number" s_Desk_take_number)
    (m_Desk_take_row : MethF K x_Desk "take_row" "Desk.take_row" s_Desk_take_row)
    (m_Desk_take_given : MethF K x_Desk "take_given" "Desk.take_given" s_Desk_take_given)
    (m_Desk_answer_opening : MethF K x_Desk "answer_opening" "Desk.answer_opening" s_Desk_answer_opening)
    (m_Desk_answer_counts : MethF K x_Desk "answer_counts" "Desk.answer_counts" s_Desk_answer_counts)
    (d_answer_at : DefF K "answer_at" s_answer_at)
    (m_Desk_answer_call : MethF K x_Desk "answer_call" "Desk.answer_call" s_Desk_answer_call)
    (d_answers : DefF K "answers" s_answers)
    (i_WRONG : IntF K "WRONG" (-1))
    (i_NOT_THERE : IntF K "NOT_THERE" (-2))
    (i_NO_FRAME : IntF K "NO_FRAME" (-3))
    (i_NOT_NOW : IntF K "NOT_NOW" (-4))
    (i_FULL : IntF K "FULL" (-5))
    (i_TOO_LONG : IntF K "TOO_LONG" (-7))
    (i_ADDRESS_LENGTH : IntF K "ADDRESS_LENGTH" (6))
    (i_HIGHEST_KIND : IntF K "HIGHEST_KIND" (65535))
    (i_LONGEST_BODY : IntF K "LONGEST_BODY" (1500))
    (i_HEAD_LENGTH : IntF K "HEAD_LENGTH" (14))
    (i_CHECK_LENGTH : IntF K "CHECK_LENGTH" (4))
    (i_SHORTEST_FRAME : IntF K "SHORTEST_FRAME" (19))
    (i_LONGEST_FRAME : IntF K "LONGEST_FRAME" (1518))
    (i_ALL_ONES : IntF K "ALL_ONES" (4294967295))
    (i_POLYNOMIAL : IntF K "POLYNOMIAL" (2197175160))
    (i_SHARE : IntF K "SHARE" (256))
    (i_NOTHING_WAITS : IntF K "NOTHING_WAITS" (0))
    (i_HANDED_OUT : IntF K "HANDED_OUT" (1))
    (i_LATER : IntF K "LATER" (2))
    (i_NOT_FOR_HERE : IntF K "NOT_FOR_HERE" (0))
    (i_FOR_HERE : IntF K "FOR_HERE" (1))
    (i_TIME_LIMIT : IntF K "TIME_LIMIT" (9223372036854775808))
    (i_MOST_QUEUES : IntF K "MOST_QUEUES" (8))
    (i_MOST_EACH : IntF K "MOST_EACH" (64))
    (i_LONGEST_LIFE : IntF K "LONGEST_LIFE" (3600000))
    (i_HIGHEST_RATE : IntF K "HIGHEST_RATE" (4294967295))
    (i_LEAST_BURST : IntF K "LEAST_BURST" (1518))
    (i_MOST_BURST : IntF K "MOST_BURST" (16777216))
    (i_MOST_WEIGHT : IntF K "MOST_WEIGHT" (64))
    (i_MOST_GROUPS : IntF K "MOST_GROUPS" (16))
    (i_THOUSANDTHS : IntF K "THOUSANDTHS" (1000))
    (i_OPEN : IntF K "OPEN" (1))
    (i_WEIGHT : IntF K "WEIGHT" (2))
    (i_PUT : IntF K "PUT" (3))
    (i_NEXT : IntF K "NEXT" (4))
    (i_WENT : IntF K "WENT" (5))
    (i_CAME : IntF K "CAME" (6))
    (i_JOIN : IntF K "JOIN" (7))
    (i_LEAVE : IntF K "LEAVE" (8))
    (i_HEAR : IntF K "HEAR" (9))
    (i_WAITS : IntF K "WAITS" (10))
    (i_DROP : IntF K "DROP" (11))
    (i_COUNTS : IntF K "COUNTS" (12))
    (i_MAKE : IntF K "MAKE" (13))
    (i_READ : IntF K "READ" (14))
    (a_EVERYBODY : PySem.W.nsIn K mainGlobals "EVERYBODY" = some (some (.ref x_EVERYBODY)))
    (t_EVERYBODY : KTup K x_EVERYBODY [255, 255, 255, 255, 255, 255])
    (a_FORMS : PySem.W.nsIn K mainGlobals "FORMS" = some (some (.ref x_FORMS)))
    (t_FORMS : KD K x_FORMS [(1, .ref x_FORMS_1), (2, .ref x_FORMS_2), (3, .ref x_FORMS_3), (4, .ref x_FORMS_4), (5, .ref x_FORMS_5), (6, .ref x_FORMS_6), (7, .ref x_FORMS_7), (8, .ref x_FORMS_8), (9, .ref x_FORMS_9), (10, .ref x_FORMS_10), (11, .ref x_FORMS_11), (12, .ref x_FORMS_12), (13, .ref x_FORMS_13), (14, .ref x_FORMS_14), (15, .ref x_FORMS_15)])
    (t_FORMS_1 : KTup K x_FORMS_1 [6, 1])
    (t_FORMS_2 : KTup K x_FORMS_2 [2, 0])
    (t_FORMS_3 : KTup K x_FORMS_3 [3, 2])
    (t_FORMS_4 : KTup K x_FORMS_4 [1, 0])
    (t_FORMS_5 : KTup K x_FORMS_5 [2, 0])
    (t_FORMS_6 : KTup K x_FORMS_6 [0, 1])
    (t_FORMS_7 : KTup K x_FORMS_7 [0, 1])
    (t_FORMS_8 : KTup K x_FORMS_8 [0, 1])
    (t_FORMS_9 : KTup K x_FORMS_9 [1, 0])
    (t_FORMS_10 : KTup K x_FORMS_10 [2, 0])
    (t_FORMS_11 : KTup K x_FORMS_11 [1, 0])
    (t_FORMS_12 : KTup K x_FORMS_12 [0, 0])
    (t_FORMS_13 : KTup K x_FORMS_13 [1, 3])
    (t_FORMS_14 : KTup K x_FORMS_14 [0, 1])
    (t_FORMS_15 : KTup K x_FORMS_15 [1, 0])
    (b_any : PySem.W.nsIn K mainGlobals "any" = some none)
    (b_len : PySem.W.nsIn K mainGlobals "len" = some none)
    (b_list : PySem.W.nsIn K mainGlobals "list" = some none)
    (b_min : PySem.W.nsIn K mainGlobals "min" = some none)
    (b_range : PySem.W.nsIn K mainGlobals "range" = some none)
    (b_sum : PySem.W.nsIn K mainGlobals "sum" = some none)
    (b_tuple : PySem.W.nsIn K mainGlobals "tuple" = some none)
    : ∃ fd : FuncData, (∀ (s : Shared) (u : Value), BindsTo s fd ⟨[u], []⟩ [("calls", u)]) ∧ ∀ base : Heap, K.In base → base.Ns mainGlobals mg → FnOk prog w K mg base CX0 8 fa fd ["calls"] (sp_ans K) :=
  all_mk (C := ⟨x_Counts, x_Turns, x_Waiting, x_Queue, x_End, x_Desk, x_EVERYBODY, x_FORMS, x_FORMS_1, x_FORMS_2, x_FORMS_3, x_FORMS_4, x_FORMS_5, x_FORMS_6, x_FORMS_7, x_FORMS_8, x_FORMS_9, x_FORMS_10, x_FORMS_11, x_FORMS_12, x_FORMS_13, x_FORMS_14, x_FORMS_15⟩) X G hfa c_Counts n_Counts_sent_frames n_Counts_sent_bytes n_Counts_heard_frames n_Counts_heard_bytes n_Counts_no_frames n_Counts_for_others n_Counts_dropped n_Counts_refused_full n_Counts_grown_old n_Counts_not_taken c_Turns n_Turns_on n_Turns_has_share n_Turns_credit_of c_Waiting n_Waiting_frame n_Waiting_since c_Queue n_Queue_weight n_Queue_line c_End n_End_now n_End_queues n_End_each n_End_life n_End_pace n_End_most_may_go n_End_may_go n_End_me n_End_turns n_End_is_out n_End_groups n_End_hears_all n_End_counts c_Desk n_Desk_calls n_Desk_place n_Desk_end m_Counts_init m_Counts_in_order d_is_address d_is_everybody d_is_kind d_bytes_of d_number_of d_crc32c d_refusal_of d_make_frame d_is_frame d_to_of d_sender_of d_kind_of d_body_of d_answer_make d_answer_read m_Turns_init m_Turns_trial m_Turns_try_turn m_Turns_find_turn m_Turns_spend m_Waiting_init m_Queue_init m_End_init m_End_has_queue m_End_set_weight m_End_may_be_now m_End_how_many_out m_End_not_out m_End_keep_only m_End_remove_old m_End_pass_time m_End_put m_End_has_frames m_End_time_to_go m_End_hand_out m_End_send_first m_End_went m_End_hears m_End_came m_End_join_group m_End_leave_group m_End_hear m_End_waits m_End_drop m_End_times_to_go m_End_times_of_age m_End_due d_open_end m_Desk_init m_Desk_is_done m_Desk_take_number m_Desk_take_row m_Desk_take_given m_Desk_answer_opening m_Desk_answer_counts d_answer_at m_Desk_answer_call d_answers i_WRONG i_NOT_THERE i_NO_FRAME i_NOT_NOW i_FULL i_TOO_LONG i_ADDRESS_LENGTH i_HIGHEST_KIND i_LONGEST_BODY i_HEAD_LENGTH i_CHECK_LENGTH i_SHORTEST_FRAME i_LONGEST_FRAME i_ALL_ONES i_POLYNOMIAL i_SHARE i_NOTHING_WAITS i_HANDED_OUT i_LATER i_NOT_FOR_HERE i_FOR_HERE i_TIME_LIMIT i_MOST_QUEUES i_MOST_EACH i_LONGEST_LIFE i_HIGHEST_RATE i_LEAST_BURST i_MOST_BURST i_MOST_WEIGHT i_MOST_GROUPS i_THOUSANDTHS i_OPEN i_WEIGHT i_PUT i_NEXT i_WENT i_CAME i_JOIN i_LEAVE i_HEAR i_WAITS i_DROP i_COUNTS i_MAKE i_READ a_EVERYBODY t_EVERYBODY a_FORMS t_FORMS t_FORMS_1 t_FORMS_2 t_FORMS_3 t_FORMS_4 t_FORMS_5 t_FORMS_6 t_FORMS_7 t_FORMS_8 t_FORMS_9 t_FORMS_10 t_FORMS_11 t_FORMS_12 t_FORMS_13 t_FORMS_14 t_FORMS_15 b_any b_len b_list b_min b_range b_sum b_tuple
theorem walk {q : Program} {loose : List Str} {XP : (Str → Option Value) → Heap → Prop} {YP : World → Heap → Prop} {d : DefRec} {K : Params → PySem.W.Frag} (hdf : d.params.defaults = []) (hY : ∀ (w : World) (h : Heap), YP w h → (K w.params).In h)
    (F : ∀ (w : World) (mg : Str → Option Value) (fa : Addr) (h : Heap), (K w.params).In h → h.Ns mainGlobals mg → mg d.name = some (.ref fa) →
      ∃ fd : FuncData, (∀ (s : Shared) (u : Value), BindsTo s fd ⟨[u], []⟩ [("calls", u)]) ∧ ∀ base : Heap, (K w.params).In base → base.Ns mainGlobals mg → FnOk PySem.Challenge.pw_framelink_s01_answers w (K w.params) mg base CX0 8 fa fd ["calls"] (sp_ans (K w.params))) :
    PySem.W.WalkOS q loose XP YP PySem.Challenge.rw_framelink_s01_answers d [] (fun f vs => PySem.call f vs) :=
  walk_spec (prog := PySem.Challenge.pw_framelink_s01_answers) (name := PySem.Challenge.nm_framelink_s01_answers) (least := 0) (most := 16000) (lo := -9223372036854775808) (hi := 18446744073709551615) (rl := 0) (rm := 1048576) (rlo := -9223372036854775808) (rhi := 18446744073709551615) (asked := PySf82.answers_asked) (f := PySf82.answers) (k := 8) (K := K) (CX := fun _ => CX0) (sp := fun w => sp_ans (K w.params)) (x := "calls")
    (by decide +kernel) (by rw [sizeLine_eq]; decide) hdf ⟨rfl, by decide, by decide⟩ hY F (fun w H a ns hl hb hask hO hS => ⟨a, ns, rfl, hS, hl, hask, fun H' p hp => ⟨p, rfl, hp⟩⟩) (fun _ _ _ _ _ z => z)
end FL
end
namespace PySem.W.Fast
theorem tw17528552495717448804 : True := ⟨⟩
theorem tw8208278091371436259 : True := ⟨⟩
theorem tw12329966331954504162 : True := ⟨⟩
theorem tw13860984896371424447 : True := ⟨⟩
theorem tw3305791329583384627 : True := ⟨⟩
theorem tw7472837342821154468 : True := ⟨⟩
theorem tw4422573262544444788 : True := ⟨⟩
theorem tw425345553182490178 : True := ⟨⟩
theorem tw271537158210842737 : True := ⟨⟩
theorem tw18246995425883866530 : True := ⟨⟩
theorem tw946791247313401285 : True := ⟨⟩
theorem tw2939579372820399210 : True := ⟨⟩
theorem tw2950303687771839995 : True := ⟨⟩
theorem tw11818332862502996392 : True := ⟨⟩
theorem tw15748613423047968422 : True := ⟨⟩
theorem tw13295918863174164535 : True := ⟨⟩
theorem tw12593059717272010172 : True := ⟨⟩
theorem tw3332855445242497146 : True := ⟨⟩
theorem tw13368153974116873276 : True := ⟨⟩
theorem tw10868893389780062544 : True := ⟨⟩
theorem tw2233404665991852774 : True := ⟨⟩
theorem tw6673478385499011177 : True := ⟨⟩
theorem tw16669340438144360416 : True := ⟨⟩
theorem tw2793396234692072977 : True := ⟨⟩
theorem tw8942752407011793841 : True := ⟨⟩
theorem tw9809076676305413843 : True := ⟨⟩
theorem tw5122651469412982991 : True := ⟨⟩
theorem tw2084057611762247342 : True := ⟨⟩
theorem tw11840282793124554945 : True := ⟨⟩
theorem tw3154381462961543969 : True := ⟨⟩
theorem tw4225372391634719708 : True := ⟨⟩
theorem tw583495722130527847 : True := ⟨⟩
theorem tw11359918055365722148 : True := ⟨⟩
theorem tw11561175742915607480 : True := ⟨⟩
theorem tw10008474119148071365 : True := ⟨⟩
theorem tw9481351184707220510 : True := ⟨⟩
theorem tw3372403159420928524 : True := ⟨⟩
theorem tw8553654306948978778 : True := ⟨⟩
theorem tw9704909653564536702 : True := ⟨⟩
theorem tw12942625980002056814 : True := ⟨⟩
theorem tw259552299256884945 : True := ⟨⟩
theorem tw6231317391477906421 : True := ⟨⟩
theorem tw12617879113252496015 : True := ⟨⟩
theorem tw1708391339977786422 : True := ⟨⟩
theorem tw8970776159958727209 : True := ⟨⟩
theorem tw1190464011144612106 : True := ⟨⟩
theorem tw706203765551140581 : True := ⟨⟩
theorem tw17044498727325928216 : True := ⟨⟩
theorem tw13212681227622457584 : True := ⟨⟩
theorem tw7239387155249162041 : True := ⟨⟩
theorem tw1371840342547483921 : True := ⟨⟩
theorem tw16109112382256836739 : True := ⟨⟩
theorem tw1794303523494673776 : True := ⟨⟩
theorem tw9821014918562377094 : True := ⟨⟩
theorem tw6927828367323575016 : True := ⟨⟩
theorem tw9337125227975196421 : True := ⟨⟩
theorem tw18298465722674623047 : True := ⟨⟩
theorem tw13915133415602701332 : True := ⟨⟩
theorem tw12998685908393729010 : True := ⟨⟩
theorem tw12607400343048921959 : True := ⟨⟩
theorem tw9460182315995408545 : True := ⟨⟩
theorem tw8879984664269819382 : True := ⟨⟩
theorem tw720234895355852041 : True := ⟨⟩
theorem tw17278113251182182801 : True := ⟨⟩
theorem tw15802961972644726979 : True := ⟨⟩
theorem tw10589583181186984989 : True := ⟨⟩
theorem tw16910356184990921592 : True := ⟨⟩
theorem tw14553128458346963193 : True := ⟨⟩
theorem tw10378293862419817463 : True := ⟨⟩
theorem tw11068275343117555726 : True := ⟨⟩
theorem tw14386798536366299762 : True := ⟨⟩
theorem tw489314238581457043 : True := ⟨⟩
theorem tw7496554990248020725 : True := ⟨⟩
theorem tw15405511926613096171 : True := ⟨⟩
theorem tw5203714741620628605 : True := ⟨⟩
theorem tw2428229723379013955 : True := ⟨⟩
theorem tw6035349972085151617 : True := ⟨⟩
theorem tw5735469658903557471 : True := ⟨⟩
theorem tw10007074915566314149 : True := ⟨⟩
theorem tw3957218828066844383 : True := ⟨⟩
theorem tw1901323945656564032 : True := ⟨⟩
theorem tw3250730386287600029 : True := ⟨⟩
theorem tw7902792497898250354 : True := ⟨⟩
theorem tw12367199882447769419 : True := ⟨⟩
theorem tw12187322699921513310 : True := ⟨⟩
theorem tw11015940529789646727 : True := ⟨⟩
theorem tw11734800712861186339 : True := ⟨⟩
theorem tw5054085109993024378 : True := ⟨⟩
theorem tw15395836140112769882 : True := ⟨⟩
theorem tw12787742153587814942 : True := ⟨⟩
theorem tw6820100721905978578 : True := ⟨⟩
theorem tw6422432870154240908 : True := ⟨⟩
theorem tw818134980444951294 : True := ⟨⟩
theorem tw3818970003905360755 : True := ⟨⟩
theorem tw875586625708545590 : True := ⟨⟩
theorem tw14412419736264984454 : True := ⟨⟩
theorem tw2407877698627719941 : True := ⟨⟩
theorem tw15401950590053121871 : True := ⟨⟩
theorem tw3954152531497365200 : True := ⟨⟩
theorem tw7377809059205879374 : True := ⟨⟩
theorem tw17464018860760103278 : True := ⟨⟩
theorem tw162879014744158262 : True := ⟨⟩
theorem tw5415501007995095684 : True := ⟨⟩
theorem tw6493847201169224381 : True := ⟨⟩
theorem tw13135678094989823149 : True := ⟨⟩
theorem tw4298150603149577444 : True := ⟨⟩
theorem tw750228973772295644 : True := ⟨⟩
theorem tw15647364972530095806 : True := ⟨⟩
theorem tw4134575341381170476 : True := ⟨⟩
theorem tw9454431012846603725 : True := ⟨⟩
theorem tw2947682464030846370 : True := ⟨⟩
theorem tw17365133170560246907 : True := ⟨⟩
theorem tw18284272141972214616 : True := ⟨⟩
theorem tw10102013280794101763 : True := ⟨⟩
theorem tw8605125923504129092 : True := ⟨⟩
theorem tw5689098999936011953 : True := ⟨⟩
theorem tw15592122445081792562 : True := ⟨⟩
theorem tw14176705600425725985 : True := ⟨⟩
theorem tw11550139966989697860 : True := ⟨⟩
theorem tw1065592807559741236 : True := ⟨⟩
theorem tw3071663818466625924 : True := ⟨⟩
theorem tw12368979778821164744 : True := ⟨⟩
theorem tw7093521873695458459 : True := ⟨⟩
theorem tw12149866882642305193 : True := ⟨⟩
theorem tw2034750772088363148 : True := ⟨⟩
theorem tw15109647673195649514 : True := ⟨⟩
theorem tw17979441795472303572 : True := ⟨⟩
theorem tw12988835494960394871 : True := ⟨⟩
theorem tw5716067379808003372 : True := ⟨⟩
theorem tw8457500329261793148 : True := ⟨⟩
theorem tw16186325761307058312 : True := ⟨⟩
theorem tw17821887205451345875 : True := ⟨⟩
theorem tw4307677215203800803 : True := ⟨⟩
theorem tw899646409344546631 : True := ⟨⟩
theorem tw3559917100753341053 : True := ⟨⟩
theorem tw224381003870130057 : True := ⟨⟩
theorem tw331862439418732205 : True := ⟨⟩
theorem tw8669954427299116248 : True := ⟨⟩
theorem tw13265810938551658282 : True := ⟨⟩
theorem tw2868755418716090527 : True := ⟨⟩
theorem tw15340849275759273621 : True := ⟨⟩
theorem tw15388647980785222501 : True := ⟨⟩
theorem tw9902666271207068142 : True := ⟨⟩
theorem tw6389668777977511385 : True := ⟨⟩
theorem tw6894848695627085730 : True := ⟨⟩
theorem tw14802153050274743815 : True := ⟨⟩
theorem tw14822323459590941848 : True := ⟨⟩
theorem tw4989892780102756449 : True := ⟨⟩
theorem tw12742736198896236321 : True := ⟨⟩
theorem tw17788520023719826576 : True := ⟨⟩
theorem tw3000732177123390339 : True := ⟨⟩
theorem tw10633762851482049248 : True := ⟨⟩
theorem tw583972653684471980 : True := ⟨⟩
theorem tw6951467526646071031 : True := ⟨⟩
theorem tw12853116008029378925 : True := ⟨⟩
theorem tw8828054398212209233 : True := ⟨⟩
theorem tw6509780251032341294 : True := ⟨⟩
theorem tw16239307440903270997 : True := ⟨⟩
theorem tw2661726737484159664 : True := ⟨⟩
theorem tw16874229350231479951 : True := ⟨⟩
theorem tw10653841180677394333 : True := ⟨⟩
theorem tw13657391724864171262 : True := ⟨⟩
theorem tw1713888069030720758 : True := ⟨⟩
theorem tw9942994974943689099 : True := ⟨⟩
theorem tw6682741433798654185 : True := ⟨⟩
theorem tw14220734409527350779 : True := ⟨⟩
theorem tw10751438587154538802 : True := ⟨⟩
theorem tw13748860218075613738 : True := ⟨⟩
theorem tw4049927574991733980 : True := ⟨⟩
theorem tw13950348685618235351 : True := ⟨⟩
theorem tw5821399960152703762 : True := ⟨⟩
theorem tw4063195743648624839 : True := ⟨⟩
theorem tw1526991695428523729 : True := ⟨⟩
theorem tw16913665347903519760 : True := ⟨⟩
theorem tw13348541307820310597 : True := ⟨⟩
theorem tw10442114643760327543 : True := ⟨⟩
theorem tw6376636076946083898 : True := ⟨⟩
theorem tw6733230493966645862 : True := ⟨⟩
theorem tw2696222173719945145 : True := ⟨⟩
theorem tw9633024635620266987 : True := ⟨⟩
theorem tw345536350936995041 : True := ⟨⟩
theorem tw15447827295163694820 : True := ⟨⟩
theorem tw3365929362045007105 : True := ⟨⟩
theorem tw16968897269512737427 : True := ⟨⟩
theorem tw5592571287107205957 : True := ⟨⟩
theorem tw6627381354361288724 : True := ⟨⟩
theorem tw17565815390528285375 : True := ⟨⟩
theorem tw18262918331797898430 : True := ⟨⟩
theorem tw16649251176199661211 : True := ⟨⟩
theorem tw2161032916717395428 : True := ⟨⟩
theorem tw1003903430451357312 : True := ⟨⟩
theorem tw5029086597006706648 : True := ⟨⟩
theorem tw16837647542001794022 : True := ⟨⟩
theorem tw10399567261908860309 : True := ⟨⟩
theorem tw473671491754320147 : True := ⟨⟩
theorem tw4588746389003384224 : True := ⟨⟩
theorem tw11068001788878012244 : True := ⟨⟩
theorem tw11425685312417177607 : True := ⟨⟩
theorem tw1825289251401633672 : True := ⟨⟩
theorem tw7163263802751688360 : True := ⟨⟩
theorem tw14656408749201064003 : True := ⟨⟩
theorem tw8454770246313375238 : True := ⟨⟩
theorem tw5676308148979077977 : True := ⟨⟩
theorem tw12476400413537599927 : True := ⟨⟩
theorem tw5405285010000406544 : True := ⟨⟩
theorem tw3559804534559228068 : True := ⟨⟩
theorem tw3276140292751547978 : True := ⟨⟩
theorem tw17514585383051472577 : True := ⟨⟩
theorem tw16507063448615785456 : True := ⟨⟩
theorem tw5013889638013389877 : True := ⟨⟩
theorem tw479105618431753778 : True := ⟨⟩
theorem tw8953697270600359046 : True := ⟨⟩
theorem tw18096584887202287272 : True := ⟨⟩
theorem tw2460709613653666173 : True := ⟨⟩
theorem tw4640219964326016205 : True := ⟨⟩
theorem tw5087351410479839688 : True := ⟨⟩
theorem tw212841492225128621 : True := ⟨⟩
theorem tw13920898472212730193 : True := ⟨⟩
theorem tw9833624394654638982 : True := ⟨⟩
theorem tw7029818036226644519 : True := ⟨⟩
theorem tw7834784013267724692 : True := ⟨⟩
theorem tw14161151999683052859 : True := ⟨⟩
theorem tw1389380334995749863 : True := ⟨⟩
theorem tw2679643684453563945 : True := ⟨⟩
theorem tw17543142837273550087 : True := ⟨⟩
theorem tw15861526103664213350 : True := ⟨⟩
theorem tw2305341720027835686 : True := ⟨⟩
theorem tw8123440117927165753 : True := ⟨⟩
theorem tw2689254154103829036 : True := ⟨⟩
theorem tw104092311111184348 : True := ⟨⟩
theorem tw4760511450857220074 : True := ⟨⟩
theorem tw15389830092268623509 : True := ⟨⟩
theorem tw267924191023437464 : True := ⟨⟩
theorem tw14113342036732881853 : True := ⟨⟩
theorem tw13838184536754522422 : True := ⟨⟩
theorem tw950625060535922912 : True := ⟨⟩
theorem tw3760662835927682710 : True := ⟨⟩
theorem tw6990577278781954165 : True := ⟨⟩
theorem tw2727334306699937968 : True := ⟨⟩
theorem tw18391504403386751756 : True := ⟨⟩
theorem tw320329349097494978 : True := ⟨⟩
theorem tw4373234760406488976 : True := ⟨⟩
theorem tw12685386234423846497 : True := ⟨⟩
theorem tw7740653954256784579 : True := ⟨⟩
theorem tw5700422305828542632 : True := ⟨⟩
theorem tw4405661503452171692 : True := ⟨⟩
theorem tw13023977440101970339 : True := ⟨⟩
theorem tw12112504598989332441 : True := ⟨⟩
theorem tw12692389844216489515 : True := ⟨⟩
theorem tw15329105787179008205 : True := ⟨⟩
theorem tw18289428226618160713 : True := ⟨⟩
theorem tw8998247274078598099 : True := ⟨⟩
theorem tw3986755142965775507 : True := ⟨⟩
theorem tw3745407045465342136 : True := ⟨⟩
theorem tw8156228325738071449 : True := ⟨⟩
theorem tw8227457058484436785 : True := ⟨⟩
theorem tw14621910626543283080 : True := ⟨⟩
theorem tw5825330876280683349 : True := ⟨⟩
theorem tw1428098928876141526 : True := ⟨⟩
theorem tw15417120454012789200 : True := ⟨⟩
theorem tw121208920786980174 : True := ⟨⟩
theorem tw12313724541481383587 : True := ⟨⟩
theorem tw12963517400529864394 : True := ⟨⟩
theorem tw11745187067233662864 : True := ⟨⟩
theorem tw16824075189771596632 : True := ⟨⟩
theorem tw5389626577678380020 : True := ⟨⟩
theorem tw13446076597872114576 : True := ⟨⟩
theorem tw5181988217362520413 : True := ⟨⟩
theorem tw5685317214286437956 : True := ⟨⟩
theorem tw15832968369501039961 : True := ⟨⟩
theorem tw8025208132852437119 : True := ⟨⟩
theorem tw15650176703726074335 : True := ⟨⟩
theorem tw5288000138049140433 : True := ⟨⟩
theorem tw10933717802075442144 : True := ⟨⟩
theorem tw17446771228153385432 : True := ⟨⟩
theorem tw4361445722605025216 : True := ⟨⟩
theorem tw12447147836547738018 : True := ⟨⟩
theorem tw445644493544294119 : True := ⟨⟩
theorem tw1625981615763873183 : True := ⟨⟩
theorem tw17525931538333233529 : True := ⟨⟩
theorem tw17668668775691954848 : True := ⟨⟩
theorem tw4460839842616690766 : True := ⟨⟩
theorem tw11642544451258400240 : True := ⟨⟩
theorem tw12319602512975086816 : True := ⟨⟩
theorem tw1599401209713805122 : True := ⟨⟩
theorem tw9680381898456347212 : True := ⟨⟩
theorem tw13552124974124256169 : True := ⟨⟩
theorem tw224604485173759441 : True := ⟨⟩
theorem tw263627157331852021 : True := ⟨⟩
theorem tw13780420220348232403 : True := ⟨⟩
theorem tw18435304415582541101 : True := ⟨⟩
theorem tw10973185278328949050 : True := ⟨⟩
theorem tw8506262388676233926 : True := ⟨⟩
theorem tw11025607474430454748 : True := ⟨⟩
theorem tw7529210593933861291 : True := ⟨⟩
theorem tw3019098259342249924 : True := ⟨⟩
theorem tw7708691386521299345 : True := ⟨⟩
theorem tw12232992713714984862 : True := ⟨⟩
theorem tw3124464284769424723 : True := ⟨⟩
theorem tw17168110927343268564 : True := ⟨⟩
theorem tw8861434974525222717 : True := ⟨⟩
theorem tw9104935524949142721 : True := ⟨⟩
theorem tw3414078049416205217 : True := ⟨⟩
theorem tw17204141375008239492 : True := ⟨⟩
theorem tw7487154111480017624 : True := ⟨⟩
theorem tw331738071898840908 : True := ⟨⟩
theorem tw12929071925290723171 : True := ⟨⟩
theorem tw3227627705980147973 : True := ⟨⟩
theorem tw3445966681059414844 : True := ⟨⟩
theorem tw17927333946686462191 : True := ⟨⟩
theorem tw3264539556147489653 : True := ⟨⟩
theorem tw12447600324842509335 : True := ⟨⟩
theorem tw13255846603413279058 : True := ⟨⟩
theorem tw8230018084912250790 : True := ⟨⟩
theorem tw576233851564997748 : True := ⟨⟩
theorem tw4011825881969294373 : True := ⟨⟩
theorem tw3457258901952281944 : True := ⟨⟩
theorem tw16554186658786956948 : True := ⟨⟩
theorem tw235281842457259823 : True := ⟨⟩
theorem tw17437529077797172147 : True := ⟨⟩
theorem tw2417260615931685379 : True := ⟨⟩
theorem tw12444620845379988760 : True := ⟨⟩
theorem tw7839956146936008080 : True := ⟨⟩
theorem tw18310731501596546030 : True := ⟨⟩
theorem tw6902455931998856972 : True := ⟨⟩
theorem tw2516866126947240353 : True := ⟨⟩
theorem tw1626836242600305102 : True := ⟨⟩
theorem tw10254236740390971082 : True := ⟨⟩
theorem tw14992912052719404008 : True := ⟨⟩
theorem tw3726248938406634495 : True := ⟨⟩
theorem tw4985349798676237512 : True := ⟨⟩
theorem tw13837171041603982812 : True := ⟨⟩
theorem tw3107094207023581481 : True := ⟨⟩
theorem tw4649210888530492323 : True := ⟨⟩
theorem tw13291565050022859945 : True := ⟨⟩
theorem tw16627948199270108908 : True := ⟨⟩
theorem tw17585593396373391373 : True := ⟨⟩
theorem tw10513751879586191668 : True := ⟨⟩
theorem tw92979673461821024 : True := ⟨⟩
theorem tw10856038406848617597 : True := ⟨⟩
theorem tw13658304066336896608 : True := ⟨⟩
theorem tw12606170501442453841 : True := ⟨⟩
theorem tw4865905833274742533 : True := ⟨⟩
theorem tw11011878622798675854 : True := ⟨⟩
theorem tw332525710747110268 : True := ⟨⟩
theorem tw7239025479265400825 : True := ⟨⟩
theorem tw13603863150855475823 : True := ⟨⟩
theorem tw6168723357157281150 : True := ⟨⟩
theorem tw16516595923969475182 : True := ⟨⟩
theorem tw12967200206546873420 : True := ⟨⟩
theorem tw14215665575749419008 : True := ⟨⟩
theorem tw809851289621185677 : True := ⟨⟩
theorem tw4830125612984068627 : True := ⟨⟩
theorem tw7638837154894408162 : True := ⟨⟩
theorem tw13067271000771829829 : True := ⟨⟩
theorem tw10370918115665406390 : True := ⟨⟩
theorem tw2820661215054642130 : True := ⟨⟩
theorem tw14179579174309604736 : True := ⟨⟩
theorem tw11256382835038196098 : True := ⟨⟩
theorem tw14282220820678146343 : True := ⟨⟩
theorem tw6125790883298376514 : True := ⟨⟩
theorem tw6031637917223637554 : True := ⟨⟩
theorem tw1846944782041932319 : True := ⟨⟩
theorem tw4748227858371496689 : True := ⟨⟩
theorem tw4568538445562659109 : True := ⟨⟩
theorem tw15010510525163437019 : True := ⟨⟩
theorem tw11710742983938703245 : True := ⟨⟩
theorem tw9196762698110508706 : True := ⟨⟩
theorem tw1206718025565778366 : True := ⟨⟩
theorem tw18067011060027760916 : True := ⟨⟩
theorem tw7244884549525450308 : True := ⟨⟩
theorem tw5532776850695313133 : True := ⟨⟩
theorem tw3913016625692459457 : True := ⟨⟩
theorem tw18033636872072600060 : True := ⟨⟩
theorem tw7234208878206981875 : True := ⟨⟩
theorem tw2773951399949585930 : True := ⟨⟩
theorem tw10989701620344415873 : True := ⟨⟩
theorem tw15355123340334979934 : True := ⟨⟩
theorem tw14830435885672889165 : True := ⟨⟩
theorem tw4306358512170263986 : True := ⟨⟩
theorem tw7806970540479820097 : True := ⟨⟩
theorem tw6693699860258420990 : True := ⟨⟩
theorem tw3349504426537193778 : True := ⟨⟩
theorem tw9684944304869069034 : True := ⟨⟩
theorem tw2690495272535858801 : True := ⟨⟩
theorem tw16600625515963015577 : True := ⟨⟩
theorem tw4011972493401892619 : True := ⟨⟩
theorem tw16502005056602778890 : True := ⟨⟩
theorem tw1235750068909256513 : True := ⟨⟩
theorem tw8521187178597575457 : True := ⟨⟩
theorem tw14077797648972492280 : True := ⟨⟩
theorem tw2517096324551360998 : True := ⟨⟩
theorem tw5421608274766816732 : True := ⟨⟩
theorem tw2978131074749215981 : True := ⟨⟩
theorem tw17904874849965141079 : True := ⟨⟩
theorem tw8157102063171162897 : True := ⟨⟩
theorem tw470113265405658946 : True := ⟨⟩
theorem tw8119255542868567901 : True := ⟨⟩
theorem tw14269651228423593679 : True := ⟨⟩
theorem tw13010652475351923248 : True := ⟨⟩
theorem tw13168184477825820497 : True := ⟨⟩
theorem tw14167608752205545239 : True := ⟨⟩
theorem tw6680102826306132314 : True := ⟨⟩
theorem tw16289767952502125227 : True := ⟨⟩
theorem tw5167294564739674005 : True := ⟨⟩
theorem tw1826453739272699015 : True := ⟨⟩
theorem tw278993162688640149 : True := ⟨⟩
theorem tw1865361012003848787 : True := ⟨⟩
theorem tw4250261858839254573 : True := ⟨⟩
theorem tw4463191371674580391 : True := ⟨⟩
theorem tw10798153008675681906 : True := ⟨⟩
theorem tw5701602317613266318 : True := ⟨⟩
theorem tw5650289344701619112 : True := ⟨⟩
theorem tw13108401425725524773 : True := ⟨⟩
theorem tw15818977827893051097 : True := ⟨⟩
theorem tw2980081041559396853 : True := ⟨⟩
theorem tw3556181748458626984 : True := ⟨⟩
theorem tw380097707363259563 : True := ⟨⟩
theorem tw9110437030339792343 : True := ⟨⟩
theorem tw10980061231754143789 : True := ⟨⟩
theorem tw13728671428806139989 : True := ⟨⟩
theorem tw3613723093609751895 : True := ⟨⟩
theorem tw5453857548403371438 : True := ⟨⟩
theorem tw16299321160199711111 : True := ⟨⟩
theorem tw1486760984779784768 : True := ⟨⟩
theorem tw989237308709447004 : True := ⟨⟩
theorem tw5571557557064138564 : True := ⟨⟩
theorem tw13281280094072782267 : True := ⟨⟩
theorem tw4695119134981056022 : True := ⟨⟩
theorem tw11537105567805808844 : True := ⟨⟩
theorem tw8961325144840273775 : True := ⟨⟩
theorem tw2388376491747248571 : True := ⟨⟩
theorem tw2897233456265932030 : True := ⟨⟩
theorem tw5202385734768785273 : True := ⟨⟩
theorem tw11016909533084916217 : True := ⟨⟩
theorem tw3401674858774427299 : True := ⟨⟩
theorem tw1640879586832176472 : True := ⟨⟩
theorem tw5605757791147966298 : True := ⟨⟩
theorem tw12784411822990411173 : True := ⟨⟩
theorem tw14809906982338715112 : True := ⟨⟩
theorem tw17267779210458227764 : True := ⟨⟩
theorem tw15293872855180204303 : True := ⟨⟩
theorem tw7997038413657567961 : True := ⟨⟩
theorem tw11657849534525564547 : True := ⟨⟩
theorem tw16937198766699195685 : True := ⟨⟩
theorem tw17385457340176102624 : True := ⟨⟩
theorem tw17902716036983303932 : True := ⟨⟩
theorem tw6112482807186539897 : True := ⟨⟩
theorem tw3830386825739091392 : True := ⟨⟩
theorem tw10229130279716381703 : True := ⟨⟩
theorem tw12207962059604586784 : True := ⟨⟩
theorem tw9093186851156491705 : True := ⟨⟩
theorem tw16954841811898482707 : True := ⟨⟩
theorem tw13545133832338013656 : True := ⟨⟩
theorem tw12041820251244336670 : True := ⟨⟩
theorem tw1598395466816079973 : True := ⟨⟩
theorem tw12575759815411472308 : True := ⟨⟩
theorem tw13381038309783612502 : True := ⟨⟩
theorem tw17442399989834844338 : True := ⟨⟩
theorem tw15434715335403573418 : True := ⟨⟩
theorem tw1199917252163622569 : True := ⟨⟩
theorem tw6091561024469772638 : True := ⟨⟩
theorem tw16428557585372695091 : True := ⟨⟩
theorem tw16188145581508816523 : True := ⟨⟩
theorem tw14428102618915501044 : True := ⟨⟩
theorem tw10266554294637121002 : True := ⟨⟩
theorem tw548646783987778930 : True := ⟨⟩
theorem tw7928988916065187762 : True := ⟨⟩
theorem tw8504660035330679635 : True := ⟨⟩
theorem tw10249620220869394288 : True := ⟨⟩
theorem tw14719741563466091755 : True := ⟨⟩
theorem tw17270500986143020914 : True := ⟨⟩
theorem tw5731843726489856867 : True := ⟨⟩
theorem tw18057750772764746229 : True := ⟨⟩
theorem tw1676677221641031024 : True := ⟨⟩
theorem tw571159267923506595 : True := ⟨⟩
theorem tw9076984854336139917 : True := ⟨⟩
theorem tw4662347773185237534 : True := ⟨⟩
theorem tw7815429560540433350 : True := ⟨⟩
theorem tw15078950822112333439 : True := ⟨⟩
theorem tw17544636735330670009 : True := ⟨⟩
theorem tw11269019627209592998 : True := ⟨⟩
theorem tw9264461893578936000 : True := ⟨⟩
theorem tw15475239787571812438 : True := ⟨⟩
theorem tw11821204597887799806 : True := ⟨⟩
theorem tw3257996606657477370 : True := ⟨⟩
theorem tw8470106988185438749 : True := ⟨⟩
theorem tw10777791034976190080 : True := ⟨⟩
theorem tw13889970204212131823 : True := ⟨⟩
theorem tw18411162706736286360 : True := ⟨⟩
theorem tw13436413454151134532 : True := ⟨⟩
theorem tw3583183706989120013 : True := ⟨⟩
theorem tw12602126431350096953 : True := ⟨⟩
theorem tw17909303229190012614 : True := ⟨⟩
theorem tw6763504699923874111 : True := ⟨⟩
theorem tw12889091419211648561 : True := ⟨⟩
theorem tw18319942592454274053 : True := ⟨⟩
theorem tw4770797810933735317 : True := ⟨⟩
theorem tw3744259179806378922 : True := ⟨⟩
theorem tw17147597235303981936 : True := ⟨⟩
theorem tw8333279914007965682 : True := ⟨⟩
theorem tw5290389732856848068 : True := ⟨⟩
theorem tw4729048508126331837 : True := ⟨⟩
theorem tw10188209595509074653 : True := ⟨⟩
theorem tw11149701230817297546 : True := ⟨⟩
theorem tw9662429982674023581 : True := ⟨⟩
theorem tw1373505647565811510 : True := ⟨⟩
theorem tw16020202355084317743 : True := ⟨⟩
theorem tw5974522894703228179 : True := ⟨⟩
theorem tw16978876153174712635 : True := ⟨⟩
theorem tw6145442655109684946 : True := ⟨⟩
theorem tw16657041618466102082 : True := ⟨⟩
theorem tw11015785149652800412 : True := ⟨⟩
theorem tw307152392770068477 : True := ⟨⟩
theorem tw301765512983296734 : True := ⟨⟩
theorem tw4661659764784720125 : True := ⟨⟩
theorem tw17457599351376859244 : True := ⟨⟩
theorem tw12960250320690193221 : True := ⟨⟩
theorem tw10197623470937269810 : True := ⟨⟩
theorem tw3539947842822529371 : True := ⟨⟩
theorem tw8183824294221173065 : True := ⟨⟩
theorem tw4655024977175413367 : True := ⟨⟩
theorem tw11067850937763360014 : True := ⟨⟩
theorem tw8630673585882384379 : True := ⟨⟩
theorem tw2238293881087639800 : True := ⟨⟩
theorem tw10455828449839116268 : True := ⟨⟩
theorem tw11891646342645176971 : True := ⟨⟩
theorem tw3577316822900642285 : True := ⟨⟩
theorem tw15650923289345689208 : True := ⟨⟩
theorem tw1903304556015635057 : True := ⟨⟩
theorem tw16245088290252287434 : True := ⟨⟩
theorem tw2999185265411220650 : True := ⟨⟩
theorem tw6814085680203947821 : True := ⟨⟩
theorem tw2650243982333806355 : True := ⟨⟩
theorem tw18374342823278101442 : True := ⟨⟩
theorem tw14612549719165432308 : True := ⟨⟩
theorem tw1861445776618994096 : True := ⟨⟩
theorem tw8881754450025834958 : True := ⟨⟩
theorem tw8281688146382493949 : True := ⟨⟩
theorem tw5589494583214066061 : True := ⟨⟩
theorem tw8545319764249048862 : True := ⟨⟩
theorem tw17361174733977338281 : True := ⟨⟩
theorem tw1658774379890826769 : True := ⟨⟩
theorem tw5995050747837471775 : True := ⟨⟩
theorem tw12254717462185297635 : True := ⟨⟩
theorem tw15563272483524209275 : True := ⟨⟩
theorem tw2135787340980335314 : True := ⟨⟩
theorem tw13268594758838567198 : True := ⟨⟩
theorem tw5417370101679883429 : True := ⟨⟩
theorem tw6108130322771665980 : True := ⟨⟩
theorem tw15779658638423514218 : True := ⟨⟩
theorem tw9597793455533711678 : True := ⟨⟩
theorem tw13968847101140977189 : True := ⟨⟩
theorem tw13931425027521111443 : True := ⟨⟩
theorem tw7987457663785868818 : True := ⟨⟩
theorem tw7569070055796909687 : True := ⟨⟩
theorem tw7168264085035260489 : True := ⟨⟩
theorem tw18207607940108847853 : True := ⟨⟩
theorem tw966710966667051573 : True := ⟨⟩
theorem tw10887630808913383575 : True := ⟨⟩
theorem tw12595337804189306307 : True := ⟨⟩
theorem tw18090541003121901780 : True := ⟨⟩
theorem tw1054245619397612241 : True := ⟨⟩
theorem tw701733674365311865 : True := ⟨⟩
theorem tw1667173372795121328 : True := ⟨⟩
theorem tw16658658741143262258 : True := ⟨⟩
theorem tw6124974693463258939 : True := ⟨⟩
theorem tw16596512097161741124 : True := ⟨⟩
theorem tw17238799087283998968 : True := ⟨⟩
theorem tw14988378408661543078 : True := ⟨⟩
theorem tw9311094248025423114 : True := ⟨⟩
theorem tw10165336416998070125 : True := ⟨⟩
theorem tw13459518659225713418 : True := ⟨⟩
theorem tw401805841352179516 : True := ⟨⟩
theorem tw5507788897315139898 : True := ⟨⟩
theorem tw9835070156205927399 : True := ⟨⟩
theorem tw8527879403455379780 : True := ⟨⟩
theorem tw5029526922077701836 : True := ⟨⟩
theorem tw452402639002446035 : True := ⟨⟩
theorem tw3110304897613948410 : True := ⟨⟩
theorem tw14927491068689217601 : True := ⟨⟩
theorem tw4280022118749790044 : True := ⟨⟩
theorem tw16856871633800303906 : True := ⟨⟩
theorem tw18251873368889880130 : True := ⟨⟩
theorem tw7003896909385226744 : True := ⟨⟩
theorem tw9252792708604038559 : True := ⟨⟩
theorem tw11702847014658347620 : True := ⟨⟩
theorem tw3590483936975494920 : True := ⟨⟩
theorem tw4672389627871832288 : True := ⟨⟩
theorem tw8030214610418056694 : True := ⟨⟩
theorem tw7776201831927299786 : True := ⟨⟩
theorem tw6106673972717065872 : True := ⟨⟩
theorem tw2850821505056992238 : True := ⟨⟩
theorem tw9228343094168103188 : True := ⟨⟩
theorem tw13855279634903591648 : True := ⟨⟩
theorem tw8829497847333044115 : True := ⟨⟩
theorem tw3279725246834058031 : True := ⟨⟩
theorem tw6842417704572200796 : True := ⟨⟩
theorem tw16808905848434638144 : True := ⟨⟩
theorem tw4078722784525331251 : True := ⟨⟩
theorem tw10026573504524543096 : True := ⟨⟩
theorem tw2286734216106164445 : True := ⟨⟩
theorem tw1674421535941139182 : True := ⟨⟩
theorem tw15336502817995771532 : True := ⟨⟩
theorem tw1147958842162166288 : True := ⟨⟩
theorem tw8038851447351758086 : True := ⟨⟩
theorem tw3965714765390594341 : True := ⟨⟩
theorem tw11189518227881943630 : True := ⟨⟩
theorem tw7075950844051127202 : True := ⟨⟩
theorem tw13641204311777524401 : True := ⟨⟩
theorem tw11516971722431064709 : True := ⟨⟩
theorem tw4077150864630122164 : True := ⟨⟩
theorem tw14793221673990203498 : True := ⟨⟩
theorem tw11623446459194849420 : True := ⟨⟩
theorem tw1144016434186795979 : True := ⟨⟩
theorem tw8826048842638734247 : True := ⟨⟩
theorem tw12500948418438922690 : True := ⟨⟩
theorem tw6109321744014444636 : True := ⟨⟩
theorem tw9545553981996099710 : True := ⟨⟩
theorem tw13029905961191340953 : True := ⟨⟩
theorem tw15767460496027549603 : True := ⟨⟩
theorem tw3608545835957534022 : True := ⟨⟩
theorem tw5244750864124535398 : True := ⟨⟩
theorem tw244628653071671234 : True := ⟨⟩
theorem tw8401363091334694482 : True := ⟨⟩
theorem tw14808020132286170004 : True := ⟨⟩
theorem tw8583895137113151624 : True := ⟨⟩
theorem tw13062877538393399428 : True := ⟨⟩
theorem tw16903820304388099394 : True := ⟨⟩
theorem tw3464643861184922465 : True := ⟨⟩
theorem tw459047456994536231 : True := ⟨⟩
end PySem.W.Fast
open PySem PySem.W PyProof.Rows
set_option maxRecDepth 100000 in
set_option maxHeartbeats 0 in
theorem PySem.Challenge.cw_framelink_s01_answers_holds : PySem.Challenge.rw_framelink_s01_answers.Holds := by
  w_on; k_headS; (case hw => exact ⟨[.list [.int 12]], by decide +kernel, by decide +kernel⟩)
  k_fillS
  refine FL.walk rfl (fun w h Y => PySem.W.kIn_of Y) ?F
  case F =>
    intro w mg fa h KX G hmg
    refine' FL.all_at KX G hmg ?c_Counts ?n_Counts_sent_frames ?n_Counts_sent_bytes ?n_Counts_heard_frames ?n_Counts_heard_bytes ?n_Counts_no_frames ?n_Counts_for_others ?n_Counts_dropped ?n_Counts_refused_full ?n_Counts_grown_old ?n_Counts_not_taken ?c_Turns ?n_Turns_on ?n_Turns_has_share ?n_Turns_credit_of ?c_Waiting ?n_Waiting_frame ?n_Waiting_since ?c_Queue ?n_Queue_weight ?n_Queue_line ?c_End ?n_End_now ?n_End_queues ?n_End_each ?n_End_life ?n_End_pace ?n_End_most_may_go ?n_End_may_go ?n_End_me ?n_End_turns ?n_End_is_out ?n_End_groups ?n_End_hears_all ?n_End_counts ?c_Desk ?n_Desk_calls ?n_Desk_place ?n_Desk_end ?m_Counts_init ?m_Counts_in_order ?d_is_address ?d_is_everybody ?d_is_kind ?d_bytes_of ?d_number_of ?d_crc32c ?d_refusal_of ?d_make_frame ?d_is_frame ?d_to_of ?d_sender_of ?d_kind_of ?d_body_of ?d_answer_make ?d_answer_read ?m_Turns_init ?m_Turns_trial ?m_Turns_try_turn ?m_Turns_find_turn ?m_Turns_spend ?m_Waiting_init ?m_Queue_init ?m_End_init ?m_End_has_queue ?m_End_set_weight ?m_End_may_be_now ?m_End_how_many_out ?m_End_not_out ?m_End_keep_only ?m_End_remove_old ?m_End_pass_time ?m_End_put ?m_End_has_frames ?m_End_time_to_go ?m_End_hand_out ?m_End_send_first ?m_End_went ?m_End_hears ?m_End_came ?m_End_join_group ?m_End_leave_group ?m_End_hear ?m_End_waits ?m_End_drop ?m_End_times_to_go ?m_End_times_of_age ?m_End_due ?d_open_end ?m_Desk_init ?m_Desk_is_done ?m_Desk_take_number ?m_Desk_take_row ?m_Desk_take_given ?m_Desk_answer_opening ?m_Desk_answer_counts ?d_answer_at ?m_Desk_answer_call ?d_answers ?i_WRONG ?i_NOT_THERE ?i_NO_FRAME ?i_NOT_NOW ?i_FULL ?i_TOO_LONG ?i_ADDRESS_LENGTH ?i_HIGHEST_KIND ?i_LONGEST_BODY ?i_HEAD_LENGTH ?i_CHECK_LENGTH ?i_SHORTEST_FRAME ?i_LONGEST_FRAME ?i_ALL_ONES ?i_POLYNOMIAL ?i_SHARE ?i_NOTHING_WAITS ?i_HANDED_OUT ?i_LATER ?i_NOT_FOR_HERE ?i_FOR_HERE ?i_TIME_LIMIT ?i_MOST_QUEUES ?i_MOST_EACH ?i_LONGEST_LIFE ?i_HIGHEST_RATE ?i_LEAST_BURST ?i_MOST_BURST ?i_MOST_WEIGHT ?i_MOST_GROUPS ?i_THOUSANDTHS ?i_OPEN ?i_WEIGHT ?i_PUT ?i_NEXT ?i_WENT ?i_CAME ?i_JOIN ?i_LEAVE ?i_HEAR ?i_WAITS ?i_DROP ?i_COUNTS ?i_MAKE ?i_READ ?a_EVERYBODY ?t_EVERYBODY ?a_FORMS ?t_FORMS ?t_FORMS_1 ?t_FORMS_2 ?t_FORMS_3 ?t_FORMS_4 ?t_FORMS_5 ?t_FORMS_6 ?t_FORMS_7 ?t_FORMS_8 ?t_FORMS_9 ?t_FORMS_10 ?t_FORMS_11 ?t_FORMS_12 ?t_FORMS_13 ?t_FORMS_14 ?t_FORMS_15 ?b_any ?b_len ?b_list ?b_min ?b_range ?b_sum ?b_tuple
    (case c_Counts => (refine' FL.cls_mk ?a_c_Counts ?pg_c_Counts ?hd_c_Counts ?po_c_Counts ?sa_c_Counts ?mk_c_Counts ?kc_c_Counts; (case a_c_Counts => k_is); (case pg_c_Counts => k_is); (case hd_c_Counts => k_is); (case po_c_Counts => k_is); (case sa_c_Counts => k_is); (case mk_c_Counts => k_is); (case kc_c_Counts => k_is)))
    (case n_Counts_sent_frames => k_is)
    (case n_Counts_sent_bytes => k_is)
    (case n_Counts_heard_frames => k_is)
    (case n_Counts_heard_bytes => k_is)
    (case n_Counts_no_frames => k_is)
    (case n_Counts_for_others => k_is)
    (case n_Counts_dropped => k_is)
    (case n_Counts_refused_full => k_is)
    (case n_Counts_grown_old => k_is)
    (case n_Counts_not_taken => k_is)
    (case c_Turns => (refine' FL.cls_mk ?a_c_Turns ?pg_c_Turns ?hd_c_Turns ?po_c_Turns ?sa_c_Turns ?mk_c_Turns ?kc_c_Turns; (case a_c_Turns => k_is); (case pg_c_Turns => k_is); (case hd_c_Turns => k_is); (case po_c_Turns => k_is); (case sa_c_Turns => k_is); (case mk_c_Turns => k_is); (case kc_c_Turns => k_is)))
    (case n_Turns_on => k_is)
    (case n_Turns_has_share => k_is)
    (case n_Turns_credit_of => k_is)
    (case c_Waiting => (refine' FL.cls_mk ?a_c_Waiting ?pg_c_Waiting ?hd_c_Waiting ?po_c_Waiting ?sa_c_Waiting ?mk_c_Waiting ?kc_c_Waiting; (case a_c_Waiting => k_is); (case pg_c_Waiting => k_is); (case hd_c_Waiting => k_is); (case po_c_Waiting => k_is); (case sa_c_Waiting => k_is); (case mk_c_Waiting => k_is); (case kc_c_Waiting => k_is)))
    (case n_Waiting_frame => k_is)
    (case n_Waiting_since => k_is)
    (case c_Queue => (refine' FL.cls_mk ?a_c_Queue ?pg_c_Queue ?hd_c_Queue ?po_c_Queue ?sa_c_Queue ?mk_c_Queue ?kc_c_Queue; (case a_c_Queue => k_is); (case pg_c_Queue => k_is); (case hd_c_Queue => k_is); (case po_c_Queue => k_is); (case sa_c_Queue => k_is); (case mk_c_Queue => k_is); (case kc_c_Queue => k_is)))
    (case n_Queue_weight => k_is)
    (case n_Queue_line => k_is)
    (case c_End => (refine' FL.cls_mk ?a_c_End ?pg_c_End ?hd_c_End ?po_c_End ?sa_c_End ?mk_c_End ?kc_c_End; (case a_c_End => k_is); (case pg_c_End => k_is); (case hd_c_End => k_is); (case po_c_End => k_is); (case sa_c_End => k_is); (case mk_c_End => k_is); (case kc_c_End => k_is)))
    (case n_End_now => k_is)
    (case n_End_queues => k_is)
    (case n_End_each => k_is)
    (case n_End_life => k_is)
    (case n_End_pace => k_is)
    (case n_End_most_may_go => k_is)
    (case n_End_may_go => k_is)
    (case n_End_me => k_is)
    (case n_End_turns => k_is)
    (case n_End_is_out => k_is)
    (case n_End_groups => k_is)
    (case n_End_hears_all => k_is)
    (case n_End_counts => k_is)
    (case c_Desk => (refine' FL.cls_mk ?a_c_Desk ?pg_c_Desk ?hd_c_Desk ?po_c_Desk ?sa_c_Desk ?mk_c_Desk ?kc_c_Desk; (case a_c_Desk => k_is); (case pg_c_Desk => k_is); (case hd_c_Desk => k_is); (case po_c_Desk => k_is); (case sa_c_Desk => k_is); (case mk_c_Desk => k_is); (case kc_c_Desk => k_is)))
    (case n_Desk_calls => k_is)
    (case n_Desk_place => k_is)
    (case n_Desk_end => k_is)
    (case m_Counts_init => (refine' FL.meth_mk ?a_m_Counts_init ?i_m_Counts_init ?l_m_Counts_init ?c_m_Counts_init ?k_m_Counts_init; (case a_m_Counts_init => k_is); (case i_m_Counts_init => k_is); (case l_m_Counts_init => k_is); (case c_m_Counts_init => k_is); (case k_m_Counts_init => k_is)))
    (case m_Counts_in_order => (refine' FL.meth_mk ?a_m_Counts_in_order ?i_m_Counts_in_order ?l_m_Counts_in_order ?c_m_Counts_in_order ?k_m_Counts_in_order; (case a_m_Counts_in_order => k_is); (case i_m_Counts_in_order => k_is); (case l_m_Counts_in_order => k_is); (case c_m_Counts_in_order => k_is); (case k_m_Counts_in_order => k_is)))
    (case d_is_address => (refine' FL.def_mk ?a_d_is_address ?l_d_is_address ?c_d_is_address ?k_d_is_address; (case a_d_is_address => k_is); (case l_d_is_address => k_is); (case c_d_is_address => k_is); (case k_d_is_address => k_is)))
    (case d_is_everybody => (refine' FL.def_mk ?a_d_is_everybody ?l_d_is_everybody ?c_d_is_everybody ?k_d_is_everybody; (case a_d_is_everybody => k_is); (case l_d_is_everybody => k_is); (case c_d_is_everybody => k_is); (case k_d_is_everybody => k_is)))
    (case d_is_kind => (refine' FL.def_mk ?a_d_is_kind ?l_d_is_kind ?c_d_is_kind ?k_d_is_kind; (case a_d_is_kind => k_is); (case l_d_is_kind => k_is); (case c_d_is_kind => k_is); (case k_d_is_kind => k_is)))
    (case d_bytes_of => (refine' FL.def_mk ?a_d_bytes_of ?l_d_bytes_of ?c_d_bytes_of ?k_d_bytes_of; (case a_d_bytes_of => k_is); (case l_d_bytes_of => k_is); (case c_d_bytes_of => k_is); (case k_d_bytes_of => k_is)))
    (case d_number_of => (refine' FL.def_mk ?a_d_number_of ?l_d_number_of ?c_d_number_of ?k_d_number_of; (case a_d_number_of => k_is); (case l_d_number_of => k_is); (case c_d_number_of => k_is); (case k_d_number_of => k_is)))
    (case d_crc32c => (refine' FL.def_mk ?a_d_crc32c ?l_d_crc32c ?c_d_crc32c ?k_d_crc32c; (case a_d_crc32c => k_is); (case l_d_crc32c => k_is); (case c_d_crc32c => k_is); (case k_d_crc32c => k_is)))
    (case d_refusal_of => (refine' FL.def_mk ?a_d_refusal_of ?l_d_refusal_of ?c_d_refusal_of ?k_d_refusal_of; (case a_d_refusal_of => k_is); (case l_d_refusal_of => k_is); (case c_d_refusal_of => k_is); (case k_d_refusal_of => k_is)))
    (case d_make_frame => (refine' FL.def_mk ?a_d_make_frame ?l_d_make_frame ?c_d_make_frame ?k_d_make_frame; (case a_d_make_frame => k_is); (case l_d_make_frame => k_is); (case c_d_make_frame => k_is); (case k_d_make_frame => k_is)))
    (case d_is_frame => (refine' FL.def_mk ?a_d_is_frame ?l_d_is_frame ?c_d_is_frame ?k_d_is_frame; (case a_d_is_frame => k_is); (case l_d_is_frame => k_is); (case c_d_is_frame => k_is); (case k_d_is_frame => k_is)))
    (case d_to_of => (refine' FL.def_mk ?a_d_to_of ?l_d_to_of ?c_d_to_of ?k_d_to_of; (case a_d_to_of => k_is); (case l_d_to_of => k_is); (case c_d_to_of => k_is); (case k_d_to_of => k_is)))
    (case d_sender_of => (refine' FL.def_mk ?a_d_sender_of ?l_d_sender_of ?c_d_sender_of ?k_d_sender_of; (case a_d_sender_of => k_is); (case l_d_sender_of => k_is); (case c_d_sender_of => k_is); (case k_d_sender_of => k_is)))
    (case d_kind_of => (refine' FL.def_mk ?a_d_kind_of ?l_d_kind_of ?c_d_kind_of ?k_d_kind_of; (case a_d_kind_of => k_is); (case l_d_kind_of => k_is); (case c_d_kind_of => k_is); (case k_d_kind_of => k_is)))
    (case d_body_of => (refine' FL.def_mk ?a_d_body_of ?l_d_body_of ?c_d_body_of ?k_d_body_of; (case a_d_body_of => k_is); (case l_d_body_of => k_is); (case c_d_body_of => k_is); (case k_d_body_of => k_is)))
    (case d_answer_make => (refine' FL.def_mk ?a_d_answer_make ?l_d_answer_make ?c_d_answer_make ?k_d_answer_make; (case a_d_answer_make => k_is); (case l_d_answer_make => k_is); (case c_d_answer_make => k_is); (case k_d_answer_make => k_is)))
    (case d_answer_read => (refine' FL.def_mk ?a_d_answer_read ?l_d_answer_read ?c_d_answer_read ?k_d_answer_read; (case a_d_answer_read => k_is); (case l_d_answer_read => k_is); (case c_d_answer_read => k_is); (case k_d_answer_read => k_is)))
    (case m_Turns_init => (refine' FL.meth_mk ?a_m_Turns_init ?i_m_Turns_init ?l_m_Turns_init ?c_m_Turns_init ?k_m_Turns_init; (case a_m_Turns_init => k_is); (case i_m_Turns_init => k_is); (case l_m_Turns_init => k_is); (case c_m_Turns_init => k_is); (case k_m_Turns_init => k_is)))
    (case m_Turns_trial => (refine' FL.meth_mk ?a_m_Turns_trial ?i_m_Turns_trial ?l_m_Turns_trial ?c_m_Turns_trial ?k_m_Turns_trial; (case a_m_Turns_trial => k_is); (case i_m_Turns_trial => k_is); (case l_m_Turns_trial => k_is); (case c_m_Turns_trial => k_is); (case k_m_Turns_trial => k_is)))
    (case m_Turns_try_turn => (refine' FL.meth_mk ?a_m_Turns_try_turn ?i_m_Turns_try_turn ?l_m_Turns_try_turn ?c_m_Turns_try_turn ?k_m_Turns_try_turn; (case a_m_Turns_try_turn => k_is); (case i_m_Turns_try_turn => k_is); (case l_m_Turns_try_turn => k_is); (case c_m_Turns_try_turn => k_is); (case k_m_Turns_try_turn => k_is)))
    (case m_Turns_find_turn => (refine' FL.meth_mk ?a_m_Turns_find_turn ?i_m_Turns_find_turn ?l_m_Turns_find_turn ?c_m_Turns_find_turn ?k_m_Turns_find_turn; (case a_m_Turns_find_turn => k_is); (case i_m_Turns_find_turn => k_is); (case l_m_Turns_find_turn => k_is); (case c_m_Turns_find_turn => k_is); (case k_m_Turns_find_turn => k_is)))
    (case m_Turns_spend => (refine' FL.meth_mk ?a_m_Turns_spend ?i_m_Turns_spend ?l_m_Turns_spend ?c_m_Turns_spend ?k_m_Turns_spend; (case a_m_Turns_spend => k_is); (case i_m_Turns_spend => k_is); (case l_m_Turns_spend => k_is); (case c_m_Turns_spend => k_is); (case k_m_Turns_spend => k_is)))
    (case m_Waiting_init => (refine' FL.meth_mk ?a_m_Waiting_init ?i_m_Waiting_init ?l_m_Waiting_init ?c_m_Waiting_init ?k_m_Waiting_init; (case a_m_Waiting_init => k_is); (case i_m_Waiting_init => k_is); (case l_m_Waiting_init => k_is); (case c_m_Waiting_init => k_is); (case k_m_Waiting_init => k_is)))
    (case m_Queue_init => (refine' FL.meth_mk ?a_m_Queue_init ?i_m_Queue_init ?l_m_Queue_init ?c_m_Queue_init ?k_m_Queue_init; (case a_m_Queue_init => k_is); (case i_m_Queue_init => k_is); (case l_m_Queue_init => k_is); (case c_m_Queue_init => k_is); (case k_m_Queue_init => k_is)))
    (case m_End_init => (refine' FL.meth_mk ?a_m_End_init ?i_m_End_init ?l_m_End_init ?c_m_End_init ?k_m_End_init; (case a_m_End_init => k_is); (case i_m_End_init => k_is); (case l_m_End_init => k_is); (case c_m_End_init => k_is); (case k_m_End_init => k_is)))
    (case m_End_has_queue => (refine' FL.meth_mk ?a_m_End_has_queue ?i_m_End_has_queue ?l_m_End_has_queue ?c_m_End_has_queue ?k_m_End_has_queue; (case a_m_End_has_queue => k_is); (case i_m_End_has_queue => k_is); (case l_m_End_has_queue => k_is); (case c_m_End_has_queue => k_is); (case k_m_End_has_queue => k_is)))
    (case m_End_set_weight => (refine' FL.meth_mk ?a_m_End_set_weight ?i_m_End_set_weight ?l_m_End_set_weight ?c_m_End_set_weight ?k_m_End_set_weight; (case a_m_End_set_weight => k_is); (case i_m_End_set_weight => k_is); (case l_m_End_set_weight => k_is); (case c_m_End_set_weight => k_is); (case k_m_End_set_weight => k_is)))
    (case m_End_may_be_now => (refine' FL.meth_mk ?a_m_End_may_be_now ?i_m_End_may_be_now ?l_m_End_may_be_now ?c_m_End_may_be_now ?k_m_End_may_be_now; (case a_m_End_may_be_now => k_is); (case i_m_End_may_be_now => k_is); (case l_m_End_may_be_now => k_is); (case c_m_End_may_be_now => k_is); (case k_m_End_may_be_now => k_is)))
    (case m_End_how_many_out => (refine' FL.meth_mk ?a_m_End_how_many_out ?i_m_End_how_many_out ?l_m_End_how_many_out ?c_m_End_how_many_out ?k_m_End_how_many_out; (case a_m_End_how_many_out => k_is); (case i_m_End_how_many_out => k_is); (case l_m_End_how_many_out => k_is); (case c_m_End_how_many_out => k_is); (case k_m_End_how_many_out => k_is)))
    (case m_End_not_out => (refine' FL.meth_mk ?a_m_End_not_out ?i_m_End_not_out ?l_m_End_not_out ?c_m_End_not_out ?k_m_End_not_out; (case a_m_End_not_out => k_is); (case i_m_End_not_out => k_is); (case l_m_End_not_out => k_is); (case c_m_End_not_out => k_is); (case k_m_End_not_out => k_is)))
    (case m_End_keep_only => (refine' FL.meth_mk ?a_m_End_keep_only ?i_m_End_keep_only ?l_m_End_keep_only ?c_m_End_keep_only ?k_m_End_keep_only; (case a_m_End_keep_only => k_is); (case i_m_End_keep_only => k_is); (case l_m_End_keep_only => k_is); (case c_m_End_keep_only => k_is); (case k_m_End_keep_only => k_is)))
    (case m_End_remove_old => (refine' FL.meth_mk ?a_m_End_remove_old ?i_m_End_remove_old ?l_m_End_remove_old ?c_m_End_remove_old ?k_m_End_remove_old; (case a_m_End_remove_old => k_is); (case i_m_End_remove_old => k_is); (case l_m_End_remove_old => k_is); (case c_m_End_remove_old => k_is); (case k_m_End_remove_old => k_is)))
    (case m_End_pass_time => (refine' FL.meth_mk ?a_m_End_pass_time ?i_m_End_pass_time ?l_m_End_pass_time ?c_m_End_pass_time ?k_m_End_pass_time; (case a_m_End_pass_time => k_is); (case i_m_End_pass_time => k_is); (case l_m_End_pass_time => k_is); (case c_m_End_pass_time => k_is); (case k_m_End_pass_time => k_is)))
    (case m_End_put => (refine' FL.meth_mk ?a_m_End_put ?i_m_End_put ?l_m_End_put ?c_m_End_put ?k_m_End_put; (case a_m_End_put => k_is); (case i_m_End_put => k_is); (case l_m_End_put => k_is); (case c_m_End_put => k_is); (case k_m_End_put => k_is)))
    (case m_End_has_frames => (refine' FL.meth_mk ?a_m_End_has_frames ?i_m_End_has_frames ?l_m_End_has_frames ?c_m_End_has_frames ?k_m_End_has_frames; (case a_m_End_has_frames => k_is); (case i_m_End_has_frames => k_is); (case l_m_End_has_frames => k_is); (case c_m_End_has_frames => k_is); (case k_m_End_has_frames => k_is)))
    (case m_End_time_to_go => (refine' FL.meth_mk ?a_m_End_time_to_go ?i_m_End_time_to_go ?l_m_End_time_to_go ?c_m_End_time_to_go ?k_m_End_time_to_go; (case a_m_End_time_to_go => k_is); (case i_m_End_time_to_go => k_is); (case l_m_End_time_to_go => k_is); (case c_m_End_time_to_go => k_is); (case k_m_End_time_to_go => k_is)))
    (case m_End_hand_out => (refine' FL.meth_mk ?a_m_End_hand_out ?i_m_End_hand_out ?l_m_End_hand_out ?c_m_End_hand_out ?k_m_End_hand_out; (case a_m_End_hand_out => k_is); (case i_m_End_hand_out => k_is); (case l_m_End_hand_out => k_is); (case c_m_End_hand_out => k_is); (case k_m_End_hand_out => k_is)))
    (case m_End_send_first => (refine' FL.meth_mk ?a_m_End_send_first ?i_m_End_send_first ?l_m_End_send_first ?c_m_End_send_first ?k_m_End_send_first; (case a_m_End_send_first => k_is); (case i_m_End_send_first => k_is); (case l_m_End_send_first => k_is); (case c_m_End_send_first => k_is); (case k_m_End_send_first => k_is)))
    (case m_End_went => (refine' FL.meth_mk ?a_m_End_went ?i_m_End_went ?l_m_End_went ?c_m_End_went ?k_m_End_went; (case a_m_End_went => k_is); (case i_m_End_went => k_is); (case l_m_End_went => k_is); (case c_m_End_went => k_is); (case k_m_End_went => k_is)))
    (case m_End_hears => (refine' FL.meth_mk ?a_m_End_hears ?i_m_End_hears ?l_m_End_hears ?c_m_End_hears ?k_m_End_hears; (case a_m_End_hears => k_is); (case i_m_End_hears => k_is); (case l_m_End_hears => k_is); (case c_m_End_hears => k_is); (case k_m_End_hears => k_is)))
    (case m_End_came => (refine' FL.meth_mk ?a_m_End_came ?i_m_End_came ?l_m_End_came ?c_m_End_came ?k_m_End_came; (case a_m_End_came => k_is); (case i_m_End_came => k_is); (case l_m_End_came => k_is); (case c_m_End_came => k_is); (case k_m_End_came => k_is)))
    (case m_End_join_group => (refine' FL.meth_mk ?a_m_End_join_group ?i_m_End_join_group ?l_m_End_join_group ?c_m_End_join_group ?k_m_End_join_group; (case a_m_End_join_group => k_is); (case i_m_End_join_group => k_is); (case l_m_End_join_group => k_is); (case c_m_End_join_group => k_is); (case k_m_End_join_group => k_is)))
    (case m_End_leave_group => (refine' FL.meth_mk ?a_m_End_leave_group ?i_m_End_leave_group ?l_m_End_leave_group ?c_m_End_leave_group ?k_m_End_leave_group; (case a_m_End_leave_group => k_is); (case i_m_End_leave_group => k_is); (case l_m_End_leave_group => k_is); (case c_m_End_leave_group => k_is); (case k_m_End_leave_group => k_is)))
    (case m_End_hear => (refine' FL.meth_mk ?a_m_End_hear ?i_m_End_hear ?l_m_End_hear ?c_m_End_hear ?k_m_End_hear; (case a_m_End_hear => k_is); (case i_m_End_hear => k_is); (case l_m_End_hear => k_is); (case c_m_End_hear => k_is); (case k_m_End_hear => k_is)))
    (case m_End_waits => (refine' FL.meth_mk ?a_m_End_waits ?i_m_End_waits ?l_m_End_waits ?c_m_End_waits ?k_m_End_waits; (case a_m_End_waits => k_is); (case i_m_End_waits => k_is); (case l_m_End_waits => k_is); (case c_m_End_waits => k_is); (case k_m_End_waits => k_is)))
    (case m_End_drop => (refine' FL.meth_mk ?a_m_End_drop ?i_m_End_drop ?l_m_End_drop ?c_m_End_drop ?k_m_End_drop; (case a_m_End_drop => k_is); (case i_m_End_drop => k_is); (case l_m_End_drop => k_is); (case c_m_End_drop => k_is); (case k_m_End_drop => k_is)))
    (case m_End_times_to_go => (refine' FL.meth_mk ?a_m_End_times_to_go ?i_m_End_times_to_go ?l_m_End_times_to_go ?c_m_End_times_to_go ?k_m_End_times_to_go; (case a_m_End_times_to_go => k_is); (case i_m_End_times_to_go => k_is); (case l_m_End_times_to_go => k_is); (case c_m_End_times_to_go => k_is); (case k_m_End_times_to_go => k_is)))
    (case m_End_times_of_age => (refine' FL.meth_mk ?a_m_End_times_of_age ?i_m_End_times_of_age ?l_m_End_times_of_age ?c_m_End_times_of_age ?k_m_End_times_of_age; (case a_m_End_times_of_age => k_is); (case i_m_End_times_of_age => k_is); (case l_m_End_times_of_age => k_is); (case c_m_End_times_of_age => k_is); (case k_m_End_times_of_age => k_is)))
    (case m_End_due => (refine' FL.meth_mk ?a_m_End_due ?i_m_End_due ?l_m_End_due ?c_m_End_due ?k_m_End_due; (case a_m_End_due => k_is); (case i_m_End_due => k_is); (case l_m_End_due => k_is); (case c_m_End_due => k_is); (case k_m_End_due => k_is)))
    (case d_open_end => (refine' FL.def_mk ?a_d_open_end ?l_d_open_end ?c_d_open_end ?k_d_open_end; (case a_d_open_end => k_is); (case l_d_open_end => k_is); (case c_d_open_end => k_is); (case k_d_open_end => k_is)))
    (case m_Desk_init => (refine' FL.meth_mk ?a_m_Desk_init ?i_m_Desk_init ?l_m_Desk_init ?c_m_Desk_init ?k_m_Desk_init; (case a_m_Desk_init => k_is); (case i_m_Desk_init => k_is); (case l_m_Desk_init => k_is); (case c_m_Desk_init => k_is); (case k_m_Desk_init => k_is)))
    (case m_Desk_is_done => (refine' FL.meth_mk ?a_m_Desk_is_done ?i_m_Desk_is_done ?l_m_Desk_is_done ?c_m_Desk_is_done ?k_m_Desk_is_done; (case a_m_Desk_is_done => k_is); (case i_m_Desk_is_done => k_is); (case l_m_Desk_is_done => k_is); (case c_m_Desk_is_done => k_is); (case k_m_Desk_is_done => k_is)))
    (case m_Desk_take_number => (refine' FL.meth_mk ?a_m_Desk_take_number ?i_m_Desk_take_number ?l_m_Desk_take_number ?c_m_Desk_take_number ?k_m_Desk_take_number; (case a_m_Desk_take_number => k_is); (case i_m_Desk_take_number => k_is); (case l_m_Desk_take_number => k_is); (case c_m_Desk_take_number => k_is); (case k_m_Desk_take_number => k_is)))
    (case m_Desk_take_row => (refine' FL.meth_mk ?a_m_Desk_take_row ?i_m_Desk_take_row ?l_m_Desk_take_row ?c_m_Desk_take_row ?k_m_Desk_take_row; (case a_m_Desk_take_row => k_is); (case i_m_Desk_take_row => k_is); (case l_m_Desk_take_row => k_is); (case c_m_Desk_take_row => k_is); (case k_m_Desk_take_row => k_is)))
    (case m_Desk_take_given => (refine' FL.meth_mk ?a_m_Desk_take_given ?i_m_Desk_take_given ?l_m_Desk_take_given ?c_m_Desk_take_given ?k_m_Desk_take_given; (case a_m_Desk_take_given => k_is); (case i_m_Desk_take_given => k_is); (case l_m_Desk_take_given => k_is); (case c_m_Desk_take_given => k_is); (case k_m_Desk_take_given => k_is)))
    (case m_Desk_answer_opening => (refine' FL.meth_mk ?a_m_Desk_answer_opening ?i_m_Desk_answer_opening ?l_m_Desk_answer_opening ?c_m_Desk_answer_opening ?k_m_Desk_answer_opening; (case a_m_Desk_answer_opening => k_is); (case i_m_Desk_answer_opening => k_is); (case l_m_Desk_answer_opening => k_is); (case c_m_Desk_answer_opening => k_is); (case k_m_Desk_answer_opening => k_is)))
    (case m_Desk_answer_counts => (refine' FL.meth_mk ?a_m_Desk_answer_counts ?i_m_Desk_answer_counts ?l_m_Desk_answer_counts ?c_m_Desk_answer_counts ?k_m_Desk_answer_counts; (case a_m_Desk_answer_counts => k_is); (case i_m_Desk_answer_counts => k_is); (case l_m_Desk_answer_counts => k_is); (case c_m_Desk_answer_counts => k_is); (case k_m_Desk_answer_counts => k_is)))
    (case d_answer_at => (refine' FL.def_mk ?a_d_answer_at ?l_d_answer_at ?c_d_answer_at ?k_d_answer_at; (case a_d_answer_at => k_is); (case l_d_answer_at => k_is); (case c_d_answer_at => k_is); (case k_d_answer_at => k_is)))
    (case m_Desk_answer_call => (refine' FL.meth_mk ?a_m_Desk_answer_call ?i_m_Desk_answer_call ?l_m_Desk_answer_call ?c_m_Desk_answer_call ?k_m_Desk_answer_call; (case a_m_Desk_answer_call => k_is); (case i_m_Desk_answer_call => k_is); (case l_m_Desk_answer_call => k_is); (case c_m_Desk_answer_call => k_is); (case k_m_Desk_answer_call => k_is)))
    (case d_answers => (refine' FL.def_mk ?a_d_answers ?l_d_answers ?c_d_answers ?k_d_answers; (case a_d_answers => k_is); (case l_d_answers => k_is); (case c_d_answers => k_is); (case k_d_answers => k_is)))
    (case i_WRONG => (refine' FL.int_mk ?a_i_WRONG; (case a_i_WRONG => k_is)))
    (case i_NOT_THERE => (refine' FL.int_mk ?a_i_NOT_THERE; (case a_i_NOT_THERE => k_is)))
    (case i_NO_FRAME => (refine' FL.int_mk ?a_i_NO_FRAME; (case a_i_NO_FRAME => k_is)))
    (case i_NOT_NOW => (refine' FL.int_mk ?a_i_NOT_NOW; (case a_i_NOT_NOW => k_is)))
    (case i_FULL => (refine' FL.int_mk ?a_i_FULL; (case a_i_FULL => k_is)))
    (case i_TOO_LONG => (refine' FL.int_mk ?a_i_TOO_LONG; (case a_i_TOO_LONG => k_is)))
    (case i_ADDRESS_LENGTH => (refine' FL.int_mk ?a_i_ADDRESS_LENGTH; (case a_i_ADDRESS_LENGTH => k_is)))
    (case i_HIGHEST_KIND => (refine' FL.int_mk ?a_i_HIGHEST_KIND; (case a_i_HIGHEST_KIND => k_is)))
    (case i_LONGEST_BODY => (refine' FL.int_mk ?a_i_LONGEST_BODY; (case a_i_LONGEST_BODY => k_is)))
    (case i_HEAD_LENGTH => (refine' FL.int_mk ?a_i_HEAD_LENGTH; (case a_i_HEAD_LENGTH => k_is)))
    (case i_CHECK_LENGTH => (refine' FL.int_mk ?a_i_CHECK_LENGTH; (case a_i_CHECK_LENGTH => k_is)))
    (case i_SHORTEST_FRAME => (refine' FL.int_mk ?a_i_SHORTEST_FRAME; (case a_i_SHORTEST_FRAME => k_is)))
    (case i_LONGEST_FRAME => (refine' FL.int_mk ?a_i_LONGEST_FRAME; (case a_i_LONGEST_FRAME => k_is)))
    (case i_ALL_ONES => (refine' FL.int_mk ?a_i_ALL_ONES; (case a_i_ALL_ONES => k_is)))
    (case i_POLYNOMIAL => (refine' FL.int_mk ?a_i_POLYNOMIAL; (case a_i_POLYNOMIAL => k_is)))
    (case i_SHARE => (refine' FL.int_mk ?a_i_SHARE; (case a_i_SHARE => k_is)))
    (case i_NOTHING_WAITS => (refine' FL.int_mk ?a_i_NOTHING_WAITS; (case a_i_NOTHING_WAITS => k_is)))
    (case i_HANDED_OUT => (refine' FL.int_mk ?a_i_HANDED_OUT; (case a_i_HANDED_OUT => k_is)))
    (case i_LATER => (refine' FL.int_mk ?a_i_LATER; (case a_i_LATER => k_is)))
    (case i_NOT_FOR_HERE => (refine' FL.int_mk ?a_i_NOT_FOR_HERE; (case a_i_NOT_FOR_HERE => k_is)))
    (case i_FOR_HERE => (refine' FL.int_mk ?a_i_FOR_HERE; (case a_i_FOR_HERE => k_is)))
    (case i_TIME_LIMIT => (refine' FL.int_mk ?a_i_TIME_LIMIT; (case a_i_TIME_LIMIT => k_is)))
    (case i_MOST_QUEUES => (refine' FL.int_mk ?a_i_MOST_QUEUES; (case a_i_MOST_QUEUES => k_is)))
    (case i_MOST_EACH => (refine' FL.int_mk ?a_i_MOST_EACH; (case a_i_MOST_EACH => k_is)))
    (case i_LONGEST_LIFE => (refine' FL.int_mk ?a_i_LONGEST_LIFE; (case a_i_LONGEST_LIFE => k_is)))
    (case i_HIGHEST_RATE => (refine' FL.int_mk ?a_i_HIGHEST_RATE; (case a_i_HIGHEST_RATE => k_is)))
    (case i_LEAST_BURST => (refine' FL.int_mk ?a_i_LEAST_BURST; (case a_i_LEAST_BURST => k_is)))
    (case i_MOST_BURST => (refine' FL.int_mk ?a_i_MOST_BURST; (case a_i_MOST_BURST => k_is)))
    (case i_MOST_WEIGHT => (refine' FL.int_mk ?a_i_MOST_WEIGHT; (case a_i_MOST_WEIGHT => k_is)))
    (case i_MOST_GROUPS => (refine' FL.int_mk ?a_i_MOST_GROUPS; (case a_i_MOST_GROUPS => k_is)))
    (case i_THOUSANDTHS => (refine' FL.int_mk ?a_i_THOUSANDTHS; (case a_i_THOUSANDTHS => k_is)))
    (case i_OPEN => (refine' FL.int_mk ?a_i_OPEN; (case a_i_OPEN => k_is)))
    (case i_WEIGHT => (refine' FL.int_mk ?a_i_WEIGHT; (case a_i_WEIGHT => k_is)))
    (case i_PUT => (refine' FL.int_mk ?a_i_PUT; (case a_i_PUT => k_is)))
    (case i_NEXT => (refine' FL.int_mk ?a_i_NEXT; (case a_i_NEXT => k_is)))
    (case i_WENT => (refine' FL.int_mk ?a_i_WENT; (case a_i_WENT => k_is)))
    (case i_CAME => (refine' FL.int_mk ?a_i_CAME; (case a_i_CAME => k_is)))
    (case i_JOIN => (refine' FL.int_mk ?a_i_JOIN; (case a_i_JOIN => k_is)))
    (case i_LEAVE => (refine' FL.int_mk ?a_i_LEAVE; (case a_i_LEAVE => k_is)))
    (case i_HEAR => (refine' FL.int_mk ?a_i_HEAR; (case a_i_HEAR => k_is)))
    (case i_WAITS => (refine' FL.int_mk ?a_i_WAITS; (case a_i_WAITS => k_is)))
    (case i_DROP => (refine' FL.int_mk ?a_i_DROP; (case a_i_DROP => k_is)))
    (case i_COUNTS => (refine' FL.int_mk ?a_i_COUNTS; (case a_i_COUNTS => k_is)))
    (case i_MAKE => (refine' FL.int_mk ?a_i_MAKE; (case a_i_MAKE => k_is)))
    (case i_READ => (refine' FL.int_mk ?a_i_READ; (case a_i_READ => k_is)))
    (case a_EVERYBODY => k_is)
    (case t_EVERYBODY => (refine' FL.tup_mk ?h_t_EVERYBODY ?z_t_EVERYBODY ?v_t_EVERYBODY; (case h_t_EVERYBODY => k_is); (case z_t_EVERYBODY => exact by decide); (case v_t_EVERYBODY => exact .cons ⟨_, rfl⟩ (.cons ⟨_, rfl⟩ (.cons ⟨_, rfl⟩ (.cons ⟨_, rfl⟩ (.cons ⟨_, rfl⟩ (.cons ⟨_, rfl⟩ .nil))))))))
    (case a_FORMS => k_is)
    (case t_FORMS => (refine' FL.dict_mk ?h_t_FORMS ?z_t_FORMS ?v_t_FORMS; (case h_t_FORMS => k_is); (case z_t_FORMS => exact .cons rfl rfl (.cons rfl rfl (.cons rfl rfl (.cons rfl rfl (.cons rfl rfl (.cons rfl rfl (.cons rfl rfl (.cons rfl rfl (.cons rfl rfl (.cons rfl rfl (.cons rfl rfl (.cons rfl rfl (.cons rfl rfl (.cons rfl rfl (.cons rfl rfl .nil))))))))))))))); (case v_t_FORMS => exact by decide)))
    (case t_FORMS_1 => (refine' FL.tup_mk ?h_t_FORMS_1 ?z_t_FORMS_1 ?v_t_FORMS_1; (case h_t_FORMS_1 => k_is); (case z_t_FORMS_1 => exact by decide); (case v_t_FORMS_1 => exact .cons ⟨_, rfl⟩ (.cons ⟨_, rfl⟩ .nil))))
    (case t_FORMS_2 => (refine' FL.tup_mk ?h_t_FORMS_2 ?z_t_FORMS_2 ?v_t_FORMS_2; (case h_t_FORMS_2 => k_is); (case z_t_FORMS_2 => exact by decide); (case v_t_FORMS_2 => exact .cons ⟨_, rfl⟩ (.cons ⟨_, rfl⟩ .nil))))
    (case t_FORMS_3 => (refine' FL.tup_mk ?h_t_FORMS_3 ?z_t_FORMS_3 ?v_t_FORMS_3; (case h_t_FORMS_3 => k_is); (case z_t_FORMS_3 => exact by decide); (case v_t_FORMS_3 => exact .cons ⟨_, rfl⟩ (.cons ⟨_, rfl⟩ .nil))))
    (case t_FORMS_4 => (refine' FL.tup_mk ?h_t_FORMS_4 ?z_t_FORMS_4 ?v_t_FORMS_4; (case h_t_FORMS_4 => k_is); (case z_t_FORMS_4 => exact by decide); (case v_t_FORMS_4 => exact .cons ⟨_, rfl⟩ (.cons ⟨_, rfl⟩ .nil))))
    (case t_FORMS_5 => (refine' FL.tup_mk ?h_t_FORMS_5 ?z_t_FORMS_5 ?v_t_FORMS_5; (case h_t_FORMS_5 => k_is); (case z_t_FORMS_5 => exact by decide); (case v_t_FORMS_5 => exact .cons ⟨_, rfl⟩ (.cons ⟨_, rfl⟩ .nil))))
    (case t_FORMS_6 => (refine' FL.tup_mk ?h_t_FORMS_6 ?z_t_FORMS_6 ?v_t_FORMS_6; (case h_t_FORMS_6 => k_is); (case z_t_FORMS_6 => exact by decide); (case v_t_FORMS_6 => exact .cons ⟨_, rfl⟩ (.cons ⟨_, rfl⟩ .nil))))
    (case t_FORMS_7 => (refine' FL.tup_mk ?h_t_FORMS_7 ?z_t_FORMS_7 ?v_t_FORMS_7; (case h_t_FORMS_7 => k_is); (case z_t_FORMS_7 => exact by decide); (case v_t_FORMS_7 => exact .cons ⟨_, rfl⟩ (.cons ⟨_, rfl⟩ .nil))))
    (case t_FORMS_8 => (refine' FL.tup_mk ?h_t_FORMS_8 ?z_t_FORMS_8 ?v_t_FORMS_8; (case h_t_FORMS_8 => k_is); (case z_t_FORMS_8 => exact by decide); (case v_t_FORMS_8 => exact .cons ⟨_, rfl⟩ (.cons ⟨_, rfl⟩ .nil))))
    (case t_FORMS_9 => (refine' FL.tup_mk ?h_t_FORMS_9 ?z_t_FORMS_9 ?v_t_FORMS_9; (case h_t_FORMS_9 => k_is); (case z_t_FORMS_9 => exact by decide); (case v_t_FORMS_9 => exact .cons ⟨_, rfl⟩ (.cons ⟨_, rfl⟩ .nil))))
    (case t_FORMS_10 => (refine' FL.tup_mk ?h_t_FORMS_10 ?z_t_FORMS_10 ?v_t_FORMS_10; (case h_t_FORMS_10 => k_is); (case z_t_FORMS_10 => exact by decide); (case v_t_FORMS_10 => exact .cons ⟨_, rfl⟩ (.cons ⟨_, rfl⟩ .nil))))
    (case t_FORMS_11 => (refine' FL.tup_mk ?h_t_FORMS_11 ?z_t_FORMS_11 ?v_t_FORMS_11; (case h_t_FORMS_11 => k_is); (case z_t_FORMS_11 => exact by decide); (case v_t_FORMS_11 => exact .cons ⟨_, rfl⟩ (.cons ⟨_, rfl⟩ .nil))))
    (case t_FORMS_12 => (refine' FL.tup_mk ?h_t_FORMS_12 ?z_t_FORMS_12 ?v_t_FORMS_12; (case h_t_FORMS_12 => k_is); (case z_t_FORMS_12 => exact by decide); (case v_t_FORMS_12 => exact .cons ⟨_, rfl⟩ (.cons ⟨_, rfl⟩ .nil))))
    (case t_FORMS_13 => (refine' FL.tup_mk ?h_t_FORMS_13 ?z_t_FORMS_13 ?v_t_FORMS_13; (case h_t_FORMS_13 => k_is); (case z_t_FORMS_13 => exact by decide); (case v_t_FORMS_13 => exact .cons ⟨_, rfl⟩ (.cons ⟨_, rfl⟩ .nil))))
    (case t_FORMS_14 => (refine' FL.tup_mk ?h_t_FORMS_14 ?z_t_FORMS_14 ?v_t_FORMS_14; (case h_t_FORMS_14 => k_is); (case z_t_FORMS_14 => exact by decide); (case v_t_FORMS_14 => exact .cons ⟨_, rfl⟩ (.cons ⟨_, rfl⟩ .nil))))
    (case t_FORMS_15 => (refine' FL.tup_mk ?h_t_FORMS_15 ?z_t_FORMS_15 ?v_t_FORMS_15; (case h_t_FORMS_15 => k_is); (case z_t_FORMS_15 => exact by decide); (case v_t_FORMS_15 => exact .cons ⟨_, rfl⟩ (.cons ⟨_, rfl⟩ .nil))))
    (case b_any => k_is)
    (case b_len => k_is)
    (case b_list => k_is)
    (case b_min => k_is)
    (case b_range => k_is)
    (case b_sum => k_is)
    (case b_tuple => k_is)
#print axioms PySem.Challenge.cw_framelink_s01_answers_holds

