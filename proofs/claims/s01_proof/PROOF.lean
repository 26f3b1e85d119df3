import PyProof.Rows.All
import Wide.All
import OpenK.AllK
import Wide.FinOn
import PyProof.EqAt
import PyProof.EqKinds
import PyProof.TupleCall
import KE.BitLaws
import Open.SpecLaws
import KE.OsHead
import KE.OsGo
import PyProof.SetScanFacts
import PyProof.SetKind
import PyProof.DictKinds
import PyProof.Rows.SetFrom
import PyProof.CollectWalk
import PyProof.DictWalks
import PyProof.DictIter
import PyProof.Rows.SortShell
import PyProof.Rows.SortWalk
import PyKm469
import PySem.Challenge.RW_lostletter_s01_answers
set_option Elab.async false
set_option linter.all false
set_option maxRecDepth 100000
set_option maxHeartbeats 2000000
section
namespace LL
open Km469
theorem foldl_num (l : List Bool) : ∀ w : Nat, l.foldl (fun w x => 2 * w + (if x = true then 1 else 0)) w = w * 2 ^ l.length + number l := by
 induction l with
 | nil => intro w; simp [number]
 | cons x l ih =>
   intro w
   simp only [List.foldl_cons, List.length_cons, number]
   rw [ih, ih]
   rw [Nat.pow_succ]
   generalize 2 ^ l.length = p
   generalize number l = q
   have : (2 * w + if x = true then 1 else 0) * p = w * (p * 2) + (if x = true then 1 else 0) * p := by
    rw [Nat.add_mul, Nat.mul_comm 2 w, Nat.mul_assoc, Nat.mul_comm 2 p]
   rw [this]
   simp only [Nat.mul_zero, Nat.zero_add]
   omega
theorem number_append (a b : List Bool) : number (a ++ b) = number a * 2 ^ b.length + number b := by
 unfold number
 rw [List.foldl_append]
 exact foldl_num b _
theorem number_one (x : Bool) : number [x] = (if x = true then 1 else 0) := by
 simp [number]
theorem text_length (n w : Nat) : (text n w).length = n := by simp [text]
theorem text_get (n w i : Nat) (h : i < n) : (text n w)[i]? = some (w / 2 ^ (n - 1 - i) % 2 == 1) := by
 simp [text, h]
theorem text_succ (n w : Nat) : text (n + 1) w = text n (w / 2) ++ [w % 2 == 1] := by
 apply List.ext_getElem?
 intro i
 by_cases h : i < n
 . rw [text_get _ _ _ (by omega), List.getElem?_append_left (by rw [text_length]; exact h), text_get _ _ _ h]
   have e : n + 1 - 1 - i = (n - 1 - i) + 1 := by omega
   rw [e, Nat.pow_succ, Nat.mul_comm, ← Nat.div_div_eq_div_mul]
 . by_cases h2 : i = n
   . subst h2
     rw [text_get _ _ _ (by omega), List.getElem?_append_right (by rw [text_length]; exact Nat.le_refl _), text_length]
     simp
   . rw [List.getElem?_eq_none (by rw [text_length]; omega), List.getElem?_eq_none (by rw [List.length_append, text_length]; simp; omega)]
theorem number_text : ∀ (n w : Nat), number (text n w) = w % 2 ^ n
 | 0, w => by simp [text, number, Nat.mod_one]
 | n + 1, w => by
   rw [text_succ, number_append, number_text n, number_one]
   simp only [List.length_singleton, Nat.pow_one]
   rw [Nat.pow_succ, Nat.mul_comm (2 ^ n) 2, Nat.mod_mul]
   have : (if (w % 2 == 1) = true then 1 else 0) = w % 2 := by
    rcases Nat.mod_two_eq_zero_or_one w with h | h <;> rw [h] <;> rfl
   rw [this, Nat.mul_comm]
   omega
theorem take_text (n w i : Nat) (h : i ≤ n) : (text n w).take i = text i (w / 2 ^ (n - i)) := by
 apply List.ext_getElem?
 intro j
 by_cases hj : j < i
 . rw [List.getElem?_take_of_lt hj, text_get _ _ _ (by omega), text_get _ _ _ hj, Nat.div_div_eq_div_mul, ← Nat.pow_add]
   congr 5
   omega
 . rw [List.getElem?_eq_none (by rw [List.length_take, text_length]; omega), List.getElem?_eq_none (by rw [text_length]; omega)]
theorem drop_text (n w i : Nat) : (text n w).drop i = text (n - i) w := by
 apply List.ext_getElem?
 intro j
 rw [List.getElem?_drop]
 by_cases hj : j < n - i
 . rw [text_get _ _ _ (by omega), text_get _ _ _ hj]
   congr 5
   omega
 . rw [List.getElem?_eq_none (by rw [text_length]; omega), List.getElem?_eq_none (by rw [text_length]; omega)]
def losN (n w i : Nat) : Nat := w / 2 ^ (n - i) * 2 ^ (n - 1 - i) + w % 2 ^ (n - 1 - i)
def gaiN (n w i x : Nat) : Nat := (w / 2 ^ (n - i) * 2 + x) * 2 ^ (n - i) + w % 2 ^ (n - i)
theorem div_lt {n w i : Nat} (h : w < 2 ^ n) (hi : i ≤ n) : w / 2 ^ (n - i) < 2 ^ i := by
 rw [Nat.div_lt_iff_lt_mul (Nat.two_pow_pos _), ← Nat.pow_add]
 rw [Nat.add_sub_cancel' hi]
 exact h
theorem without_eq {n w i : Nat} (h : w < 2 ^ n) (hi : i < n) : number (without (text n w) i) = losN n w i := by
 unfold without losN
 rw [number_append, take_text _ _ _ (by omega), drop_text, number_text, number_text, text_length, Nat.mod_eq_of_lt (div_lt h (by omega))]
 have : n - (i + 1) = n - 1 - i := by omega
 rw [this]
theorem with_eq {n w i : Nat} {x : Bool} (h : w < 2 ^ n) (hi : i ≤ n) : number (with_ (text n w) i x) = gaiN n w i (if x = true then 1 else 0) := by
 unfold with_ gaiN
 rw [number_append, number_append, take_text _ _ _ hi, drop_text, number_text, number_text, text_length, number_one, Nat.mod_eq_of_lt (div_lt h hi)]
 simp
theorem losN_lt {n w i : Nat} (h : w < 2 ^ n) (hi : i < n) : losN n w i < 2 ^ (n - 1) := by
 unfold losN
 have h1 := div_lt h (Nat.le_of_lt hi)
 have h2 : w % 2 ^ (n - 1 - i) < 2 ^ (n - 1 - i) := Nat.mod_lt _ (Nat.two_pow_pos _)
 have h3 : 2 ^ (n - 1) = 2 ^ i * 2 ^ (n - 1 - i) := by rw [← Nat.pow_add]; congr 1; omega
 rw [h3]
 have h4 : (w / 2 ^ (n - i) + 1) * 2 ^ (n - 1 - i) ≤ 2 ^ i * 2 ^ (n - 1 - i) := Nat.mul_le_mul_right _ h1
 rw [Nat.add_mul, Nat.one_mul] at h4
 omega
theorem gaiN_lt {n w i x : Nat} (h : w < 2 ^ n) (hi : i ≤ n) (hx : x ≤ 1) : gaiN n w i x < 2 ^ (n + 1) := by
 unfold gaiN
 have h1 := div_lt h hi
 have h2 : w % 2 ^ (n - i) < 2 ^ (n - i) := Nat.mod_lt _ (Nat.two_pow_pos _)
 have h3 : 2 ^ (n + 1) = 2 ^ (i + 1) * 2 ^ (n - i) := by rw [← Nat.pow_add]; congr 1; omega
 rw [h3]
 have h5 : w / 2 ^ (n - i) * 2 + x + 1 ≤ 2 ^ (i + 1) := by rw [Nat.pow_succ]; omega
 have h4 : (w / 2 ^ (n - i) * 2 + x + 1) * 2 ^ (n - i) ≤ 2 ^ (i + 1) * 2 ^ (n - i) := Nat.mul_le_mul_right _ h5
 rw [Nat.add_mul _ 1, Nat.one_mul] at h4
 omega
theorem mem_once_go {x : Nat} : ∀ (l r : List Nat), x ∈ l.foldl (fun r x => if r.contains x = true then r else r ++ [x]) r ↔ x ∈ r ∨ x ∈ l
 | [], r => by simp
 | y :: l, r => by
   rw [List.foldl_cons, mem_once_go l]
   by_cases h : r.contains y = true
   . rw [if_pos h]
     have hy : y ∈ r := by simpa using h
     constructor
     . rintro (a | a)
       . exact .inl a
       . exact .inr (List.mem_cons_of_mem _ a)
     . rintro (a | a)
       . exact .inl a
       . rcases List.mem_cons.mp a with rfl | a
         . exact .inl hy
         . exact .inr a
   . rw [if_neg h]
     simp only [List.mem_append, List.mem_cons, List.not_mem_nil, or_false]
     constructor
     . rintro ((a | a) | a) <;> simp [a]
     . rintro (a | a | a) <;> simp [a]
theorem mem_once {x : Nat} (l : List Nat) : x ∈ once l ↔ x ∈ l := by
 unfold once
 rw [mem_once_go]
 simp
theorem rising_go {x : Nat} : ∀ (l r : List Nat), x ∈ l.foldl (fun r x => (r.filter fun y => decide (y < x)) ++ [x] ++ r.filter fun y => decide (x < y)) r ↔ x ∈ r ∨ x ∈ l
 | [], r => by simp
 | y :: l, r => by
   rw [List.foldl_cons, rising_go l]
   simp only [List.mem_append, List.mem_cons, List.mem_filter, decide_eq_true_eq, List.not_mem_nil, or_false]
   have : x < y ∨ x = y ∨ y < x := by omega
   constructor
   . rintro (((a | a) | a) | a)
     . exact .inl a.1
     . exact .inr (.inl a)
     . exact .inl a.1
     . exact .inr (.inr a)
   . rintro (a | a | a)
     . rcases this with h | h | h
       . exact .inl (.inl (.inl ⟨a, h⟩))
       . exact .inl (.inl (.inr h))
       . exact .inl (.inr ⟨a, h⟩)
     . exact .inl (.inl (.inr a))
     . exact .inr a
theorem mem_rising {x : Nat} (l : List Nat) : x ∈ rising l ↔ x ∈ l := by
 unfold rising
 rw [rising_go]
 simp
abbrev Up (l : List Nat) : Prop := l.Pairwise (· < ·)
theorem up_insert {r : List Nat} (h : Up r) (x : Nat) : Up ((r.filter fun y => decide (y < x)) ++ [x] ++ r.filter fun y => decide (x < y)) := by
 unfold Up at *
 rw [List.append_assoc, List.pairwise_append]
 refine ⟨h.filter _, ?_, ?_⟩
 . rw [List.singleton_append, List.pairwise_cons]
   exact ⟨fun a ha => by simpa using (List.mem_filter.mp ha).2, h.filter _⟩
 . intro a ha b hb
   have h1 : a < x := by simpa using (List.mem_filter.mp ha).2
   rw [List.singleton_append] at hb
   rcases List.mem_cons.mp hb with rfl | hb
   . exact h1
   . have h2 : x < b := by simpa using (List.mem_filter.mp hb).2
     omega
theorem up_rising_go : ∀ (l r : List Nat), Up r -> Up (l.foldl (fun r x => (r.filter fun y => decide (y < x)) ++ [x] ++ r.filter fun y => decide (x < y)) r)
 | [], r, h => h
 | x :: l, r, h => by
   rw [List.foldl_cons]
   exact up_rising_go l _ (up_insert h x)
theorem up_rising (l : List Nat) : Up (rising l) := up_rising_go l [] List.Pairwise.nil
theorem up_ext : ∀ {a b : List Nat}, Up a -> Up b -> (∀ x, x ∈ a ↔ x ∈ b) -> a = b
 | [], [], _, _, _ => rfl
 | [], y :: b, _, _, h => by have := (h y).mpr (List.mem_cons_self); cases this
 | x :: a, [], _, _, h => by have := (h x).mp (List.mem_cons_self); cases this
 | x :: a, y :: b, ha, hb, h => by
   have ha' := List.pairwise_cons.mp ha
   have hb' := List.pairwise_cons.mp hb
   have e : x = y := by
    have h1 := (h x).mp (List.mem_cons_self)
    have h2 := (h y).mpr (List.mem_cons_self)
    rcases List.mem_cons.mp h1 with e | e
    . exact e
    . rcases List.mem_cons.mp h2 with e' | e'
      . exact e'.symm
      . have := ha'.1 y e'
        have := hb'.1 x e
        omega
   subst e
   congr 1
   refine up_ext ha'.2 hb'.2 fun z => ?_
   constructor
   . intro hz
     rcases List.mem_cons.mp ((h z).mp (List.mem_cons_of_mem _ hz)) with e | e
     . subst e
       exact absurd (ha'.1 z hz) (Nat.lt_irrefl _)
     . exact e
   . intro hz
     rcases List.mem_cons.mp ((h z).mpr (List.mem_cons_of_mem _ hz)) with e | e
     . subst e
       exact absurd (hb'.1 z hz) (Nat.lt_irrefl _)
     . exact e
theorem rising_same {a b : List Nat} (h : ∀ x, x ∈ a ↔ x ∈ b) : rising a = rising b :=
 up_ext (up_rising a) (up_rising b) fun x => by rw [mem_rising, mem_rising]; exact h x
theorem mem_lost {n w x : Nat} (h : w < 2 ^ n) : x ∈ lost n w ↔ ∃ i, i < n /\ losN n w i = x := by
 unfold lost
 rw [mem_once, List.mem_map]
 constructor
 . rintro ⟨i, hi, e⟩
   have hi' := List.mem_range.mp hi
   exact ⟨i, hi', by rw [← without_eq h hi']; exact e⟩
 . rintro ⟨i, hi, e⟩
   exact ⟨i, List.mem_range.mpr hi, by rw [without_eq h hi]; exact e⟩
theorem mem_gained {n w x : Nat} (h : w < 2 ^ n) : x ∈ gained n w ↔ ∃ i, i ≤ n /\ (gaiN n w i 0 = x ∨ gaiN n w i 1 = x) := by
 unfold gained
 rw [mem_once, List.mem_flatMap]
 constructor
 . rintro ⟨i, hi, e⟩
   have hi' : i ≤ n := Nat.le_of_lt_succ (List.mem_range.mp hi)
   refine ⟨i, hi', ?_⟩
   simp only [List.mem_cons, List.not_mem_nil, or_false] at e
   rw [with_eq h hi', with_eq h hi'] at e
   rcases e with e | e
   . exact .inl (by simpa using e.symm)
   . exact .inr (by simpa using e.symm)
 . rintro ⟨i, hi, e⟩
   refine ⟨i, List.mem_range.mpr (by omega), ?_⟩
   simp only [List.mem_cons, List.not_mem_nil, or_false]
   rw [with_eq h hi, with_eq h hi]
   rcases e with e | e
   . exact .inl (by simpa using e.symm)
   . exact .inr (by simpa using e.symm)
theorem lost_lt {n w x : Nat} (h : w < 2 ^ n) (m : x ∈ lost n w) : x < 2 ^ (n - 1) := by
 obtain ⟨i, hi, e⟩ := (mem_lost h).mp m
 rw [← e]
 exact losN_lt h hi
theorem gained_lt {n w x : Nat} (h : w < 2 ^ n) (m : x ∈ gained n w) : x < 2 ^ (n + 1) := by
 obtain ⟨i, hi, e⟩ := (mem_gained h).mp m
 rcases e with e | e
 . rw [← e]; exact gaiN_lt h hi (by omega)
 . rw [← e]; exact gaiN_lt h hi (by omega)
end LL
end
section
namespace LL
open Km469
theorem filter_lt_gt (r : List Nat) (x : Nat) : (r.filter fun y => decide (y < x)).length + (r.filter fun y => decide (x < y)).length ≤ r.length := by
 induction r with
 | nil => simp
 | cons y r ih =>
   rw [List.filter_cons, List.filter_cons]
   have : y < x ∨ y = x ∨ x < y := by omega
   rcases this with h | h | h
   . rw [if_pos (by simpa using h), if_neg (by simp; omega)]
     simp only [List.length_cons]; omega
   . rw [if_neg (by simp; omega), if_neg (by simp; omega)]
     simp only [List.length_cons]; omega
   . rw [if_neg (by simp; omega), if_pos (by simpa using h)]
     simp only [List.length_cons]; omega
theorem rising_len_go : ∀ (l r : List Nat), (l.foldl (fun r x => (r.filter fun y => decide (y < x)) ++ [x] ++ r.filter fun y => decide (x < y)) r).length ≤ r.length + l.length
 | [], r => by simp
 | x :: l, r => by
   rw [List.foldl_cons]
   refine Nat.le_trans (rising_len_go l _) ?_
   have := filter_lt_gt r x
   simp only [List.length_append, List.length_cons, List.length_nil]
   omega
theorem rising_len (l : List Nat) : (rising l).length ≤ l.length := by
 have := rising_len_go l []
 simpa [rising] using this
theorem up_nodup {l : List Nat} (h : Up l) : l.Nodup := h.imp fun hab => Nat.ne_of_lt hab
theorem rising_len_nodup : ∀ {l : List Nat}, l.Nodup -> (rising l).length = l.length := by
 suffices h : ∀ (l r : List Nat), (r ++ l).Nodup → (l.foldl (fun r x => (r.filter fun y => decide (y < x)) ++ [x] ++ r.filter fun y => decide (x < y)) r).length = r.length + l.length by
  intro l hl
  have := h l [] (by simpa using hl)
  simpa [rising] using this
 intro l
 induction l with
 | nil => intro r _; simp
 | cons x l ih =>
   intro r hr
   rw [List.foldl_cons]
   have hx : x ∉ r := by
    intro hm
    have := (List.nodup_append.mp hr).2.2 x hm x List.mem_cons_self
    exact this rfl
   have e : (r.filter fun y => decide (y < x)).length + (r.filter fun y => decide (x < y)).length = r.length := by
    clear ih hr
    induction r with
    | nil => simp
    | cons y r ih2 =>
      have hy : x ∉ r := fun q => hx (List.mem_cons_of_mem _ q)
      have hne : x ≠ y := fun q => hx (by rw [q]; exact List.mem_cons_self)
      have := ih2 hy
      rw [List.filter_cons, List.filter_cons]
      rcases Nat.lt_or_gt_of_ne hne with h | h
      . rw [if_neg (by simp; omega), if_pos (by simpa using h)]
        simp only [List.length_cons]; omega
      . rw [if_pos (by simpa using h), if_neg (by simp; omega)]
        simp only [List.length_cons]; omega
   rw [ih]
   . simp only [List.length_append, List.length_cons, List.length_nil]
     omega
   . rw [List.nodup_append] at hr ⊢
     have hl := List.nodup_cons.mp hr.2.1
     refine ⟨?_, hl.2, ?_⟩
     . rw [List.append_assoc, List.nodup_append]
       refine ⟨hr.1.filter _, ?_, ?_⟩
       . rw [List.singleton_append, List.nodup_cons]
         exact ⟨fun q => hx (List.mem_filter.mp q).1, hr.1.filter _⟩
       . intro a ha b hb
         have h1 : a < x := by simpa using (List.mem_filter.mp ha).2
         rw [List.singleton_append] at hb
         rcases List.mem_cons.mp hb with rfl | hb
         . omega
         . have h2 : x < b := by simpa using (List.mem_filter.mp hb).2
           omega
     . intro a ha b hb
       rw [List.append_assoc, List.mem_append, List.singleton_append, List.mem_cons] at ha
       rcases ha with ha | ha | ha
       . exact hr.2.2 a (List.mem_filter.mp ha).1 b (List.mem_cons_of_mem _ hb)
       . subst ha
         intro q
         subst q
         exact hl.1 hb
       . exact hr.2.2 a (List.mem_filter.mp ha).1 b (List.mem_cons_of_mem _ hb)
theorem once_len_go : ∀ (l r : List Nat), (l.foldl (fun r x => if r.contains x = true then r else r ++ [x]) r).length ≤ r.length + l.length
 | [], r => by simp
 | x :: l, r => by
   rw [List.foldl_cons]
   refine Nat.le_trans (once_len_go l _) ?_
   split
   . simp only [List.length_cons]; omega
   . simp only [List.length_append, List.length_cons, List.length_nil]; omega
theorem once_len (l : List Nat) : (once l).length ≤ l.length := by
 have := once_len_go l []
 simpa [once] using this
theorem rising_lost_len (n w : Nat) : (rising (lost n w)).length ≤ n := by
 refine Nat.le_trans (rising_len _) ?_
 refine Nat.le_trans (once_len _) ?_
 simp
theorem fill_eq {n : Nat} {l : List Nat} (h : l.length ≤ n) : fill n l = l ++ List.replicate (n - l.length) 0 := by
 unfold fill
 rw [List.take_of_length_le h]
def bitN (w k : Nat) : Nat := w / 2 ^ k % 2
theorem gai_step {n w i : Nat} (hi : i < n) : gaiN n w i (bitN w (n - 1 - i)) = gaiN n w (i + 1) (bitN w (n - 1 - i)) := by
 unfold gaiN bitN
 have e1 : n - i = (n - 1 - i) + 1 := by omega
 have e2 : n - (i + 1) = n - 1 - i := by omega
 rw [e1, e2]
 generalize n - 1 - i = k
 have h1 : w / 2 ^ (k + 1) = w / 2 ^ k / 2 := by rw [Nat.pow_succ, Nat.div_div_eq_div_mul]
 have h2 : w % 2 ^ (k + 1) = w % 2 ^ k + 2 ^ k * (w / 2 ^ k % 2) := by rw [Nat.pow_succ, Nat.mod_mul]
 rw [h1, h2, Nat.pow_succ]
 have h3 := Nat.div_add_mod (w / 2 ^ k) 2
 generalize w / 2 ^ k = q at *
 generalize w % 2 ^ k = r
 generalize 2 ^ k = p
 generalize q / 2 = a at *
 generalize q % 2 = b at *
 subst h3
 grind
def canon (n w : Nat) : List Nat := (List.range n).map (fun i => gaiN n w i (1 - bitN w (n - 1 - i))) ++ [gaiN n w n 0, gaiN n w n 1]
theorem mem_canon {n w : Nat} : ∀ (d i : Nat), i + d = n -> ∀ x, x ≤ 1 -> gaiN n w i x ∈ canon n w
 | 0, i, h, x, hx => by
   have : i = n := by omega
   subst this
   unfold canon
   rw [List.mem_append]
   right
   have : x = 0 ∨ x = 1 := by omega
   rcases this with rfl | rfl <;> simp
 | d + 1, i, h, x, hx => by
   by_cases hb : x = bitN w (n - 1 - i)
   . have e : gaiN n w i x = gaiN n w (i + 1) x := by rw [hb]; exact gai_step (by omega)
     rw [e]
     exact mem_canon d (i + 1) (by omega) x hx
   . unfold canon
     rw [List.mem_append]
     left
     rw [List.mem_map]
     refine ⟨i, List.mem_range.mpr (by omega), ?_⟩
     have hb1 : bitN w (n - 1 - i) < 2 := Nat.mod_lt _ (by omega)
     have : 1 - bitN w (n - 1 - i) = x := by omega
     rw [this]
theorem rising_gained_len {n w : Nat} (h : w < 2 ^ n) : (rising (gained n w)).length ≤ n + 2 := by
 have e : rising (gained n w) = rising (canon n w) := by
  refine rising_same fun x => ?_
  rw [mem_gained h]
  constructor
  . rintro ⟨i, hi, e | e⟩
    . rw [← e]; exact mem_canon (n - i) i (by omega) 0 (by omega)
    . rw [← e]; exact mem_canon (n - i) i (by omega) 1 (by omega)
  . intro hm
    unfold canon at hm
    rw [List.mem_append] at hm
    rcases hm with hm | hm
    . obtain ⟨i, hi, e⟩ := List.mem_map.mp hm
      have hi' := List.mem_range.mp hi
      refine ⟨i, by omega, ?_⟩
      have hb1 : bitN w (n - 1 - i) < 2 := Nat.mod_lt _ (by omega)
      have : 1 - bitN w (n - 1 - i) = 0 ∨ 1 - bitN w (n - 1 - i) = 1 := by omega
      rcases this with q | q
      . left; rw [← e, q]
      . right; rw [← e, q]
    . simp only [List.mem_cons, List.not_mem_nil, or_false] at hm
      rcases hm with e | e
      . exact ⟨n, Nat.le_refl _, .inl e.symm⟩
      . exact ⟨n, Nat.le_refl _, .inr e.symm⟩
 rw [e]
 refine Nat.le_trans (rising_len _) ?_
 unfold canon
 simp
theorem runs_count : ∀ (l : List Bool), l ≠ [] -> runs l = 1 + ((List.range' 1 (l.length - 1)).filter fun i => l[i]? != l[i - 1]?).length
 | [], h => absurd rfl h
 | [a], _ => by simp [runs]
 | a :: b :: l, _ => by
   have ih := runs_count (b :: l) (by simp)
   show (if a = b then 0 else 1) + runs (b :: l) = _
   rw [ih]
   have e : (List.range' 1 ((a :: b :: l).length - 1)) = 1 :: (List.range' 1 ((b :: l).length - 1)).map (· + 1) := by
    simp only [List.length_cons, Nat.add_sub_cancel]
    rw [List.range'_succ]
    congr 1
    have q : (fun x : Nat => x + 1) = fun x => 1 + x := by funext x; omega
    rw [q, List.map_add_range']
   rw [e, List.filter_cons, List.filter_map]
   have h1 : (((a :: b :: l)[1]? != (a :: b :: l)[1 - 1]?) = true) ↔ ¬ a = b := by
    simp
    constructor
    . intro h q; exact h q.symm
    . intro h q; exact h q.symm
   have h2 : ((List.range' 1 ((b :: l).length - 1)).filter ((fun i => (a :: b :: l)[i]? != (a :: b :: l)[i - 1]?) ∘ (· + 1))) = ((List.range' 1 ((b :: l).length - 1)).filter fun i => (b :: l)[i]? != (b :: l)[i - 1]?) := by
    apply List.filter_congr
    intro i hi
    have : 1 ≤ i := (List.mem_range'.mp hi) |> fun ⟨k, _, e⟩ => by omega
    obtain ⟨j, rfl⟩ : ∃ j, i = j + 1 := ⟨i - 1, by omega⟩
    rfl
   rw [h2]
   by_cases hab : a = b
   . rw [if_pos hab, if_neg (by rw [h1]; exact fun q => q hab)]
     simp only [List.length_map]
     omega
   . rw [if_neg hab, if_pos (by rw [h1]; exact hab)]
     simp only [List.length_map, List.length_cons]
     omega
theorem runs_text {n w : Nat} (hn : 0 < n) : runs (text n w) = 1 + ((List.range' 1 (n - 1)).filter fun i => decide (bitN w (n - 1 - i) ≠ bitN w (n - 1 - (i - 1)))).length := by
 rw [runs_count _ (by intro h; have := text_length n w; rw [h] at this; simp at this; omega), text_length]
 congr 2
 apply List.filter_congr
 intro i hi
 obtain ⟨k, hk, e⟩ := List.mem_range'.mp hi
 rw [text_get _ _ _ (by omega), text_get _ _ _ (by omega)]
 unfold bitN
 have h1 : w / 2 ^ (n - 1 - i) % 2 < 2 := Nat.mod_lt _ (by omega)
 have h2 : w / 2 ^ (n - 1 - (i - 1)) % 2 < 2 := Nat.mod_lt _ (by omega)
 generalize w / 2 ^ (n - 1 - i) % 2 = x at *
 generalize w / 2 ^ (n - 1 - (i - 1)) % 2 = y at *
 have hx : x = 0 ∨ x = 1 := by omega
 have hy : y = 0 ∨ y = 1 := by omega
 rcases hx with rfl | rfl <;> rcases hy with rfl | rfl <;> decide
theorem weight_succ (n w : Nat) : weight (n + 1) w = weight n (w / 2) + (if w % 2 = 1 then n + 1 else 0) := by
 unfold weight
 dsimp only
 rw [List.range_succ, List.map_append, List.foldl_append, List.map_cons, List.map_nil, List.foldl_cons, List.foldl_nil]
 congr 1
 . congr 1
   apply List.map_congr_left
   intro i hi
   have hi' := List.mem_range.mp hi
   rw [text_succ, List.getD_eq_getElem?_getD, List.getD_eq_getElem?_getD, List.getElem?_append_left (by rw [text_length]; exact hi')]
 . rw [text_succ, List.getD_eq_getElem?_getD, List.getElem?_append_right (by rw [text_length]; exact Nat.le_refl _), text_length]
   simp
def wl : Nat -> List Nat
 | 0 => [0]
 | k + 1 => (wl k).flatMap fun x => [x, x + (k + 1)]
theorem flatMap_two_len {f g : Nat -> Nat} : ∀ l : List Nat, (l.flatMap fun x => [f x, g x]).length = 2 * l.length
 | [] => rfl
 | x :: l => by
   rw [List.flatMap_cons, List.length_append, flatMap_two_len l]
   simp
   omega
theorem flatMap_two_get {f g : Nat -> Nat} : ∀ (l : List Nat) (i : Nat), (l.flatMap fun x => [f x, g x])[i]? = (l[i / 2]?).map fun x => if i % 2 = 1 then g x else f x
 | [], i => by simp
 | x :: l, 0 => by simp
 | x :: l, 1 => by simp
 | x :: l, i + 2 => by
   rw [List.flatMap_cons]
   show (f x :: g x :: (l.flatMap fun x => [f x, g x]))[i + 2]? = _
   rw [List.getElem?_cons_succ, List.getElem?_cons_succ, flatMap_two_get l i]
   have e1 : (i + 2) / 2 = i / 2 + 1 := by omega
   have e2 : (i + 2) % 2 = i % 2 := by omega
   rw [e1, e2, List.getElem?_cons_succ]
theorem wl_len : ∀ n, (wl n).length = 2 ^ n
 | 0 => rfl
 | n + 1 => by
   show ((wl n).flatMap fun x => [x, x + (n + 1)]).length = _
   rw [flatMap_two_len, wl_len n, Nat.pow_succ]
   omega
theorem wl_get : ∀ (n w : Nat), w < 2 ^ n -> (wl n)[w]? = some (weight n w)
 | 0, w, h => by
   have : w = 0 := by simpa using h
   subst this
   rfl
 | n + 1, w, h => by
   show ((wl n).flatMap fun x => [x, x + (n + 1)])[w]? = _
   rw [flatMap_two_get, wl_get n (w / 2) (by rw [Nat.pow_succ] at h; omega), weight_succ]
   simp only [Option.map_some]
   split <;> rfl
theorem alike_iff {n u v : Nat} : alike n u v = true ↔ ∃ x, x ∈ lost n u /\ x ∈ lost n v := by
 unfold alike
 rw [List.any_eq_true]
 constructor
 . rintro ⟨x, h1, h2⟩
   exact ⟨x, h1, by simpa using h2⟩
 . rintro ⟨x, h1, h2⟩
   exact ⟨x, h1, by simpa using h2⟩
theorem alikeG_iff {n u v : Nat} : alikeG n u v = true ↔ ∃ x, x ∈ gained n u /\ x ∈ gained n v := by
 unfold alikeG
 rw [List.any_eq_true]
 constructor
 . rintro ⟨x, h1, h2⟩
   exact ⟨x, h1, by simpa using h2⟩
 . rintro ⟨x, h1, h2⟩
   exact ⟨x, h1, by simpa using h2⟩
theorem alike_comm (n u v : Nat) : alike n u v = alike n v u := by
 rw [Bool.eq_iff_iff, alike_iff, alike_iff]
 constructor <;> rintro ⟨x, h1, h2⟩ <;> exact ⟨x, h2, h1⟩
theorem alike_self {n w : Nat} (hn : 0 < n) (h : w < 2 ^ n) : alike n w w = true := by
 rw [alike_iff]
 exact ⟨losN n w 0, (mem_lost h).mpr ⟨0, hn, rfl⟩, (mem_lost h).mpr ⟨0, hn, rfl⟩⟩
theorem safe_cons (n w : Nat) (l : List Nat) : safe n (w :: l) = true ↔ (∀ v ∈ l, alike n w v = false) /\ safe n l = true := by
 show ((l.all fun v => !alike n w v) && safe n l) = true ↔ _
 rw [Bool.and_eq_true, List.all_eq_true]
 constructor
 . rintro ⟨h1, h2⟩
   exact ⟨fun v hv => by simpa using h1 v hv, h2⟩
 . rintro ⟨h1, h2⟩
   exact ⟨fun v hv => by simpa using h1 v hv, h2⟩
theorem safe_snoc (n w : Nat) : ∀ l : List Nat, safe n (l ++ [w]) = true ↔ safe n l = true /\ ∀ v ∈ l, alike n v w = false
 | [] => by simp [safe]
 | u :: l => by
   rw [List.cons_append, safe_cons, safe_snoc n w l, safe_cons]
   constructor
   . rintro ⟨h1, h2, h3⟩
     refine ⟨⟨fun v hv => h1 v (List.mem_append_left _ hv), h2⟩, fun v hv => ?_⟩
     rcases List.mem_cons.mp hv with rfl | hv
     . exact h1 w (List.mem_append_right _ (by simp))
     . exact h3 v hv
   . rintro ⟨⟨h1, h2⟩, h3⟩
     refine ⟨fun v hv => ?_, h2, fun v hv => h3 v (List.mem_cons_of_mem _ hv)⟩
     rcases List.mem_append.mp hv with hv | hv
     . exact h1 v hv
     . simp only [List.mem_cons, List.not_mem_nil, or_false] at hv
       subst hv
       exact h3 u List.mem_cons_self
/- word by word, rising: with the first, or without it; of like sizes with it -/
set_option wf.preprocess false in
def bst (n : Nat) (l : List Nat) : List Nat :=
 match l with
 | [] => []
 | w :: r =>
   let a := bst n (r.filter fun v => !alike n w v)
   let b := bst n r
   if b.length ≤ a.length + 1 then w :: a else b
termination_by l.length
decreasing_by
 . simp only [List.length_cons]; exact Nat.lt_succ_of_le (List.length_filter_le _ _)
 . simp
theorem bst_nil (n : Nat) : bst n [] = [] := by rw [bst]
theorem bst_cons (n w : Nat) (r : List Nat) : bst n (w :: r) = if (bst n r).length ≤ (bst n (r.filter fun v => !alike n w v)).length + 1 then w :: bst n (r.filter fun v => !alike n w v) else bst n r := by
 rw [bst]
theorem bst_len (n : Nat) : ∀ (k : Nat) (l : List Nat), l.length ≤ k -> (bst n l).length ≤ l.length
 | _, [], _ => by rw [bst_nil]; exact Nat.le_refl _
 | 0, _ :: _, h => by simp at h
 | k + 1, w :: r, h => by
   rw [bst_cons]
   have hr : r.length ≤ k := by simpa using h
   have h1 := bst_len n k r hr
   have hf : (r.filter fun v => !alike n w v).length ≤ r.length := List.length_filter_le _ _
   have h2 := bst_len n k (r.filter fun v => !alike n w v) (Nat.le_trans hf hr)
   split
   . simp only [List.length_cons]; omega
   . simp only [List.length_cons]; omega
theorem growGo_eq (n : Nat) : ∀ (f : Nat) (r l best : List Nat), r.length < f -> growGo n f r l best = if best.length < l.length + (bst n r).length then l ++ bst n r else best
 | 0, _, _, _, h => by omega
 | f + 1, [], l, best, _ => by
   rw [bst_nil]
   show (if best.length < l.length then l else best) = _
   simp
 | f + 1, w :: r, l, best, h => by
   have hr : r.length < f := by simpa using h
   have hf : (r.filter fun v => !alike n w v).length ≤ r.length := List.length_filter_le _ _
   show (if l.length + r.length + 1 ≤ best.length then best else growGo n f r l (growGo n f (r.filter fun v => !alike n w v) (l ++ [w]) best)) = _
   rw [growGo_eq n f r _ _ hr, growGo_eq n f _ _ _ (Nat.lt_of_le_of_lt hf hr)]
   have hb := bst_len n (w :: r).length (w :: r) (Nat.le_refl _)
   rw [bst_cons] at hb ⊢
   generalize bst n (r.filter fun v => !alike n w v) = A at *
   generalize bst n r = B at *
   simp only [List.length_cons, List.length_append, List.length_nil] at *
   by_cases c0 : l.length + r.length + 1 ≤ best.length
   . rw [if_pos c0, if_neg (by omega)]
   . rw [if_neg c0]
     by_cases c1 : B.length ≤ A.length + 1
     . rw [if_pos c1] at hb ⊢
       simp only [List.length_cons] at hb ⊢
       by_cases c2 : best.length < l.length + (0 + 1) + A.length
       . rw [if_pos c2, if_pos (show best.length < l.length + (A.length + 1) by omega)]
         rw [if_neg (by simp only [List.length_append, List.length_cons, List.length_nil]; omega)]
         simp
       . rw [if_neg c2, if_neg (show ¬ best.length < l.length + (A.length + 1) by omega), if_neg (by omega)]
     . rw [if_neg c1] at hb ⊢
       by_cases c2 : best.length < l.length + (0 + 1) + A.length
       . rw [if_pos c2]
         rw [if_pos (show (l ++ [w] ++ A).length < l.length + B.length by simp only [List.length_append, List.length_cons, List.length_nil]; omega), if_pos (by omega)]
       . rw [if_neg c2]
theorem most_eq {n : Nat} (l : List Nat) : most n l = l ++ bst n ((List.range (2 ^ n)).filter fun w => l.all fun v => !alike n w v) := by
 unfold most
 rw [growGo_eq]
 . split
   . rfl
   . rename_i h
     have : (bst n ((List.range (2 ^ n)).filter fun w => l.all fun v => !alike n w v)).length = 0 := by omega
     rw [List.eq_nil_of_length_eq_zero this, List.append_nil]
 . refine Nat.lt_succ_of_le (Nat.le_trans (List.length_filter_le _ _) ?_)
   simp
theorem bst_sub (n : Nat) : ∀ (k : Nat) (l : List Nat), l.length ≤ k -> (bst n l).Sublist l
 | _, [], _ => by rw [bst_nil]; exact List.Sublist.slnil
 | 0, _ :: _, h => by simp at h
 | k + 1, w :: r, h => by
   rw [bst_cons]
   have hr : r.length ≤ k := by simpa using h
   have hf : (r.filter fun v => !alike n w v).length ≤ r.length := List.length_filter_le _ _
   split
   . exact ((bst_sub n k _ (Nat.le_trans hf hr)).trans List.filter_sublist).cons_cons _
   . exact (bst_sub n k r hr).trans (List.sublist_cons_self _ _)
end LL
end
section
namespace LL
open Km469
theorem los_gai {m s i x : Nat} (h : s < 2 ^ m) (hi : i ≤ m) (hx : x ≤ 1) : losN (m + 1) (gaiN m s i x) i = s := by
 unfold losN gaiN
 have e1 : m + 1 - i = (m - i) + 1 := by omega
 have e2 : m + 1 - 1 - i = m - i := by omega
 rw [e1, e2]
 generalize m - i = k
 have hp := Nat.two_pow_pos k
 have hr : s % 2 ^ k < 2 ^ k := Nat.mod_lt _ hp
 have h1 : ((s / 2 ^ k * 2 + x) * 2 ^ k + s % 2 ^ k) % 2 ^ k = s % 2 ^ k := by
  rw [Nat.mul_comm, Nat.mul_add_mod, Nat.mod_mod]
 have h2 : ((s / 2 ^ k * 2 + x) * 2 ^ k + s % 2 ^ k) / 2 ^ (k + 1) = s / 2 ^ k := by
  rw [Nat.pow_succ, ← Nat.div_div_eq_div_mul]
  rw [Nat.mul_comm (s / 2 ^ k * 2 + x), Nat.mul_add_div hp, Nat.div_eq_of_lt hr]
  omega
 rw [h1, h2]
 have := Nat.div_add_mod s (2 ^ k)
 rw [Nat.mul_comm] at this
 exact this
theorem gai_los {m v i : Nat} (hi : i ≤ m) : gaiN m (losN (m + 1) v i) i (bitN v (m - i)) = v := by
 unfold losN gaiN bitN
 have e1 : m + 1 - i = (m - i) + 1 := by omega
 have e2 : m + 1 - 1 - i = m - i := by omega
 rw [e1, e2]
 generalize m - i = k
 have hp := Nat.two_pow_pos k
 have hr : v % 2 ^ k < 2 ^ k := Nat.mod_lt _ hp
 have h1 : (v / 2 ^ (k + 1) * 2 ^ k + v % 2 ^ k) / 2 ^ k = v / 2 ^ (k + 1) := by
  rw [Nat.mul_comm, Nat.mul_add_div hp, Nat.div_eq_of_lt hr]
  omega
 have h2 : (v / 2 ^ (k + 1) * 2 ^ k + v % 2 ^ k) % 2 ^ k = v % 2 ^ k := by
  rw [Nat.mul_comm, Nat.mul_add_mod, Nat.mod_mod]
 rw [h1, h2, Nat.pow_succ, ← Nat.div_div_eq_div_mul]
 have h3 := Nat.div_add_mod (v / 2 ^ k) 2
 have h4 : v / 2 ^ k / 2 * 2 + v / 2 ^ k % 2 = v / 2 ^ k := by omega
 rw [h4]
 have := Nat.div_add_mod v (2 ^ k)
 rw [Nat.mul_comm] at this
 exact this
theorem dual {m s v : Nat} (hs : s < 2 ^ m) (hv : v < 2 ^ (m + 1)) : v ∈ gained m s ↔ s ∈ lost (m + 1) v := by
 rw [mem_gained hs, mem_lost hv]
 constructor
 . rintro ⟨i, hi, e | e⟩
   . exact ⟨i, by omega, by rw [← e]; exact los_gai hs hi (by omega)⟩
   . exact ⟨i, by omega, by rw [← e]; exact los_gai hs hi (by omega)⟩
 . rintro ⟨i, hi, e⟩
   refine ⟨i, by omega, ?_⟩
   have h := gai_los (m := m) (v := v) (i := i) (by omega)
   rw [e] at h
   have hb : bitN v (m - i) < 2 := Nat.mod_lt _ (by omega)
   have : bitN v (m - i) = 0 ∨ bitN v (m - i) = 1 := by omega
   rcases this with q | q
   . rw [q] at h; exact .inl h
   . rw [q] at h; exact .inr h
def maskN (l : List Nat) : Nat := l.foldl (fun m w => m ||| 2 ^ w) 0
theorem mask_go (l : List Nat) : ∀ (m j : Nat), (l.foldl (fun m w => m ||| 2 ^ w) m).testBit j = (m.testBit j || decide (j ∈ l)) := by
 induction l with
 | nil => intro m j; simp
 | cons w l ih =>
   intro m j
   rw [List.foldl_cons, ih, Nat.testBit_or, Nat.testBit_two_pow]
   by_cases h : w = j
   . subst h; simp
   . have : ¬ j = w := fun q => h q.symm
     simp [h, this]
theorem mask_bit (l : List Nat) (j : Nat) : (maskN l).testBit j = decide (j ∈ l) := by
 unfold maskN
 rw [mask_go]
 simp
def bitsOf (N f : Nat) : List Nat := (List.range N).filter fun j => f.testBit j
theorem mem_bits {N f j : Nat} : j ∈ bitsOf N f ↔ j < N /\ f.testBit j = true := by
 unfold bitsOf
 rw [List.mem_filter, List.mem_range]
theorem up_bits (N f : Nat) : Up (bitsOf N f) := List.Pairwise.filter _ List.pairwise_lt_range
theorem bits_zero (N : Nat) : bitsOf N 0 = [] := by
 unfold bitsOf
 simp
theorem low_bit : ∀ f : Nat, f ≠ 0 -> ∃ l m, f = 2 ^ l * (2 * m + 1)
 | f => by
   intro h
   by_cases e : f % 2 = 1
   . exact ⟨0, f / 2, by simp; omega⟩
   . obtain ⟨l, m, q⟩ := low_bit (f / 2) (by omega)
     refine ⟨l + 1, m, ?_⟩
     rw [Nat.pow_succ, Nat.mul_assoc, Nat.mul_comm 2, ← Nat.mul_assoc, ← q]
     omega
termination_by f => f
decreasing_by omega
theorem odd_bit {l m j : Nat} : (2 ^ l * (2 * m + 1)).testBit j = if j < l then false else if j = l then true else m.testBit (j - l - 1) := by
 rw [Nat.testBit_two_pow_mul]
 by_cases h : j < l
 . simp [h, Nat.not_le.mpr h]
 . rw [if_neg h]
   simp only [ge_iff_le, Nat.le_of_not_lt h, decide_true, Bool.true_and]
   by_cases h2 : j = l
   . subst h2
     simp [Nat.testBit_zero]
   . rw [if_neg h2]
     obtain ⟨k, hk⟩ : ∃ k, j - l = k + 1 := ⟨j - l - 1, by omega⟩
     rw [hk, Nat.testBit_succ]
     have : (2 * m + 1) / 2 = m := by omega
     rw [this]
     simp
theorem less_bit {l m j : Nat} : (2 ^ l * (2 * m + 1) - 1).testBit j = if j < l then true else if j = l then false else m.testBit (j - l - 1) := by
 have hp := Nat.two_pow_pos l
 have e : 2 ^ l * (2 * m + 1) - 1 = 2 ^ l * (2 * m) + (2 ^ l - 1) := by
  rw [Nat.mul_add, Nat.mul_one]
  omega
 rw [e, Nat.testBit_two_pow_mul_add _ (by omega)]
 by_cases h : j < l
 . rw [if_pos h, if_pos h, Nat.testBit_two_pow_sub_one]
   simpa using h
 . rw [if_neg h, if_neg h]
   by_cases h2 : j = l
   . subst h2
     simp [Nat.testBit_zero]
   . rw [if_neg h2]
     obtain ⟨k, hk⟩ : ∃ k, j - l = k + 1 := ⟨j - l - 1, by omega⟩
     rw [hk, Nat.testBit_succ]
     have : (2 * m) / 2 = m := by omega
     rw [this]
     simp
theorem low_parts {f : Nat} (h : f ≠ 0) : ∃ l, f.testBit l = true /\ (∀ j, j < l -> f.testBit j = false) /\ (∀ j, (f &&& (f - 1)).testBit j = (f.testBit j && decide (j ≠ l))) /\ f ^^^ (f &&& (f - 1)) = 2 ^ l := by
 obtain ⟨l, m, q⟩ := low_bit f h
 have r : ∀ j, (f &&& (f - 1)).testBit j = (f.testBit j && decide (j ≠ l)) := fun j => by
  rw [Nat.testBit_and, q, odd_bit, less_bit]
  by_cases h1 : j < l
  . simp [h1]
  . by_cases h2 : j = l
    . subst h2; simp
    . simp [h1, h2]
 refine ⟨l, by rw [q, odd_bit]; simp, fun j hj => by rw [q, odd_bit]; simp [hj], r, ?_⟩
 apply Nat.eq_of_testBit_eq
 intro j
 rw [Nat.testBit_xor, r, Nat.testBit_two_pow]
 by_cases h2 : j = l
 . subst h2
   rw [q, odd_bit]
   simp
 . have : ¬ l = j := fun z => h2 z.symm
   simp [h2, this]
theorem bits_low {N f l : Nat} (hl : l < N) (h1 : f.testBit l = true) (h2 : ∀ j, j < l -> f.testBit j = false) {r : Nat} (hr : ∀ j, r.testBit j = (f.testBit j && decide (j ≠ l))) : bitsOf N f = l :: bitsOf N r := by
 refine up_ext (up_bits N f) ?_ fun x => ?_
 . refine List.pairwise_cons.mpr ⟨fun y hy => ?_, up_bits N r⟩
   obtain ⟨a, b⟩ := mem_bits.mp hy
   rw [hr] at b
   simp at b
   rcases Nat.lt_trichotomy l y with z | z | z
   . exact z
   . exact absurd z.symm b.2
   . have := h2 y z
     rw [b.1] at this
     cases this
 . rw [List.mem_cons, mem_bits, mem_bits, hr]
   constructor
   . rintro ⟨a, b⟩
     by_cases e : x = l
     . exact .inl e
     . exact .inr ⟨a, by simp [b, e]⟩
   . rintro (e | ⟨a, b⟩)
     . subst e; exact ⟨hl, h1⟩
     . simp at b
       exact ⟨a, b.1⟩
theorem bits_filter {N f r : Nat} {p : Nat -> Bool} (hr : ∀ j, j < N -> r.testBit j = (f.testBit j && p j)) : bitsOf N r = (bitsOf N f).filter p := by
 unfold bitsOf
 rw [List.filter_filter]
 apply List.filter_congr
 intro j hj
 rw [hr j (List.mem_range.mp hj), Bool.and_comm]
end LL
end
section
namespace LL
open Km469
def nearN (n w : Nat) : Nat := (rising (lost n w)).foldl (fun m s => m ||| maskN (rising (gained (n - 1) s))) 0
theorem or_go (g : Nat -> Nat) (l : List Nat) : ∀ (m j : Nat), (l.foldl (fun m s => m ||| g s) m).testBit j = (m.testBit j || l.any fun s => (g s).testBit j) := by
 induction l with
 | nil => intro m j; simp
 | cons w l ih =>
   intro m j
   rw [List.foldl_cons, ih, Nat.testBit_or, List.any_cons, Bool.or_assoc]
theorem near_bit {n w v : Nat} (hn : 1 ≤ n) (hw : w < 2 ^ n) (hv : v < 2 ^ n) : (nearN n w).testBit v = alike n w v := by
 obtain ⟨m, rfl⟩ : ∃ m, n = m + 1 := ⟨n - 1, by omega⟩
 unfold nearN
 rw [or_go, Nat.zero_testBit, Bool.false_or, Bool.eq_iff_iff, List.any_eq_true, alike_iff]
 have e : m + 1 - 1 = m := by omega
 rw [e]
 constructor
 . rintro ⟨s, h1, h2⟩
   rw [mask_bit, decide_eq_true_eq, mem_rising] at h2
   rw [mem_rising] at h1
   have hs := lost_lt hw h1
   rw [e] at hs
   exact ⟨s, h1, (dual hs hv).mp h2⟩
 . rintro ⟨s, h1, h2⟩
   have hs := lost_lt hw h1
   rw [e] at hs
   exact ⟨s, (mem_rising _).mpr h1, by rw [mask_bit, decide_eq_true_eq, mem_rising]; exact (dual hs hv).mpr h2⟩
def cntF (ok : Nat -> Nat -> Bool) : Nat -> List Nat -> Nat
 | 0, _ => 0
 | _ + 1, [] => 0
 | f + 1, w :: r => 1 + cntF ok f (r.filter (ok w)) + cntF ok f r
theorem cnt_fuel (ok : Nat -> Nat -> Bool) : ∀ (f g : Nat) (l : List Nat), l.length ≤ f -> l.length ≤ g -> cntF ok f l = cntF ok g l
 | 0, 0, _, _, _ => rfl
 | 0, g + 1, [], _, _ => rfl
 | 0, g + 1, _ :: _, h, _ => by simp at h
 | f + 1, 0, [], _, _ => rfl
 | f + 1, 0, _ :: _, _, h => by simp at h
 | f + 1, g + 1, [], _, _ => rfl
 | f + 1, g + 1, w :: r, h1, h2 => by
   have a1 : r.length ≤ f := by simpa using h1
   have a2 : r.length ≤ g := by simpa using h2
   have hf : (r.filter (ok w)).length ≤ r.length := List.length_filter_le _ _
   show 1 + cntF ok f (r.filter (ok w)) + cntF ok f r = 1 + cntF ok g (r.filter (ok w)) + cntF ok g r
   rw [cnt_fuel ok f g r a1 a2, cnt_fuel ok f g _ (Nat.le_trans hf a1) (Nat.le_trans hf a2)]
def cnt (ok : Nat -> Nat -> Bool) (l : List Nat) : Nat := cntF ok l.length l
theorem cnt_cons (ok : Nat -> Nat -> Bool) (w : Nat) (r : List Nat) : cnt ok (w :: r) = 1 + cnt ok (r.filter (ok w)) + cnt ok r := by
 show 1 + cntF ok r.length (r.filter (ok w)) + cntF ok r.length r = _
 rw [cnt_fuel ok r.length (r.filter (ok w)).length _ (List.length_filter_le _ _) (Nat.le_refl _)]
 rfl
theorem cnt_sub (ok : Nat -> Nat -> Bool) : ∀ (k : Nat) (b a : List Nat), b.length ≤ k -> a.Sublist b -> cnt ok a ≤ cnt ok b
 | _, [], a, _, h => by
   have : a = [] := by simpa using h
   subst this
   exact Nat.le_refl _
 | 0, _ :: _, _, h, _ => by simp at h
 | k + 1, w :: r, a, hk, h => by
   have hr : r.length ≤ k := by simpa using hk
   rw [cnt_cons]
   cases h with
   | cons _ h =>
     have := cnt_sub ok k r a hr h
     omega
   | cons_cons _ h =>
     rename_i a'
     rw [cnt_cons]
     have h1 := cnt_sub ok k r a' hr h
     have h2 := cnt_sub ok k (r.filter (ok w)) (a'.filter (ok w)) (Nat.le_trans (List.length_filter_le _ _) hr) (h.filter _)
     omega
theorem cnt_pow (ok : Nat -> Nat -> Bool) : ∀ (k : Nat) (l : List Nat), l.length ≤ k -> cnt ok l + 1 ≤ 2 ^ l.length
 | _, [], _ => by simp [cnt, cntF]
 | 0, _ :: _, h => by simp at h
 | k + 1, w :: r, h => by
   have hr : r.length ≤ k := by simpa using h
   rw [cnt_cons, List.length_cons, Nat.pow_succ]
   have h1 := cnt_pow ok k r hr
   have h2 := cnt_pow ok k (r.filter (ok w)) (Nat.le_trans (List.length_filter_le _ _) hr)
   have h3 : 2 ^ (r.filter (ok w)).length ≤ 2 ^ r.length := Nat.pow_le_pow_right (by decide) (List.length_filter_le _ _)
   omega
theorem cnt_congr {ok ok' : Nat -> Nat -> Bool} : ∀ (k : Nat) (l : List Nat), l.length ≤ k -> (∀ w ∈ l, ∀ v ∈ l, ok w v = ok' w v) -> cnt ok l = cnt ok' l
 | _, [], _, _ => rfl
 | 0, _ :: _, h, _ => by simp at h
 | k + 1, w :: r, h, he => by
   have hr : r.length ≤ k := by simpa using h
   have e : r.filter (ok w) = r.filter (ok' w) := List.filter_congr fun v hv => he w List.mem_cons_self v (List.mem_cons_of_mem _ hv)
   rw [cnt_cons, cnt_cons, e]
   rw [cnt_congr k r hr fun a ha b hb => he a (List.mem_cons_of_mem _ ha) b (List.mem_cons_of_mem _ hb)]
   rw [cnt_congr k (r.filter (ok' w)) (Nat.le_trans (List.length_filter_le _ _) hr) fun a ha b hb => he a (List.mem_cons_of_mem _ (List.mem_filter.mp ha).1) b (List.mem_cons_of_mem _ (List.mem_filter.mp hb).1)]
def tab5 : List Nat := [65815, 197439, 460671, 658158, 1382263, 3026686, 5012732, 8972520, 18290455, 37633854, 74743668, 149483240, 391149392, 786497248, 1958804672, 3900762240, 18284823, 54461230, 125765492, 183372520, 393680656, 788409888, 2096921664, 3907577984, 387387648, 1061040640, 2138338304, 4008224768, 2001752064, 4276150272, 4240490496, 3900735488]
theorem tab_ok : ((List.range 32).all fun w => (List.range 32).all fun v => (!alike 5 w v) == (!(tab5.getD w 0).testBit v)) = true := by decide +kernel
theorem tab_cnt : cnt (fun w v => !(tab5.getD w 0).testBit v) (List.range 32) ≤ 3000 := by decide +kernel
theorem cnt_most {n : Nat} (hn : n ≤ 5) : cnt (fun w v => !alike n w v) (List.range (2 ^ n)) ≤ 100000 := by
 by_cases h : n = 5
 . subst h
   have e : cnt (fun w v => !alike 5 w v) (List.range (2 ^ 5)) = cnt (fun w v => !(tab5.getD w 0).testBit v) (List.range 32) := cnt_congr 32 _ (by simp) fun w hw v hv => by
    have := List.all_eq_true.mp (List.all_eq_true.mp tab_ok w hw) v hv
    exact eq_of_beq this
   rw [e]
   exact Nat.le_trans tab_cnt (by decide)
 . have h1 := cnt_pow (fun w v => !alike n w v) _ (List.range (2 ^ n)) (Nat.le_refl _)
   rw [List.length_range] at h1
   have h2 : 2 ^ n ≤ 2 ^ 4 := Nat.pow_le_pow_right (by decide) (by omega)
   have h3 : 2 ^ (2 ^ n) ≤ 2 ^ 16 := Nat.pow_le_pow_right (by decide) (by simpa using h2)
   have h4 : (2 : Nat) ^ 16 = 65536 := by decide
   omega
end LL
end
section
namespace LL
open Km469
def lenF (ok : Nat -> Nat -> Bool) : Nat -> List Nat -> Nat
 | 0, _ => 0
 | _ + 1, [] => 0
 | f + 1, w :: r => Nat.max (1 + lenF ok f (r.filter (ok w))) (lenF ok f r)
theorem len_best (n : Nat) (ok : Nat -> Nat -> Bool) : ∀ (f : Nat) (l s : List Nat), l.length ≤ f -> (∀ w ∈ l, ∀ v ∈ l, alike n w v = false -> ok w v = true) -> s.Sublist l -> safe n s = true -> s.length ≤ lenF ok f l
 | 0, [], s, _, _, h, _ => by
   have : s = [] := by simpa using h
   subst this
   exact Nat.zero_le _
 | 0, _ :: _, _, h, _, _, _ => by simp at h
 | f + 1, [], s, _, _, h, _ => by
   have : s = [] := by simpa using h
   subst this
   exact Nat.zero_le _
 | f + 1, w :: r, s, hl, hok, h, hs => by
   have hr : r.length ≤ f := by simpa using hl
   show s.length ≤ Nat.max (1 + lenF ok f (r.filter (ok w))) (lenF ok f r)
   cases h with
   | cons _ h => exact Nat.le_trans (len_best n ok f r s hr (fun a ha b hb => hok a (List.mem_cons_of_mem _ ha) b (List.mem_cons_of_mem _ hb)) h hs) (Nat.le_max_right _ _)
   | cons_cons _ h =>
     rename_i s'
     rw [safe_cons] at hs
     have hsub : s'.Sublist (r.filter (ok w)) := by
      have e : s'.filter (ok w) = s' := List.filter_eq_self.mpr fun v hv => hok w List.mem_cons_self v (List.mem_cons_of_mem _ (h.subset hv)) (hs.1 v hv)
      rw [← e]
      exact h.filter _
     have := len_best n ok f (r.filter (ok w)) s' (Nat.le_trans (List.length_filter_le _ _) hr) (fun a ha b hb => hok a (List.mem_cons_of_mem _ (List.mem_filter.mp ha).1) b (List.mem_cons_of_mem _ (List.mem_filter.mp hb).1)) hsub hs.2
     refine Nat.le_trans ?_ (Nat.le_max_left _ _)
     rw [List.length_cons]
     omega
theorem len5 : lenF (fun w v => !(tab5.getD w 0).testBit v) 32 (List.range 32) ≤ 6 := by decide +kernel
theorem len4 : lenF (fun w v => !alike 4 w v) 16 (List.range 16) ≤ 6 := by decide +kernel
theorem len3 : lenF (fun w v => !alike 3 w v) 8 (List.range 8) ≤ 6 := by decide +kernel
theorem len2 : lenF (fun w v => !alike 2 w v) 4 (List.range 4) ≤ 6 := by decide +kernel
theorem up_sub_range {m : Nat} {s : List Nat} (hu : Up s) (hs : ∀ x ∈ s, x < m) : s.Sublist (List.range m) := by
 have e : s = (List.range m).filter fun x => decide (x ∈ s) := up_ext hu (List.Pairwise.filter _ List.pairwise_lt_range) fun x => by
  rw [List.mem_filter, List.mem_range, decide_eq_true_eq]
  exact ⟨fun h => ⟨hs x h, h⟩, fun h => h.2⟩
 rw [e]
 exact List.filter_sublist
theorem safe_few {n : Nat} (h2 : 2 ≤ n) (h5 : n ≤ 5) {s : List Nat} (hu : Up s) (hs : ∀ x ∈ s, x < 2 ^ n) (hsafe : safe n s = true) : s.length ≤ 6 := by
 have hsub := up_sub_range hu hs
 have hn : n = 2 ∨ n = 3 ∨ n = 4 ∨ n = 5 := by omega
 rcases hn with rfl | rfl | rfl | rfl
 . exact Nat.le_trans (len_best 2 (fun w v => !alike 2 w v) 4 (List.range 4) s (by simp) (fun w _ v _ h => by simp [h]) hsub hsafe) len2
 . exact Nat.le_trans (len_best 3 (fun w v => !alike 3 w v) 8 (List.range 8) s (by simp) (fun w _ v _ h => by simp [h]) hsub hsafe) len3
 . exact Nat.le_trans (len_best 4 (fun w v => !alike 4 w v) 16 (List.range 16) s (by simp) (fun w _ v _ h => by simp [h]) hsub hsafe) len4
 . refine Nat.le_trans (len_best 5 (fun w v => !(tab5.getD w 0).testBit v) 32 (List.range 32) s (by simp) (fun w hw v hv h => ?_) hsub hsafe) len5
   have e := eq_of_beq (List.all_eq_true.mp (List.all_eq_true.mp tab_ok w hw) v hv)
   rw [← e, h]
   rfl
theorem bst_safe (n : Nat) : ∀ (k : Nat) (l : List Nat), l.length ≤ k -> safe n (bst n l) = true
 | _, [], _ => by rw [bst_nil]; rfl
 | 0, _ :: _, h => by simp at h
 | k + 1, w :: r, h => by
   have hr : r.length ≤ k := by simpa using h
   rw [bst_cons]
   split
   . rw [safe_cons]
     refine ⟨fun v hv => ?_, bst_safe n k _ (Nat.le_trans (List.length_filter_le _ _) hr)⟩
     have := (List.mem_filter.mp ((bst_sub n _ _ (Nat.le_refl _)).subset hv)).2
     simpa using this
   . exact bst_safe n k r hr
theorem safe_append (n : Nat) : ∀ (a b : List Nat), safe n (a ++ b) = true ↔ safe n a = true /\ safe n b = true /\ ∀ u ∈ a, ∀ v ∈ b, alike n u v = false
 | [], b => by simp [safe]
 | x :: a, b => by
   rw [List.cons_append, safe_cons, safe_append n a b, safe_cons]
   constructor
   . rintro ⟨h1, h2, h3, h4⟩
     refine ⟨⟨fun v hv => h1 v (List.mem_append_left _ hv), h2⟩, h3, fun u hu v hv => ?_⟩
     rcases List.mem_cons.mp hu with rfl | hu
     . exact h1 v (List.mem_append_right _ hv)
     . exact h4 u hu v hv
   . rintro ⟨⟨h1, h2⟩, h3, h4⟩
     refine ⟨fun v hv => ?_, h2, h3, fun u hu v hv => h4 u (List.mem_cons_of_mem _ hu) v hv⟩
     rcases List.mem_append.mp hv with hv | hv
     . exact h1 v hv
     . exact h4 x List.mem_cons_self v hv
theorem safe_pair {n : Nat} : ∀ {l : List Nat}, safe n l = true ↔ l.Pairwise fun u v => alike n u v = false
 | [] => by simp [safe]
 | x :: l => by rw [safe_cons, List.pairwise_cons, safe_pair]
theorem safe_perm {n : Nat} {a b : List Nat} (p : a.Perm b) : safe n a = true ↔ safe n b = true := by
 rw [safe_pair, safe_pair]
 exact p.pairwise_iff fun {u v} h => by rw [alike_comm]; exact h
theorem perm_of_nodup {a b : List Nat} (ha : a.Nodup) (hb : b.Nodup) (h : ∀ x, x ∈ a ↔ x ∈ b) : a.Perm b := (List.perm_ext_iff_of_nodup ha hb).mpr h
theorem most_nodup {n : Nat} (hn : 0 < n) {c : List Nat} (hc : Up c) : (most n c).Nodup := by
 rw [most_eq, List.nodup_append]
 have sub := bst_sub n _ ((List.range (2 ^ n)).filter fun w => c.all fun v => !alike n w v) (Nat.le_refl _)
 refine ⟨up_nodup hc, (List.nodup_range.filter _).sublist sub, fun u hu v hv e => ?_⟩
 subst e
 have hm := List.mem_filter.mp (sub.subset hv)
 have h2 := List.all_eq_true.mp hm.2 u hu
 rw [alike_self hn (List.mem_range.mp hm.1)] at h2
 cases h2
theorem most_lt {n : Nat} {c : List Nat} (hx : ∀ x ∈ c, x < 2 ^ n) : ∀ x ∈ most n c, x < 2 ^ n := fun x h => by
 rw [most_eq] at h
 rcases List.mem_append.mp h with h | h
 . exact hx x h
 . have sub := bst_sub n _ ((List.range (2 ^ n)).filter fun w => c.all fun v => !alike n w v) (Nat.le_refl _)
   exact List.mem_range.mp (List.mem_filter.mp (sub.subset h)).1
theorem most_safe {n : Nat} {c : List Nat} (hs : safe n c = true) : safe n (most n c) = true := by
 rw [most_eq, safe_append]
 refine ⟨hs, bst_safe n _ _ (Nat.le_refl _), fun u hu v hv => ?_⟩
 have sub := bst_sub n _ ((List.range (2 ^ n)).filter fun w => c.all fun v => !alike n w v) (Nat.le_refl _)
 have := List.all_eq_true.mp (List.mem_filter.mp (sub.subset hv)).2 u hu
 rw [alike_comm]
 simpa using this
theorem most_few {n : Nat} (h2 : 2 ≤ n) (h5 : n ≤ 5) {c : List Nat} (hc : Up c) (hx : ∀ x ∈ c, x < 2 ^ n) (hs : safe n c = true) : (rising (most n c)).length ≤ 6 := by
 have nd := most_nodup (n := n) (by omega) hc
 have pm : (rising (most n c)).Perm (most n c) := perm_of_nodup (up_nodup (up_rising _)) nd fun x => mem_rising _
 exact safe_few h2 h5 (up_rising _) (fun x h => most_lt hx x ((mem_rising _).mp h)) ((safe_perm pm).mpr (most_safe hs))
end LL
end
section
namespace LL
open Km469
def ones : Nat -> Nat -> Nat
 | 0, _ => 0
 | k + 1, w => ones k (w / 2) + w % 2
theorem ones_top : ∀ (k w : Nat), ones (k + 1) w = ones k w + bitN w k
 | 0, w => by simp [ones, bitN]
 | k + 1, w => by
   have ih := ones_top k (w / 2)
   have e : bitN (w / 2) k = bitN w (k + 1) := by
    unfold bitN
    rw [Nat.div_div_eq_div_mul, ← Nat.pow_succ']
   rw [ones, ih, e]
   show ones k (w / 2) + bitN w (k + 1) + w % 2 = ones k (w / 2) + w % 2 + bitN w (k + 1)
   omega
theorem bit_lt (w k : Nat) : bitN w k < 2 := Nat.mod_lt _ (by omega)
theorem ones_mono (w k : Nat) : ∀ d, ones k w ≤ ones (k + d) w
 | 0 => Nat.le_refl _
 | d + 1 => by
   have h := ones_mono w k d
   have e := ones_top (k + d) w
   rw [show k + (d + 1) = k + d + 1 from rfl]
   omega
theorem ones_more (w k : Nat) : ∀ d, ones (k + d) w ≤ ones k w + d
 | 0 => Nat.le_refl _
 | d + 1 => by
   have h := ones_more w k d
   have e := ones_top (k + d) w
   have b := bit_lt w (k + d)
   rw [show k + (d + 1) = k + d + 1 from rfl]
   omega
theorem ones_zero (w : Nat) : ones 0 w = 0 := rfl
theorem gai_low {n w i x : Nat} (hi : i ≤ n) : gaiN (n + 1) w i x = 2 * gaiN n (w / 2) i x + w % 2 := by
 unfold gaiN
 have e1 : n + 1 - i = (n - i) + 1 := by omega
 rw [e1]
 generalize n - i = k
 have h1 : w / 2 ^ (k + 1) = w / 2 / 2 ^ k := by rw [Nat.pow_succ', Nat.div_div_eq_div_mul]
 have h2 : w % 2 ^ (k + 1) = w % 2 + 2 * (w / 2 % 2 ^ k) := by rw [Nat.pow_succ', Nat.mod_mul]
 rw [h1, h2, Nat.pow_succ']
 generalize w / 2 / 2 ^ k * 2 + x = a
 generalize w / 2 % 2 ^ k = b
 generalize 2 ^ k = p
 have : a * (2 * p) = 2 * (a * p) := by rw [Nat.mul_left_comm]
 rw [this]
 omega
theorem weight_gai : ∀ (k i w x : Nat), x ≤ 1 -> weight (i + k + 1) (gaiN (i + k) w i x) = weight (i + k) w + ones k w + x * (i + 1)
 | 0, i, w, x, hx => by
   have e : gaiN (i + 0) w i x = 2 * w + x := by
    unfold gaiN
    simp
    omega
   rw [e, weight_succ]
   have e1 : (2 * w + x) / 2 = w := by omega
   have e2 : (2 * w + x) % 2 = x := by omega
   rw [e1, e2, ones_zero]
   have : x = 0 ∨ x = 1 := by omega
   rcases this with rfl | rfl
   . simp
   . simp
 | k + 1, i, w, x, hx => by
   have ih := weight_gai k i (w / 2) x hx
   have e : gaiN (i + (k + 1)) w i x = 2 * gaiN (i + k) (w / 2) i x + w % 2 := gai_low (n := i + k) (by omega)
   rw [e, weight_succ]
   have b : w % 2 < 2 := Nat.mod_lt _ (by omega)
   have e1 : (2 * gaiN (i + k) (w / 2) i x + w % 2) / 2 = gaiN (i + k) (w / 2) i x := by omega
   have e2 : (2 * gaiN (i + k) (w / 2) i x + w % 2) % 2 = w % 2 := by omega
   rw [e1, e2]
   show weight (i + k + 1) (gaiN (i + k) (w / 2) i x) + (if w % 2 = 1 then i + k + 1 + 1 else 0) = weight (i + k + 1) w + (ones k (w / 2) + w % 2) + x * (i + 1)
   rw [ih, weight_succ (i + k) w]
   have : w % 2 = 0 ∨ w % 2 = 1 := by omega
   rcases this with q | q
   . rw [q]
     simp
   . rw [q]
     simp
     omega
theorem zero_same {n w : Nat} : ∀ (d i : Nat), i + d ≤ n -> ones (n - i) w = ones (n - (i + d)) w -> gaiN n w i 0 = gaiN n w (i + d) 0
 | 0, i, _, _ => rfl
 | d + 1, i, h, e => by
   have t := ones_top (n - 1 - i) w
   have m := ones_mono w (n - (i + (d + 1))) d
   have z1 : n - 1 - i + 1 = n - i := by omega
   have z2 : n - (i + (d + 1)) + d = n - 1 - i := by omega
   have z3 : n - (i + 1) = n - 1 - i := by omega
   have z4 : n - (i + 1 + d) = n - (i + (d + 1)) := by omega
   rw [z1] at t
   rw [z2] at m
   have b : bitN w (n - 1 - i) = 0 := by omega
   have s := gai_step (n := n) (w := w) (i := i) (by omega)
   rw [b] at s
   have ih := zero_same (n := n) (w := w) d (i + 1) (by omega) (by rw [z3, z4]; omega)
   rw [s, ih]
   congr 1
   omega
theorem one_same {n w : Nat} : ∀ (d i : Nat), i + d ≤ n -> ones (n - i) w = d + ones (n - (i + d)) w -> gaiN n w i 1 = gaiN n w (i + d) 1
 | 0, i, _, _ => rfl
 | d + 1, i, h, e => by
   have t := ones_top (n - 1 - i) w
   have m := ones_more w (n - (i + (d + 1))) d
   have z1 : n - 1 - i + 1 = n - i := by omega
   have z2 : n - (i + (d + 1)) + d = n - 1 - i := by omega
   have z3 : n - (i + 1) = n - 1 - i := by omega
   have z4 : n - (i + 1 + d) = n - (i + (d + 1)) := by omega
   rw [z1] at t
   rw [z2] at m
   have bl := bit_lt w (n - 1 - i)
   have b : bitN w (n - 1 - i) = 1 := by omega
   have s := gai_step (n := n) (w := w) (i := i) (by omega)
   rw [b] at s
   have ih := one_same (n := n) (w := w) d (i + 1) (by omega) (by rw [z3, z4]; omega)
   rw [s, ih]
   congr 1
   omega
theorem mod_same {W A B m : Nat} (ha : A < m) (hb : B < m) (h : (W + A) % m = (W + B) % m) : A = B := by
 have go : ∀ {A B : Nat}, B < m → A ≤ B → (W + A) % m = (W + B) % m → A = B := fun {A B} hb le h => by
  have e := Nat.sub_mod_eq_zero_of_mod_eq h.symm
  have z : W + B - (W + A) = B - A := by omega
  rw [z, Nat.mod_eq_of_lt (by omega)] at e
  omega
 rcases Nat.le_total A B with l | l
 . exact go hb l h
 . exact (go ha l h.symm).symm
theorem vt_gain {n w i j x y : Nat} (hi : i ≤ n) (hj : j ≤ n) (hx : x ≤ 1) (hy : y ≤ 1) (h : weight (n + 1) (gaiN n w i x) % (n + 2) = weight (n + 1) (gaiN n w j y) % (n + 2)) : gaiN n w i x = gaiN n w j y := by
 have wi := weight_gai (n - i) i w x hx
 have wj := weight_gai (n - j) j w y hy
 rw [show i + (n - i) = n by omega] at wi
 rw [show j + (n - j) = n by omega] at wj
 rw [wi, wj, Nat.add_assoc, Nat.add_assoc] at h
 have li := ones_more w 0 (n - i)
 have lj := ones_more w 0 (n - j)
 rw [ones_zero, Nat.zero_add] at li lj
 have xi : x * (i + 1) ≤ i + 1 := by
  have := Nat.mul_le_mul_right (i + 1) hx
  omega
 have yj : y * (j + 1) ≤ j + 1 := by
  have := Nat.mul_le_mul_right (j + 1) hy
  omega
 have e := mod_same (by omega) (by omega) h
 have cx : x = 0 ∨ x = 1 := by omega
 have cy : y = 0 ∨ y = 1 := by omega
 have low : ∀ k, k ≤ n → ones (n - k) w ≤ ones n w := fun k hk => by
  have := ones_mono w (n - k) k
  rw [show n - k + k = n by omega] at this
  exact this
 have high : ∀ k, k ≤ n → ones n w ≤ ones (n - k) w + k := fun k hk => by
  have := ones_more w (n - k) k
  rw [show n - k + k = n by omega] at this
  exact this
 have a1 := low i hi
 have a2 := low j hj
 have a3 := high i hi
 have a4 := high j hj
 rcases cx with rfl | rfl <;> rcases cy with rfl | rfl
 . rcases Nat.le_total i j with l | l
   . have s := zero_same (n := n) (w := w) (j - i) i (by omega) (by rw [show i + (j - i) = j by omega]; omega)
     rw [show i + (j - i) = j by omega] at s
     exact s
   . have s := zero_same (n := n) (w := w) (i - j) j (by omega) (by rw [show j + (i - j) = i by omega]; omega)
     rw [show j + (i - j) = i by omega] at s
     exact s.symm
 . omega
 . omega
 . rcases Nat.le_total i j with l | l
   . have s := one_same (n := n) (w := w) (j - i) i (by omega) (by rw [show i + (j - i) = j by omega]; omega)
     rw [show i + (j - i) = j by omega] at s
     exact s
   . have s := one_same (n := n) (w := w) (i - j) j (by omega) (by rw [show j + (i - j) = i by omega]; omega)
     rw [show j + (i - j) = i by omega] at s
     exact s.symm
theorem text_number : ∀ (n : Nat) (l : List Bool), l.length = n -> text n (number l) = l
 | 0, l, h => by
   have : l = [] := List.eq_nil_of_length_eq_zero h
   subst this
   rfl
 | n + 1, l, h => by
   rcases List.eq_nil_or_concat l with e | ⟨l', x, e⟩
   . rw [e] at h; cases h
   . rw [List.concat_eq_append] at e
     subst e
     have h' : l'.length = n := by simpa using h
     rw [text_succ, number_append, number_one]
     have e1 : (number l' * 2 ^ [x].length + (if x = true then 1 else 0)) / 2 = number l' := by
      cases x <;> simp <;> omega
     have e2 : ((number l' * 2 ^ [x].length + (if x = true then 1 else 0)) % 2 == 1) = x := by
      cases x <;> simp
     rw [e1, e2, text_number n l' h']
theorem without_len {l : List Bool} {i : Nat} (h : i < l.length) : (without l i).length = l.length - 1 := by
 unfold without
 rw [List.length_append, List.length_take, List.length_drop]
 omega
theorem without_get (l : List Bool) (i k : Nat) : (without l i)[k]? = if k < i then l[k]? else l[k + 1]? := by
 unfold without
 rw [← List.eraseIdx_eq_take_drop_succ, List.getElem?_eraseIdx]
theorem without_two {l : List Bool} {i j : Nat} (h : i < j) : without (without l i) (j - 1) = without (without l j) i := by
 apply List.ext_getElem?
 intro k
 simp only [without_get]
 by_cases h1 : k < i
 . rw [if_pos (by omega), if_pos h1, if_pos h1, if_pos (by omega)]
 . by_cases h2 : k < j - 1
   . rw [if_pos h2, if_neg h1, if_neg h1, if_pos (by omega)]
   . rw [if_neg h2, if_neg (by omega), if_neg h1, if_neg (by omega)]
theorem text_los {n s i : Nat} (h : s < 2 ^ (n + 1)) (hi : i < n + 1) : text n (losN (n + 1) s i) = without (text (n + 1) s) i := by
 rw [← without_eq h hi]
 exact text_number n _ (by rw [without_len (by rw [text_length]; exact hi), text_length]; rfl)
theorem los_two {n s i j : Nat} (h : s < 2 ^ (n + 1)) (hij : i < j) (hj : j < n + 1) : losN n (losN (n + 1) s i) (j - 1) = losN n (losN (n + 1) s j) i := by
 have hu : losN (n + 1) s i < 2 ^ n := losN_lt h (show i < n + 1 by omega)
 have hv : losN (n + 1) s j < 2 ^ n := losN_lt h hj
 rw [← without_eq hu (show j - 1 < n by omega), ← without_eq hv (show i < n by omega), text_los h (by omega), text_los h hj, without_two hij]
theorem vt_lost {n s i j : Nat} (h : s < 2 ^ (n + 1)) (hi : i < n + 1) (hj : j < n + 1) (hw : weight n (losN (n + 1) s i) % (n + 1) = weight n (losN (n + 1) s j) % (n + 1)) : losN (n + 1) s i = losN (n + 1) s j := by
 have go : ∀ {i j : Nat}, i < j → j < n + 1 → weight n (losN (n + 1) s i) % (n + 1) = weight n (losN (n + 1) s j) % (n + 1) → losN (n + 1) s i = losN (n + 1) s j := fun {i j} hij hj hw => by
  cases n with
  | zero => omega
  | succ m =>
    have t := los_two h hij hj
    have u := gai_los (m := m) (v := losN (m + 1 + 1) s i) (i := j - 1) (by omega)
    have v := gai_los (m := m) (v := losN (m + 1 + 1) s j) (i := i) (by omega)
    rw [t] at u
    have b1 := bit_lt (losN (m + 1 + 1) s i) (m - (j - 1))
    have b2 := bit_lt (losN (m + 1 + 1) s j) (m - i)
    have g := @vt_gain m (losN (m + 1) (losN (m + 1 + 1) s j) i) (j - 1) i (bitN (losN (m + 1 + 1) s i) (m - (j - 1))) (bitN (losN (m + 1 + 1) s j) (m - i)) (by omega) (by omega) (by omega) (by omega)
    rw [u, v] at g
    exact g hw
 rcases Nat.lt_trichotomy i j with l | l | l
 . exact go l hj hw
 . rw [l]
 . exact (go l hi hw.symm).symm
theorem one_of {L l : List Nat} {p : Nat -> Bool} (hu : Up L) (hm : ∀ x, x ∈ L ↔ x ∈ l) (h1 : ∀ u ∈ L, ∀ v ∈ L, p u = true -> p v = true -> u = v) : L.filter p = (l.find? p).toList := by
 cases e : l.find? p with
 | none =>
   rw [List.find?_eq_none] at e
   show L.filter p = []
   rw [List.filter_eq_nil_iff]
   exact fun x hx => e x ((hm x).mp hx)
 | some w =>
   have m := (hm w).mpr (List.mem_of_find?_eq_some e)
   have q := List.find?_some e
   refine up_ext (hu.sublist List.filter_sublist) (List.pairwise_singleton _ _) fun x => ?_
   show x ∈ L.filter p ↔ x ∈ [w]
   rw [List.mem_filter, List.mem_singleton]
   constructor
   . rintro ⟨a, b⟩
     exact h1 x a w m b q
   . rintro rfl
     exact ⟨m, q⟩
theorem back_eq {n a s : Nat} (hn : 1 ≤ n) (hs : s < 2 ^ (n - 1)) : (rising (gained (n - 1) s)).filter (fun w => weight n w % (n + 1) == a) = (back_ n a s).toList := by
 obtain ⟨m, rfl⟩ : ∃ m, n = m + 1 := ⟨n - 1, by omega⟩
 have hs' : s < 2 ^ m := hs
 refine one_of (up_rising _) (fun x => ?_) (fun u hu v hv pu pv => ?_)
 . rw [mem_rising]
   show x ∈ gained m s ↔ x ∈ (List.range (m + 1)).flatMap fun i => [number (with_ (text m s) i false), number (with_ (text m s) i true)]
   unfold gained
   rw [mem_once]
 . rw [mem_rising] at hu hv
   rw [show m + 1 - 1 = m from rfl, mem_gained hs'] at hu hv
   obtain ⟨i, hi, eu⟩ := hu
   obtain ⟨j, hj, ev⟩ := hv
   have pu' : weight (m + 1) u % (m + 2) = a := by simpa using pu
   have pv' : weight (m + 1) v % (m + 2) = a := by simpa using pv
   rcases eu with rfl | rfl <;> rcases ev with rfl | rfl <;> exact vt_gain hi hj (by omega) (by omega) (by rw [pu', pv'])
theorem out_eq {n a s : Nat} (hs : s < 2 ^ (n + 1)) : (rising (lost (n + 1) s)).filter (fun w => weight n w % (n + 1) == a) = (out_ n a s).toList := by
 refine one_of (up_rising _) (fun x => ?_) (fun u hu v hv pu pv => ?_)
 . rw [mem_rising]
   unfold lost
   rw [mem_once]
 . rw [mem_rising, mem_lost hs] at hu hv
   obtain ⟨i, hi, rfl⟩ := hu
   obtain ⟨j, hj, rfl⟩ := hv
   exact vt_lost hs hi hj (by rw [(by simpa using pu : weight n _ % (n + 1) = a), (by simpa using pv : weight n _ % (n + 1) = a)])
theorem mend_eq {n s : Nat} {c : List Nat} (hn : 1 ≤ n) (hs : s < 2 ^ (n - 1)) (hu : Up c) (hc : ∀ x ∈ c, x < 2 ^ n) : (rising (gained (n - 1) s)).filter (fun w => decide (w ∈ c)) = c.filter (fun w => (lost n w).contains s) := by
 obtain ⟨m, rfl⟩ : ∃ m, n = m + 1 := ⟨n - 1, by omega⟩
 refine up_ext ((up_rising _).sublist List.filter_sublist) (hu.sublist List.filter_sublist) fun x => ?_
 rw [List.mem_filter, List.mem_filter, mem_rising, decide_eq_true_eq, List.contains_iff_mem]
 constructor
 . rintro ⟨a, b⟩
   exact ⟨b, (dual hs (hc x b)).mp a⟩
 . rintro ⟨a, b⟩
   exact ⟨(dual hs (hc x a)).mpr b, a⟩
theorem mendg_eq {n s : Nat} {c : List Nat} (hs : s < 2 ^ (n + 1)) (hu : Up c) (hc : ∀ x ∈ c, x < 2 ^ n) : (rising (lost (n + 1) s)).filter (fun w => decide (w ∈ c)) = c.filter (fun w => (gained n w).contains s) := by
 refine up_ext ((up_rising _).sublist List.filter_sublist) (hu.sublist List.filter_sublist) fun x => ?_
 rw [List.mem_filter, List.mem_filter, mem_rising, decide_eq_true_eq, List.contains_iff_mem]
 constructor
 . rintro ⟨a, b⟩
   exact ⟨b, (dual (hc x b) hs).mpr a⟩
 . rintro ⟨a, b⟩
   exact ⟨(dual (hc x a) hs).mp b, a⟩
theorem text_bits (n w : Nat) : (text n w).map bit = (List.range n).map fun i => bitN w (n - 1 - i) := by
 unfold text
 rw [List.map_map]
 refine List.map_congr_left fun i _ => ?_
 show bit (w / 2 ^ (n - 1 - i) % 2 == 1) = bitN w (n - 1 - i)
 unfold bit bitN
 have b : w / 2 ^ (n - 1 - i) % 2 < 2 := Nat.mod_lt _ (by omega)
 generalize w / 2 ^ (n - 1 - i) % 2 = z at b
 have : z = 0 ∨ z = 1 := by omega
 rcases this with rfl | rfl <;> rfl
theorem may_mem {n w : Nat} {c L : List Nat} (hn : 1 ≤ n) (hw : w < 2 ^ n) (hc : ∀ x ∈ c, x < 2 ^ n) (hL : ∀ z, z ∈ L ↔ ∃ v ∈ c, z ∈ lost n v) :
 ((lost n w).all fun x => !(c.flatMap (lost n)).contains x) = decide (¬ ∃ z ∈ L, w ∈ gained (n - 1) z) := by
 obtain ⟨m, rfl⟩ : ∃ m, n = m + 1 := ⟨n - 1, by omega⟩
 rw [Bool.eq_iff_iff, List.all_eq_true, decide_eq_true_eq]
 constructor
 . rintro h ⟨z, hz, hw'⟩
   obtain ⟨v, hv, hzv⟩ := (hL z).mp hz
   have zl : z < 2 ^ m := lost_lt (hc v hv) hzv
   have q := h z ((dual zl hw).mp hw')
   have : (c.flatMap (lost (m + 1))).contains z = true := List.contains_iff_mem.mpr (List.mem_flatMap.mpr ⟨v, hv, hzv⟩)
   rw [this] at q
   cases q
 . intro h x hx
   cases e : (c.flatMap (lost (m + 1))).contains x with
   | false => rfl
   | true =>
     obtain ⟨v, hv, hxv⟩ := List.mem_flatMap.mp (List.contains_iff_mem.mp e)
     exact absurd ⟨x, (hL x).mpr ⟨v, hv, hxv⟩, (dual (lost_lt hw hx) hw).mpr hx⟩ h
end LL
end
section
namespace LLF
open Km469 (Desk Call)
abbrev nm (l : List Nat) : List Int := Km469Neutral.nums l
inductive Is : Nat → List Nat → Call → Prop
 | start (n : Nat) : Is 0 [n] (.start n)
 | add (w : Nat) : Is 1 [w] (.add w)
 | force (w : Nat) : Is 2 [w] (.force w)
 | drop (w : Nat) : Is 3 [w] (.drop w)
 | take (a : Nat) : Is 4 [a] (.take a)
 | grow : Is 5 [] .grow
 | clear : Is 6 [] .clear
 | lost (w : Nat) : Is 7 [w] (.lost w)
 | gained (w : Nat) : Is 8 [w] (.gained w)
 | losing (w i : Nat) : Is 9 [w, i] (.losing w i)
 | gaining (w i x : Nat) : Is 10 [w, i, x] (.gaining w i x)
 | runs (w : Nat) : Is 11 [w] (.runs w)
 | weight (w : Nat) : Is 12 [w] (.weight w)
 | cls (a : Nat) : Is 13 [a] (.cls a)
 | largest : Is 14 [] .largest
 | alike (u v : Nat) : Is 15 [u, v] (.alike u v)
 | safe : Is 16 [] .safe
 | most : Is 17 [] .most
 | may : Is 18 [] .may
 | mend (s : Nat) : Is 19 [s] (.mend s)
 | mendG (s : Nat) : Is 20 [s] (.mendG s)
 | back_ (a s : Nat) : Is 21 [a, s] (.back_ a s)
 | out_ (a s : Nat) : Is 22 [a, s] (.out_ a s)
 | common (u v : Nat) : Is 23 [u, v] (.common u v)
 | code : Is 24 [] .code
 | write (k : Nat) : Is 25 [k] (.write k)
 | undo : Is 26 [] .undo
 | again : Is 27 [] .again
 | state : Is 28 [] .state
theorem whole_eq (c : List (List Int)) : PyKm469.whole c = c := by
 unfold PyKm469.whole
 split <;> rfl
theorem map_whole (cs : List (List (List Int))) : cs.map PyKm469.whole = cs := by
 have : PyKm469.whole = id := funext whole_eq
 rw [this, List.map_id]
theorem nat_of {z : Int} (h : Km469Neutral.natural z 32 = true) : z = ((z.toNat : Nat) : Int) := by
 unfold Km469Neutral.natural at h
 simp only [Bool.and_eq_true, decide_eq_true_eq] at h
 omega
theorem is_of {c : List (List Int)} (h : Km469Neutral.asked1 c = true) : ∃ p xs x, c = [nm (p :: xs)] /\ Is p xs x /\ Km469Neutral.callOf c = some x := by
 unfold Km469Neutral.asked1 at h
 split at h <;> try simp only [Bool.and_eq_true] at h
 case h_1 b => exact ⟨0, [b.toNat], _, by rw [nat_of h]; rfl, .start _, rfl⟩
 case h_2 b => exact ⟨1, [b.toNat], _, by rw [nat_of h]; rfl, .add _, rfl⟩
 case h_3 b => exact ⟨2, [b.toNat], _, by rw [nat_of h]; rfl, .force _, rfl⟩
 case h_4 b => exact ⟨3, [b.toNat], _, by rw [nat_of h]; rfl, .drop _, rfl⟩
 case h_5 b => exact ⟨4, [b.toNat], _, by rw [nat_of h]; rfl, .take _, rfl⟩
 case h_6 => exact ⟨5, [], _, rfl, .grow, rfl⟩
 case h_7 => exact ⟨6, [], _, rfl, .clear, rfl⟩
 case h_8 b => exact ⟨7, [b.toNat], _, by rw [nat_of h]; rfl, .lost _, rfl⟩
 case h_9 b => exact ⟨8, [b.toNat], _, by rw [nat_of h]; rfl, .gained _, rfl⟩
 case h_10 b c => exact ⟨9, [b.toNat, c.toNat], _, by rw [nat_of h.1, nat_of h.2]; rfl, .losing _ _, rfl⟩
 case h_11 b c d => exact ⟨10, [b.toNat, c.toNat, d.toNat], _, by rw [nat_of h.1.1, nat_of h.1.2, nat_of h.2]; rfl, .gaining _ _ _, rfl⟩
 case h_12 b => exact ⟨11, [b.toNat], _, by rw [nat_of h]; rfl, .runs _, rfl⟩
 case h_13 b => exact ⟨12, [b.toNat], _, by rw [nat_of h]; rfl, .weight _, rfl⟩
 case h_14 b => exact ⟨13, [b.toNat], _, by rw [nat_of h]; rfl, .cls _, rfl⟩
 case h_15 => exact ⟨14, [], _, rfl, .largest, rfl⟩
 case h_16 b c => exact ⟨15, [b.toNat, c.toNat], _, by rw [nat_of h.1, nat_of h.2]; rfl, .alike _ _, rfl⟩
 case h_17 => exact ⟨16, [], _, rfl, .safe, rfl⟩
 case h_18 => exact ⟨17, [], _, rfl, .most, rfl⟩
 case h_19 => exact ⟨18, [], _, rfl, .may, rfl⟩
 case h_20 b => exact ⟨19, [b.toNat], _, by rw [nat_of h]; rfl, .mend _, rfl⟩
 case h_21 b => exact ⟨20, [b.toNat], _, by rw [nat_of h]; rfl, .mendG _, rfl⟩
 case h_22 b c => exact ⟨21, [b.toNat, c.toNat], _, by rw [nat_of h.1, nat_of h.2]; rfl, .back_ _ _, rfl⟩
 case h_23 b c => exact ⟨22, [b.toNat, c.toNat], _, by rw [nat_of h.1, nat_of h.2]; rfl, .out_ _ _, rfl⟩
 case h_24 b c => exact ⟨23, [b.toNat, c.toNat], _, by rw [nat_of h.1, nat_of h.2]; rfl, .common _ _, rfl⟩
 case h_25 => exact ⟨24, [], _, rfl, .code, rfl⟩
 case h_26 b => exact ⟨25, [b.toNat], _, by rw [nat_of h]; rfl, .write _, rfl⟩
 case h_27 => exact ⟨26, [], _, rfl, .undo, rfl⟩
 case h_28 => exact ⟨27, [], _, rfl, .again, rfl⟩
 case h_29 => exact ⟨28, [], _, rfl, .state, rfl⟩
 case h_30 => cases h
theorem is_shape {p : Nat} {xs : List Nat} {x : Call} (h : Is p xs x) : PyKm469.shape (p : Int) = some (xs.length, 0) /\ p ≤ 28 := by
 cases h <;> exact ⟨by first | decide +kernel | (simp only [List.length_cons, List.length_nil]; decide +kernel), by decide⟩
def deskOf (s : Km469Neutral.S) : Desk := match s with | some d => d | none => Km469.fresh 2
theorem step_of {s : Km469Neutral.S} {c : List (List Int)} {x : Call} (hc : Km469Neutral.callOf c = some x) (hm : (Km469Neutral.step s c).2.isEmpty = false) :
 (Km469Neutral.step s c).2 = Km469Neutral.told (Km469.act (deskOf s) x).2 ∧ deskOf (Km469Neutral.step s c).1 = (Km469.act (deskOf s) x).1 := by
 unfold Km469Neutral.step at hm ⊢
 rw [hc] at hm ⊢
 cases s with
 | some d => exact ⟨rfl, rfl⟩
 | none =>
   simp only at hm ⊢
   by_cases hs : Km469Neutral.isStart x = true
   . rw [if_pos hs] at hm ⊢
     refine ⟨rfl, ?_⟩
     cases x <;> first | cases hs | skip
     rename_i n
     show deskOf (if (Km469Neutral.told (Km469.act (Km469.fresh 2) (.start n)).2).headD 0 < 0 then none else some (Km469.act (Km469.fresh 2) (.start n)).1) = (Km469.act (Km469.fresh 2) (.start n)).1
     unfold Km469.act
     by_cases q : n < 2 ∨ Km469.LONG < n
     . simp only [if_pos q]
       rfl
     . simp only [if_neg q]
       rfl
   . rw [if_neg hs] at hm
     cases hm
def Now (l : List Int) (i : Nat) (d : Desk) (acc : List Int) : Prop := ∃ s cs f, deskOf s = d /\ PyFlat.calls PyKm469.shape f (l.drop i) = some cs /\ cs.all Km469Neutral.asked1 = true /\ Km469Neutral.may s cs = true /\
 acc ++ PyFlat.told (PyFlat.played Km469Neutral.step s cs) = PyKm469.answers l ∧ (PyKm469.answers l).length ≤ 10000000
theorem now_start {l : List Int} (h : PyKm469.answers_asked l = true) : Now l 0 (Km469.fresh 2) [] := by
 unfold PyKm469.answers_asked at h
 cases e : PyFlat.calls PyKm469.shape l.length l with
 | none => rw [e] at h; cases h
 | some raw =>
   rw [e] at h
   simp only [Bool.and_eq_true, map_whole, Km469Neutral.asked, PyFlat.short, decide_eq_true_eq] at h
   obtain ⟨⟨_, _, _, ha, hm⟩, hs⟩ := h
   refine ⟨none, raw, l.length, rfl, by rw [List.drop_zero]; exact e, ha, hm, ?_, hs⟩
   unfold PyKm469.answers PyKm469.calls
   rw [e]
   simp only [map_whole]
   rfl
theorem now_end {l : List Int} {i : Nat} {d : Desk} {acc : List Int} (h : Now l i d acc) (hi : l.length ≤ i) : acc = PyKm469.answers l := by
 obtain ⟨s, cs, f, _, hc, _, _, he, _⟩ := h
 rw [List.drop_eq_nil_of_le hi] at hc
 have : cs = [] := by
  cases f <;> exact (Option.some.inj hc).symm
 subst this
 simpa [PyFlat.played, PyFlat.told] using he
theorem now_step {l : List Int} {i : Nat} {d : Desk} {acc : List Int} (h : Now l i d acc) (hi : i < l.length) : ∃ p xs x, Is p xs x /\ l[i]? = some (p : Int) /\ i + 1 + xs.length ≤ l.length /\ (l.drop (i + 1)).take xs.length = nm xs /\
 Now l (i + 1 + xs.length) (Km469.act d x).1 (acc ++ ((Km469Neutral.told (Km469.act d x).2).length : Int) :: Km469Neutral.told (Km469.act d x).2) ∧ (acc ++ ((Km469Neutral.told (Km469.act d x).2).length : Int) :: Km469Neutral.told (Km469.act d x).2).length ≤ 10000000 := by
 obtain ⟨s, cs, f, hd, hc, ha, hm, he, hl⟩ := h
 rw [List.drop_eq_getElem_cons hi] at hc
 cases f with
 | zero => cases hc
 | succ f =>
   rw [PyFlat.calls] at hc
   cases ec : PyFlat.call PyKm469.shape (l[i] :: l.drop (i + 1)) with
   | none => rw [ec] at hc; cases hc
   | some ct =>
     obtain ⟨c, t⟩ := ct
     rw [ec] at hc
     simp only at hc
     cases er : PyFlat.calls PyKm469.shape f t with
     | none => rw [er] at hc; cases hc
     | some cs' =>
       rw [er] at hc
       have := Option.some.inj hc
       subst this
       rw [List.all_cons, Bool.and_eq_true] at ha
       rw [Km469Neutral.may, Bool.and_eq_true] at hm
       obtain ⟨p, xs, x, e1, is, e2⟩ := is_of ha.1
       obtain ⟨sh, _⟩ := is_shape is
       have hm1 : (Km469Neutral.step s c).2.isEmpty = false := by simpa using hm.1
       obtain ⟨g1, g2⟩ := step_of e2 hm1
       rw [hd] at g1 g2
       rw [PyFlat.call] at ec
       have ep : l[i] = (p : Int) := by
        cases es : PyKm469.shape l[i] with
        | none => rw [es] at ec; cases ec
        | some nk =>
          obtain ⟨n, k⟩ := nk
          rw [es] at ec
          simp only at ec
          split at ec
          . cases ec
          . cases ek : PyFlat.rows k ((l.drop (i + 1)).drop n) with
            | none => rw [ek] at ec; cases ec
            | some xt =>
              rw [ek] at ec
              have z := congrArg Prod.fst (Option.some.inj ec)
              simp only at z
              rw [e1] at z
              exact (List.cons.inj (List.cons.inj z).1).1
       rw [ep, sh] at ec
       simp only [PyFlat.rows] at ec
       split at ec
       . cases ec
       . rename_i hlen
         have z := Option.some.inj ec
         have z1 := congrArg Prod.fst z
         have z2 := congrArg Prod.snd z
         simp only at z1 z2
         rw [e1] at z1
         have z3 : (l.drop (i + 1)).take xs.length = nm xs := (List.cons.inj (List.cons.inj z1).1).2
         rw [List.length_drop] at hlen
         have et : acc ++ PyFlat.told (PyFlat.played Km469Neutral.step s (c :: cs')) = (acc ++ ((Km469Neutral.told (Km469.act d x).2).length : Int) :: Km469Neutral.told (Km469.act d x).2) ++ PyFlat.told (PyFlat.played Km469Neutral.step (Km469Neutral.step s c).1 cs') := by
          rw [PyFlat.played, PyFlat.told, List.flatMap_cons, g1, List.append_assoc]
          rfl
         rw [et] at he
         refine ⟨p, xs, x, is, by rw [List.getElem?_eq_getElem hi, ep], by omega, z3, ⟨_, cs', f, g2, ?_, ha.2, hm.2, he, hl⟩, ?_⟩
         . rw [← er, ← z2, List.drop_drop]
         . rw [← he, List.length_append] at hl
           omega
end LLF
end
section
namespace LLS
open PySem
abbrev Ris (xs : Array Nat) : Prop := xs.toList.Pairwise (· < ·)
def Parts (xs : List Nat) (j p : Nat) : Prop := p ≤ xs.length /\ (∀ i, i < p -> ∀ x, xs[i]? = some x -> x < j) /\ (∀ i, p ≤ i -> ∀ x, xs[i]? = some x -> j ≤ x)
theorem ris_get {xs : List Nat} (h : xs.Pairwise (· < ·)) {i k x y : Nat} (hik : i < k) (hx : xs[i]? = some x) (hy : xs[k]? = some y) : x < y := by
 obtain ⟨hi, rfl⟩ := List.getElem?_eq_some_iff.mp hx
 obtain ⟨hk, rfl⟩ := List.getElem?_eq_some_iff.mp hy
 exact List.pairwise_iff_getElem.mp h i k hi hk hik
theorem below_go {xs : Array Nat} (h : Ris xs) (j : Nat) : ∀ (fuel lo hi : Nat), hi - lo ≤ fuel -> lo ≤ hi -> hi ≤ xs.size ->
 (∀ i, i < lo → ∀ x, xs.toList[i]? = some x → x < j) → (∀ i, hi ≤ i → ∀ x, xs.toList[i]? = some x → j ≤ x) → Parts xs.toList j (SetTable.below.go xs j fuel lo hi)
 | 0, lo, hi, hf, h1, h2, ha, hb => by
   have : lo = hi := by omega
   subst this
   unfold SetTable.below.go
   exact ⟨by simpa using h2, ha, hb⟩
 | fuel + 1, lo, hi, hf, h1, h2, ha, hb => by
   unfold SetTable.below.go
   split
   . rename_i hlt
     dsimp only
     have hm : (lo + hi) / 2 < xs.size := by omega
     have hg : xs.toList[(lo + hi) / 2]? = some xs[(lo + hi) / 2] := by simp [hm]
     have hd : xs.getD ((lo + hi) / 2) j = xs[(lo + hi) / 2] := by simp [Array.getD, hm]
     rw [hd]
     split
     . rename_i hc
       refine below_go h j fuel _ hi (by omega) (by omega) h2 (fun i hi' x hx => ?_) hb
       rcases Nat.lt_or_ge i ((lo + hi) / 2) with hc' | hc'
       . exact Nat.lt_trans (ris_get h hc' hx hg) hc
       . have : i = (lo + hi) / 2 := by omega
         subst this
         rw [hg] at hx
         cases hx
         exact hc
     . rename_i hc
       refine below_go h j fuel lo _ (by omega) (by omega) (by omega) ha (fun i hi' x hx => ?_)
       rcases Nat.lt_or_ge ((lo + hi) / 2) i with hc' | hc'
       . have := ris_get h hc' hg hx
         omega
       . have : i = (lo + hi) / 2 := by omega
         subst this
         rw [hg] at hx
         cases hx
         omega
   . have : lo = hi := by omega
     subst this
     exact ⟨by simpa using h2, ha, hb⟩
theorem below_parts {xs : Array Nat} (h : Ris xs) (j : Nat) : Parts xs.toList j (SetTable.below xs j) :=
 below_go h j _ _ _ (by omega) (Nat.zero_le _) (Nat.le_refl _) (fun i hi => by omega) (fun i hi x hx => by
  have := (List.getElem?_eq_some_iff.mp hx).1
  simp at this
  omega)
theorem ris_insert {xs : Array Nat} (h : Ris xs) {j p : Nat} (hp : Parts xs.toList j p) (hj : xs[p]? ≠ some j) : Ris (SetTable.insertAt xs p j) := by
 unfold Ris at *
 rw [SetTable.toList_insertAt]
 rw [List.pairwise_append]
 refine ⟨h.sublist (List.take_sublist _ _), ?_, ?_⟩
 . rw [List.pairwise_cons]
   refine ⟨fun x hx => ?_, h.sublist (List.drop_sublist _ _)⟩
   obtain ⟨i, hi⟩ := List.getElem?_of_mem hx
   rw [List.getElem?_drop] at hi
   have h1 := hp.2.2 (p + i) (Nat.le_add_right _ _) x hi
   rcases Nat.lt_or_eq_of_le h1 with h2 | h2
   . exact h2
   . exfalso
     subst h2
     rcases Nat.eq_zero_or_pos i with h3 | h3
     . subst h3
       exact hj (by simpa using hi)
     . cases h4 : xs.toList[p]? with
       | none =>
         have := List.getElem?_eq_none_iff.mp h4
         have := (List.getElem?_eq_some_iff.mp hi).1
         omega
       | some y =>
         have h5 := ris_get h (show p < p + i by omega) h4 hi
         have h6 := hp.2.2 p (Nat.le_refl _) y h4
         omega
 . intro x hx y hy
   obtain ⟨i, hi⟩ := List.getElem?_of_mem hx
   have hlt : i < p := by
    have := (List.getElem?_eq_some_iff.mp hi).1
    rw [List.length_take] at this
    omega
   rw [List.getElem?_take_of_lt hlt] at hi
   have h1 := hp.2.1 i hlt x hi
   rcases List.mem_cons.mp hy with rfl | hy
   . exact h1
   . obtain ⟨k, hk⟩ := List.getElem?_of_mem hy
     rw [List.getElem?_drop] at hk
     have := hp.2.2 (p + k) (Nat.le_add_right _ _) y hk
     omega
theorem probe_free {t : SetTable} {f : Nat -> Int} {h : Int} (hf : ∀ i, (f i == h) = false) : ∀ (fuel : Nat) (p : SetTable.Probe), (∀ d, p.dummy = some d -> t.slot d = .dummy) ->
 ∀ m, SetTable.probe.go t f h fuel p = some m → ∃ j d, m = .empty j d ∧ t.slot j = .empty ∧ ∀ d', d = some d' → t.slot d' = .dummy
 | 0, _, _, _, e => by simp [SetTable.probe.go] at e
 | fuel + 1, p, hd, m, e => by
   unfold SetTable.probe.go at e
   have adv : ∀ q : SetTable.Probe, (t.advance q).dummy = q.dummy := by
    intro q
    unfold SetTable.advance
    split <;> rfl
   split at e
   . rename_i hs
     cases e
     exact ⟨_, _, rfl, hs, hd⟩
   . rename_i hs
     refine probe_free hf fuel _ (fun d q => ?_) m e
     rw [adv] at q
     simp at q
     subst q
     exact hs
   . rename_i i hs
     rw [hf i] at e
     simp only [Bool.false_eq_true, if_false] at e
     refine probe_free hf fuel _ (fun d q => ?_) m e
     rw [adv] at q
     exact hd d q
theorem slot_not_live {t : SetTable} {j : Nat} (h : t.slot j = .empty ∨ t.slot j = .dummy) : t.place[SetTable.below t.place j]? ≠ some j := by
 intro e
 unfold SetTable.slot at h
 simp [e] at h
theorem free_not_live {t : SetTable} {h : Int} {slot : Nat} {b : Bool} (e : t.freeSlot h = some (slot, b)) : t.place[SetTable.below t.place slot]? ≠ some slot := by
 unfold SetTable.freeSlot at e
 split at e
 . rename_i j d hp
   cases e
   unfold SetTable.probe at hp
   obtain ⟨j', d', q, h1, h2⟩ := probe_free (fun i => by simp; omega) _ _ (fun d q => by simp [SetTable.probeStart] at q) _ hp
   cases q
   cases d with
   | none => exact slot_not_live (.inl h1)
   | some x => exact slot_not_live (.inr (h2 x rfl))
 . cases e
structure Good (b : Bool) (t : SetTable) : Prop where
 led : t.led = b
 ris : Ris t.place
theorem good_fresh (b : Bool) : Good b (.fresh 0 0 b) := ⟨rfl, by simp [SetTable.fresh, Ris]⟩
theorem good_standIn {b : Bool} {t : SetTable} (g : Good b t) (n : Nat) : Good b (t.standIn n) :=
 ⟨g.led, by
  show (Array.range n).toList.Pairwise (· < ·)
  rw [Array.toList_range]
  exact List.pairwise_lt_range⟩
theorem good_orStandIn {b : Bool} {t : SetTable} (g : Good b t) (n : Nat) : Good b (t.orStandIn n) := by
 unfold SetTable.orStandIn
 split
 . exact g
 . exact good_standIn g n
theorem good_layNew {b : Bool} {t : SetTable} (g : Good b t) (es : Array (Int × Value)) (h : Int) (x : Value) : Good b (layNew t es h x).2.1 := by
 unfold layNew
 split
 . rename_i slot wd e
   dsimp only
   refine good_orStandIn ?_ _
   exact ⟨g.led, ris_insert g.ris (below_parts g.ris _) (free_not_live e)⟩
 . exact good_standIn g _
theorem good_relayAll {b : Bool} {t : SetTable} (g : Good b t) (es : Array (Int × Value)) (k : Nat) : Good b (relayAll t es k).2.1 := by
 unfold relayAll
 split
 . rename_i t' order e
   dsimp only
   split
   . unfold SetTable.relaid SetTable.laid at e
     simp only [Option.bind_eq_bind, Option.bind_eq_some_iff, Option.pure_def, Option.some.injEq, Prod.mk.injEq] at e
     obtain ⟨owner, _, h1, h2⟩ := e
     subst h1
     refine ⟨g.led, ?_⟩
     show (List.map _ _).toArray.toList.Pairwise _
     simp only []
     rw [List.map_filterMap]
     have : ((List.range (SetTable.sizeAbove k - 1 + 1)).filterMap fun j => Option.map (fun x : Nat × Nat => x.1) ((owner.getD j none).map fun y => (j, y))).Sublist (List.range (SetTable.sizeAbove k - 1 + 1)) := by
      generalize List.range (SetTable.sizeAbove k - 1 + 1) = l
      induction l with
      | nil => simp
      | cons a l ih =>
        rw [List.filterMap_cons]
        cases owner.getD a none with
        | none => exact ih.cons _
        | some y => exact ih.cons_cons _
     exact List.Pairwise.sublist this List.pairwise_lt_range
   . exact good_standIn g _
 . exact good_standIn g _
end LLS
end
section
namespace LLS
open PySem
def El (e : Int × Value) (k : Int) : Prop := e.1 = hashInt k /\ ∃ t, e.2 = Value.int k t
inductive Els : List (Int × Value) → List Int → Prop
 | nil : Els [] []
 | cons {e k es ks} : El e k → Els es ks → Els (e :: es) (k :: ks)
theorem Els.length : ∀ {es ks}, Els es ks -> es.length = ks.length
 | _, _, .nil => rfl
 | _, _, .cons _ h => congrArg (· + 1) h.length
theorem Els.snoc {e k} (he : El e k) : ∀ {es ks}, Els es ks -> Els (es ++ [e]) (ks ++ [k])
 | _, _, .nil => .cons he .nil
 | _, _, .cons h t => .cons h (Els.snoc he t)
theorem Els.perm {es es' : List (Int × Value)} (p : es.Perm es') : ∀ {ks}, Els es ks -> ∃ ks', Els es' ks' /\ ks.Perm ks' := by
 induction p with
 | nil => intro ks h; exact ⟨ks, h, .rfl⟩
 | cons x _ ih =>
   intro ks h
   cases h with
   | cons h1 h2 =>
     obtain ⟨ks', a, b⟩ := ih h2
     exact ⟨_, .cons h1 a, b.cons _⟩
 | swap x y l =>
   intro ks h
   cases h with
   | cons h1 h2 =>
     cases h2 with
     | cons h3 h4 => exact ⟨_, .cons h3 (.cons h1 h4), .swap _ _ _⟩
 | trans _ _ ih1 ih2 =>
   intro ks h
   obtain ⟨k1, a, b⟩ := ih1 h
   obtain ⟨k2, c, d⟩ := ih2 a
   exact ⟨k2, c, b.trans d⟩
theorem Els.get : ∀ {es ks} (i : Nat) {e}, Els es ks -> es[i]? = some e -> ∃ k, ks[i]? = some k /\ El e k
 | _, _, _, _, .nil, h => by simp at h
 | _, _, 0, _, .cons a _, h => by simp at h; subst h; exact ⟨_, rfl, a⟩
 | _, _, i + 1, _, .cons _ t, h => by
   obtain ⟨k, h1, h2⟩ := Els.get i t (by simpa using h)
   exact ⟨k, by simpa using h1, h2⟩
theorem Els.mem : ∀ {es ks} {k : Int}, Els es ks -> (k ∈ ks ↔ ∃ e ∈ es, Value.isInt k e.2 = true)
 | _, _, k, .nil => by simp
 | _, _, k, .cons (e := e) (k := k0) a t => by
   rw [List.mem_cons, t.mem]
   obtain ⟨h1, tk, h2⟩ := a
   constructor
   . rintro (rfl | ⟨e', m, q⟩)
     . exact ⟨e, List.mem_cons_self, by rw [h2]; simp [Value.isInt]⟩
     . exact ⟨e', List.mem_cons_of_mem _ m, q⟩
   . rintro ⟨e', m, q⟩
     rcases List.mem_cons.mp m with rfl | m
     . left
       obtain ⟨tk', e3⟩ := Value.isInt_shape q
       rw [h2] at e3
       injection e3 with e4 _
       exact e4.symm
     . exact .inr ⟨e', m, q⟩
def bt (w : World) : Bool := w.params.followText "set-order"
section
variable {prog : Program} {w : World}
def SetG (w : World) (h : Heap) (a : Addr) (ks : List Int) : Prop :=
 ∃ o es ep t, h.get? a = some o ∧ o.ExactSet ∧ o.data = .set es ep t ∧ Els es.toList ks ∧ ks.Nodup ∧ es.size < scanBound ∧ t.fits es.size = true ∧ Good (!bt w) t
theorem Els.elems {es : List (Int × Value)} {ks : List Int} (h : Els es ks) : ElemsOf (intKind prog w) es := by
 induction h with
 | nil => intro e he; cases he
 | cons a t ih =>
   intro e he
   rcases List.mem_cons.mp he with rfl | he
   . obtain ⟨h1, tk, h2⟩ := a
     exact ⟨⟨_, by show Value.isInt _ _ = true; rw [h2]; simp [Value.isInt], h1⟩, by rw [h2]; rfl⟩
   . exact ih e he
theorem SetG.setOf {h : Heap} {a : Addr} {ks : List Int} (g : SetG w h a ks) : h.SetOf (intKind prog w) a (fun k => decide (k ∈ ks)) ks.length := by
 obtain ⟨o, es, ep, t, ho, hx, hd, he, nd, hb, hf, hg⟩ := g
 refine ⟨o, es, ep, t, ho, hx, hd, he.elems, fun k => ?_, hb, hf, by rw [← he.length]; simp⟩
 rw [decide_eq_true_eq]
 exact he.mem
theorem SetG.keep {h h' : Heap} {a : Addr} {ks : List Int} (g : SetG w h a ks) (hk : ∀ o, h.get? a = some o -> h'.get? a = some o) : SetG w h' a ks := by
 obtain ⟨o, es, ep, t, ho, r⟩ := g
 exact ⟨o, es, ep, t, hk o ho, r⟩
theorem SetG.lt {h : Heap} {a : Addr} {ks : List Int} (g : SetG w h a ks) : a < h.objs.size := by
 obtain ⟨o, es, ep, t, ho, r⟩ := g
 exact Heap.lt_size ho
theorem SetG.len {h : Heap} {a : Addr} {ks : List Int} (g : SetG w h a ks) : ks.length < scanBound := by
 obtain ⟨o, es, ep, t, ho, hx, hd, he, nd, hb, hf, hg⟩ := g
 rw [← he.length]
 simpa using hb
theorem SetG.nodup {h : Heap} {a : Addr} {ks : List Int} (g : SetG w h a ks) : ks.Nodup := by
 obtain ⟨o, es, ep, t, ho, hx, hd, he, nd, hb, hf, hg⟩ := g
 exact nd
theorem setG_store {h : Heap} {a : Addr} {o : Obj} {es : Array (Int × Value)} {ep : Nat} {t : SetTable} (ho : h.get? a = some o) (hx : o.ExactSet) (hd : o.data = .set es ep t)
 {es' : Array (Int × Value)} {t' : SetTable} {ks : List Int} (he : Els es'.toList ks) (nd : ks.Nodup) (hb : es'.size < scanBound) (hf : t'.fits es'.size = true) (hg : Good (!bt w) t') :
 (h.update a (Obj.putSet es' t')).get? a = some { o with data := .set es' (ep + 1) t' } ∧ SetG w (h.update a (Obj.putSet es' t')) a ks := by
 have e1 : (h.update a (Obj.putSet es' t')).get? a = some { o with data := .set es' (ep + 1) t' } := by
  rw [← putSet_of es' t' hd]
  exact Heap.get?_update_self (Obj.putSet es' t') ho (by rw [putSet_of es' t' hd]; rfl)
 exact ⟨e1, _, es', ep + 1, t', e1, hx, rfl, he, nd, hb, hf, hg⟩
variable {A : Around} {E : Value → Shared → Prop} {s : Shared}
theorem addTail_G {g : Bool -> Sem Unit} (hgo : ∀ (b : Bool) (s₁ : Shared) (Q' : Unit -> Shared -> Prop), Q' () s₁ -> wpAny (model prog w) A (g b) Q' E s₁)
 {a : Addr} {o : Obj} {es : Array (Int × Value)} {ep : Nat} {t : SetTable} (ho : s.heap.get? a = some o) (hx : o.ExactSet) (hd : o.data = .set es ep t)
 {es1 : Array (Int × Value)} {t1 : SetTable} {ks : List Int} (he : Els es1.toList ks) (nd : ks.Nodup) (hb : es1.size < scanBound) (hf : t1.fits es1.size = true) (hg : Good (!bt w) t1)
 {wd : Bool} {R : Option Bool → Shared → Prop}
 (h : ∀ h' ks', Heap.SameBut a s.heap h' → SetG w h' a ks' → ks.Perm ks' → R (some true) { s with heap := h' }) :
 wpAny (model prog w) A (do
  storeSet a es1 t1
  if (!wd && t1.tooFull) = true then do
      g (relayAll t1 es1 (SetTable.grown es1.size)).2.2
      storeSet a (relayAll t1 es1 (SetTable.grown es1.size)).1 (relayAll t1 es1 (SetTable.grown es1.size)).2.1
      pure (some true)
   else pure (some true)) R E s := by
 refine wpAny_bind (wpAny_storeSet_of ho hd ?_ (fits_of_scanBound hb))
 obtain ⟨o1, g1⟩ := setG_store (w := w) ho hx hd he nd hb hf hg
 have sb := Heap.SameBut.update s.heap a (Obj.putSet es1 t1)
 split
 . have pm := relayAll_perm t1 es1 (SetTable.grown es1.size)
   have ft := relayAll_fits t1 es1 (SetTable.grown es1.size)
   have gd := good_relayAll hg es1 (SetTable.grown es1.size)
   generalize relayAll t1 es1 (SetTable.grown es1.size) = X at pm ft gd ⊢
   obtain ⟨es2, t2, gave⟩ := X
   dsimp only at pm ft gd ⊢
   obtain ⟨ks', e2, p2⟩ := he.perm pm.symm
   have sz : es2.size = es1.size := by
    have := pm.length_eq
    simpa using this
   refine wpAny_bind (hgo _ _ _ ?_)
   refine wpAny_bind (wpAny_storeSet_of o1 rfl ?_ (fits_of_scanBound (by rw [sz]; exact hb)))
   obtain ⟨_, g2⟩ := setG_store (w := w) o1 hx rfl e2 (p2.nodup nd) (by rw [sz]; exact hb) ft gd
   exact wpAny_pure (h _ ks' (sb.trans (Heap.SameBut.update _ a _)) g2 p2)
 . exact wpAny_pure (h _ ks sb g1 .rfl)
theorem setAdd_G {a : Addr} {ks : List Int} {k : Int} {tk : Tok} {Q : Bool -> Shared -> Prop} (gS : SetG w s.heap a ks) (room : ks.length + 1 < scanBound)
 (h : ∀ h' ks', Heap.SameBut a s.heap h' → SetG w h' a ks' → (if k ∈ ks then ks else ks ++ [k]).Perm ks' → Q (decide (¬ k ∈ ks)) { s with heap := h' }) :
 wpAny (model prog w) A (setAddHashed a (.int k tk) (hashInt k)) Q E s := by
 obtain ⟨o, es, ep, t, ho, hx, hd, he, nd, hb, hf, hg⟩ := id gS
 have hel : ElemsOf (intKind prog w) es.toList := he.elems
 have hkey : (intKind prog w).is k (.int k tk) = true := by simp [intKind, Value.isInt]
 have hlen : es.size = ks.length := by have := he.length; simpa using this
 unfold setAddHashed setAddHashedIn
 refine wpAny_holding (wpAny_bind (wpAny_setState_of ho hd hf ?_))
 dsimp only
 rw [byScan_of (knd := intKind prog w) (show (Value.int k tk).scannable = true from rfl) hb hel]
 simp only [↓reduceIte]
 unfold setAddByScan
 refine wpAny_bind ?_
 refine wpAny_bind (wpAny_rule ?_)
 refine wpAny_bind (wpAny_setScan_of (knd := intKind prog w) hkey ho hd hf hel ?_)
 cases hr : List.findIdx? (fun e => (intKind prog w).is k e.2) es.toList with
 | some j =>
   dsimp only
   obtain ⟨hj, hpj, _⟩ := List.findIdx?_eq_some_iff_getElem.mp hr
   have hm : k ∈ ks := he.mem.mpr ⟨_, List.getElem_mem hj, hpj⟩
   have q := h s.heap ks (Heap.SameBut.refl a s.heap) gS (by rw [if_pos hm])
   rw [decide_eq_false (fun z => z hm)] at q
   exact wpAny_pure (wpAny_pure q)
 | none =>
   dsimp only
   have hm : ¬ k ∈ ks := fun z => by
    obtain ⟨e, m, q⟩ := he.mem.mp z
    have := List.findIdx?_eq_none_iff.mp hr e m
    exact Bool.noConfusion (this.symm.trans q)
   rw [if_neg hm, decide_eq_true hm] at h
   have pm := layNew_perm t es (hashInt k) (.int k tk)
   have ft := layNew_fits t es (hashInt k) (.int k tk)
   have gd := good_layNew hg es (hashInt k) (.int k tk)
   generalize layNew t es (hashInt k) (.int k tk) = X at pm ft gd ⊢
   obtain ⟨es1, t1, wd, gave⟩ := X
   dsimp only at pm ft gd ⊢
   rw [Array.toList_push] at pm
   have e0 : Els (es.toList ++ [(hashInt k, Value.int k tk)]) (ks ++ [k]) := he.snoc ⟨rfl, tk, rfl⟩
   obtain ⟨ks1, e1, p1⟩ := e0.perm pm.symm
   have nd0 : (ks ++ [k]).Nodup := by
    rw [List.nodup_append]
    refine ⟨nd, by simp, fun x hx y hy => ?_⟩
    simp only [List.mem_cons, List.not_mem_nil, or_false] at hy
    subst hy
    intro z
    subst z
    exact hm hx
   have sz : es1.size = es.size + 1 := by have := pm.length_eq; simpa using this
   have hb1 : es1.size < scanBound := by rw [sz, hlen]; exact room
   have hgo : ∀ (b : Bool) (s₁ : Shared) (Q' : Unit → Shared → Prop), Q' () s₁ → wpAny (model prog w) A (match b with | true => rule "set.scan.the-table-gave-way" | false => pure ()) Q' E s₁ := fun b s₁ Q' q => by
    cases b
    . exact wpAny_pure q
    . exact wpAny_rule q
   refine wpAny_bind (hgo _ _ _ ?_)
   have fin : ∀ h' ks', Heap.SameBut a s.heap h' → SetG w h' a ks' → ks1.Perm ks' → Q true { s with heap := h' } := fun h' ks' sb g' p' => h h' ks' sb g' (p1.trans p')
   split
   . refine wpAny_bind ?_
     rw [hashByValue_scannable 8 (show (Value.int k tk).scannable = true from rfl)]
     refine wpAny_pure ?_
     show wpAny _ _ _ _ _ _
     refine addTail_G hgo ho hx hd e1 (p1.nodup nd0) hb1 ?_ ?_ ?_
     . exact ft
     . exact gd
     . intro h' ks' sb g' p'
       exact wpAny_pure (fin h' ks' sb g' p')
   . refine wpAny_bind (wpAny_pure ?_)
     refine addTail_G hgo ho hx hd e1 (p1.nodup nd0) hb1 ?_ ?_ ?_
     . exact ft
     . exact gd
     . intro h' ks' sb g' p'
       exact wpAny_pure (fin h' ks' sb g' p')
end
end LLS
end
section
namespace LLS
open PySem PyProof.Rows
section
variable {prog : Program} {w : World} {A : Around} {R : Result → Shared → Prop} {I : Addr} {fp wr : List Addr} {G : Array GenState → Array GenState → Prop} {n : Nat} {P : Nat → Value → Prop} {St : Nat → Shared → Prop}
theorem update_loop_G (W : WalksS prog w A.in1 I fp wr G n P St) (S : Addr) (nf : S ∉ fp) (val : Nat -> Int) (hv : ∀ i v, P i v -> ∃ t, v = .int (val i) t) (lim : n + 1 < scanBound) :
 ∀ (d i : Nat) (s : Shared) (ks : List Int), n - i = d → i ≤ n → St i s → SetG w s.heap S ks → (∀ x, x ∈ ks ↔ ∃ j, j < i ∧ val j = x) → ks.length ≤ i →
  (∀ s' ks', Moved (S :: wr) G s s' → SetG w s'.heap S ks' → (∀ x, x ∈ ks' ↔ ∃ j, j < n ∧ val j = x) → ks'.length ≤ n → R (.ok (.ret .none)) s') →
  codeAny (model prog w) A (.builtin "set.update.loop" ⟨[.ref S, .ref I], []⟩) R s := by
 have nw : S ∉ wr := fun z => nf (W.sub _ z)
 have up : ∀ b ∈ wr, b ∈ S :: wr := fun _ z => List.mem_cons_of_mem _ z
 intro d
 induction d with
 | zero =>
   intro i s ks hd hi st gS mem len fin
   obtain rfl : i = n := by omega
   refine codeAny_builtin PyProof.Rows.F.entry_set_update_loop ?_
   rw [Around.under_plainId PyProof.Rows.F.plain_set_update_loop _]
   refine wpAny_bind (m := pyNext (.ref I)) (W.done s _ _ st fun s' mv => ?_)
   exact wpAny_pure (fin s' ks (mv.mono up) (gS.keep fun o e => mv.heap S o nw e) mem len)
 | succ d ih =>
   intro i s ks hd hi st gS mem len fin
   have lt : i < n := by omega
   refine codeAny_builtin PyProof.Rows.F.entry_set_update_loop ?_
   rw [Around.under_plainId PyProof.Rows.F.plain_set_update_loop _]
   refine wpAny_bind (m := pyNext (.ref I)) (W.item i s _ _ lt st fun v s' pv st' mv => ?_)
   obtain ⟨t, rfl⟩ := hv i v pv
   have g' : SetG w s'.heap S ks := gS.keep fun o e => mv.heap S o nw e
   refine wpAny_bind (m := holding [Value.int (val i) t] (setAdd S (.int (val i) t))) (wpAny_holding ?_)
   unfold setAdd
   refine wpAny_holding (wpAny_bind ((intKind prog w).pyHash (k := val i) (by simp [intKind, Value.isInt]) ?_))
   refine setAdd_G (s := { s' with toks := s'.toks + 1 }) g' (by omega) fun h' ks' sb g2 pm => ?_
   have mem' : ∀ x, x ∈ ks' ↔ ∃ j, j < i + 1 ∧ val j = x := fun x => by
    rw [← pm.mem_iff]
    split
    . rename_i hin
      rw [mem]
      constructor
      . rintro ⟨j, h1, h2⟩; exact ⟨j, by omega, h2⟩
      . rintro ⟨j, h1, h2⟩
        rcases Nat.lt_succ_iff_lt_or_eq.mp h1 with h3 | h3
        . exact ⟨j, h3, h2⟩
        . subst h3
          rw [← h2]
          exact (mem _).mp hin
    . rw [List.mem_append, mem]
      constructor
      . rintro (⟨j, h1, h2⟩ | h2)
        . exact ⟨j, by omega, h2⟩
        . exact ⟨i, by omega, (List.mem_singleton.mp h2).symm⟩
      . rintro ⟨j, h1, h2⟩
        rcases Nat.lt_succ_iff_lt_or_eq.mp h1 with h3 | h3
        . exact .inl ⟨j, h3, h2⟩
        . subst h3
          exact .inr (by simp [h2])
   have len' : ks'.length ≤ i + 1 := by
    rw [← pm.length_eq]
    split
    . omega
    . simp; omega
   refine wpAny_pure ⟨plainId_quiet PyProof.Rows.F.plain_set_update_loop _, ih (i + 1) _ ks' (by omega) lt (W.frame _ s' _ _ st' (Nat.le_succ _) fun b hb o e => ?_) g2 mem' len' fun s2 ks2 mv2 g3 m3 l3 => ?_⟩
   . rw [sb.2 b (fun z => nf (by rw [← z]; exact hb))]
     exact e
   . refine fin s2 ks2 (Moved.trans W.gtrans ((mv.mono up).then_heap (Nat.le_succ _) fun b o hb e => ?_) mv2) g3 m3 l3
     rw [sb.2 b (fun z => hb (by rw [z]; exact List.mem_cons_self))]
     exact e
end
section
variable {prog : Program} {w : World} {A : Around} {E : Value → Shared → Prop} {s : Shared}
abbrev newSetObj (b : Bool) : Obj := { cls := .type "set", dict := none, data := .set #[] 0 (.fresh 0 0 b) }
theorem newSetObj_G (h : Heap) : SetG w (h.push (newSetObj (!bt w))) h.objs.size [] :=
 ⟨_, #[], 0, _, Heap.get?_push_size _ rfl, ⟨rfl, rfl, rfl⟩, rfl, .nil, List.nodup_nil, by decide, rfl, good_fresh _⟩
theorem code_new_G (a : Value) {Q : Value -> Shared -> Prop} (h : Q (.ref s.heap.objs.size) { s with heap := s.heap.push (newSetObj (!bt w)) }) :
 codeAny (model prog w) A (.call (.builtin "set.__new__") ⟨[.type "set", a], []⟩) (wants Q E) s := by
 refine codeAny_of_tree ?_
 refine wpAny_bind (m := checkBuiltinCall "set.__new__" ⟨[.type "set", a], []⟩) (wpAny_of_eq (PySem.F.newCall_set_1 a) (wpAny_pure ⟨plainId_quiet PySem.F.plain_set_new _, codeAny_builtin PySem.F.entry_set_new ?_⟩))
 rw [Around.under_plainId PySem.F.plain_set_new _]
 unfold Builtin.«set.__new__» Builtin.Frozenset.newClass
 have sub := sub_set_self
 obtain ⟨hp, g, d, tk, os⟩ := s
 dsimp only
 wp_walk
 refine wpAny_askSetting (wpAny_pure ?_)
 dsimp only
 simp only [newObj]
 exact wpAny_bind (wpAny_alloc (wpAny_pure (wpAny_pure h)))
end
end LLS
end
section
namespace LLS
open PySem PyProof.Rows
section
variable {prog : Program} {w : World} {A : Around} {E : Value → Shared → Prop} {s : Shared}
theorem init_G {Q : Value -> Shared -> Prop} {l : Addr} {items : Array Value} {ns : List Int} (hh : A.handled = none) (il : s.heap.IsList l items) (ia : IntsAre items.toList ns) (lim : items.size + 1 < scanBound)
 {b : Addr} (hob : s.heap.get? b = some (newSetObj (!bt w))) (neb : b ≠ l)
 (fin : ∀ h' tk ks, SetG w h' b ks → (∀ x, x ∈ ks ↔ x ∈ ns) → ks.length ≤ ns.length → (∀ c o, c ≠ b → s.heap.get? c = some o → h'.get? c = some o) → Q .none { s with heap := h', toks := tk }) :
 codeAny (model prog w) A (.builtin "set.__init__" ⟨[.ref b, .ref l], []⟩) (wants Q E) s := by
 obtain ⟨ol, hol, hcl, nl, hdl⟩ := id il
 obtain ⟨ocls, odict, odata, oslots⟩ := ol
 simp only at hcl hdl
 subst hcl
 subst hdl
 have sub1 := PySem.F.sub_list_set
 have sub2 := PySem.F.sub_list_frozenset
 have dif : (Value.type "list" == Value.type "dict") = false := by decide
 have tyS : Shared.TypeIs s (.ref b) "set" := ⟨_, hob, rfl⟩
 refine codeAny_builtin PySem.F.entry_set_init ?_
 rw [Around.under_plainId PySem.F.called_set.init.plain _]
 unfold Builtin.«set.__init__» noKeywords Builtin.Frozenset.updateFrom
 generalize hPI : pyIter = PI
 wp_walk
 subst hPI
 refine wpAny_pyIter_list il ?_
 refine wpAny_bind (wpAny_runValue ?_)
 have blt : b < s.heap.objs.size := Heap.lt_size hob
 have llt : l < s.heap.objs.size := Heap.lt_size hol
 have nef : b ∉ [s.heap.objs.size, l] := by
  simp only [List.mem_cons, List.not_mem_nil, or_false, not_or]
  exact ⟨Nat.ne_of_lt blt, neb⟩
 have hval : ∀ (i : Nat) (v : Value), items[i]? = some v → ∃ t, v = .int (ns.getD i 0) t := fun i v hv => IntsAre.int_at ia i v (by rw [Array.getElem?_toList]; exact hv)
 have nlen : items.size = ns.length := by rw [← IntsAre.length ia, Array.length_toList]
 refine update_loop_G ((Walks.list (by simp [hh]) _ l (Nat.ne_of_lt llt) items).toS) b nef (fun i => ns.getD i 0) hval lim items.size 0 _ [] rfl (Nat.zero_le _)
  ⟨⟨_, Heap.get?_push_size _ rfl, rfl, rfl⟩, il.push _⟩ ?_ (fun x => by simp) (Nat.le_refl _) ?_
 . exact ⟨_, #[], 0, _, Heap.get?_push_of_some _ hob, ⟨rfl, rfl, rfl⟩, rfl, .nil, List.nodup_nil, by decide, rfl, good_fresh _⟩
 . intro s' ks mv g mem len
   obtain ⟨h', g', d', tk', os'⟩ := s'
   obtain rfl : g' = s.gens := mv.gens
   obtain rfl : d' = s.drawn := mv.drawn
   obtain rfl : os' = s.os := mv.os
   refine wpAny_pure (wpAny_pure ?_)
   refine fin h' tk' ks g (fun x => ?_) (by omega) fun c o nc e => ?_
   . rw [mem, nlen]
     constructor
     . rintro ⟨j, h1, h2⟩
       rw [← h2, List.getD_eq_getElem?_getD, List.getElem?_eq_getElem h1]
       exact List.getElem_mem h1
     . intro hx
       obtain ⟨j, hj⟩ := List.getElem?_of_mem hx
       exact ⟨j, (List.getElem?_eq_some_iff.mp hj).1, by simp [List.getD_eq_getElem?_getD, hj]⟩
   . refine mv.heap c o ?_ (Heap.get?_push_of_some _ e)
     simp only [List.mem_cons, List.not_mem_nil, or_false, not_or]
     exact ⟨nc, Nat.ne_of_lt (Heap.lt_size e)⟩
end
end LLS
end
section
namespace LLS
open PySem PyProof.Rows
section
variable {prog : Program} {w : World} {A : Around} {E : Value → Shared → Prop} {s : Shared}
set_option maxHeartbeats 3200000 in
theorem set_call_G {l : Addr} {items : Array Value} {ns : List Int} {Q : Value -> Shared -> Prop} (hh : A.handled = none) (il : s.heap.IsList l items) (ia : IntsAre items.toList ns) (lim : items.size + 1 < scanBound)
 (fin : ∀ h' tk ks, SetG w h' s.heap.objs.size ks → (∀ x, x ∈ ks ↔ x ∈ ns) → ks.length ≤ ns.length → (∀ c o, s.heap.get? c = some o → h'.get? c = some o) → Q (.ref s.heap.objs.size) { s with heap := h', toks := tk }) :
 wpAny (model prog w) A (call (.type "set") [.ref l]) Q E s := by
 obtain ⟨c, tl, hmro⟩ := PySem.F.called_set.mro
 have made := PySem.F.called_set.made
 have sub0 := PySem.F.called_set.sub
 refine wpAny_call (codeAny_of_tree ?_)
 show wpAny _ _ (callAny (.type "set") ⟨[.ref l], []⟩) _ _ _
 refine wpAny_pure ⟨Code.quiet_builtin _ (by decide +kernel), codeAny_builtin PySem.F.entry_type_call ?_⟩
 rw [Around.under_plain (weight_type_call_type "set" [.ref l] []) rfl]
 have t1 := PySem.F.called_set.notType
 have t2 := PySem.F.called_set.canCreate
 have t3 := PySem.F.typeCall_set_1 (.ref l)
 repeat (any_goals (first | assumption | wp_step))
 refine codeAny_mono (code_new_G (.ref l) (E := E) (Q := fun obj s₁ => obj = .ref s.heap.objs.size ∧ s₁ = { s with heap := s.heap.push (newSetObj (!bt w)) }) ⟨rfl, rfl⟩) fun r s₁ hr => ?_
 cases r with
 | error e => exact hr
 | ok fl =>
   cases fl with
   | ret obj =>
     obtain ⟨rfl, rfl⟩ := hr
     have hS : (s.heap.push (newSetObj (!bt w))).get? s.heap.objs.size = some (newSetObj (!bt w)) := Heap.get?_push_size _ rfl
     have hT : Shared.TypeIs { s with heap := s.heap.push (newSetObj (!bt w)) } (.ref s.heap.objs.size) "set" := ⟨_, hS, rfl⟩
     have i1 := PySem.F.called_set.init.lookup
     have i2 := PySem.F.called_set.init.bind (.ref s.heap.objs.size)
     repeat (any_goals (first | assumption | wp_step))
     have llt : l < s.heap.objs.size := let ⟨_, ho, _⟩ := il; Heap.lt_size ho
     refine codeAny_mono (codeAny_call_builtin_code (R := wants (fun r s₂ => r = .none ∧ ∃ h' tk ks, s₂ = { s with heap := h', toks := tk } ∧ SetG w h' s.heap.objs.size ks ∧ (∀ x, x ∈ ks ↔ x ∈ ns) ∧ ks.length ≤ ns.length ∧
      (∀ c o, s.heap.get? c = some o → h'.get? c = some o)) E) (plainId_quiet PySem.F.called_set.init.plain _) (check_set_init_1 hT
      (init_G (by simp [hh]) (il.push _) ia lim hS (Nat.ne_of_gt llt) fun h' tk ks g mem len kp => ⟨rfl, h', tk, ks, rfl, g, mem, len, fun c o e => kp c o (Nat.ne_of_lt (Heap.lt_size e)) (Heap.get?_push_of_some _ e)⟩))) fun r₂ s₂ hr₂ => ?_
     . cases r₂ with
       | error e => exact hr₂
       | ok fl₂ =>
         cases fl₂ with
         | ret r =>
           obtain ⟨rfl, h', tk, ks, rfl, g, mem, len, kp⟩ := hr₂
           repeat (any_goals (first | assumption | wp_step))
           exact fin _ _ _ g mem len kp
         | _ => exact hr₂.elim
   | _ => exact hr.elim
end
end LLS
end
section
namespace LLS
open PySem PyProof.Rows
theorem it_next : Slot "set_iterator" "__next__" "set_iterator.__next__" :=
 Slot.of (owner := "set_iterator") (n := "__next__") (by rw [typeLookup_type, builtinLookup_eq_fast]; kernel_rfl)
  (by decide +kernel) (by decide +kernel) (by decide +kernel) (by first | exact .inl (by decide +kernel) | exact .inr (by decide +kernel))
  (by rw [isSubtype_type]; kernel_rfl)
theorem it_iter : Slot "set_iterator" "__iter__" "set_iterator.__iter__" :=
 Slot.of (owner := "set_iterator") (n := "__iter__") (by rw [typeLookup_type, builtinLookup_eq_fast]; kernel_rfl)
  (by decide +kernel) (by decide +kernel) (by decide +kernel) (by first | exact .inl (by decide +kernel) | exact .inr (by decide +kernel))
  (by rw [isSubtype_type]; kernel_rfl)
theorem it_next_entry : entryFor table "set_iterator.__next__" = some Builtin.«set_iterator.__next__» := entryFor_of_tree (by kernel_rfl)
theorem it_iter_entry : entryFor table "set_iterator.__iter__" = some Builtin.«dict_keyiterator.__iter__» :=
 entryFor_alias (id' := "dict_keyiterator.__iter__") (by kernel_rfl) rfl (by decide +kernel) (by kernel_rfl)
theorem set_iter_entry : entryFor table "set.__iter__" = some Builtin.«frozenset.__iter__» :=
 entryFor_alias (id' := "frozenset.__iter__") (by kernel_rfl) rfl (by decide +kernel) (by kernel_rfl)
theorem it_owner : Manifest.owners.lookup (String.ofList ['r', 'o', 't', 'a', 'r', 'e', 't', 'i', '_', 't', 'e', 's'].reverse) = some Manifest.sig_set_iterator := by kernel_rfl
theorem it_next_args (a : Value) : argsOk "set_iterator.__next__" ⟨[a], []⟩ := by
 unfold argsOk
 rw [signature?_of (id := "set_iterator.__next__") (n := ['_', '_', 't', 'x', 'e', 'n', '_', '_']) (o := ['r', 'o', 't', 'a', 'r', 'e', 't', 'i', '_', 't', 'e', 's']) (by kernel_rfl) it_owner]
 kernel_rfl
theorem it_iter_args (a : Value) : argsOk "set_iterator.__iter__" ⟨[a], []⟩ := by
 unfold argsOk
 rw [signature?_of (id := "set_iterator.__iter__") (n := ['_', '_', 'r', 'e', 't', 'i', '_', '_']) (o := ['r', 'o', 't', 'a', 'r', 'e', 't', 'i', '_', 't', 'e', 's']) (by kernel_rfl) it_owner]
 kernel_rfl
end LLS
end
section
namespace LLS
open PySem PyProof.Rows
theorem parts_one {xs : List Nat} {j p q : Nat} (a : Parts xs j p) (b : Parts xs j q) : p = q := by
 rcases Nat.lt_trichotomy p q with h | h | h
 . obtain ⟨x, hx⟩ : ∃ x, xs[p]? = some x := ⟨_, List.getElem?_eq_getElem (Nat.lt_of_lt_of_le h b.1)⟩
   have := a.2.2 p (Nat.le_refl _) x hx
   have := b.2.1 p h x hx
   omega
 . exact h
 . obtain ⟨x, hx⟩ : ∃ x, xs[q]? = some x := ⟨_, List.getElem?_eq_getElem (Nat.lt_of_lt_of_le h a.1)⟩
   have := b.2.2 q (Nat.le_refl _) x hx
   have := a.2.1 q h x hx
   omega
def slotAt (pl : Array Nat) : Nat -> Nat
 | 0 => 0
 | i + 1 => pl.getD i 0 + 1
theorem below_slot {pl : Array Nat} (r : Ris pl) : ∀ {i : Nat}, i ≤ pl.size -> SetTable.below pl (slotAt pl i) = i
 | 0, _ => parts_one (below_parts r _) ⟨Nat.zero_le _, fun i h => by omega, fun i _ x _ => Nat.zero_le _⟩
 | i + 1, h => by
   have hg : pl.toList[i]? = some (pl.getD i 0) := by simp [Array.getD, show i < pl.size by omega]
   refine parts_one (below_parts r _) ⟨by simpa using h, fun k hk x hx => ?_, fun k hk x hx => ?_⟩
   . show x < pl.getD i 0 + 1
     rcases Nat.lt_succ_iff_lt_or_eq.mp hk with h1 | h1
     . have := ris_get r h1 hx hg
       omega
     . subst h1
       rw [hg] at hx
       cases hx
       exact Nat.lt_succ_self _
   . show pl.getD i 0 + 1 ≤ x
     exact ris_get r (show i < k by omega) hg hx
theorem take_out {α : Type} : ∀ {l : List α} {i : Nat} (h : i < l.length), (l[i] :: l.eraseIdx i).Perm l
 | x :: l, 0, _ => .rfl
 | x :: l, i + 1, h => by
   rw [List.getElem_cons_succ, List.eraseIdx_cons_succ]
   exact (List.Perm.swap _ _ _).trans ((take_out (l := l) (i := i) (by simpa using h)).cons x)
theorem pick_go_perm {α : Type} (next : Nat -> Nat) : ∀ (fuel k : Nat) (left : List α) (out : Array α), left.length = fuel -> (pickOrder.go next fuel k left out).toList.Perm (out.toList ++ left)
 | 0, k, left, out, h => by
   have : left = [] := List.eq_nil_of_length_eq_zero h
   subst this
   simp [pickOrder.go]
 | fuel + 1, k, left, out, h => by
   unfold pickOrder.go
   have hp : 0 < left.length := by omega
   have hlt : next k % left.length < left.length := Nat.mod_lt _ hp
   rw [List.getElem?_eq_getElem hlt]
   dsimp only
   refine (pick_go_perm next fuel (k + 1) _ _ (by rw [List.length_eraseIdx]; simp [hlt]; omega)).trans ?_
   rw [Array.toList_push, List.append_assoc]
   refine List.Perm.append_left _ ?_
   exact take_out hlt
theorem pick_perm {α : Type} (next : Nat -> Nat) (xs : Array α) : (pickOrder next xs).toList.Perm xs.toList := by
 unfold pickOrder
 have := pick_go_perm next xs.size 0 xs.toList #[] (by simp)
 simpa using this
section
variable {prog : Program} {w : World} {A : Around} {E : Value → Shared → Prop} {s : Shared}
theorem choose_any {src : Source} {n : Nat} {Q : Nat -> Shared -> Prop} (hn : n ≠ 0) (h : ∀ i d, i < n -> Q i { s with drawn := d }) : wpAny (model prog w) A (choose src n) Q E s :=
 fun _ _ _ => ⟨hn, h _ _ (Nat.mod_lt _ (Nat.pos_of_ne_zero hn))⟩
theorem drawOrder_any {α : Type} : ∀ (n : Nat) (xs : List α) (s : Shared) (Q : List α -> Shared -> Prop), xs.length = n -> (∀ ys d, ys.Perm xs -> Q ys { s with drawn := d }) -> wpAny (model prog w) A (drawOrder n xs) Q E s
 | 0, xs, s, Q, h, fin => by
   have : xs = [] := List.eq_nil_of_length_eq_zero h
   subst this
   exact wpAny_pure (fin [] s.drawn .nil)
 | n + 1, [], s, Q, h, fin => by simp at h
 | n + 1, x :: xs, s, Q, h, fin => by
   unfold drawOrder
   refine wpAny_bind (choose_any (by simp) fun i d hi => ?_)
   rw [List.getElem?_eq_getElem hi]
   dsimp only
   refine wpAny_bind (drawOrder_any n _ _ _ (by rw [List.length_eraseIdx, if_pos hi]; simpa using h) fun ys d' hp => ?_)
   refine wpAny_pure (fin _ d' ?_)
   exact (hp.cons _).trans (take_out hi)
def SetAt (h : Heap) (a : Addr) (es : Array (Int × Value)) (ep : Nat) (t : SetTable) : Prop := ∃ o, h.get? a = some o /\ o.ExactSet /\ o.data = .set es ep t
def ItAt (h : Heap) (I : Addr) (first : Value) (i : Nat) (a : Addr) (n ep : Nat) : Prop :=
 ∃ o, h.get? I = some o ∧ o.cls = .type "set_iterator" ∧ o.data = .fields #[first, .int i 0, .ref a, .int n 0, .int ep 0]
theorem ItAt.typeIs {I : Addr} {first : Value} {i : Nat} {a : Addr} {n ep : Nat} (x : ItAt s.heap I first i a n ep) : s.TypeIs (.ref I) "set_iterator" := let ⟨o, ho, hc, _⟩ := x; ⟨o, ho, hc⟩
theorem SetAt.keep {h h' : Heap} {a : Addr} {es : Array (Int × Value)} {ep : Nat} {t : SetTable} (x : SetAt h a es ep t) (k : ∀ o, h.get? a = some o -> h'.get? a = some o) : SetAt h' a es ep t := let ⟨o, ho, r⟩ := x; ⟨o, k o ho, r⟩
theorem ItAt.keep {h h' : Heap} {I : Addr} {first : Value} {i : Nat} {a : Addr} {n ep : Nat} (x : ItAt h I first i a n ep) (k : ∀ o, h.get? I = some o -> h'.get? I = some o) : ItAt h' I first i a n ep := let ⟨o, ho, r⟩ := x; ⟨o, k o ho, r⟩
theorem setEntries_at {a : Addr} {es : Array (Int × Value)} {ep : Nat} {t : SetTable} {Q : Array (Int × Value) -> Shared -> Prop} (x : SetAt s.heap a es ep t) (hf : t.fits es.size = true) (h : Q es s) : wpAny (model prog w) A (setEntries a) Q E s := by
 obtain ⟨o, ho, _, hd⟩ := x
 exact wpAny_bind (wpAny_setState_of ho hd hf (wpAny_pure h))
theorem next_item {I a : Addr} {es : Array (Int × Value)} {ep : Nat} {t : SetTable} {slot : Nat} {tk : Tok} {i nx : Nat} {x : Value} {Q : Option Value -> Shared -> Prop}
 (hI : ItAt s.heap I (.int slot tk) i a es.size ep) (hS : SetAt s.heap a es ep t) (hf : t.fits es.size = true)
 (hn : ∀ (A' : Around) (E' : Value → Shared → Prop) (Q' : Option (Value × Nat) → Shared → Prop), Q' (some (x, nx)) s → wpAny (model prog w) A' (setNext a slot i ep) Q' E' s)
 (h : ∀ h', ItAt h' I (.int nx 0) (i + 1) a es.size ep → Heap.SameBut I s.heap h' → Q (some x) { s with heap := h' }) : wpAny (model prog w) A (pyNext (.ref I)) Q E s := by
 obtain ⟨o, ho, hc, hd⟩ := id hI
 unfold pyNext
 refine wpAny_bind (wpAny_attempt (wpAny_callSpecial?_slot (name := Str.ofString "__next__") hI.typeIs it_next (wpAny_call_entry it_next hI.typeIs it_next_entry ?_ (it_next_args _))))
 unfold Builtin.«set_iterator.__next__»
 refine wpAny_bind (m := slotArgs "__next__" 0 _) (wpAny_pure ?_)
 refine wpAny_bind (wpAny_fieldsOf ho hd ?_)
 dsimp only
 refine wpAny_bind (setEntries_at hS hf ?_)
 rw [if_neg (by simp)]
 try refine wpAny_bind (wpAny_pure ?_)
 try dsimp only
 refine wpAny_bind (hn _ _ _ ?_)
 dsimp only
 refine wpAny_bind (wpAny_setField ho hd (by simp) ?_)
 have o1 := Heap.get?_update_self (Obj.mapFields (·.setIfInBounds 0 (rawInt nx))) ho (Obj.isFreed_of_fields (Obj.data_mapFields hd _))
 refine wpAny_bind (wpAny_setField o1 (Obj.data_mapFields hd _) (by simp) ?_)
 have o2 := Heap.get?_update_self (Obj.mapFields (·.setIfInBounds 1 (rawInt ((i : Int) + 1)))) o1 (Obj.isFreed_of_fields (Obj.data_mapFields (Obj.data_mapFields hd _) _))
 refine wpAny_pure ⟨_, rfl, wpAny_pure (h _ ⟨_, o2, ?_, ?_⟩ ((Heap.SameBut.update ..).trans (Heap.SameBut.update ..)))⟩
 . rw [Obj.cls_mapFields, Obj.cls_mapFields]
   exact hc
 . rw [Obj.data_mapFields (Obj.data_mapFields hd _)]
   simp [rawInt]
end
end LLS
end
section
namespace LLS
open PySem PyProof.Rows
section
variable {prog : Program} {w : World} {A : Around} {E : Value → Shared → Prop} {s : Shared}
theorem stop_raise {B : Around} {Q : Fin -> Shared -> Prop} {E' : Value -> Shared -> Prop} (hh : B.handled = none)
 (h : ∀ s' e, s'.TypeIs e "StopIteration" → s'.gens = s.gens → s'.drawn = s.drawn → s'.os = s.os → s'.toks = s.toks → (∀ b o, s.heap.get? b = some o → s'.heap.get? b = some o) → E' e s') :
 wpAny (model prog w) B (do raiseNew (← newExc (.type "StopIteration") [])) Q E' s := by
 refine wpAny_bind ?_
 simp only [newExc, newTuple]
 refine wpAny_bind (wpAny_newObj_type ?_ (by size_fits))
 refine wpAny_bind (m := firstArgMember _ _) (wpAny_of_eq (a := Value.none) (by first | rfl | (simp only [firstArgMember]; rfl)) ?_)
 refine wpAny_newObj_type ?_ (by size_fits)
 simp only [raiseNew]
 refine wpAny_bind (wpAny_handled ?_)
 rw [hh]
 refine wpAny_bind (wpAny_pure (wpAny_throw ?_))
 exact h _ _ ⟨_, Heap.get?_push_size _ rfl, rfl⟩ rfl rfl rfl rfl fun b o e => Heap.get?_push_of_some _ (Heap.get?_push_of_some _ e)
theorem next_end {I a : Addr} {es : Array (Int × Value)} {ep : Nat} {t : SetTable} {slot : Nat} {tk : Tok} {i : Nat} {Q : Option Value -> Shared -> Prop} (hh : A.handled = none)
 (hI : ItAt s.heap I (.int slot tk) i a es.size ep) (hS : SetAt s.heap a es ep t) (hf : t.fits es.size = true)
 (hn : ∀ (A' : Around) (E' : Value → Shared → Prop) (Q' : Option (Value × Nat) → Shared → Prop), Q' none s → wpAny (model prog w) A' (setNext a slot i ep) Q' E' s)
 (h : ∀ s', Moved [I] (fun a b => b = a) s s' → Q none s') : wpAny (model prog w) A (pyNext (.ref I)) Q E s := by
 obtain ⟨o, ho, hc, hd⟩ := id hI
 unfold pyNext
 refine wpAny_bind (wpAny_attempt (wpAny_callSpecial?_slot (name := Str.ofString "__next__") hI.typeIs it_next (wpAny_call_entry it_next hI.typeIs it_next_entry ?_ (it_next_args _))))
 unfold Builtin.«set_iterator.__next__»
 refine wpAny_bind (m := slotArgs "__next__" 0 _) (wpAny_pure ?_)
 refine wpAny_bind (wpAny_fieldsOf ho hd ?_)
 dsimp only
 refine wpAny_bind (setEntries_at hS hf ?_)
 rw [if_neg (by simp)]
 try dsimp only
 refine wpAny_bind (hn _ _ _ ?_)
 dsimp only
 refine wpAny_bind (wpAny_setField ho hd (by simp) ?_)
 refine stop_raise (B := A.in1) hh fun s' e ty hg hdr hos htk kp => ?_
 refine wpAny_bind (wpAny_isInstance (T := "StopIteration") (b := true) ty isSubtype_stop ?_)
 refine wpAny_pure (h s' ⟨fun b o nb e => kp b o ?_, hg, hdr, hos, Nat.le_of_eq htk.symm⟩)
 exact (Heap.get?_update_other _ _ (fun z => nb (by rw [← z]; exact List.mem_singleton.mpr rfl))).trans e
def TupAt (h : Heap) (T : Addr) (ps : List Nat) : Prop := ∃ o, h.get? T = some o /\ ∃ k, o.data = .seq (ps.map fun (p : Nat) => rawInt (p : Int)).toArray k
theorem TupAt.keep {h h' : Heap} {T : Addr} {ps : List Nat} (x : TupAt h T ps) (k : ∀ o, h.get? T = some o -> h'.get? T = some o) : TupAt h' T ps := let ⟨o, ho, r⟩ := x; ⟨o, k o ho, r⟩
theorem drawn_item {I a T : Addr} {es : Array (Int × Value)} {ep : Nat} {t : SetTable} {i : Nat} {ps : List Nat} {p : Nat} {e : Int × Value} {Q : Option Value -> Shared -> Prop}
 (hI : ItAt s.heap I (.ref T) i a es.size ep) (hS : SetAt s.heap a es ep t) (hf : t.fits es.size = true) (hT : TupAt s.heap T ps) (hp : ps[i]? = some p) (he : es[p]? = some e)
 (h : ∀ h', ItAt h' I (.ref T) (i + 1) a es.size ep → Heap.SameBut I s.heap h' → Q (some e.2) { s with heap := h' }) : wpAny (model prog w) A (pyNext (.ref I)) Q E s := by
 obtain ⟨o, ho, hc, hd⟩ := id hI
 obtain ⟨oT, hoT, kT, hdT⟩ := id hT
 unfold pyNext
 refine wpAny_bind (wpAny_attempt (wpAny_callSpecial?_slot (name := Str.ofString "__next__") hI.typeIs it_next (wpAny_call_entry it_next hI.typeIs it_next_entry ?_ (it_next_args _))))
 unfold Builtin.«set_iterator.__next__»
 refine wpAny_bind (m := slotArgs "__next__" 0 _) (wpAny_pure ?_)
 refine wpAny_bind (wpAny_fieldsOf ho hd ?_)
 dsimp only
 refine wpAny_bind (setEntries_at hS hf ?_)
 rw [if_neg (by simp)]
 try dsimp only
 refine wpAny_bind ?_
 unfold seqItems?
 refine wpAny_bind (wpAny_load hoT ?_)
 rw [hdT]
 refine wpAny_pure ?_
 dsimp only
 have hg : (ps.map fun (p : Nat) => rawInt (p : Int)).toArray[(i : Int).toNat]? = some (rawInt (p : Int)) := by simp [hp]
 rw [hg]
 dsimp only [rawInt]
 refine wpAny_bind ?_
 unfold setNextDrawn
 obtain ⟨oS, hoS, hxS, hdS⟩ := id hS
 refine wpAny_bind (wpAny_setState_of hoS hdS hf ?_)
 dsimp only
 rw [if_neg (by simp)]
 try refine wpAny_bind (wpAny_pure ?_)
 try dsimp only
 rw [Int.toNat_natCast, he]
 refine wpAny_pure ?_
 refine wpAny_bind (wpAny_setField ho hd (by simp) ?_)
 have o2 := Heap.get?_update_self (Obj.mapFields (·.setIfInBounds 1 (Value.int ((i : Int) + 1) 0))) ho (Obj.isFreed_of_fields (Obj.data_mapFields hd _))
 refine wpAny_pure ⟨_, rfl, wpAny_pure (h _ ⟨_, o2, ?_, ?_⟩ (Heap.SameBut.update ..))⟩
 . rw [Obj.cls_mapFields]
   exact hc
 . rw [Obj.data_mapFields hd]
   simp [rawInt]
theorem drawn_end {I a T : Addr} {es : Array (Int × Value)} {ep : Nat} {t : SetTable} {i : Nat} {ps : List Nat} {Q : Option Value -> Shared -> Prop} (hh : A.handled = none)
 (hI : ItAt s.heap I (.ref T) i a es.size ep) (hS : SetAt s.heap a es ep t) (hf : t.fits es.size = true) (hT : TupAt s.heap T ps) (hp : ps.length ≤ i)
 (h : ∀ s', Moved [I] (fun a b => b = a) s s' → Q none s') : wpAny (model prog w) A (pyNext (.ref I)) Q E s := by
 obtain ⟨o, ho, hc, hd⟩ := id hI
 obtain ⟨oT, hoT, kT, hdT⟩ := id hT
 unfold pyNext
 refine wpAny_bind (wpAny_attempt (wpAny_callSpecial?_slot (name := Str.ofString "__next__") hI.typeIs it_next (wpAny_call_entry it_next hI.typeIs it_next_entry ?_ (it_next_args _))))
 unfold Builtin.«set_iterator.__next__»
 refine wpAny_bind (m := slotArgs "__next__" 0 _) (wpAny_pure ?_)
 refine wpAny_bind (wpAny_fieldsOf ho hd ?_)
 dsimp only
 refine wpAny_bind (setEntries_at hS hf ?_)
 rw [if_neg (by simp)]
 try dsimp only
 refine wpAny_bind ?_
 unfold seqItems?
 refine wpAny_bind (wpAny_load hoT ?_)
 rw [hdT]
 refine wpAny_pure ?_
 dsimp only
 have hg : (ps.map fun (p : Nat) => rawInt (p : Int)).toArray[(i : Int).toNat]? = none := by simp [hp]
 rw [hg]
 dsimp only
 refine wpAny_bind (wpAny_setField ho hd (by simp) ?_)
 have o1 := Heap.get?_update_self (Obj.mapFields (·.setIfInBounds 0 (rawInt 0))) ho (Obj.isFreed_of_fields (Obj.data_mapFields hd _))
 refine wpAny_bind (wpAny_setField o1 (Obj.data_mapFields hd _) (by simp) ?_)
 refine stop_raise (B := A.in1) hh fun s' e ty hg hdr hos htk kp => ?_
 refine wpAny_bind (wpAny_isInstance (T := "StopIteration") (b := true) ty isSubtype_stop ?_)
 refine wpAny_pure (h s' ⟨fun b o nb e => kp b o ?_, hg, hdr, hos, Nat.le_of_eq htk.symm⟩)
 have ne : I ≠ b := fun z => nb (by rw [← z]; exact List.mem_singleton.mpr rfl)
 exact (Heap.get?_update_other _ _ ne).trans ((Heap.get?_update_other _ _ ne).trans e)
end
end LLS
end
section
namespace LLS
open PySem PyProof.Rows
section
variable {prog : Program} {w : World} {A : Around} {E : Value → Shared → Prop} {s : Shared}
theorem byText_any {Q : Bool -> Shared -> Prop} (h : Q (bt w) s) : wpAny (model prog w) A setsByText Q E s := by
 unfold setsByText
 exact wpAny_bind (wpAny_askSetting (wpAny_pure h))
def textOrder (w : World) (a : Addr) (ep : Nat) (es : Array (Int × Value)) : Array (Int × Value) := pickOrder (w.params.setOrder a ep) es
theorem setNext_text {a : Addr} {es : Array (Int × Value)} {ep slot i : Nat} {t : SetTable} {Q : Option (Value × Nat) -> Shared -> Prop} (hb : bt w = true) (hS : SetAt s.heap a es ep t) (hf : t.fits es.size = true)
 (h : Q (((textOrder w a ep es)[i]?).map fun e => (e.2, slot)) s) : wpAny (model prog w) A (setNext a slot i ep) Q E s := by
 obtain ⟨o, ho, hx, hd⟩ := id hS
 unfold setNext
 refine wpAny_bind (wpAny_setState_of ho hd hf ?_)
 dsimp only
 refine wpAny_bind (byText_any ?_)
 rw [if_pos hb, if_neg (by simp)]
 try refine wpAny_bind (wpAny_pure ?_)
 refine wpAny_bind ?_
 unfold setWalk
 refine wpAny_bind (wpAny_setState_of ho hd hf ?_)
 dsimp only
 refine wpAny_bind (byText_any ?_)
 rw [if_pos hb]
 refine wpAny_bind (wpAny_askSetting (wpAny_pure ?_))
 exact wpAny_pure h
theorem setNext_place {a : Addr} {es : Array (Int × Value)} {ep i : Nat} {t : SetTable} {Q : Option (Value × Nat) -> Shared -> Prop} (hb : bt w = false) (hS : SetAt s.heap a es ep t) (hf : t.fits es.size = true) (g : Good true t)
 (hnd : (!t.plain && decide (es.size > 1)) = false) (hi : i ≤ es.size)
 (h : Q ((es[i]?).map fun e => (e.2, slotAt t.place (i + 1))) s) : wpAny (model prog w) A (setNext a (slotAt t.place i) i ep) Q E s := by
 obtain ⟨o, ho, hx, hd⟩ := id hS
 unfold setNext
 refine wpAny_bind (wpAny_setState_of ho hd hf ?_)
 dsimp only
 refine wpAny_bind (byText_any ?_)
 rw [hb]
 simp only [Bool.false_eq_true, if_false]
 have psz : t.place.size = es.size := by
  unfold SetTable.fits at hf
  simp only [Bool.and_eq_true, beq_iff_eq] at hf
  exact hf.1
 refine wpAny_ite_split (fun z => absurd (hnd.symm.trans z) (by decide)) (fun _ => ?_)
 rw [below_slot g.ris (by omega)]
 refine wpAny_bind ?_
 show wpAny _ _ (if (!t.led && !es.isEmpty) = true then unsupported "set:maker-not-led" else pure ()) _ _ _
 rw [g.led]
 refine wpAny_pure ?_
 refine wpAny_pure ?_
 by_cases hlt : i < es.size
 . rw [Array.getElem?_eq_getElem hlt, Array.getElem?_eq_getElem (show i < t.place.size by omega)]
   rw [Array.getElem?_eq_getElem hlt] at h
   have e : slotAt t.place (i + 1) = t.place[i]'(by omega) + 1 := by
    show t.place.getD i 0 + 1 = _
    simp [Array.getD, show i < t.place.size by omega]
   rw [e] at h
   exact h
 . rw [Array.getElem?_eq_none (by omega)] at h ⊢
   exact h
theorem self_iter {I : Addr} {first : Value} {i : Nat} {a : Addr} {n ep : Nat} {Q : Value -> Shared -> Prop} (hI : ItAt s.heap I first i a n ep) (h : Q (.ref I) s) : wpAny (model prog w) A (pyIter (.ref I)) Q E s := by
 refine wpAny_pyIter_slot hI.typeIs it_iter (wpAny_call_entry it_iter hI.typeIs it_iter_entry ?_ (it_iter_args _))
 show wpAny _ _ (ret (.ref I)) _ _ s
 exact wpAny_pure ⟨_, rfl, "set_iterator", _, hI.typeIs, it_next.lookup, h⟩
abbrev GE : Array GenState -> Array GenState -> Prop := fun a b => b = a
def Out (ord : List Int) (i : Nat) (v : Value) : Prop := ∃ k t, ord[i]? = some k /\ v = .int k t
theorem moved_one {I : Addr} {h' : Heap} (sb : Heap.SameBut I s.heap h') : Moved [I] GE s { s with heap := h' } :=
 ⟨fun b o nb e => by rw [sb.2 b (fun z => nb (by rw [z]; exact List.mem_singleton.mpr rfl))]; exact e, rfl, rfl, rfl, Nat.le_refl _⟩
theorem walks_text (hh : A.handled = none) {I a : Addr} (ne : a ≠ I) {es : Array (Int × Value)} {ep : Nat} {t : SetTable} {ord : List Int} (hb : bt w = true) (hf : t.fits es.size = true) (ho : Els (textOrder w a ep es).toList ord) :
 WalksS prog w A I [I, a] [I] GE es.size (Out ord) (fun i s => ItAt s.heap I (.int 0 0) i a es.size ep ∧ SetAt s.heap a es ep t) where
 sub := fun b hb => by simp at hb; simp [hb]
 grefl := fun _ => rfl
 gtrans := fun _ _ _ h1 h2 => h2.trans h1
 frame := fun _ _ _ _ st _ k => ⟨st.1.keep fun o e => k I (by simp) o e, st.2.keep fun o e => k a (by simp) o e⟩
 item := fun i s Q E hi st hQ => by
  have sz : (textOrder w a ep es).size = es.size := by have := (pick_perm (w.params.setOrder a ep) es).length_eq; simpa [textOrder] using this
  have hlt : i < (textOrder w a ep es).size := by omega
  obtain ⟨k, hk, e1, tk, e2⟩ := ho.get i (e := (textOrder w a ep es)[i]) (by rw [Array.getElem?_toList, Array.getElem?_eq_getElem hlt])
  refine next_item (x := (textOrder w a ep es)[i].2) (nx := 0) st.1 st.2 hf (fun A' E' Q' q => setNext_text hb st.2 hf (by rw [Array.getElem?_eq_getElem hlt]; exact q)) fun h' hI' sb => ?_
  refine hQ _ _ ⟨k, tk, hk, e2⟩ ⟨hI', st.2.keep fun o e => by rw [sb.2 a ne]; exact e⟩ (moved_one sb)
 done := fun s Q E st hQ => by
  have sz : (textOrder w a ep es).size = es.size := by have := (pick_perm (w.params.setOrder a ep) es).length_eq; simpa [textOrder] using this
  exact next_end hh st.1 st.2 hf (fun A' E' Q' q => setNext_text hb st.2 hf (by rw [Array.getElem?_eq_none (by omega)]; exact q)) fun s' mv => hQ s' mv
 self := fun _ _ _ _ st hQ => self_iter st.1 hQ
theorem walks_place (hh : A.handled = none) {I a : Addr} (ne : a ≠ I) {es : Array (Int × Value)} {ep : Nat} {t : SetTable} {ord : List Int} (hb : bt w = false) (hf : t.fits es.size = true) (g : Good true t)
 (hnd : (!t.plain && decide (es.size > 1)) = false) (ho : Els es.toList ord) :
 WalksS prog w A I [I, a] [I] GE es.size (Out ord) (fun i s => ItAt s.heap I (.int (slotAt t.place i) 0) i a es.size ep ∧ SetAt s.heap a es ep t) where
 sub := fun b hb => by simp at hb; simp [hb]
 grefl := fun _ => rfl
 gtrans := fun _ _ _ h1 h2 => h2.trans h1
 frame := fun _ _ _ _ st _ k => ⟨st.1.keep fun o e => k I (by simp) o e, st.2.keep fun o e => k a (by simp) o e⟩
 item := fun i s Q E hi st hQ => by
  obtain ⟨k, hk, e1, tk, e2⟩ := ho.get i (e := es[i]) (by rw [Array.getElem?_toList, Array.getElem?_eq_getElem hi])
  refine next_item (x := es[i].2) (nx := slotAt t.place (i + 1)) st.1 st.2 hf (fun A' E' Q' q => setNext_place hb st.2 hf g hnd (by omega) (by rw [Array.getElem?_eq_getElem hi]; exact q)) fun h' hI' sb => ?_
  refine hQ _ _ ⟨k, tk, hk, e2⟩ ⟨hI', st.2.keep fun o e => by rw [sb.2 a ne]; exact e⟩ (moved_one sb)
 done := fun s Q E st hQ => next_end hh st.1 st.2 hf (fun A' E' Q' q => setNext_place hb st.2 hf g hnd (Nat.le_refl _) (by rw [Array.getElem?_eq_none (Nat.le_refl _)]; exact q)) fun s' mv => hQ s' mv
 self := fun _ _ _ _ st hQ => self_iter st.1 hQ
theorem walks_drawn (hh : A.handled = none) {I a T : Addr} (ne : a ≠ I) (neT : T ≠ I) {es : Array (Int × Value)} {ep : Nat} {t : SetTable} {ks : List Int} {ps : List Nat} (hf : t.fits es.size = true) (ho : Els es.toList ks) (hp : ps.Perm (List.range es.size)) :
 WalksS prog w A I [I, a, T] [I] GE es.size (Out (ps.map fun p => ks.getD p 0)) (fun i s => ItAt s.heap I (.ref T) i a es.size ep ∧ SetAt s.heap a es ep t ∧ TupAt s.heap T ps) where
 sub := fun b hb => by simp at hb; simp [hb]
 grefl := fun _ => rfl
 gtrans := fun _ _ _ h1 h2 => h2.trans h1
 frame := fun _ _ _ _ st _ k => ⟨st.1.keep fun o e => k I (by simp) o e, st.2.1.keep fun o e => k a (by simp) o e, st.2.2.keep fun o e => k T (by simp) o e⟩
 item := fun i s Q E hi st hQ => by
  have pl : ps.length = es.size := by have := hp.length_eq; simpa using this
  have hip : i < ps.length := by omega
  have hpi : ps[i] < es.size := List.mem_range.mp (hp.mem_iff.mp (List.getElem_mem hip))
  obtain ⟨k, hk, e1, tk, e2⟩ := ho.get ps[i] (e := es[ps[i]]) (by rw [Array.getElem?_toList, Array.getElem?_eq_getElem hpi])
  refine drawn_item st.1 st.2.1 hf st.2.2 (p := ps[i]) (e := es[ps[i]]) (List.getElem?_eq_getElem hip) (Array.getElem?_eq_getElem hpi) fun h' hI' sb => ?_
  refine hQ _ _ ⟨k, tk, ?_, e2⟩ ⟨hI', st.2.1.keep fun o e => by rw [sb.2 a ne]; exact e, st.2.2.keep fun o e => by rw [sb.2 T neT]; exact e⟩ (moved_one sb)
  rw [List.getElem?_map, List.getElem?_eq_getElem hip]
  simp [List.getD_eq_getElem?_getD, hk]
 done := fun s Q E st hQ => by
  have pl : ps.length = es.size := by have := hp.length_eq; simpa using this
  exact drawn_end hh st.1 st.2.1 hf st.2.2 (by omega) fun s' mv => hQ s' mv
 self := fun _ _ _ _ st hQ => self_iter st.1 hQ
end
end LLS
end
section
namespace LLS
open PySem PyProof.Rows
theorem map_getD_range (ks : List Int) : (List.range ks.length).map (fun p => ks.getD p 0) = ks := by
 apply List.ext_getElem?
 intro i
 by_cases h : i < ks.length
 . rw [List.getElem?_map, List.getElem?_range h, Option.map_some, List.getD_eq_getElem?_getD, List.getElem?_eq_getElem h]
   rfl
 . rw [List.getElem?_eq_none (by simpa using h), List.getElem?_eq_none (by omega)]
section
variable {prog : Program} {w : World} {A : Around} {E : Value → Shared → Prop} {s : Shared}
theorem iter_G {a : Addr} {ks : List Int} {Q : Value -> Shared -> Prop} (g : SetG w s.heap a ks)
 (h : ∀ (s' : Shared) (I : Addr) (fp : List Addr) (ord : List Int) (St : Nat → Shared → Prop), (∀ B : Around, B.handled = none → WalksS prog w B I fp [I] GE ks.length (Out ord) St) → St 0 s' → ord.Perm ks →
  (∀ b o, s.heap.get? b = some o → s'.heap.get? b = some o) → s.heap.objs.size ≤ I → I ∈ fp → (∀ b ∈ fp, b < s'.heap.objs.size ∧ (b = a ∨ s.heap.objs.size ≤ b)) → s'.gens = s.gens → s'.os = s.os → s'.toks = s.toks → Q (.ref I) s') :
 wpAny (model prog w) A (pyIter (.ref a)) Q E s := by
 obtain ⟨o, es, ep, t, ho, hx, hd, he, nd, hb, hf, hg⟩ := id g
 have ty : s.TypeIs (.ref a) "set" := ⟨o, ho, hx.1⟩
 have hS : SetAt s.heap a es ep t := ⟨o, ho, hx, hd⟩
 have sz : es.size = ks.length := by have := he.length; simpa using this
 have alt : a < s.heap.objs.size := Heap.lt_size ho
 refine wpAny_pyIter_slot ty PySem.F.slot_set_iter (wpAny_call_entry PySem.F.slot_set_iter ty set_iter_entry ?_ (PySem.F.args_set_iter_1 _))
 unfold Builtin.«frozenset.__iter__»
 refine wpAny_bind (m := Builtin.Frozenset.slot0 "__iter__" _) (wpAny_bind (m := slotArgs "__iter__" 0 _) (wpAny_pure (wpAny_pure ?_)))
 refine wpAny_bind (m := Builtin.Frozenset.sizeOf a) (wpAny_bind (setEntries_at hS hf (wpAny_pure ?_)))
 refine wpAny_bind ?_
 unfold setDrawn
 refine wpAny_bind (wpAny_setState_of ho hd hf ?_)
 dsimp only
 refine wpAny_bind (byText_any (wpAny_pure ?_))
 refine wpAny_ite_split (fun z => ?_) (fun z => ?_)
 . refine wpAny_bind (drawOrder_any _ _ _ _ (by simp) fun ps d hp => ?_)
   have pl : ps.length = es.size := by have := hp.length_eq; simpa using this
   refine wpAny_bind (wpAny_newObj_type ?_ (by
    show ((ps.map fun (i : Nat) => rawInt i).toArray.size ≤ sizeLine)
    simp only [List.size_toArray, List.length_map]
    rw [pl]
    exact fits_of_scanBound hb))
   have hT : TupAt (s.heap.push { cls := .type "tuple", dict := none, data := .seq (ps.map fun (i : Nat) => rawInt i).toArray 0 }) s.heap.objs.size ps := ⟨_, Heap.get?_push_size _ rfl, 0, rfl⟩
   have hS1 : SetAt (s.heap.push { cls := .type "tuple", dict := none, data := .seq (ps.map fun (i : Nat) => rawInt i).toArray 0 }) a es ep t := hS.keep fun o e => Heap.get?_push_of_some _ e
   obtain ⟨o1, ho1, hx1, hd1⟩ := id hS1
   refine wpAny_bind (wpAny_setEpoch_of ho1 hd1 hf ?_)
   refine wpAny_bind (wpAny_newObj_type (wpAny_pure ⟨_, rfl, "set_iterator", _, ⟨_, Heap.get?_push_size _ rfl, rfl⟩, it_next.lookup, ?_⟩))
   have s1 : (s.heap.push { cls := .type "tuple", dict := none, data := .seq (ps.map fun (i : Nat) => rawInt i).toArray 0 }).objs.size = s.heap.objs.size + 1 := by rw [Heap.size_push]
   have c1 : a ≠ (s.heap.push { cls := .type "tuple", dict := none, data := .seq (ps.map fun (i : Nat) => rawInt i).toArray 0 }).objs.size := by rw [s1]; exact Nat.ne_of_lt (Nat.lt_succ_of_lt alt)
   have c2 : s.heap.objs.size ≠ (s.heap.push { cls := .type "tuple", dict := none, data := .seq (ps.map fun (i : Nat) => rawInt i).toArray 0 }).objs.size := by rw [s1]; exact Nat.ne_of_lt (Nat.lt_succ_self _)
   refine h _ _ [_, a, s.heap.objs.size] (ps.map fun p => ks.getD p 0) (fun i s' => ItAt s'.heap _ (.ref s.heap.objs.size) i a es.size ep ∧ SetAt s'.heap a es ep t ∧ TupAt s'.heap s.heap.objs.size ps) (fun B hB => by
    rw [← sz]
    exact walks_drawn hB c1 c2 hf he hp) ⟨⟨_, Heap.get?_push_size _ rfl, rfl, rfl⟩, hS1.keep fun o e => Heap.get?_push_of_some _ e, hT.keep fun o e => Heap.get?_push_of_some _ e⟩ ?_
    (fun b o e => Heap.get?_push_of_some _ (Heap.get?_push_of_some _ e)) (by rw [s1]; omega) (by simp) (fun b hb => ?_) rfl rfl rfl
   . have := hp.map (fun p => ks.getD p 0)
     rw [sz, map_getD_range] at this
     exact this
   . show b < (Heap.push _ _).objs.size ∧ _
     rw [Heap.size_push, s1]
     simp only [List.mem_cons, List.not_mem_nil, or_false] at hb
     rcases hb with e | e | e
     . rw [e]
       exact ⟨Nat.lt_succ_of_le (Nat.le_of_eq s1), .inr (by show s.heap.objs.size ≤ (Heap.push _ _).objs.size; rw [s1]; exact Nat.le_succ _)⟩
     . rw [e]
       exact ⟨Nat.lt_succ_of_lt (Nat.lt_succ_of_lt alt), .inl rfl⟩
     . rw [e]
       exact ⟨Nat.lt_succ_of_lt (Nat.lt_succ_self _), .inr (Nat.le_refl _)⟩
 . refine wpAny_bind (wpAny_pure ?_)
   refine wpAny_bind (wpAny_setEpoch_of ho hd hf ?_)
   refine wpAny_bind (wpAny_newObj_type (wpAny_pure ⟨_, rfl, "set_iterator", _, ⟨_, Heap.get?_push_size _ rfl, rfl⟩, it_next.lookup, ?_⟩))
   have fpl : ∀ b ∈ [s.heap.objs.size, a], b < (s.heap.push { cls := .type "set_iterator", dict := none, data := .fields [rawInt 0, rawInt 0, Value.ref a, rawInt es.size, rawInt ep].toArray }).objs.size ∧ (b = a ∨ s.heap.objs.size ≤ b) := fun b hb => by
    rw [Heap.size_push]
    simp only [List.mem_cons, List.not_mem_nil, or_false] at hb
    rcases hb with e | e
    . rw [e]
      exact ⟨Nat.lt_succ_self _, .inr (Nat.le_refl _)⟩
    . rw [e]
      exact ⟨Nat.lt_succ_of_lt alt, .inl rfl⟩
   cases hbt : bt w with
   | true =>
     obtain ⟨ord, h1, h2⟩ := he.perm (pick_perm (w.params.setOrder a ep) es).symm
     refine h _ _ [s.heap.objs.size, a] ord (fun i s' => ItAt s'.heap s.heap.objs.size (.int 0 0) i a es.size ep ∧ SetAt s'.heap a es ep t) (fun B hB => by rw [← sz]; exact walks_text hB (Nat.ne_of_lt alt) hbt hf h1) ⟨⟨_, Heap.get?_push_size _ rfl, rfl, rfl⟩, hS.keep fun o e => Heap.get?_push_of_some _ e⟩ h2.symm
      (fun b o e => Heap.get?_push_of_some _ e) (Nat.le_refl _) (by simp) fpl rfl rfl rfl
   | false =>
     rw [hbt] at hg z
     have hnd : (!t.plain && decide (es.size > 1)) = false := by
      cases q : (!t.plain && decide (es.size > 1)) with
      | false => rfl
      | true => exact absurd (show (!false && _) = true from q) z
     refine h _ _ [s.heap.objs.size, a] ks (fun i s' => ItAt s'.heap s.heap.objs.size (.int (slotAt t.place i) 0) i a es.size ep ∧ SetAt s'.heap a es ep t) (fun B hB => by rw [← sz]; exact walks_place hB (Nat.ne_of_lt alt) hbt hf hg hnd he) ⟨⟨_, Heap.get?_push_size _ rfl, rfl, rfl⟩, hS.keep fun o e => Heap.get?_push_of_some _ e⟩ .rfl
      (fun b o e => Heap.get?_push_of_some _ e) (Nat.le_refl _) (by simp) fpl rfl rfl rfl
end
end LLS
end
section
namespace LLS
open PySem PyProof.Rows
theorem ints_of_out : ∀ (acc : List Value) (ord : List Int), acc.length = ord.length -> (∀ j v, acc[j]? = some v -> Out ord j v) -> IntsAre acc ord
 | [], [], _, _ => .nil
 | [], _ :: _, h, _ => by simp at h
 | _ :: _, [], h, _ => by simp at h
 | v :: acc, k :: ord, h, hj => by
   obtain ⟨k', t, e1, e2⟩ := hj 0 v rfl
   simp at e1
   subst e1
   subst e2
   refine .cons _ _ (ints_of_out acc ord (by simpa using h) fun j x hx => ?_)
   obtain ⟨k2, t2, e3, e4⟩ := hj (j + 1) x (by simpa using hx)
   exact ⟨k2, t2, by simpa using e3, e4⟩
section
variable {prog : Program} {w : World} {A : Around} {E : Value → Shared → Prop} {s : Shared}
theorem hint_set {r : Addr} {Q : Bool -> Shared -> Prop} (hT : s.TypeIs (.ref r) "set") (h : Q false s) : wpAny (model prog w) A (Builtin.List.listLengthHint (.ref r)) Q E s := by
 unfold Builtin.List.listLengthHint
 refine wpAny_bind (wpAny_specialOf hT PySem.F.slot_set_len.lookup ?_)
 generalize hid : ("set.__len__" : String) = id0
 wp_delta
 rw [show splitId id0 = some ("set", "__len__") from by subst hid; decide +kernel]
 subst hid
 refine wpAny_bind (wpAny_isInstance (T := "set") (b := true) hT (by rw [isSubtype_type]; kernel_rfl) ?_)
 refine wpAny_ite_split (fun z => absurd z (by decide)) (fun _ => ?_)
 refine wpAny_ite_split (fun _ => ?_) (fun z => absurd (by decide +kernel) z)
 exact wpAny_bind (wpAny_typeOf hT (wpAny_pure h))
theorem collect_G {a : Addr} {ks : List Int} {Q : List Value -> Shared -> Prop} (hh : A.handled = none) (g : SetG w s.heap a ks)
 (h : ∀ (s' : Shared) (vs : List Value) (ord : List Int), IntsAre vs ord → ord.Perm ks → (∀ b o, s.heap.get? b = some o → s'.heap.get? b = some o) → s.heap.objs.size ≤ s'.heap.objs.size → s'.gens = s.gens → s'.os = s.os → Q vs s') :
 wpAny (model prog w) A (collect (.ref a)) Q E s := by
 have alt := g.lt
 unfold collect
 refine wpAny_bind (wpAny_runValue (codeAny_builtin PySem.F.entry_proto_collect ?_))
 rw [Around.under_plainId PySem.F.plain_proto_collect _]
 refine wpAny_bind (m := newList []) (wpAny_newObj_type ?_)
 refine wpAny_pure ⟨plainId_quiet PySem.F.plain_list_iadd _, codeAny_builtin PySem.F.entry_list_iadd ?_⟩
 rw [Around.under_plainId PySem.F.plain_list_iadd _]
 show wpAny _ _ (Builtin.List.listExtendWith (.ref s.heap.objs.size) (.ref a) (.ref s.heap.objs.size)) _ _ _
 have g1 : SetG w (s.heap.push { cls := .type "list", data := .seq ([] : List Value).toArray }) a ks := g.keep fun o e => Heap.get?_push_of_some _ e
 have L1 : (s.heap.push { cls := .type "list", data := .seq ([] : List Value).toArray }).get? s.heap.objs.size = some { cls := .type "list", data := .seq ([] : List Value).toArray } := Heap.get?_push_size _ rfl
 have ty1 : Shared.TypeIs { s with heap := s.heap.push { cls := .type "list", data := .seq ([] : List Value).toArray } } (.ref a) "set" := by
  obtain ⟨o, es, ep, t, ho, hx, r⟩ := g1
  exact ⟨o, ho, hx.1⟩
 have up1 : ∀ b o, s.heap.get? b = some o → (s.heap.push { cls := .type "list", data := .seq ([] : List Value).toArray }).get? b = some o := fun b o e => Heap.get?_push_of_some _ e
 have sz1 : (s.heap.push { cls := .type "list", data := .seq ([] : List Value).toArray }).objs.size = s.heap.objs.size + 1 := by rw [Heap.size_push]
 generalize hh1 : s.heap.push { cls := .type "list", data := .seq ([] : List Value).toArray } = h1 at g1 L1 ty1 up1 sz1 ⊢
 unfold Builtin.List.listExtendWith
 refine wpAny_bind (wpAny_typeOf ty1 ?_)
 have d1 : Builtin.List.listSameRef (.ref s.heap.objs.size) (.ref a) = false := by simp [Builtin.List.listSameRef, Nat.ne_of_gt alt]
 have d2 : (Value.type "set" == Value.type "list") = false := by decide
 have d3 : (Value.type "set" == Value.type "tuple") = false := by decide
 simp only [d1, d2, d3, Bool.or_false, Bool.false_eq_true, if_false]
 refine wpAny_bind (iter_G (s := { s with heap := h1 }) g1 fun s2 I fp ord St hW st pm kp hI hIf hfp hg hos htk => ?_)
 have ty2 : s2.TypeIs (.ref a) "set" := let ⟨o, ho, hc⟩ := ty1; ⟨o, kp _ _ ho, hc⟩
 refine wpAny_bind (wpAny_holding (hint_set ty2 ?_))
 refine wpAny_ite_split (fun _ => ?_) (fun z => absurd (by decide) z)
 refine wpAny_bind (wpAny_rule ?_)
 have L2 := kp _ _ L1
 have nf : s.heap.objs.size ∉ fp := fun m => by
  rcases (hfp _ m).2 with e | e
  . exact absurd e (Nat.ne_of_gt alt)
  . rw [show ({ s with heap := h1 } : Shared).heap.objs.size = h1.objs.size from rfl, sz1] at e
    exact absurd e (Nat.not_succ_le_self _)
 have W := hW A.in1 hh
 refine wpAny_bind ?_
 show wpAny _ _ (updateSeq s.heap.objs.size (·.push .none) >>= fun _ => updateSeq s.heap.objs.size (·.pop)) _ _ _
 refine wpAny_bind (wpAny_updateSeq L2 rfl ?_)
 have L3 := Heap.get?_update_self (Obj.mapSeq (·.push Value.none)) L2 rfl
 refine wpAny_updateSeq L3 rfl ?_
 have L4 := Heap.get?_update_self (Obj.mapSeq (·.pop)) L3 rfl
 have oth : ∀ b o, b ≠ s.heap.objs.size → s2.heap.get? b = some o → ((s2.heap.update s.heap.objs.size (Obj.mapSeq (·.push Value.none))).update s.heap.objs.size (Obj.mapSeq (·.pop))).get? b = some o :=
  fun b o nb e => (Heap.get?_update_other _ _ (Ne.symm nb)).trans ((Heap.get?_update_other _ _ (Ne.symm nb)).trans e)
 have st2 := W.frame 0 s2 _ s2.toks st (Nat.le_refl _) fun b hb o e => oth b o (fun z => nf (by rw [← z]; exact hb)) e
 have lim : ks.length ≤ sizeLine := fits_of_scanBound g.len
 refine wpAny_pure ⟨plainId_quiet PySem.F.plain_extend_loop _, codeAny_extend_loopS W lim _ nf _ ks.length 0 _ _ _ rfl (Nat.zero_le _) st2 L4 (ItemsOf.nil _) fun s3 acc c mv L5 items => ?_⟩
 refine wpAny_bind (m := load s.heap.objs.size) (wpAny_load L5 ?_)
 refine wpAny_pure (h s3 acc.toList ord (ints_of_out _ _ ?_ fun j v e => items.2 j v (by rw [← Array.getElem?_toList]; exact e)) pm (fun b o e => ?_) (Nat.le_of_lt (Heap.lt_size L5)) ?_ ?_)
 . rw [Array.length_toList, items.1, pm.length_eq]
 . have nb : b ≠ s.heap.objs.size := Nat.ne_of_lt (Heap.lt_size e)
   refine mv.heap b o ?_ (oth b o nb (kp _ _ (up1 b o e)))
   simp only [List.mem_cons, List.not_mem_nil, or_false, not_or]
   refine ⟨nb, fun z => ?_⟩
   have := hI
   rw [show ({ s with heap := h1 } : Shared).heap.objs.size = h1.objs.size from rfl, sz1, ← z] at this
   exact absurd (Heap.lt_size e) (Nat.not_lt.mpr (Nat.le_of_succ_le this))
 . exact mv.gens.trans hg
 . exact mv.os.trans hos
set_option maxHeartbeats 1000000 in
theorem sorted_G {a : Addr} {ks : List Int} {Q : Value -> Shared -> Prop} (hh : A.handled = none) (g : SetG w s.heap a ks) (h64 : ks.length < 64)
 (h : ∀ (s' : Shared) (l : Addr) (out : Array Value) (e : Nat) (ns : List Int), s'.heap.get? l = some (seqObj "list" out e) → IntsAre out.toList ns → ns.Perm ks → ns.Pairwise (· ≤ ·) → s.heap.objs.size ≤ l →
  (∀ b o, s.heap.get? b = some o → s'.heap.get? b = some o) → s'.gens = s.gens → s'.os = s.os → Q (.ref l) s') :
 wpAny (model prog w) A (call (.builtin "sorted") [.ref a]) Q E s := by
 refine Calls.call_function_entry kind_sorted plain_sorted entry_sorted (args_sorted1 _) ?_
 unfold Builtin.«sorted»
 refine wpAny_bind (m := checkCount "sorted" 1 1 _) (wpAny_pure ?_)
 refine wpAny_bind (collect_G hh g fun s1 vs ord ia pm kp hsz hg hos => ?_)
 have lv : vs.length = ks.length := by rw [IntsAre.length ia, pm.length_eq]
 refine wpAny_bind (wpAny_newObj_type ?_ (by
  show vs.toArray.size ≤ sizeLine
  rw [List.size_toArray, lv]
  exact fits_of_scanBound g.len))
 have L1 : (s1.heap.push { cls := .type "list", data := .seq vs.toArray }).get? s1.heap.objs.size = some (seqObj "list" vs.toArray 0) := Heap.get?_push_size _ rfl
 refine wpAny_bind (wpAny_holding (wpAny_call_entry slot_list_sort ⟨_, L1, rfl⟩ entry_list_sort (list_sort_tree L1 ia (by omega) fun out ns a1 a2 a3 => ⟨_, rfl, ?_⟩) (args_list_sort _)))
 obtain ⟨e, L2⟩ := sortedHeap_at (out := out) L1
 have key : ∀ b o, s.heap.get? b = some o → (sortedHeap (s1.heap.push { cls := .type "list", data := .seq vs.toArray }) s1.heap.objs.size vs out).get? b = some o := fun b o q => by
  have q1 := kp b o q
  have q2 := Heap.lt_size q1
  rw [sortedHeap_old (Nat.ne_of_lt q2) (by rw [Heap.size_push]; exact Nat.lt_succ_of_lt q2)]
  exact Heap.get?_push_of_some _ q1
 exact wpAny_pure ⟨_, rfl, h _ s1.heap.objs.size out e ns L2 a1 (a2.trans pm) a3 hsz key hg hos⟩
end
end LLS
end
section
namespace LLS
open PySem PyProof.Rows
theorem and_entry : entryFor table "set.__and__" = some Builtin.«frozenset.__and__» :=
 entryFor_alias (id' := "frozenset.__and__") (by kernel_rfl) rfl (by decide +kernel) (by kernel_rfl)
section
variable {prog : Program} {w : World} {A : Around} {E : Value → Shared → Prop} {s : Shared}
theorem setsQuiet_G {sets : List Addr} {Q : Bool -> Shared -> Prop} (hg : ∀ a ∈ sets, ∃ ks, SetG w s.heap a ks) (h : Q true s) : wpAny (model prog w) A (setsQuiet sets) Q E s := by
 unfold setsQuiet
 refine wpAny_bind ?_
 refine wpAny_forIn_list _ (fun l b s' => b = (none, ()) ∧ s' = s ∧ ∀ a ∈ l, ∃ ks, SetG w s.heap a ks) _ ?_ ?_ _ _ ⟨rfl, rfl, hg⟩
 . rintro a rest b s' ⟨rfl, rfl, hl⟩
   obtain ⟨ks, o, es, ep, t, ho, hx, hd, he, nd, hb, hf, hgd⟩ := hl a List.mem_cons_self
   refine wpAny_bind (setEntries_at ⟨o, ho, hx, hd⟩ hf ?_)
   refine wpAny_bind ?_
   rw [← Array.forIn_toList]
   refine wpAny_forIn_list _ (fun l b s2 => b = (none, ()) ∧ s2 = s' ∧ ∃ ks, Els l ks) _ ?_ ?_ _ _ ⟨rfl, rfl, ks, he⟩
   . rintro ⟨e1, e2⟩ rest2 b2 s2 ⟨rfl, rfl, ks2, hels⟩
     cases hels with
     | cons h1 h2 =>
       obtain ⟨_, tk, e3⟩ := h1
       simp only at e3
       subst e3
       exact wpAny_pure ⟨rfl, rfl, _, h2⟩
   . rintro b2 s2 ⟨rfl, rfl, _⟩
     exact wpAny_pure ⟨rfl, rfl, fun c hc => hl c (List.mem_cons_of_mem _ hc)⟩
 . rintro b s' ⟨rfl, rfl, _⟩
   exact wpAny_pure h
theorem walk_text {a : Addr} {es : Array (Int × Value)} {ep : Nat} {t : SetTable} {Q : Array (Int × Value) -> Shared -> Prop} (hS : SetAt s.heap a es ep t) (hf : t.fits es.size = true) (g : Good (!bt w) t)
 (h : ∀ xs d, xs.toList.Perm es.toList → Q xs { s with drawn := d }) : wpAny (model prog w) A (setWalk a) Q E s := by
 obtain ⟨o, ho, hx, hd⟩ := id hS
 unfold setWalk
 refine wpAny_bind (wpAny_setState_of ho hd hf ?_)
 dsimp only
 refine wpAny_bind (byText_any ?_)
 refine wpAny_ite_split (fun z => ?_) (fun z => ?_)
 . refine wpAny_bind (wpAny_askSetting (wpAny_pure ?_))
   exact h _ s.drawn (pick_perm _ _)
 . refine wpAny_ite_split (fun z2 => ?_) (fun z2 => ?_)
   . refine wpAny_bind (drawOrder_any _ _ _ _ (by simp) fun ys d hp => wpAny_pure ?_)
     exact h _ d (by simpa using hp)
   . refine wpAny_bind ?_
     show wpAny _ _ (if (!t.led && decide (es.size > 1)) = true then unsupported "set:maker-not-led" else pure ()) _ _ _
     have hb : bt w = false := by cases q : bt w with | false => rfl | true => exact absurd q z
     rw [g.led, hb]
     exact wpAny_pure (wpAny_pure (h es s.drawn .rfl))
theorem walkUnseen_G {a b r : Addr} {ka kb kr : List Int} {Q : Array (Int × Value) -> Shared -> Prop} (ga : SetG w s.heap a ka) (gb : SetG w s.heap b kb) (gr : SetG w s.heap r kr)
 (h : ∀ xs ks h' d, Els xs.toList ks → ks.Perm ka → SetG w h' r kr → Heap.SameBut r s.heap h' → Q xs { s with heap := h', drawn := d }) : wpAny (model prog w) A (setWalkUnseen a [b, r] (some r)) Q E s := by
 obtain ⟨o, es, ep, t, ho, hx, hd, he, nd, hb, hf, hg⟩ := id ga
 have hS : SetAt s.heap a es ep t := ⟨o, ho, hx, hd⟩
 have plainWalk : wpAny (model prog w) A (setWalk a) Q E s := walk_text hS hf hg fun xs d pm => by
  obtain ⟨ks, e1, e2⟩ := he.perm pm.symm
  exact h xs ks s.heap d e1 e2.symm gr (Heap.SameBut.refl _ _)
 unfold setWalkUnseen
 refine wpAny_bind (wpAny_setState_of ho hd hf ?_)
 dsimp only
 refine wpAny_bind (byText_any ?_)
 refine wpAny_ite_split (fun z => ?_) (fun z => ?_)
 . exact plainWalk
 . refine wpAny_bind (setsQuiet_G (fun c hc => ?_) ?_)
   . simp only [List.mem_cons, List.not_mem_nil, or_false] at hc
     rcases hc with rfl | rfl | rfl
     . exact ⟨_, ga⟩
     . exact ⟨_, gb⟩
     . exact ⟨_, gr⟩
   . rw [if_neg (by decide)]
     refine wpAny_bind (wpAny_rule ?_)
     try dsimp only
     obtain ⟨o2, es2, ep2, t2, ho2, hx2, hd2, he2, nd2, hb2, hf2, hg2⟩ := id gr
     refine wpAny_bind (wpAny_setState_of ho2 hd2 hf2 ?_)
     dsimp only
     refine wpAny_ite_split (fun _ => ?_) (fun _ => ?_)
     . refine wpAny_bind (wpAny_storeSet_of ho2 hd2 ?_ (fits_of_scanBound hb2))
       obtain ⟨_, g2⟩ := setG_store (w := w) (t' := { t2 with led := t2.led && t.led, plain := t2.plain && t.plain }) ho2 hx2 hd2 he2 nd2 hb2 hf2 ⟨by show (t2.led && t.led) = _; rw [hg2.led, hg.led, Bool.and_self], hg2.ris⟩
       exact wpAny_pure (h es ka _ s.drawn he .rfl g2 (Heap.SameBut.update ..))
     . exact wpAny_pure (h es ka s.heap s.drawn he .rfl gr (Heap.SameBut.refl _ _))
end
end LLS
end
section
namespace LLS
open PySem PyProof.Rows
section
variable {prog : Program} {w : World} {A : Around} {E : Value → Shared → Prop} {s : Shared}
theorem SetG.typeIs {a : Addr} {ks : List Int} (g : SetG w s.heap a ks) : s.TypeIs (.ref a) "set" := by
 obtain ⟨o, es, ep, t, ho, hx, r⟩ := g
 exact ⟨o, ho, hx.1⟩
theorem anySet_G {a : Addr} {ks : List Int} {Q : Bool -> Shared -> Prop} (g : SetG w s.heap a ks) (h : Q true s) : wpAny (model prog w) A (Builtin.Frozenset.isAnySet (.ref a)) Q E s := by
 unfold Builtin.Frozenset.isAnySet
 exact wpAny_bind (wpAny_isInstance g.typeIs sub_set_self (wpAny_pure h))
theorem size_G {a : Addr} {ks : List Int} {Q : Nat -> Shared -> Prop} (g : SetG w s.heap a ks) (h : Q ks.length s) : wpAny (model prog w) A (Builtin.Frozenset.sizeOf a) Q E s := by
 obtain ⟨o, es, ep, t, ho, hx, hd, he, nd, hb, hf, hg⟩ := id g
 unfold Builtin.Frozenset.sizeOf
 have e : es.size = ks.length := by have := he.length; simpa using this
 exact wpAny_bind (wpAny_setEntries_of ho hd hf (wpAny_pure (by rw [e]; exact h)))
theorem newSet_G {Q : Value -> Shared -> Prop} (h : SetG w (s.heap.push (newSetObj (!bt w))) s.heap.objs.size [] -> Q (.ref s.heap.objs.size) { s with heap := s.heap.push (newSetObj (!bt w)) }) : wpAny (model prog w) A (newSet (.type "set")) Q E s := by
 unfold newSet
 refine wpAny_bind (byText_any ?_)
 exact wpAny_newObj_type (h (newSetObj_G _))
theorem meet_loop {id : String} {a b r : Addr} {ka kb : List Int} (nab : a ≠ r) (nbr : b ≠ r) {ep : Nat} {es : Array (Int × Value)} {t : SetTable} (hf : t.fits es.size = true) (hlen : ka.length + 1 < scanBound)
 {Q : PUnit → Shared → Prop} {xs : Array (Int × Value)} {ks : List Int} (hx : Els xs.toList ks) (pm : ks.Perm ka) (hS : SetAt s.heap a es ep t) (gb : SetG w s.heap b kb) (gr : SetG w s.heap r [])
 (h : ∀ h' kr, SetG w h' r kr → (∀ x, x ∈ kr ↔ x ∈ ka ∧ x ∈ kb) → Heap.SameBut r s.heap h' → Q ⟨⟩ { s with heap := h' }) :
 wpAny (model prog w) A (forIn xs PUnit.unit fun p _ => do
  holding [p.2] (do
   if (← setFind b p.2 p.1).isSome then
    let _ ← setAddHashed r p.2 p.1)
  Builtin.Frozenset.unchanged id a ep
  pure (ForInStep.yield PUnit.unit)) Q E s := by
 rw [← Array.forIn_toList]
 have lk : ks.length = ka.length := pm.length_eq
 refine wpAny_forIn_list _ (fun l _ s' => ∃ h' kr done rest, s' = { s with heap := h' } ∧ Els l rest ∧ ks = done ++ rest ∧ SetG w h' r kr ∧ (∀ x, x ∈ kr ↔ x ∈ done ∧ x ∈ kb) ∧ kr.length ≤ done.length ∧ Heap.SameBut r s.heap h') _ ?_ ?_ _ _
  ⟨s.heap, [], [], ks, rfl, hx, rfl, gr, by simp, Nat.le_refl _, Heap.SameBut.refl _ _⟩
 . rintro ⟨e1, e2⟩ l _ s' ⟨h1, kr, done, rest, rfl, hels, hks, g1, mem, len, sb⟩
   cases hels with
   | cons q1 q2 =>
     rename_i k rest'
     obtain ⟨q3, tk, q4⟩ := q1
     simp only at q3 q4
     subst q3
     subst q4
     have gb1 : SetG w h1 b kb := gb.keep fun o e => by rw [sb.2 b nbr]; exact e
     have hS1 : SetAt h1 a es ep t := hS.keep fun o e => by rw [sb.2 a nab]; exact e
     have hks' : ks = (done ++ [k]) ++ rest' := by rw [hks]; simp
     have dl : done.length + 1 ≤ ks.length := by rw [hks]; simp
     have unch : ∀ (h2 : Heap) (P : ForInStep PUnit → Shared → Prop), Heap.SameBut r s.heap h2 → P (.yield ⟨⟩) { s with heap := h2 } →
      wpAny (model prog w) A (do Builtin.Frozenset.unchanged id a ep; pure (ForInStep.yield PUnit.unit)) P E { s with heap := h2 } := fun h2 P sb2 hP => by
      obtain ⟨o, ho, hx2, hd⟩ := (hS.keep (h' := h2) fun o e => by rw [sb2.2 a nab]; exact e)
      unfold Builtin.Frozenset.unchanged
      refine wpAny_bind (wpAny_bind (wpAny_setEpoch_of ho hd hf ?_))
      rw [if_neg (by simp)]
      exact wpAny_pure (wpAny_pure hP)
     refine wpAny_bind (wpAny_holding (wpAny_bind (wpAny_setFind_of (knd := intKind prog w) (k := k) (by simp [intKind, Value.isInt]) rfl gb1.setOf fun rr hr => ?_)))
     by_cases hk : k ∈ kb
     . rw [decide_eq_true hk] at hr
       rw [if_pos hr]
       refine wpAny_bind (setAdd_G (s := { s with heap := h1 }) g1 (by omega) fun h2 kr2 sb2 g2 pm2 => ?_)
       refine wpAny_pure (unch h2 _ (sb.trans sb2) ⟨h2, kr2, done ++ [k], rest', rfl, q2, hks', g2, fun x => ?_, ?_, sb.trans sb2⟩)
       . rw [← pm2.mem_iff]
         split
         . rename_i hin
           rw [mem, List.mem_append, List.mem_singleton]
           constructor
           . rintro ⟨z1, z2⟩
             exact ⟨.inl z1, z2⟩
           . rintro ⟨z1 | z1, z2⟩
             . exact ⟨z1, z2⟩
             . rw [z1]
               exact (mem k).mp hin
         . rw [List.mem_append, mem, List.mem_append, List.mem_singleton]
           constructor
           . rintro (⟨z1, z2⟩ | z1)
             . exact ⟨.inl z1, z2⟩
             . exact ⟨.inr z1, by rw [z1]; exact hk⟩
           . rintro ⟨z1 | z1, z2⟩
             . exact .inl ⟨z1, z2⟩
             . exact .inr z1
       . rw [← pm2.length_eq]
         split
         . simp; omega
         . simp; omega
     . rw [decide_eq_false hk] at hr
       rw [if_neg (by rw [hr]; decide)]
       refine wpAny_pure (unch h1 _ sb ⟨h1, kr, done ++ [k], rest', rfl, q2, hks', g1, fun x => ?_, by simp; omega, sb⟩)
       rw [mem, List.mem_append, List.mem_singleton]
       constructor
       . rintro ⟨z1, z2⟩
         exact ⟨.inl z1, z2⟩
       . rintro ⟨z1 | z1, z2⟩
         . exact ⟨z1, z2⟩
         . rw [z1] at z2
           exact absurd z2 hk
 . rintro _ s' ⟨h1, kr, done, rest, rfl, hels, hks, g1, mem, len, sb⟩
   cases hels
   refine h h1 kr g1 (fun x => ?_) sb
   rw [mem, ← pm.mem_iff, hks, List.append_nil]
end
end LLS
end
section
namespace LLS
open PySem PyProof.Rows
section
variable {prog : Program} {w : World} {A : Around} {E : Value → Shared → Prop} {s : Shared}
set_option maxHeartbeats 1000000 in
theorem meet_G {nm : String} {a b : Addr} {ka kb : List Int} {Q : Value -> Shared -> Prop} (ga : SetG w s.heap a ka) (gb : SetG w s.heap b kb) (ne : a ≠ b) (la : ka.length + 1 < scanBound) (lb : kb.length + 1 < scanBound)
 (h : ∀ (s' : Shared) (r : Addr) (kr : List Int), SetG w s'.heap r kr → (∀ x, x ∈ kr ↔ x ∈ ka ∧ x ∈ kb) → s.heap.objs.size ≤ r → (∀ c o, s.heap.get? c = some o → s'.heap.get? c = some o) → s'.gens = s.gens → s'.os = s.os → Q (.ref r) s') :
 wpAny (model prog w) A (Builtin.Frozenset.intersection nm a (.ref b)) Q E s := by
 unfold Builtin.Frozenset.intersection
 rw [if_neg (by
  intro z
  have : (Value.ref b) = Value.ref a := by simpa using z
  injection this with q
  exact ne q.symm)]
 refine wpAny_bind ?_
 unfold Builtin.Frozenset.baseOf
 refine wpAny_bind (wpAny_isInstance ga.typeIs sub_set_self (wpAny_pure ?_))
 rw [if_pos rfl]
 refine wpAny_bind (newSet_G fun g0 => ?_)
 refine wpAny_bind (m := Builtin.Frozenset.addrOf _) (wpAny_pure ?_)
 have ga1 : SetG w (s.heap.push (newSetObj (!bt w))) a ka := ga.keep fun o e => Heap.get?_push_of_some _ e
 have gb1 : SetG w (s.heap.push (newSetObj (!bt w))) b kb := gb.keep fun o e => Heap.get?_push_of_some _ e
 have nar : a ≠ s.heap.objs.size := Nat.ne_of_lt ga.lt
 have nbr : b ≠ s.heap.objs.size := Nat.ne_of_lt gb.lt
 have up : ∀ c o, s.heap.get? c = some o → (s.heap.push (newSetObj (!bt w))).get? c = some o := fun c o e => Heap.get?_push_of_some _ e
 generalize s.heap.push (newSetObj (!bt w)) = h1 at g0 ga1 gb1 up ⊢
 refine wpAny_bind ?_
 refine wpAny_holding ?_
 refine wpAny_bind (anySet_G (s := { s with heap := h1 }) gb1 ?_)
 rw [if_pos rfl]
 refine wpAny_bind (m := Builtin.Frozenset.addrOf _) (wpAny_pure ?_)
 refine wpAny_bind (size_G (s := { s with heap := h1 }) gb1 ?_)
 refine wpAny_bind (size_G (s := { s with heap := h1 }) ga1 ?_)
 have core : ∀ (c d : Addr) (kc kd : List Int), SetG w h1 c kc → SetG w h1 d kd → c ≠ s.heap.objs.size → d ≠ s.heap.objs.size → kc.length + 1 < scanBound → (∀ x, x ∈ kc ∧ x ∈ kd ↔ x ∈ ka ∧ x ∈ kb) →
  wpAny (model prog w) A (do
   let was ← setEpoch c
   for p in ← setWalkUnseen c [d, s.heap.objs.size] (some s.heap.objs.size) do
    holding [p.2] do
     if (← setFind d p.2 p.1).isSome then
      let _ ← setAddHashed s.heap.objs.size p.2 p.1
    Builtin.Frozenset.unchanged nm c was) (fun _ s' => wpAny (model prog w) A (pure (Value.ref s.heap.objs.size)) Q E s') E { s with heap := h1 } := by
  intro c d kc kd gc gd nc nd lc mm
  obtain ⟨o, es, ep, t, ho, hx, hd, he, ndd, hb, hf, hg⟩ := id gc
  refine wpAny_bind (wpAny_setEpoch_of ho hd hf ?_)
  refine wpAny_bind (walkUnseen_G (s := { s with heap := h1 }) gc gd g0 fun xs ks h2 dr hels pm g2 sb => ?_)
  refine wpAny_bind (meet_loop (s := { s with heap := h2, drawn := dr }) nc nd hf lc hels pm (SetAt.keep (h := h1) ⟨o, ho, hx, hd⟩ fun o e => by rw [sb.2 c nc]; exact e) (gd.keep fun o e => by rw [sb.2 d nd]; exact e) g2 fun h3 kr g3 mem sb3 => ?_)
  refine wpAny_pure (wpAny_pure (h _ _ kr g3 (fun x => (mem x).trans (mm x)) (Nat.le_refl _) (fun c' o' e => ?_) rfl rfl))
  have nc' : c' ≠ s.heap.objs.size := Nat.ne_of_lt (Heap.lt_size e)
  show h3.get? c' = some o'
  rw [sb3.2 c' nc']
  show h2.get? c' = some o'
  rw [sb.2 c' nc']
  exact up c' o' e
 by_cases hsz : kb.length > ka.length
 . simp only [hsz, if_true]
   exact core a b ka kb ga1 gb1 nar nbr la fun x => Iff.rfl
 . simp only [hsz, if_false]
   exact core b a kb ka gb1 ga1 nbr nar lb fun x => And.comm
theorem and_G {a b : Addr} {ka kb : List Int} {Q : Value -> Shared -> Prop} (ga : SetG w s.heap a ka) (gb : SetG w s.heap b kb) (ne : a ≠ b) (la : ka.length + 1 < scanBound) (lb : kb.length + 1 < scanBound)
 (h : ∀ (s' : Shared) (r : Addr) (kr : List Int), SetG w s'.heap r kr → (∀ x, x ∈ kr ↔ x ∈ ka ∧ x ∈ kb) → s.heap.objs.size ≤ r → (∀ c o, s.heap.get? c = some o → s'.heap.get? c = some o) → s'.gens = s.gens → s'.os = s.os → Q (.ref r) s') :
 wpAny (model prog w) A (binaryOp .BitAnd (.ref a) (.ref b)) Q E s := by
 refine wpAny_binaryOp_same (op := .BitAnd) ga.typeIs gb.typeIs PySem.F.fills_set_and PySem.F.slot_set_and (wpAny_call_entry PySem.F.slot_set_and ga.typeIs and_entry ?_ (PySem.F.args_set_and_2 _ _))
 refine wpAny_bind (m := Builtin.Frozenset.slot1 "__and__" ⟨[.ref a, .ref b], []⟩) (wpAny_bind (m := slotArgs "__and__" 1 ⟨[.ref a, .ref b], []⟩) (wpAny_pure (wpAny_pure ?_)))
 show wpAny _ _ (do
  let t ← Builtin.Frozenset.isAnySet (.ref a) <&&> Builtin.Frozenset.isAnySet (.ref b)
  if (!t) = true then do
      rule (toString "frozenset." ++ toString "__and__" ++ toString ".declined")
      ret Value.notImplemented
   else do
    let l ← Builtin.Frozenset.addrOf (.ref a)
    let v ← Builtin.Frozenset.intersection (toString "frozenset." ++ toString "__and__") l (.ref b)
    ret v) _ _ _
 refine wpAny_bind (wpAny_bind (m := Builtin.Frozenset.isAnySet (.ref a)) (anySet_G ga ?_))
 refine anySet_G gb ?_
 rw [if_neg (by decide)]
 refine wpAny_bind (m := Builtin.Frozenset.addrOf _) (wpAny_pure ?_)
 refine wpAny_bind (meet_G ga gb ne la lb fun s' r kr g mem fr kp hg hos => wpAny_pure ⟨_, rfl, by simp, h s' r kr g mem fr kp hg hos⟩)
theorem len_G {a : Addr} {ks : List Int} {Q : Value -> Shared -> Prop} (g : SetG w s.heap a ks) (h : ∀ t tk, Q (.int ks.length t) { s with toks := tk }) : wpAny (model prog w) A (call (.builtin "len") [.ref a]) Q E s := by
 obtain ⟨o, es, ep, t, ho, hx, hd, he, nd, hb, hf, hg⟩ := id g
 have e : es.size = ks.length := by have := he.length; simpa using this
 refine call_len_set ho hx hd hf (by
  have h4 : (es.size : Int) < 4096 := by unfold scanBound at hb; omega
  exact Int.lt_of_lt_of_le h4 (by decide)) ?_
 rw [e]
 exact h _ _
end
end LLS
end
section
namespace L2
open PySem PySem.Spec PyProof.Rows
abbrev Key := Sum Int Str
def keyIs : Key -> Value -> Bool
 | .inl k, v => Value.isInt k v
 | .inr x, v => Value.isStrOf x v
def keyH (w : World) : Key -> Int
 | .inl k => hashInt k
 | .inr x => hashStr w x
theorem keyIs_shape : ∀ {k : Key} {v : Value}, keyIs k v = true -> (∃ i t, k = Sum.inl i /\ v = Value.int i t) ∨ (∃ x t, k = Sum.inr x /\ v = Value.str x t)
 | .inl i, v, h => by
   obtain ⟨t, e⟩ := Value.isInt_shape (k := i) (v := v) h
   exact .inl ⟨i, t, rfl, e⟩
 | .inr x, v, h => by
   obtain ⟨t, e⟩ := Value.isStrOf_shape (x := x) (v := v) h
   exact .inr ⟨x, t, rfl, e⟩
theorem keyIs_int (i : Int) (t : Tok) : keyIs (.inl i) (.int i t) = true := by simp [keyIs, Value.isInt]
theorem keyIs_str (x : Str) (t : Tok) : keyIs (.inr x) (.str x t) = true := by simp [keyIs, Value.isStrOf]
theorem key_ll (a b : Int) : decide ((Sum.inl a : Key) = Sum.inl b) = (a == b) := by
 by_cases e : a = b
 . subst e; simp
 . have h : ¬ (Sum.inl a : Key) = Sum.inl b := fun q => e (Sum.inl.inj q)
   rw [decide_eq_false h]
   exact (beq_eq_false_iff_ne.mpr e).symm
theorem key_rr (a b : Str) : decide ((Sum.inr a : Key) = Sum.inr b) = decide (a = b) := by
 by_cases e : a = b
 . subst e; simp
 . have h : ¬ (Sum.inr a : Key) = Sum.inr b := fun q => e (Sum.inr.inj q)
   rw [decide_eq_false h, decide_eq_false e]
theorem key_lr (a : Int) (b : Str) : decide ((Sum.inl a : Key) = Sum.inr b) = false := decide_eq_false (fun q => nomatch q)
theorem key_rl (a : Str) (b : Int) : decide ((Sum.inr a : Key) = Sum.inl b) = false := decide_eq_false (fun q => nomatch q)
def mixKind (prog : Program) (w : World) : PySem.KeyKind prog w Key where
 is := keyIs
 hash := keyH w
 inj := fun v a b ha hb => by
  rcases keyIs_shape ha with ⟨i, t, rfl, rfl⟩ | ⟨x, t, rfl, rfl⟩
  . rcases keyIs_shape hb with ⟨j, u, rfl, e⟩ | ⟨y, u, rfl, e⟩
    . injection e with e1 _; rw [e1]
    . exact nomatch e
  . rcases keyIs_shape hb with ⟨j, u, rfl, e⟩ | ⟨y, u, rfl, e⟩
    . exact nomatch e
    . injection e with e1 _; rw [e1]
 byValue := fun k v h => by
  rcases keyIs_shape h with ⟨i, t, rfl, rfl⟩ | ⟨x, t, rfl, rfl⟩ <;> rfl
 pyHash := fun hv h => by
  rcases keyIs_shape hv with ⟨i, t, rfl, rfl⟩ | ⟨x, t, rfl, rfl⟩
  . exact wpAny_pyHash_int h
  . exact wpAny_pyHash_str h
 eqBool := fun hu hv h => by
  rcases keyIs_shape hu with ⟨i, t, rfl, rfl⟩ | ⟨x, t, rfl, rfl⟩
  . rcases keyIs_shape hv with ⟨j, u, rfl, rfl⟩ | ⟨y, u, rfl, rfl⟩
    . rw [key_ll] at h; exact wpAny_eqBool_int h
    . rw [key_lr] at h; exact SeqAt.EqAt.int_str i t y u _ _ _ _ h
  . rcases keyIs_shape hv with ⟨j, u, rfl, rfl⟩ | ⟨y, u, rfl, rfl⟩
    . rw [key_rl] at h; exact SeqAt.EqAt.str_int x t j u _ _ _ _ h
    . rw [key_rr] at h; exact wpAny_eqBool_str h
 «strs» := fun k x t v h => by
  rcases keyIs_shape h with ⟨i, u, rfl, e⟩ | ⟨y, u, rfl, e⟩
  . exact nomatch e
  . injection e with e1 _
    subst e1
    cases v <;> rfl
theorem mixKind_int (prog : Program) (w : World) (i : Int) (t : Tok) : (mixKind prog w).is (.inl i) (.int i t) = true := keyIs_int i t
theorem mixKind_str (prog : Program) (w : World) (x : Str) (t : Tok) : (mixKind prog w).is (.inr x) (.str x t) = true := keyIs_str x t
end L2
namespace L2
open PySem PySem.Spec PyProof.Rows
inductive V where
 | non | bl (b : Bool) | int (i : Int) | str (x : Str) | byt (b : Array UInt8) | flt (b : UInt64) | ref (a : Addr) | ty (n : String)
 deriving DecidableEq
def RelV : V -> Value -> Prop
 | .non, u => u = Value.none
 | .bl b, u => u = Value.bool b
 | .int i, u => ∃ t, u = Value.int i t
 | .str x, u => ∃ t, u = Value.str x t
 | .byt b, u => ∃ t, u = Value.bytes b t
 | .flt b, u => ∃ t, u = Value.float b t
 | .ref a, u => u = Value.ref a
 | .ty n, u => u = Value.type n
abbrev Vals : List V -> List Value -> Prop := Paired RelV
theorem Vals.length {xs : List V} {us : List Value} (r : Vals xs us) : xs.length = us.length := Paired.length r
theorem Vals.get : ∀ {xs : List V} {us : List Value} {i : Nat} {x : V}, Vals xs us -> xs[i]? = some x -> ∃ u, us[i]? = some u /\ RelV x u
 | _, _, _, _, .nil, e => by simp at e
 | _, _, 0, _, .cons r _, e => by simp at e; subst e; exact ⟨_, rfl, r⟩
 | _, _, i + 1, x, .cons _ t, e => by
   obtain ⟨u, h1, h2⟩ := Vals.get (i := i) (x := x) t (by simpa using e)
   exact ⟨u, by simpa using h1, h2⟩
theorem Vals.set {x : V} {u : Value} (r : RelV x u) : ∀ {xs : List V} {us : List Value} (i : Nat), Vals xs us -> Vals (xs.set i x) (us.set i u)
 | _, _, _, .nil => .nil
 | _, _, 0, .cons _ t => .cons r t
 | _, _, i + 1, .cons q t => .cons q (Vals.set r i t)
theorem Vals.append : ∀ {xs ys : List V} {us ws : List Value}, Vals xs us -> Vals ys ws -> Vals (xs ++ ys) (us ++ ws)
 | _, _, _, _, .nil, s => s
 | _, _, _, _, .cons r t, s => .cons r (Vals.append t s)
theorem Vals.take : ∀ {xs : List V} {us : List Value} (n : Nat), Vals xs us -> Vals (xs.take n) (us.take n)
 | _, _, 0, _ => .nil
 | _, _, _ + 1, .nil => .nil
 | _, _, n + 1, .cons r t => .cons r (Vals.take n t)
theorem Vals.drop : ∀ {xs : List V} {us : List Value} (n : Nat), Vals xs us -> Vals (xs.drop n) (us.drop n)
 | _, _, 0, r => r
 | _, _, _ + 1, .nil => .nil
 | _, _, n + 1, .cons _ t => Vals.drop n t
def RelO : Option V -> Option Value -> Prop
 | some v, some u => RelV v u
 | none, none => True
 | _, _ => False
def KV {κ : Type} : List (κ × V) -> List (κ × Value) -> Prop := Paired fun (p : κ × V) (q : κ × Value) => p.1 = q.1 /\ RelV p.2 q.2
def kV : Key -> V
 | .inl i => .int i
 | .inr x => .str x
inductive HO where
 | lst (xs : List V)
 | tup (xs : List V)
 | dK (kvs : List (Key × V)) | dT (kvs : List (List Key × V))
 | set (S : Int → Bool) (n : Nat)
 | ins (C dx : Addr) (fs : List (Str × V))
 | own (x : Addr)
 | xd (fs : List (Str × V))
 | met (f x : Addr)
 | rng (lo hi : Int)
 | frz (o : Obj) (u : HO)
 | tbl (ps : Array Value)
 | ext (φ : Heap → Prop)
abbrev Hp := Addr -> Option HO
def upd (H : Hp) (a : Addr) (o : HO) : Hp := fun b => if b = a then some o else H b
theorem q1z {H : Hp} {a : Addr} {o : HO} : upd H a o a = some o := by unfold upd; rw [if_pos rfl]
theorem q5z {H : Hp} {a b : Addr} {o : HO} (h : b ≠ a) : upd H a o b = H b := by unfold upd; rw [if_neg h]
theorem upd_upd {H : Hp} {a : Addr} {o u : HO} : upd (upd H a o) a u = upd H a u := by
 funext b; unfold upd; split <;> rfl
theorem ne_of {H : Hp} {a b : Addr} {o u : HO} (h : H a = some o) (h' : H b = some u) (d : o ≠ u) : a ≠ b := by
 intro e; subst e; rw [h] at h'; exact d (Option.some.inj h')
theorem q7z {H : Hp} {a b : Addr} {o : HO} (h : H a = some o) (h' : H b = none) : a ≠ b := by
 intro e; subst e; rw [h] at h'; cases h'
section
variable (P : Program) (w : World)
def ObjOk (H : Hp) (h : Heap) (a : Addr) : HO -> Prop
 | .lst xs => xs.length ≤ sizeLine ∧ ∃ (its : List Value) (n : Nat), Vals xs its ∧ h.get? a = some { cls := .type "list", data := .seq its.toArray n }
 | .tup xs => xs.length ≤ sizeLine ∧ ∃ its : List Value, Vals xs its ∧ IsTup h a its.toArray
 | .dK kvs => kvs.length ≤ sizeLine ∧ (a == sysModules) = false ∧ ∃ vs, KV kvs vs ∧ h.DictOf (mixKind P w) a vs
 | .dT kvs => kvs.length ≤ sizeLine ∧ (a == sysModules) = false ∧ ∃ xs : List (List Key × Addr × Value),
  Paired (fun (p : List Key × V) (q : List Key × Addr × Value) => p.1 = q.1 ∧ H q.2.1 = some (.tup (p.1.map kV)) ∧ RelV p.2 q.2.2) kvs xs ∧
  ∃ o es ep, h.get? a = some o ∧ o.ExactDict ∧ o.data = .dict es ep ∧ es.toList = xs.map (entryOfKey (tupleKind (mixKind P w))) ∧ (xs.map (·.1)).Nodup
 | .set S n => h.SetOf (intKind P w) a S n
 | .ins C dx fs => H dx = some (.own a) ∧ fs.length ≤ 1000 ∧ dx ≠ a ∧ h.get? a = some (PySem.W.instObj C dx) ∧
  ∃ mA, h.Ns1 dx mA ∧ (∀ f, RelO (fs.lookup f) (mA f)) ∧ PySem.Within mA (fs.map (·.1))
 | .own _ => ∃ o, h.get? a = some o
 | .xd fs => ∃ mA, h.Ns1 a mA ∧ ∀ f, RelO (fs.lookup f) (mA f)
 | .rng lo hi => ∃ t u v, h.get? a = some { cls := .type "range", data := .fields #[.int lo t, .int hi u, .int 1 v] }
 | .frz o u => h.get? a = some o ∧ ObjOk H h a u
 | .tbl ps => h.get? a = some { cls := .none, data := .fields ps }
 | .met f x => h.get? a = some (PySem.W.methodObj (.ref f) (.ref x))
 | .ext φ => φ h ∧ (∃ o, h.get? a = some o) ∧ ∀ h1 h2 : Heap, φ h1 → (∀ o, h1.get? a = some o → h2.get? a = some o) → φ h2
def HOk (H : Hp) (h : Heap) : Prop := ∀ a o, H a = some o -> ObjOk P w H h a o
end
section
variable {P : Program} {w : World} {H H' : Hp} {h h' : Heap} {a : Addr} {o : HO}
theorem ObjOk.lt (x : ObjOk P w H h a o) : a < h.objs.size := by
 cases o with
 | lst xs => obtain ⟨_, _, _, _, e⟩ := x; exact Heap.lt_size e
 | tup xs => obtain ⟨_, _, _, p⟩ := x; exact p.lt
 | dK kvs => obtain ⟨_, _, _, _, o, _, _, e, _⟩ := x; exact Heap.lt_size e
 | dT kvs => obtain ⟨_, _, _, _, o, _, _, e, _⟩ := x; exact Heap.lt_size e
 | set S n => obtain ⟨o, _, _, _, e, _⟩ := x; exact Heap.lt_size e
 | ins C dx fs => obtain ⟨_, _, _, e, _⟩ := x; exact Heap.lt_size e
 | own y => obtain ⟨_, e⟩ := x; exact Heap.lt_size e
 | xd fs => obtain ⟨_, ⟨_, _, _, e, _⟩, _⟩ := x; exact Heap.lt_size e
 | rng lo hi => obtain ⟨_, _, _, e⟩ := x; exact Heap.lt_size e
 | frz ob u => obtain ⟨e, _⟩ := x; exact Heap.lt_size e
 | tbl ps => exact Heap.lt_size (show h.get? a = some _ from x)
 | met f y => exact Heap.lt_size (show h.get? a = some _ from x)
 | ext φ => obtain ⟨_, ⟨_, e⟩, _⟩ := x; exact Heap.lt_size e
theorem Paired.mapP {α β : Type} {F G : α -> β -> Prop} : ∀ {l₁ : List α} {l₂ : List β}, Paired F l₁ l₂ -> (∀ a b, F a b -> G a b) -> Paired G l₁ l₂
 | _, _, .nil, _ => .nil
 | _, _, .cons r t, f => .cons (f _ _ r) (Paired.mapP t f)
theorem ObjOk.stay (x : ObjOk P w H h a o) (k : ∀ b u, (b = a ∨ H b = some (.own a)) -> h.get? b = some u -> h'.get? b = some u)
 (ho : ∀ b, H b = some (.own a) → H' b = some (.own a)) (ht : ∀ b xs, H b = some (.tup xs) → H' b = some (.tup xs)) : ObjOk P w H' h' a o := by
 induction o with
 | lst xs => obtain ⟨z, its, n, r, e⟩ := x; exact ⟨z, its, n, r, k _ _ (.inl rfl) e⟩
 | tup xs => obtain ⟨z, its, r, ob, e, c⟩ := x; exact ⟨z, its, r, ob, k _ _ (.inl rfl) e, c⟩
 | dK kvs => obtain ⟨z, y, vs, r, ob, es, ep, e, c⟩ := x; exact ⟨z, y, vs, r, ob, es, ep, k _ _ (.inl rfl) e, c⟩
 | dT kvs =>
   obtain ⟨z, y, xs, r, ob, es, ep, e, c⟩ := x
   exact ⟨z, y, xs, Paired.mapP r fun p q z => ⟨z.1, ht _ _ z.2.1, z.2.2⟩, ob, es, ep, k _ _ (.inl rfl) e, c⟩
 | set S n => obtain ⟨ob, es, ep, t, e, c⟩ := x; exact ⟨ob, es, ep, t, k _ _ (.inl rfl) e, c⟩
 | ins C dx fs =>
   obtain ⟨d, z, ne, e, mA, ⟨od, es, ep, e2, c⟩, r⟩ := x
   exact ⟨ho _ d, z, ne, k _ _ (.inl rfl) e, mA, ⟨od, es, ep, k _ _ (.inr d) e2, c⟩, r⟩
 | own y => obtain ⟨ob, e⟩ := x; exact ⟨ob, k _ _ (.inl rfl) e⟩
 | xd fs => obtain ⟨mA, ⟨od, es, ep, e, c⟩, r⟩ := x; exact ⟨mA, ⟨od, es, ep, k _ _ (.inl rfl) e, c⟩, r⟩
 | rng lo hi => obtain ⟨t, u, v, e⟩ := x; exact ⟨t, u, v, k _ _ (.inl rfl) e⟩
 | frz ob u ih => obtain ⟨e, q⟩ := x; exact ⟨k _ _ (.inl rfl) e, ih q⟩
 | tbl ps =>
   have e : h.get? a = some { cls := .none, data := .fields ps } := x
   show h'.get? a = some { cls := .none, data := .fields ps }
   exact k a _ (.inl rfl) e
 | met f y =>
   have e : h.get? a = some (PySem.W.methodObj (.ref f) (.ref y)) := x
   show h'.get? a = some (PySem.W.methodObj (.ref f) (.ref y))
   exact k a _ (.inl rfl) e
 | ext φ => obtain ⟨p, ⟨o, e⟩, st⟩ := x; exact ⟨st _ _ p fun o q => k _ _ (.inl rfl) q, ⟨o, k _ _ (.inl rfl) e⟩, st⟩
theorem HOk.lt (x : HOk P w H h) (e : H a = some o) : a < h.objs.size := (x a o e).lt
theorem HOk.fresh (x : HOk P w H h) (e : h.objs.size ≤ a) : H a = none := by
 cases q : H a with
 | none => rfl
 | some u => exact absurd (Nat.lt_of_lt_of_le (x.lt q) e) (Nat.lt_irrefl _)
theorem HOk.kept (x : HOk P w H h) (k : ∀ b u, h.get? b = some u -> h'.get? b = some u) : HOk P w H h' := fun a o e =>
 (x a o e).stay (fun b u _ q => k b u q) (fun _ q => q) fun _ _ q => q
theorem HOk.laid (x : HOk P w H h) (k : ∀ b u, h.get? b = some u -> h'.get? b = some u) (hp : h.objs.size ≤ a) (new : ObjOk P w (upd H a o) h' a o) : HOk P w (upd H a o) h' := fun b u e => by
 have hn := x.fresh hp
 by_cases hb : b = a
 . subst hb; rw [q1z] at e; cases e; exact new
 . rw [q5z hb] at e
   exact (x b u e).stay (fun c v _ q => k c v q) (fun c q => by rw [q5z (q7z q hn)]; exact q) fun c xs q => by rw [q5z (q7z q hn)]; exact q
end
def Rd (H : Hp) (a : Addr) (u : HO) : Prop := H a = some u ∨ ∃ o, H a = some (.frz o u)
theorem Rd.ok {P : Program} {w : World} {H : Hp} {h : Heap} {a : Addr} {u : HO} (r : Rd H a u) (x : HOk P w H h) : ObjOk P w H h a u := by
 rcases r with r | ⟨o, r⟩
 . exact x a u r
 . obtain ⟨_, q⟩ := x a _ r
   exact q
def Mut : Option HO -> Prop
 | some (.lst _) => True
 | some (.dK _) => True
 | some (.dT _) => True
 | some (.set _ _) => True
 | some (.ins _ _ _) => True
 | some (.ext _) => True
 | _ => False
section
variable {P : Program} {w : World} {H : Hp} {h h' : Heap} {x e : Addr} {o' : HO}
theorem HOk.write (ok : HOk P w H h) (mu : Mut (H x)) (he : e = x ∨ H e = some (.own x)) (k : ∀ b u, b ≠ e -> h.get? b = some u -> h'.get? b = some u) (heo : ∃ u, h'.get? e = some u)
 (new : ObjOk P w (upd H x o') h' x o') : HOk P w (upd H x o') h' := fun b u q => by
 have nown : ∀ c y, H c = some (.own y) → c ≠ x := fun c y r z => by subst z; rw [r] at mu; exact mu
 have ntup : ∀ c xs, H c = some (.tup xs) → c ≠ x := fun c xs r z => by subst z; rw [r] at mu; exact mu
 by_cases hb : b = x
 . subst hb; rw [q1z] at q; cases q; exact new
 . rw [q5z hb] at q
   by_cases hbe : b = e
   . have q' : H b = some (.own x) := by
      rcases he with z | z
      . exact absurd (hbe.trans z) hb
      . rw [hbe]; exact z
     rw [q] at q'; cases q'
     obtain ⟨v, hv⟩ := heo
     exact ⟨v, by rw [hbe]; exact hv⟩
   . refine (ok b u q).stay (fun c v hc r => k c v ?_ r) (fun c r => by rw [q5z (nown c b r)]; exact r) fun c xs r => by rw [q5z (ntup c xs r)]; exact r
     rcases hc with rfl | hc
     . exact hbe
     . rintro rfl
       rcases he with z | z
       . exact nown c b hc z
       . rw [hc] at z; cases z; exact hb rfl
end
structure Un (fs ex : List Addr) (H H' : Hp) (h h' : Heap) : Prop where
 keep : ∀ b o, h.get? b = some o → H b = none → b ∉ fs → b ∉ ex → h'.get? b = some o
 slot : ∀ b o, h.get? b = some o → H b = none → b ∈ fs → b ∉ ex → ∃ sl, h'.get? b = some { o with slots := sl }
 free : ∀ b o, h.get? b = some o → H b = none → b ∉ ex → H' b = none
 there : ∀ b o, h.get? b = some o → b ∉ ex → ∃ o', h'.get? b = some o'
 tups : ∀ b xs, H b = some (.tup xs) → H' b = some (.tup xs)
 frzs : ∀ b o u, H b = some (.frz o u) → H' b = some (.frz o u)
 tbls : ∀ b ps, H b = some (.tbl ps) → ∃ more, H' b = some (.tbl (ps ++ more))
section
variable {fs fs' ex ex' : List Addr} {H H1 H2 : Hp} {h h1 h2 h' : Heap} {a x e : Addr} {o : HO}
theorem Un.any (u : Un fs ex H H1 h h1) {b : Addr} {ob : Obj} (q : h.get? b = some ob) (n : H b = none) (hx : b ∉ ex) : ∃ sl, h1.get? b = some { ob with slots := sl } := by
 by_cases hb : b ∈ fs
 . exact u.slot b ob q n hb hx
 . exact ⟨ob.slots, u.keep b ob q n hb hx⟩
theorem Un.kept (k : ∀ b u, h.get? b = some u -> h'.get? b = some u) : Un fs ex H H h h' :=
 ⟨fun b ob q _ _ _ => k b ob q, fun b ob q _ _ _ => ⟨ob.slots, k b ob q⟩, fun _ _ _ n _ => n, fun b ob q _ => ⟨ob, k b ob q⟩, fun _ _ q => q, fun _ _ _ q => q, fun _ ps q => ⟨#[], by rw [q]; simp⟩⟩
theorem Un.refl : Un fs ex H H h h := Un.kept fun _ _ q => q
theorem Un.laid (k : ∀ b u, h.get? b = some u -> h'.get? b = some u) (hp : h.objs.size ≤ a) (hn : H a = none) : Un fs ex H (upd H a o) h h' where
 keep := fun b u q _ _ _ => k b u q
 slot := fun b u q _ _ _ => ⟨u.slots, k b u q⟩
 free := fun b u q n _ => by rw [q5z (Nat.ne_of_lt (Nat.lt_of_lt_of_le (Heap.lt_size q) hp))]; exact n
 there := fun b u q _ => ⟨u, k b u q⟩
 tups := fun b xs q => by rw [q5z (q7z q hn)]; exact q
 frzs := fun b u xs q => by rw [q5z (q7z q hn)]; exact q
 tbls := fun b ps q => ⟨#[], by rw [q5z (q7z q hn), q]; simp⟩
theorem Un.write (mu : Mut (H x)) (he : e = x ∨ H e = some (.own x)) (k : ∀ b u, b ≠ e -> h.get? b = some u -> h'.get? b = some u) (heo : ∃ u, h'.get? e = some u) : Un fs ex H (upd H x o) h h' := by
 have hx : ∀ b, H b = none → b ≠ x := fun b n z => by subst z; rw [n] at mu; exact mu
 have hb : ∀ b, H b = none → b ≠ e := fun b n z => by
  subst z
  rcases he with r | r
  . exact hx b n r
  . rw [n] at r; cases r
 have hm : ∀ b u, H b = some u → ¬ Mut (some u) → b ≠ x := fun b u q nm z => by subst z; rw [q] at mu; exact nm mu
 refine ⟨fun b u q n _ _ => k b u (hb b n) q, fun b u q n _ _ => ⟨u.slots, k b u (hb b n) q⟩, fun b u q n _ => by rw [q5z (hx b n)]; exact n, fun b u q _ => ?_,
  fun b xs q => by rw [q5z (hm b _ q fun z => z)]; exact q, fun b u xs q => by rw [q5z (hm b _ q fun z => z)]; exact q, fun b ps q => ⟨#[], by rw [q5z (hm b _ q fun z => z), q]; simp⟩⟩
 by_cases hbe : b = e
 . subst hbe; exact heo
 . exact ⟨u, k b u hbe q⟩
end
def trk (h : Heap) (H : Hp) : List Addr := (List.range h.objs.size).filter fun a => (H a).isSome
def hidT (h : Heap) (H : Hp) : Heap := PySem.W.hideAll h (trk h H)
theorem hidT_size (h : Heap) (H : Hp) : (hidT h H).objs.size = h.objs.size := PySem.W.hideAll_size _ _
theorem hidT_get {h : Heap} {H : Hp} {b : Addr} {o : Obj} (e : h.get? b = some o) (n : H b = none) : (hidT h H).get? b = some o :=
 PySem.W.hideAll_get _ e fun hm => by
  have q : (H b).isSome = true := (List.mem_filter.mp hm).2
  rw [n] at q; simp at q
theorem of_hidT {h : Heap} {H : Hp} {b : Addr} {o : Obj} (e : (hidT h H).get? b = some o) : h.get? b = some o /\ H b = none := by
 have e' : h.get? b = some o := PySem.W.of_hideAll (trk h H) e
 refine ⟨e', ?_⟩
 cases q : H b with
 | none => rfl
 | some x =>
   have hm : b ∈ trk h H := List.mem_filter.mpr ⟨List.mem_range.mpr (Heap.lt_size e'), by simp [q]⟩
   have z : (hidT h H).get? b = none := PySem.W.hideAll_none (trk h H) hm
   rw [z] at e; cases e
end L2
namespace L2
open PySem PySem.Spec PyProof.Rows
structure Mod (K : PySem.W.Frag) (mg : Str -> Option Value) (base : Heap) : Prop where
 kin : K.In base
 glob : base.Ns mainGlobals mg
 blt : ∃ mb, base.Ns builtinsNs mb ∧ ∀ x : Str, x ≠ "__name__" → mb x = bootBuiltins x
 nolimit : base.NoLimit
structure Cx where
 prog : Program
 w : World
 K : PySem.W.Frag
 mg : Str → Option Value
 base : Heap
 A : Around
 N : List Str
 s_0 : Shared
 H_0 : Hp
 env : Env
 outer : List Env
 stack : List Env
 ex : List Addr
 fn : Str → Bool
 calm : Bool
 pn : List (Addr × Obj)
 xe : Value → Shared → Prop
def frs (l : List Env) : List Addr := l.filterMap (·.frame)
abbrev Cx.fs (X : Cx) : List Addr := frs X.outer
def Vis (sc : Scope) (x : Str) : Prop := sc.names.lookup x = some .local ∨ sc.names.lookup x = some .cell ∨ sc.names.lookup x = some .free
def Loc (sc : Scope) (x : Str) : Prop := sc.names.lookup x = some .local ∨ sc.names.lookup x = some .cell
def Look (env : Env) (h : Heap) (m : Str -> Option Value) (x : Str) (u : Value) : Prop :=
 (env.kindOf x = some .local ∧ m x = some u) ∨ ((env.kindOf x = some .cell ∨ env.kindOf x = some .free) ∧ ∃ c, env.cells.lookup x = some c ∧ h.IsCell c (some u))
structure Cx.Ok (X : Cx) : Prop where
 mod : Mod X.K X.mg X.base
 kind : X.env.scope.kind = .function
 glob : X.env.globals = mainGlobals
 blt : X.env.builtins = builtinsNs
 above : X.s_0.heap.objs.size ≤ X.env.locals
 inj : ∀ x y c, X.env.cells.lookup x = some c → X.env.cells.lookup y = some c → x = y
 has : ∀ x, (X.env.kindOf x = some .cell ∨ X.env.kindOf x = some .free) → ∃ c, X.env.cells.lookup x = some c
 cab : ∀ x c, X.fn x = true → X.env.cells.lookup x = some c → X.s_0.heap.objs.size ≤ c
 hd : X.calm = true → X.A.handled = none
 frames : X.A.frames = some X.stack
 stk : X.stack = X.outer ∨ (X.stack = X.env :: X.outer ∧ X.env.frame = some X.env.locals)
 exf : ∀ b ∈ X.ex, b ≠ X.env.locals ∧ ∀ x c, X.env.cells.lookup x = some c → c ≠ b
 bs : ∀ b o, X.base.get? b = some o → X.s_0.heap.get? b = some o ∧ X.H_0 b = none
 bsz : X.base.objs.size ≤ X.s_0.heap.objs.size
 noex : ∀ b o, X.base.get? b = some o → b ∉ X.ex
 exfs : ∀ b ∈ X.ex, b ∉ X.fs
 funs : X.s_0.heap.FunFrames X.base X.outer
 frf : ∀ b ∈ X.fs, X.H_0 b = none
structure Inv (X : Cx) (pins : List (Addr × Obj)) (σ : List (Option V)) (H : Hp) (s : Shared) : Prop where
 ok : X.Ok
 os : s.os = X.s_0.os
 bare : AllBare s.gens
 base : Un X.fs X.ex X.H_0 H X.s_0.heap s.heap
 loc : ∃ m, s.heap.Ns X.env.locals m ∧ ∀ (i : Nat) (x : Str) (v : V), X.N[i]? = some x → σ[i]? = some (some v) → Vis X.env.scope x → ∃ u, RelV v u ∧ Look X.env s.heap m x u
 cell : ∀ x c, X.env.cells.lookup x = some c → ∃ v, s.heap.IsCell c v
 free : H X.env.locals = none
 freeC : ∀ x c, X.env.cells.lookup x = some c → H c = none
 pin : ∀ p ∈ X.pn ++ pins, s.heap.get? p.1 = some p.2 ∧ H p.1 = none ∧ p.1 ≠ X.env.locals ∧ p.1 ∉ X.fs ∧ ∀ v, p.2.data ≠ .cell v
 hok : HOk X.prog X.w H s.heap
 len : σ.length = X.N.length
section
variable {X : Cx} {pins : List (Addr × Obj)} {σ : List (Option V)} {H H' : Hp} {s : Shared} {h' : Heap}
theorem Cx.Ok.nofr (ok : X.Ok) {b : Addr} {o : Obj} (e : X.base.get? b = some o) : b ∉ X.fs := fun hb => by
 have := (ok.funs.mem hb).1
 rw [e] at this; cases this
theorem Inv.bs (I : Inv X pins σ H s) : ∀ b o, X.base.get? b = some o -> s.heap.get? b = some o /\ H b = none := fun b o e =>
 ⟨I.base.keep b o (I.ok.bs b o e).1 (I.ok.bs b o e).2 (I.ok.nofr e) (I.ok.noex b o e), I.base.free b o (I.ok.bs b o e).1 (I.ok.bs b o e).2 (I.ok.noex b o e)⟩
theorem Inv.bk (I : Inv X pins σ H s) : ∀ b o, X.base.get? b = some o -> s.heap.get? b = some o := fun b o e => (I.bs b o e).1
theorem Inv.mod (I : Inv X pins σ H s) : Mod X.K X.mg X.base := I.ok.mod
theorem Inv.kIn (I : Inv X pins σ H s) : X.K.In s.heap := I.ok.mod.kin.keeps I.bk
theorem Inv.lt (I : Inv X pins σ H s) : X.env.locals < s.heap.objs.size := let ⟨_, hn, _⟩ := I.loc; hn.lt
theorem Inv.sz (I : Inv X pins σ H s) : X.s_0.heap.objs.size ≤ s.heap.objs.size := Nat.le_trans I.ok.above (Nat.le_of_lt I.lt)
theorem Inv.nofs (I : Inv X pins σ H s) {a : Addr} (h : s.heap.objs.size ≤ a) : a ∉ X.fs := fun hb => by
 obtain ⟨_, o, ho, _⟩ := I.ok.funs.mem hb
 exact absurd (Nat.lt_of_lt_of_le (Heap.lt_size ho) (Nat.le_trans I.sz h)) (Nat.lt_irrefl _)
theorem Inv.cne (I : Inv X pins σ H s) : ∀ x c, X.env.cells.lookup x = some c -> c ≠ X.env.locals := fun x c e z => by
 obtain ⟨v, o, ho, hd⟩ := I.cell x c e
 obtain ⟨m, ⟨o', es, ep, ho', hd', _⟩, _⟩ := I.loc
 rw [z, ho'] at ho; cases ho; rw [hd'] at hd; cases hd
theorem Inv.funs (I : Inv X pins σ H s) : s.heap.FunFrames X.base X.outer := by
 have all : ∀ (l : List Env), (∀ b ∈ frs l, b ∈ X.fs) → X.s_0.heap.FunFrames X.base l → s.heap.FunFrames X.base l := by
  intro l
  induction l with
  | nil => intro _ _; trivial
  | cons env r ih =>
    intro hs hl
    obtain ⟨hk, ⟨L, o, hf, hn, ho, hd⟩, hr⟩ := hl
    have hL : L ∈ X.fs := hs L (by unfold frs; rw [List.filterMap_cons, hf]; exact List.mem_cons_self)
    obtain ⟨sl, e⟩ := I.base.slot L o ho (I.ok.frf L hL) hL fun z => I.ok.exfs L z hL
    exact ⟨hk, ⟨L, _, hf, hn, e, hd⟩, ih (fun b hb => hs b (by unfold frs; rw [List.filterMap_cons, hf]; exact List.mem_cons_of_mem _ hb)) hr⟩
 exact all X.outer (fun _ hb => hb) I.ok.funs
theorem Inv.stack (I : Inv X pins σ H s) : s.heap.FunFrames X.base X.stack := by
 rcases I.ok.stk with e | ⟨e, hf⟩
 . rw [e]; exact I.funs
 . rw [e]
   obtain ⟨m, hn, _⟩ := I.loc
   refine .cons (by rw [I.ok.kind]; decide) hf hn ?_ I.funs
   exact Heap.get?_none_of_le (Nat.le_trans I.ok.bsz I.ok.above)
theorem Inv.stkSub (I : Inv X pins σ H s) : ∀ b ∈ frs X.stack, b ∈ X.env.locals :: X.fs := fun b hb => by
 rcases I.ok.stk with e | ⟨e, hf⟩
 . rw [e] at hb; exact List.mem_cons_of_mem _ hb
 . rw [e] at hb
   unfold frs at hb
   rw [List.filterMap_cons, hf] at hb
   exact hb
theorem Inv.stkFree (I : Inv X pins σ H s) : ∀ b ∈ frs X.stack, H b = none := fun b hb => by
 rcases List.mem_cons.mp (I.stkSub b hb) with e | hb
 . rw [e]; exact I.free
 . obtain ⟨_, o, ho, _⟩ := I.ok.funs.mem hb
   exact I.base.free b o ho (I.ok.frf b hb) fun z => I.ok.exfs b z hb
theorem Inv.step {g' : Array GenState} {t' : Nat} {d' : Drawn} {ch : List Addr} (I : Inv X pins σ H s)
 (hch : ∀ b ∈ ch, (b ∈ X.ex ∨ X.s_0.heap.objs.size ≤ b) ∧ b ≠ X.env.locals ∧ (∀ x c, X.env.cells.lookup x = some c → c ≠ b) ∧ ∀ p ∈ X.pn ++ pins, p.1 ≠ b)
 (keep : ∀ b o, b ≠ X.env.locals → b ∉ X.fs → b ∉ ch → s.heap.get? b = some o → H b = none → h'.get? b = some o)
 (slot : ∀ b o, b ≠ X.env.locals → b ∈ X.fs → b ∉ ch → s.heap.get? b = some o → H b = none → ∃ sl, h'.get? b = some { o with slots := sl }) (free : ∀ b o, b ∉ ch → s.heap.get? b = some o → H b = none → H' b = none)
 (there : ∀ b o, b ∉ ch → s.heap.get? b = some o → ∃ o', h'.get? b = some o')
 (tups : ∀ b xs, H b = some (.tup xs) → H' b = some (.tup xs)) (frzs : ∀ b o u, H b = some (.frz o u) → H' b = some (.frz o u)) (tbls : ∀ b ps, H b = some (.tbl ps) → ∃ more, H' b = some (.tbl (ps ++ more)))
 (ns : ∀ m, s.heap.Ns X.env.locals m → h'.Ns X.env.locals m) (hok : HOk X.prog X.w H' h') (hg : AllBare g') :
 Inv X pins σ H' { s with heap := h', gens := g', drawn := d', toks := t' } := by
 have neL : ∀ b o, X.s_0.heap.get? b = some o → b ≠ X.env.locals := fun b o e => Nat.ne_of_lt (Nat.lt_of_lt_of_le (Heap.lt_size e) I.ok.above)
 have neC : ∀ b o, X.s_0.heap.get? b = some o → b ∉ X.ex → b ∉ ch := fun b o e hx hb => by
  rcases (hch b hb).1 with z | z
  . exact hx z
  . exact absurd (Nat.lt_of_lt_of_le (Heap.lt_size e) z) (Nat.lt_irrefl _)
 have cellK : ∀ x c, X.env.cells.lookup x = some c → ∀ v, s.heap.IsCell c v → h'.IsCell c v := fun x c e v ⟨o, ho, hd⟩ => by
  have nch : c ∉ ch := fun z => (hch c z).2.2.1 x c e rfl
  by_cases hc : c ∈ X.fs
  . obtain ⟨sl, q⟩ := slot c o (I.cne x c e) hc nch ho (I.freeC x c e)
    exact ⟨_, q, hd⟩
  . exact ⟨o, keep c o (I.cne x c e) hc nch ho (I.freeC x c e), hd⟩
 refine ⟨I.ok, I.os, hg, ⟨fun b o e n hb hx => ?_, fun b o e n hb hx => ?_, fun b o e n hx => ?_, fun b o e hx => ?_, fun b xs e => tups b xs (I.base.tups b xs e), fun b o xs e => frzs b o xs (I.base.frzs b o xs e), fun b ps e => ?_⟩, ?_, fun x c e => ?_, ?_, fun x c e => ?_, fun p hp => ?_, hok, I.len⟩
 . exact keep b o (neL b o e) hb (neC b o e hx) (I.base.keep b o e n hb hx) (I.base.free b o e n hx)
 . obtain ⟨sl, e1⟩ := I.base.slot b o e n hb hx
   obtain ⟨sl', e2⟩ := slot b _ (neL b o e) hb (neC b o e hx) e1 (I.base.free b o e n hx)
   exact ⟨sl', e2⟩
 . obtain ⟨o', e1⟩ := I.base.there b o e hx
   exact free b o' (neC b o e hx) e1 (I.base.free b o e n hx)
 . obtain ⟨o', e1⟩ := I.base.there b o e hx
   exact there b o' (neC b o e hx) e1
 . obtain ⟨m1, e1⟩ := I.base.tbls b ps e
   obtain ⟨m2, e2⟩ := tbls b _ e1
   exact ⟨m1 ++ m2, by rw [e2, Array.append_assoc]⟩
 . obtain ⟨m, hn, hl⟩ := I.loc
   refine ⟨m, ns m hn, fun i x v e1 e2 e3 => ?_⟩
   obtain ⟨u, r, l⟩ := hl i x v e1 e2 e3
   refine ⟨u, r, ?_⟩
   rcases l with l | ⟨k, c, e, z⟩
   . exact .inl l
   . exact .inr ⟨k, c, e, cellK x c e _ z⟩
 . obtain ⟨v, z⟩ := I.cell x c e
   exact ⟨v, cellK x c e v z⟩
 . obtain ⟨m, ⟨o, _, _, ho, _⟩, _⟩ := I.loc
   exact free _ o (fun z => (hch _ z).2.1 rfl) ho I.free
 . obtain ⟨v, o, ho, hd⟩ := I.cell x c e
   exact free c o (fun z => (hch c z).2.2.1 x c e rfl) ho (I.freeC x c e)
 . obtain ⟨e, n, ne, nf, d⟩ := I.pin p hp
   have nch : p.1 ∉ ch := fun z => (hch p.1 z).2.2.2 p hp rfl
   exact ⟨keep p.1 p.2 ne nf nch e n, free p.1 p.2 nch e n, ne, nf, d⟩
theorem Inv.un {t' : Nat} (I : Inv X pins σ H s) (u : Un X.fs [] H H' s.heap h') (hok : HOk X.prog X.w H' h') : Inv X pins σ H' { s with heap := h', toks := t' } := by
 obtain ⟨m, ⟨o, es, ep, ho, r⟩, _⟩ := id I.loc
 obtain ⟨sl, hL⟩ := u.any ho I.free (by simp)
 exact I.step (g' := s.gens) (d' := s.drawn) (ch := []) (fun _ z => nomatch z) (fun b o _ hb _ e n => u.keep b o e n hb (by simp)) (fun b o _ hb _ e n => u.slot b o e n hb (by simp)) (fun b o _ e n => u.free b o e n (by simp)) (fun b o _ e => u.there b o e (by simp)) u.tups u.frzs u.tbls (fun m' hm => by
  obtain ⟨o', es', ep', ho', r'⟩ := hm
  rw [ho] at ho'; cases ho'
  exact ⟨_, es', ep', hL, r'⟩) hok I.bare
theorem Inv.call {g' : Array GenState} {t' : Nat} {d' : Drawn} {ch : List Addr} (I : Inv X pins σ H s) (u : Un (frs X.stack) ch H H' s.heap h') (hok : HOk X.prog X.w H' h') (hg : AllBare g')
 (hch : ∀ b ∈ ch, (b ∈ X.ex ∨ X.s_0.heap.objs.size ≤ b) ∧ b ≠ X.env.locals ∧ (∀ x c, X.env.cells.lookup x = some c → c ≠ b) ∧ ∀ p ∈ X.pn ++ pins, p.1 ≠ b) :
 Inv X pins σ H' { s with heap := h', gens := g', drawn := d', toks := t' } := by
 obtain ⟨m, ⟨o, es, ep, ho, r⟩, _⟩ := id I.loc
 obtain ⟨sl, hL⟩ := u.any ho I.free fun z => (hch _ z).2.1 rfl
 exact I.step (ch := ch) hch (fun b o hL hb hc e n => u.keep b o e n (fun z => (List.mem_cons.mp (I.stkSub b z)).elim hL hb) hc) (fun b o _ _ hc e n => u.any e n hc) (fun b o hc e n => u.free b o e n hc) (fun b o hc e => u.there b o e hc) u.tups u.frzs u.tbls (fun m' hm => by
  obtain ⟨o', es', ep', ho', r'⟩ := hm
  rw [ho] at ho'; cases ho'
  exact ⟨_, es', ep', hL, r'⟩) hok hg
theorem Inv.turned {t' : Nat} {it : Addr} (I : Inv X pins σ H s) (k : ∀ b o, b ≠ it -> s.heap.get? b = some o -> h'.get? b = some o) (hn : H it = none) (hL : it ≠ X.env.locals)
 (h1 : it ∈ X.ex ∨ X.s_0.heap.objs.size ≤ it) (h2 : ∀ x c, X.env.cells.lookup x = some c → c ≠ it) (h3 : ∀ p ∈ X.pn ++ pins, p.1 ≠ it) : Inv X pins σ H { s with heap := h', toks := t' } := by
 have nit : ∀ b u, H b = some u → b ≠ it := fun b u e z => by rw [z, hn] at e; cases e
 refine I.step (g' := s.gens) (d' := s.drawn) (ch := [it]) (fun b hb => ?_) (fun b o _ _ hc e _ => k b o (fun z => hc (by simp [z])) e) (fun b o _ _ hc e _ => ⟨o.slots, k b o (fun z => hc (by simp [z])) e⟩) (fun _ _ _ _ n => n)
  (fun b o hc e => ⟨o, k b o (fun z => hc (by simp [z])) e⟩) (fun _ _ e => e) (fun _ _ _ e => e) (fun b ps e => ⟨#[], by rw [e]; simp⟩) (fun m hm => ?_) (fun b u e => ?_) I.bare
 . have e : b = it := by simpa using hb
   subst e
   exact ⟨h1, hL, h2, h3⟩
 . obtain ⟨o, es, ep, ho, r⟩ := hm
   exact ⟨o, es, ep, k _ o (Ne.symm hL) ho, r⟩
 . refine (I.hok b u e).stay (fun c v hc q => k c v ?_ q) (fun _ q => q) fun _ _ q => q
   rcases hc with z | z
   . rw [z]; exact nit b u e
   . exact nit c _ z
theorem Inv.tok (I : Inv X pins σ H s) (t : Nat) : Inv X pins σ H { s with toks := t } := I.un (h' := s.heap) (t' := t) Un.refl I.hok
theorem Inv.kept {t' : Nat} (I : Inv X pins σ H s) (k : ∀ b u, s.heap.get? b = some u -> h'.get? b = some u) : Inv X pins σ H { s with heap := h', toks := t' } := I.un (Un.kept k) (I.hok.kept k)
theorem Inv.laid {a : Addr} {o : HO} {t' : Nat} (I : Inv X pins σ H s) (k : ∀ b u, s.heap.get? b = some u -> h'.get? b = some u) (hp : s.heap.objs.size ≤ a) (new : ObjOk X.prog X.w (upd H a o) h' a o) :
 Inv X pins σ (upd H a o) { s with heap := h', toks := t' } := I.un (Un.laid k hp (I.hok.fresh hp)) (I.hok.laid k hp new)
theorem Inv.write {x e : Addr} {o : HO} {t' : Nat} (I : Inv X pins σ H s) (mu : Mut (H x)) (he : e = x ∨ H e = some (.own x)) (k : ∀ b u, b ≠ e -> s.heap.get? b = some u -> h'.get? b = some u) (heo : ∃ u, h'.get? e = some u)
 (new : ObjOk X.prog X.w (upd H x o) h' x o) : Inv X pins σ (upd H x o) { s with heap := h', toks := t' } := I.un (Un.write mu he k heo) (I.hok.write mu he k heo new)
theorem Inv.weak {σ' : List (Option V)} (I : Inv X pins σ H s) (hl : σ'.length = σ.length) (w : ∀ (i : Nat) v, σ'[i]? = some (some v) -> σ[i]? = some (some v)) : Inv X pins σ' H s :=
 ⟨I.ok, I.os, I.bare, I.base, let ⟨m, hn, hl'⟩ := I.loc; ⟨m, hn, fun i x v e1 e2 e3 => hl' i x v e1 (w i v e2) e3⟩, I.cell, I.free, I.freeC, I.pin, I.hok, hl.trans I.len⟩
theorem Inv.pins_of {pins' : List (Addr × Obj)} (I : Inv X pins σ H s) (h : ∀ p ∈ pins', s.heap.get? p.1 = some p.2 /\ H p.1 = none /\ p.1 ≠ X.env.locals /\ p.1 ∉ X.fs /\ ∀ v, p.2.data ≠ .cell v) : Inv X pins' σ H s :=
 ⟨I.ok, I.os, I.bare, I.base, I.loc, I.cell, I.free, I.freeC, fun p hp => (List.mem_append.mp hp).elim (fun z => I.pin p (List.mem_append_left _ z)) (h p), I.hok, I.len⟩
theorem nodup_ix {N : List Str} (hN : N.Nodup) {i j : Nat} {x : Str} (a : N[i]? = some x) (b : N[j]? = some x) : i = j := by
 obtain ⟨h1, e1⟩ := List.getElem?_eq_some_iff.mp a
 obtain ⟨h2, e2⟩ := List.getElem?_eq_some_iff.mp b
 exact (List.getElem_inj hN).mp (e1.trans e2.symm)
theorem store_ok2 {M : Model} {A : Around} {E : Value -> Shared -> Prop} {i : Nat} {x : Str} {v : V} {u : Value} {Q : Unit -> Shared -> Prop} (I : Inv X pins σ H s) (hN : X.N.Nodup) (hi : X.N[i]? = some x) (hx : Loc X.env.scope x) (r : RelV v u)
 (h : ∀ s', Inv X pins (σ.set i (some v)) H s' → (∃ a, Heap.SameBut a s.heap s'.heap ∧ (a = X.env.locals ∨ X.env.cells.lookup x = some a)) → Q () s') (hf : X.fn x = true ∨ X.env.scope.names.lookup x = some .local := by first | exact .inl rfl | exact .inr rfl | assumption) : wpAny M A (storeName X.env x u) Q E s := by
 obtain ⟨m, hn, hl⟩ := id I.loc
 have hcls : (X.env.scope.kind == .class || (X.env.scope.kind == .module && X.env.locals != X.env.globals)) = false := by rw [I.ok.kind]; rfl
 have hiσ : i < σ.length := by rw [I.len]; exact (List.getElem?_eq_some_iff.mp hi).1
 have cne := I.cne
 have tracked : ∀ {a : Addr} {h' : Heap}, (∃ o, s.heap.get? a = some o ∧ H a = none) → Heap.SameBut a s.heap h' → HOk X.prog X.w H h' := fun {a h'} ha hs b ob e => by
  obtain ⟨_, _, hfree⟩ := ha
  refine (I.hok b ob e).stay (fun c w' hc q => (hs.2 c ?_).trans q) (fun _ q => q) fun _ _ q => q
  rintro rfl
  rcases hc with rfl | hc
  . rw [hfree] at e; cases e
  . rw [hfree] at hc; cases hc
 rcases hx with hk | hk
 . refine wpAny_storeName_local hk hn (fun h' hn' hs => ?_) hcls
   obtain ⟨oL, _, _, hoL, _⟩ := id hn
   refine h _ ⟨I.ok, I.os, I.bare, ⟨fun b o e n hb hx => ?_, fun b o e n hb hx => ?_, I.base.free, fun b o e hx => ?_, I.base.tups, I.base.frzs, I.base.tbls⟩, ⟨_, hn', fun j y v' e1 e2 e3 => ?_⟩, fun y c e => ?_, I.free, I.freeC, fun p hp => ?_, tracked ⟨oL, hoL, I.free⟩ hs, by simpa using I.len⟩ ⟨_, hs, .inl rfl⟩
   . exact (hs.2 b (Nat.ne_of_lt (Nat.lt_of_lt_of_le (Heap.lt_size e) I.ok.above))).trans (I.base.keep b o e n hb hx)
   . obtain ⟨sl, e1⟩ := I.base.slot b o e n hb hx
     exact ⟨sl, (hs.2 b (Nat.ne_of_lt (Nat.lt_of_lt_of_le (Heap.lt_size e) I.ok.above))).trans e1⟩
   . obtain ⟨o', e1⟩ := I.base.there b o e hx
     exact ⟨o', (hs.2 b (Nat.ne_of_lt (Nat.lt_of_lt_of_le (Heap.lt_size e) I.ok.above))).trans e1⟩
   . by_cases hj : j = i
     . subst hj
       rw [hi] at e1; cases e1
       rw [List.getElem?_set_self hiσ] at e2
       cases e2
       exact ⟨u, r, .inl ⟨hk, by simp⟩⟩
     . rw [List.getElem?_set_ne (Ne.symm hj)] at e2
       obtain ⟨u', r', q⟩ := hl j y v' e1 e2 e3
       refine ⟨u', r', ?_⟩
       rcases q with ⟨k, e⟩ | ⟨k, c, e, z⟩
       . refine .inl ⟨k, ?_⟩
         have : y ≠ x := fun e => hj (nodup_ix hN e1 (e ▸ hi))
         simp [this, e]
       . exact .inr ⟨k, c, e, z.sameBut hs (cne y c e)⟩
   . obtain ⟨w', z⟩ := I.cell y c e
     exact ⟨w', z.sameBut hs (cne y c e)⟩
   . obtain ⟨e, n, ne, nf, d⟩ := I.pin p hp
     exact ⟨(hs.2 p.1 ne).trans e, n, ne, nf, d⟩
 . have hfn : X.fn x = true := by
    rcases hf with z | z
    . exact z
    . rw [z] at hk; cases hk
   obtain ⟨c, hc⟩ := I.ok.has x (.inl hk)
   obtain ⟨w', z⟩ := I.cell x c hc
   refine wpAny_storeName_cell I.ok.kind hk hc z (fun h' hc' hs => ?_)
   obtain ⟨oc, hoc, hocd⟩ := id z
   refine h { s with heap := h' } ⟨I.ok, I.os, I.bare, ⟨fun b o e n hb hx => ?_, fun b o e n hb hx => ?_, I.base.free, fun b o e hx => ?_, I.base.tups, I.base.frzs, I.base.tbls⟩, ⟨m, hn.sameBut hs (Ne.symm (cne x c hc)), fun j y v' e1 e2 e3 => ?_⟩, fun y c' e => ?_, I.free, I.freeC, fun p hp => ?_, tracked ⟨oc, hoc, I.freeC x c hc⟩ hs, by simpa using I.len⟩ ⟨c, hs, .inr hc⟩
   . exact (hs.2 b (Nat.ne_of_lt (Nat.lt_of_lt_of_le (Heap.lt_size e) (I.ok.cab x c hfn hc)))).trans (I.base.keep b o e n hb hx)
   . obtain ⟨sl, e1⟩ := I.base.slot b o e n hb hx
     exact ⟨sl, (hs.2 b (Nat.ne_of_lt (Nat.lt_of_lt_of_le (Heap.lt_size e) (I.ok.cab x c hfn hc)))).trans e1⟩
   . obtain ⟨o', e1⟩ := I.base.there b o e hx
     exact ⟨o', (hs.2 b (Nat.ne_of_lt (Nat.lt_of_lt_of_le (Heap.lt_size e) (I.ok.cab x c hfn hc)))).trans e1⟩
   . by_cases hj : j = i
     . subst hj
       rw [hi] at e1; cases e1
       rw [List.getElem?_set_self hiσ] at e2
       cases e2
       exact ⟨u, r, .inr ⟨.inl hk, c, hc, hc'⟩⟩
     . rw [List.getElem?_set_ne (Ne.symm hj)] at e2
       obtain ⟨u', r', q⟩ := hl j y v' e1 e2 e3
       refine ⟨u', r', ?_⟩
       rcases q with q | ⟨k, c', e, z'⟩
       . exact .inl q
       . refine .inr ⟨k, c', e, z'.sameBut hs ?_⟩
         rintro rfl
         exact hj (nodup_ix hN e1 (I.ok.inj _ _ _ e hc ▸ hi))
   . by_cases hcc : c' = c
     . subst hcc; exact ⟨_, hc'⟩
     . obtain ⟨w2, z2⟩ := I.cell y c' e
       exact ⟨w2, z2.sameBut hs hcc⟩
   . obtain ⟨e, n, ne, nf, d⟩ := I.pin p hp
     refine ⟨(hs.2 p.1 ?_).trans e, n, ne, nf, d⟩
     intro q
     rw [q, hoc] at e
     have q' : oc = p.2 := Option.some.inj e
     exact d w' (by rw [← q']; exact hocd)
theorem store_ok {M : Model} {A : Around} {E : Value -> Shared -> Prop} {i : Nat} {x : Str} {v : V} {u : Value} {Q : Unit -> Shared -> Prop} (I : Inv X pins σ H s) (hN : X.N.Nodup) (hi : X.N[i]? = some x) (hx : Loc X.env.scope x) (r : RelV v u)
 (h : ∀ s', Inv X pins (σ.set i (some v)) H s' → Q () s') (hf : X.fn x = true ∨ X.env.scope.names.lookup x = some .local := by first | exact .inl rfl | exact .inr rfl | assumption) : wpAny M A (storeName X.env x u) Q E s :=
 store_ok2 I hN hi hx r (fun s' I' _ => h s' I') hf
theorem Inv.call' {s' : Shared} {ch : List Addr} (I : Inv X pins σ H s) (ho : s'.os = s.os) (u : Un (frs X.stack) ch H H' s.heap s'.heap) (hok : HOk X.prog X.w H' s'.heap) (hg : AllBare s'.gens)
 (hch : ∀ b ∈ ch, (b ∈ X.ex ∨ X.s_0.heap.objs.size ≤ b) ∧ b ≠ X.env.locals ∧ (∀ x c, X.env.cells.lookup x = some c → c ≠ b) ∧ ∀ p ∈ X.pn ++ pins, p.1 ≠ b) : Inv X pins σ H' s' := by
 obtain ⟨h', g', d', t', o'⟩ := s'
 have e : o' = s.os := ho
 subst e
 exact I.call (g' := g') (t' := t') (d' := d') u hok hg hch
end
abbrev XK := Value -> Option Addr -> Hp -> Prop
abbrev St := List (Option V)
abbrev VK := V -> Hp -> Prop
abbrev TE := St -> Hp -> VK -> Prop
abbrev TT := St -> Hp -> (Bool -> Hp -> Prop) -> Prop
abbrev TA := St -> Hp -> (List V -> Hp -> Prop) -> Prop
structure Ends where
 nx : St → Hp → Prop
 rt : VK
 bk : St → Hp → Prop := fun _ _ => False
 ct : St → Hp → Prop := fun _ _ => False
abbrev TS := Ends -> St -> Hp -> Prop
def EP (X : Cx) (pins : List (Addr × Obj)) (σ : St) (Q : VK) (u : Value) (s' : Shared) : Prop := ∃ v H', Inv X pins σ H' s' /\ RelV v u /\ Q v H'
def TP (X : Cx) (pins : List (Addr × Obj)) (σ : St) (Q : Bool -> Hp -> Prop) (b : Bool) (s' : Shared) : Prop := ∃ H', Inv X pins σ H' s' /\ Q b H'
def AP (X : Cx) (pins : List (Addr × Obj)) (σ : St) (Q : List V -> Hp -> Prop) (us : List Value) (s' : Shared) : Prop := ∃ vs H', Inv X pins σ H' s' /\ Vals vs us /\ Q vs H'
def SP (X : Cx) (pins : List (Addr × Obj)) (D : Ends) (f : Flow) (s' : Shared) : Prop :=
 match f with
 | .next => ∃ σ' H', Inv X pins σ' H' s' ∧ D.nx σ' H'
 | .brk => ∃ σ' H', Inv X pins σ' H' s' ∧ D.bk σ' H'
 | .cont => ∃ σ' H', Inv X pins σ' H' s' ∧ D.ct σ' H'
 | .ret u => ∃ v σ' H', Inv X pins σ' H' s' ∧ RelV v u ∧ D.rt v H'
def PE (X : Cx) (e : Expr) (t : TE) : Prop :=
 ∀ (pins : List (Addr × Obj)) (s : Shared) (σ : St) (H : Hp) (Q : VK), Inv X pins σ H s → t σ H Q → wpAny (model X.prog X.w) X.A (eval e X.env) (EP X pins σ Q) X.xe s
def PT (X : Cx) (e : Expr) (t : TT) : Prop :=
 ∀ (pins : List (Addr × Obj)) (s : Shared) (σ : St) (H : Hp) (Q : Bool → Hp → Prop), Inv X pins σ H s → t σ H Q → wpAny (model X.prog X.w) X.A (isTrue e X.env (eval e X.env)) (TP X pins σ Q) X.xe s
def PW (X : Cx) (e : Expr) (t : TT) : Prop :=
 ∀ (whole : Sem Value) (pins : List (Addr × Obj)) (s : Shared) (σ : St) (H : Hp) (Q : Bool → Hp → Prop), Inv X pins σ H s → t σ H Q → wpAny (model X.prog X.w) X.A (isTrue e X.env whole) (TP X pins σ Q) X.xe s
theorem PW.pt {X : Cx} {e : Expr} {t : TT} (h : PW X e t) : PT X e t := h _
def PA (X : Cx) (es : List Expr) (t : TA) : Prop :=
 ∀ (pos : Pos) (pins : List (Addr × Obj)) (s : Shared) (σ : St) (H : Hp) (Q : List V → Hp → Prop), Inv X pins σ H s → t σ H Q → wpAny (model X.prog X.w) X.A (spliced (backTo pos (starEach es X.env))) (AP X pins σ Q) X.xe s
def PS (X : Cx) (st : Stmt) (t : TS) : Prop :=
 ∀ (pins : List (Addr × Obj)) (s : Shared) (σ : St) (H : Hp) (D : Ends), Inv X pins σ H s → t D σ H → wpAny (model X.prog X.w) X.A (exec st X.env) (SP X pins D) X.xe s
def PSs (X : Cx) (st : List Stmt) (t : TS) : Prop :=
 ∀ (pins : List (Addr × Obj)) (s : Shared) (σ : St) (H : Hp) (D : Ends), Inv X pins σ H s → t D σ H → wpAny (model X.prog X.w) X.A (execs st X.env) (SP X pins D) X.xe s
theorem thn {α : Type} {t : Sem α} {Q Q' : α -> Shared -> Prop} {M : Model} {A : Around} {E : Value -> Shared -> Prop} {s : Shared} (h : wpAny M A t Q E s) (hQ : ∀ a s, Q a s -> Q' a s) : wpAny M A t Q' E s := wpAny_mono h hQ fun _ _ x => x
end L2
namespace L2
open PySem PySem.Spec PyProof.Rows
section
variable {X : Cx}
def tVar (i : Nat) : TE := fun σ H Q => ∃ v, σ[i]? = some (some v) /\ Q v H
def tC (v : V) : TE := fun _ H Q => Q v H
theorem pe_var {i : Nat} {x : Str} {pos : Pos} (hN : X.N[i]? = some x) (hv : Vis X.env.scope x) (hd : (x == ("__debug__" : Str)) = false := by decide) (hcd : (x == ("__classdict__" : Str)) = false := by decide) : PE X (.Name x pos) (tVar i) := by
 intro pins s σ H Q I h
 obtain ⟨v, e, h⟩ := h
 obtain ⟨m, hn, hl⟩ := I.loc
 obtain ⟨u, r, l⟩ := hl i x v hN e hv
 have fin : EP X pins σ Q u s := ⟨v, H, I, r, h⟩
 rcases l with ⟨hk, hm⟩ | ⟨hk, c, hc, hcell⟩
 . exact wpAny_Name (wpAny_loadName_local I.ok.kind hk hn hm fin) hd
 . rcases hk with hk | hk
   . exact wpAny_Name (wpAny_loadName_cell I.ok.kind hk hc hcell fin) hd
   . exact wpAny_Name (wpAny_loadName_free I.ok.kind hk hc hcell fin hcd) hd
theorem q10z {i j pos} : PE X (.Constant (.int i) j pos) (tC (.int i)) := fun _ _ _ H _ I h => wpAny_Constant_int ⟨.int i, H, I.tok _, ⟨_, rfl⟩, h⟩
theorem pe_bl {b j pos} : PE X (.Constant (.bool b) j pos) (tC (.bl b)) := fun _ _ _ H _ I h => Constant_bool ⟨.bl b, H, I, rfl, h⟩
def Gl (X : Cx) (x : Str) : Prop := X.env.kindOf x = some .globalImplicit
theorem ld_glob {E : Value -> Shared -> Prop} {pins : List (Addr × Obj)} {s : Shared} {σ : St} {H : Hp} {x : Str} {u : Value} {pos : Pos} {Q : Value -> Shared -> Prop} (I : Inv X pins σ H s) (hg : Gl X x) (hm : X.mg x = some u) (h : Q u s)
 (hd : (x == ("__debug__" : Str)) = false := by decide) : wpAny (model X.prog X.w) X.A (eval (.Name x pos) X.env) Q E s :=
 Calls.Name_function_global I.ok.kind hg (Calls.loadGlobal_global (by rw [I.ok.glob]; exact I.mod.glob.keeps I.bk) hm h) hd
theorem ld_blt {E : Value -> Shared -> Prop} {pins : List (Addr × Obj)} {s : Shared} {σ : St} {H : Hp} {x : Str} {u : Value} {pos : Pos} {Q : Value -> Shared -> Prop} (I : Inv X pins σ H s) (hg : Gl X x) (hm : X.mg x = none) (hv : bootBuiltins x = some u) (h : Q u s)
 (hn : x ≠ "__name__" := by decide) (hd : (x == ("__debug__" : Str)) = false := by decide) : wpAny (model X.prog X.w) X.A (eval (.Name x pos) X.env) Q E s := by
 obtain ⟨mb, h1, h2⟩ := I.mod.blt
 exact Calls.Name_function_global I.ok.kind hg (Calls.loadGlobal_builtin (by rw [I.ok.glob]; exact I.mod.glob.keeps I.bk) hm (by rw [I.ok.blt]; exact h1.keeps I.bk) ((h2 x hn).trans hv) h) hd
theorem q14z {x : Str} {v : V} {u : Value} {pos : Pos} (hg : Gl X x) (hm : X.mg x = some u) (r : RelV v u) (hd : (x == ("__debug__" : Str)) = false := by decide) : PE X (.Name x pos) (tC v) :=
 fun _ _ _ H _ I h => ld_glob I hg hm ⟨v, H, I, r, h⟩ hd
variable {a b : Expr} {ta tb : TE} {pos : Pos}
def PC (X : Cx) (op : CmpOp) (a b : Expr) (t : TE) : Prop :=
 ∀ (pins : List (Addr × Obj)) (s : Shared) (σ : St) (H : Hp) (Q : VK), Inv X pins σ H s → t σ H Q →
  wpAny (model X.prog X.w) X.A (eval a X.env) (fun v s₁ => wpAny (model X.prog X.w) X.A (eval b X.env) (fun u s₂ => wpAny (model X.prog X.w) X.A (compareOp op v u) (EP X pins σ Q) X.xe s₂) X.xe s₁) X.xe s
def tB (t : TE) : TT := fun σ H Q => t σ H fun x H1 => ∃ c, x = .bl c /\ Q c H1
theorem pe_cmp {op : CmpOp} {t : TE} (h : PC X op a b t) (h1 : behindInMarks op b = false := by first | exact nobehind _ (by decide) (by decide) | rfl) : PE X (.Compare a [op] [b] pos) t := fun pins s σ H Q I hw => wpAny_Compare1 (h pins s σ H Q I hw) h1
theorem pt_cmp {op : CmpOp} {t : TE} (h : PC X op a b t) (h1 : behindInMarks op b = false := by first | exact nobehind _ (by decide) (by decide) | rfl) : PT X (.Compare a [op] [b] pos) (tB t) := by
 intro pins s σ H Q I hw
 refine wpAny_isTrue_Compare1 (thn (h pins s σ H _ I hw) fun v s1 h1 => thn h1 fun u s2 h2 => thn h2 fun c s3 ⟨x, H1, I1, r1, q1⟩ => ?_) h1
 obtain ⟨d, rfl, q⟩ := q1
 cases r1
 exact wpAny_truthy_bool ⟨H1, I1, q⟩
theorem pt_val {e : Expr} {t : TE} (h : PE X e t) (he : ∀ whole, isTrue e X.env whole = (do let v ← whole; standAt e.pos; holding [v] (truthy v)) := by intro _; rfl) : PT X e (tB t) := by
 intro pins s σ H Q I hw
 refine isTrue_plain (thn (h pins s σ H _ I hw) fun v s1 ⟨x, H1, I1, r1, q1⟩ => ?_) (he _)
 obtain ⟨d, rfl, q⟩ := q1
 cases r1
 exact wpAny_truthy_bool ⟨H1, I1, q⟩
variable {tA tB' : TT} {rest : List Expr}
def tAnd (t u : TT) : TT := fun σ H Q => t σ H fun c H1 => if c = true then u σ H1 Q else Q false H1
def tOr (t u : TT) : TT := fun σ H Q => t σ H fun c H1 => if c = true then Q true H1 else u σ H1 Q
def tNot (t : TT) : TT := fun σ H Q => t σ H fun c H1 => Q (!c) H1
theorem pw_and1 (ha : PT X a tA) : PW X (.BoolOp .And [a] pos) tA := by
 intro wh pins s σ H Q I h
 refine isTrue_and (thn (ha pins s σ H Q I h) fun c s1 e => ?_)
 cases c with
 | true => exact isTrue_and_nil e
 | false => exact e
theorem pw_or1 (ha : PT X a tA) : PW X (.BoolOp .Or [a] pos) tA := by
 intro wh pins s σ H Q I h
 refine isTrue_or (thn (ha pins s σ H Q I h) fun c s1 e => ?_)
 cases c with
 | false => exact isTrue_or_nil e
 | true => exact e
theorem pw_and (ha : PT X a tA) (hb : PW X (.BoolOp .And (b :: rest) pos) tB') : PW X (.BoolOp .And (a :: b :: rest) pos) (tAnd tA tB') := by
 intro wh pins s σ H Q I h
 refine isTrue_and (thn (ha pins s σ H _ I h) fun c s1 ⟨H1, I1, q1⟩ => ?_)
 cases c with
 | true => exact hb wh pins s1 σ H1 Q I1 q1
 | false => exact ⟨H1, I1, q1⟩
theorem pw_or (ha : PT X a tA) (hb : PW X (.BoolOp .Or (b :: rest) pos) tB') : PW X (.BoolOp .Or (a :: b :: rest) pos) (tOr tA tB') := by
 intro wh pins s σ H Q I h
 refine isTrue_or (thn (ha pins s σ H _ I h) fun c s1 ⟨H1, I1, q1⟩ => ?_)
 cases c with
 | true => exact ⟨H1, I1, q1⟩
 | false => exact hb wh pins s1 σ H1 Q I1 q1
theorem pt_not (ha : PT X a tA) : PT X (.UnaryOp .Not a pos) (tNot tA) := by
 intro pins s σ H Q I h
 exact isTrue_not (ha pins s σ H (fun c H1 => Q (!c) H1) I h)
def tAndV (ta tb : TE) : TE := fun σ H Q => ta σ H fun x H1 => ∃ c, x = .bl c /\ if c = true then tb σ H1 Q else Q (.bl false) H1
theorem pe_one {op} {t : TE} (h : PE X a t) : PE X (.BoolOp op [a] pos) t := fun pins s σ H Q I hw => BoolOp_one (h pins s σ H Q I hw)
theorem pe_and (ha : PE X a ta) (hb : PE X (.BoolOp .And (b :: rest) pos) tb) : PE X (.BoolOp .And (a :: b :: rest) pos) (tAndV ta tb) := by
 intro pins s σ H Q I h
 refine BoolOp_and (thn (ha pins s σ H _ I h) fun v s1 ⟨x, H1, I1, r1, q1⟩ => ?_)
 obtain ⟨c, rfl, q1⟩ := q1
 cases r1
 refine wpAny_truthy_bool ?_
 cases c with
 | true => exact hb pins s1 σ H1 Q I1 q1
 | false => exact ⟨.bl false, H1, I1, rfl, q1⟩
def tIf (t : TT) (ta tb : TE) : TE := fun σ H Q => t σ H fun c H1 => if c = true then ta σ H1 Q else tb σ H1 Q
theorem pe_ifExp {c : Expr} (hc : PT X c tA) (ha : PE X a ta) (hb : PE X b tb) : PE X (.IfExp c a b pos) (tIf tA ta tb) := by
 intro pins s σ H Q I h
 refine wpAny_IfExp (thn (hc pins s σ H _ I h) fun d s1 ⟨H1, I1, q1⟩ => ?_)
 cases d with
 | true => exact ha pins s1 σ H1 Q I1 q1
 | false => exact hb pins s1 σ H1 Q I1 q1
end
end L2
namespace L2
open PySem PySem.Spec PyProof.Rows
def SqL (K : PySem.W.Frag) (H : Hp) (a : Addr) (xs : List V) : Prop :=
 Rd H a (.lst xs) ∨
  ∃ (o : Obj) (its : Array Value) (n : Nat), K.lookup a = some o ∧ o.cls = .type "list" ∧ o.dict = none ∧ o.data = .seq its n ∧ its.size ≤ sizeLine ∧ Vals xs its.toList
def SqT (K : PySem.W.Frag) (H : Hp) (a : Addr) (xs : List V) : Prop :=
 Rd H a (.tup xs) ∨
  ∃ (o : Obj) (its : Array Value) (n : Nat), K.lookup a = some o ∧ o.cls = .type "tuple" ∧ o.data = .seq its n ∧ its.size ≤ sizeLine ∧ Vals xs its.toList
def absV : Value -> Option V
 | .none => some .non
 | .bool b => some (.bl b)
 | .int i _ => some (.int i)
 | .str x _ => some (.str x)
 | .bytes b _ => some (.byt b)
 | .float b _ => some (.flt b)
 | .ref a => some (.ref a)
 | .type n => some (.ty n)
 | _ => none
theorem RelV.abs {x : V} {u : Value} (r : RelV x u) : absV u = some x := by
 cases x with
 | non => cases r; rfl
 | bl _ => cases r; rfl
 | int _ => obtain ⟨t, rfl⟩ := r; rfl
 | str _ => obtain ⟨t, rfl⟩ := r; rfl
 | byt _ => obtain ⟨t, rfl⟩ := r; rfl
 | flt _ => obtain ⟨t, rfl⟩ := r; rfl
 | ref _ => cases r; rfl
 | ty _ => cases r; rfl
theorem RelV.inj {x y : V} {u : Value} (r : RelV x u) (q : RelV y u) : x = y := Option.some.inj (r.abs.symm.trans q.abs)
theorem Vals.inj : ∀ {xs ys : List V} {us : List Value}, Vals xs us -> Vals ys us -> xs = ys
 | _, _, _, .nil, .nil => rfl
 | _, _, _, .cons r t, .cons r' t' => by rw [r.inj r', Vals.inj t t']
section
variable {X : Cx} {pins : List (Addr × Obj)} {σ : St} {H : Hp} {s : Shared} {a : Addr} {xs ys : List V}
theorem SqL.of {K : PySem.W.Frag} (h : H a = some (.lst xs)) : SqL K H a xs := .inl (.inl h)
theorem SqT.of {K : PySem.W.Frag} (h : H a = some (.tup xs)) : SqT K H a xs := .inl (.inl h)
theorem Inv.list (I : Inv X pins σ H s) (h : SqL X.K H a xs) : ∃ its : List Value, Vals xs its /\ PlainL s.heap a its.toArray /\ xs.length ≤ sizeLine := by
 rcases h with h | ⟨o, its, n, hk, hc, hd, hs, hz, r⟩
 . obtain ⟨z, its, n, r, e⟩ := h.ok I.hok
   exact ⟨its, r, ⟨_, n, e, rfl, rfl, rfl⟩, z⟩
 . refine ⟨its.toList, r, ⟨o, n, I.kIn a o hk, hc, hd, by simpa using hs⟩, ?_⟩
   have e := r.length
   simp only [Array.length_toList] at e
   omega
theorem Inv.tuple (I : Inv X pins σ H s) (h : SqT X.K H a xs) : ∃ its : List Value, Vals xs its /\ IsTup s.heap a its.toArray /\ xs.length ≤ sizeLine := by
 rcases h with h | ⟨o, its, n, hk, hc, hs, hz, r⟩
 . obtain ⟨z, its, r, p⟩ := h.ok I.hok
   exact ⟨its, r, p, z⟩
 . refine ⟨its.toList, r, ⟨o, I.kIn a o hk, hc, n, by simpa using hs⟩, ?_⟩
   have e := r.length
   simp only [Array.length_toList] at e
   omega
theorem Inv.list_inj (I : Inv X pins σ H s) (h : SqL X.K H a xs) (h' : SqL X.K H a ys) : xs = ys := by
 obtain ⟨its, r, ⟨o, n, e, _, _, d⟩, _⟩ := I.list h
 obtain ⟨its', r', ⟨o', n', e', _, _, d'⟩, _⟩ := I.list h'
 rw [e] at e'; cases e'
 rw [d] at d'
 injection d' with d1 _
 have : its = its' := by simpa using congrArg Array.toList d1
 subst this
 exact r.inj r'
theorem Inv.tuple_inj (I : Inv X pins σ H s) (h : SqT X.K H a xs) (h' : SqT X.K H a ys) : xs = ys := by
 obtain ⟨its, r, ⟨o, e, _, n, d⟩, _⟩ := I.tuple h
 obtain ⟨its', r', ⟨o', e', _, n', d'⟩, _⟩ := I.tuple h'
 rw [e] at e'; cases e'
 rw [d] at d'
 injection d' with d1 _
 have : its = its' := by simpa using congrArg Array.toList d1
 subst this
 exact r.inj r'
end
abbrev Cx.wish (X : Cx) (E : Value -> Shared -> Prop) : Cx := { X with xe := E }
abbrev Cx.nox (X : Cx) : Cx := X.wish fun _ _ => False
theorem Cx.Ok.wish {X : Cx} (ok : X.Ok) (E : Value -> Shared -> Prop) : (X.wish E).Ok :=
 ⟨ok.mod, ok.kind, ok.glob, ok.blt, ok.above, ok.inj, ok.has, ok.cab, ok.hd, ok.frames, ok.stk, ok.exf, ok.bs, ok.bsz, ok.noex, ok.exfs, ok.funs, ok.frf⟩
theorem Cx.Ok.unwish {X : Cx} {E : Value -> Shared -> Prop} (ok : (X.wish E).Ok) : X.Ok :=
 ⟨ok.mod, ok.kind, ok.glob, ok.blt, ok.above, ok.inj, ok.has, ok.cab, ok.hd, ok.frames, ok.stk, ok.exf, ok.bs, ok.bsz, ok.noex, ok.exfs, ok.funs, ok.frf⟩
section
variable {X : Cx} {pins : List (Addr × Obj)} {σ : St} {H : Hp} {s : Shared} {E : Value → Shared → Prop}
theorem Inv.wish (I : Inv X pins σ H s) (E : Value -> Shared -> Prop) : Inv (X.wish E) pins σ H s := ⟨I.ok.wish E, I.os, I.bare, I.base, I.loc, I.cell, I.free, I.freeC, I.pin, I.hok, I.len⟩
theorem Inv.unwish (I : Inv (X.wish E) pins σ H s) : Inv X pins σ H s := ⟨I.ok.unwish, I.os, I.bare, I.base, I.loc, I.cell, I.free, I.freeC, I.pin, I.hok, I.len⟩
theorem SP.unwish {D : Ends} {f : Flow} {s' : Shared} (h : SP (X.wish E) pins D f s') : SP X pins D f s' := by
 cases f with
 | next => obtain ⟨σ', H', I, q⟩ := h; exact ⟨σ', H', I.unwish, q⟩
 | brk => obtain ⟨σ', H', I, q⟩ := h; exact ⟨σ', H', I.unwish, q⟩
 | cont => obtain ⟨σ', H', I, q⟩ := h; exact ⟨σ', H', I.unwish, q⟩
 | ret u => obtain ⟨v, σ', H', I, r, q⟩ := h; exact ⟨v, σ', H', I.unwish, r, q⟩
theorem PSs.nox {st : List Stmt} {t : TS} (h : PSs X.nox st t) : PSs X st t := fun pins s σ H D I hw =>
 wpAny_mono (h pins s σ H D (I.wish _) hw) (fun _ _ q => q.unwish) fun _ _ z => False.elim z
end
section
variable {X : Cx} {st : Stmt} {rest : List Stmt} {t u : TS} {e : Expr} {te : TE} {pos : Pos}
def tNext : TS := fun D σ H => D.nx σ H
def tSeq (t u : TS) : TS := fun D σ H => t { D with nx := u D } σ H
theorem pss_nil : PSs X [] tNext := fun _ _ σ H _ I h => wpAny_execs_nil ⟨σ, H, I, h⟩
theorem q3z (h1 : PS X st t) (h2 : PSs X rest u) : PSs X (st :: rest) (tSeq t u) := by
 intro pins s σ H D I h
 refine wpAny_execs_cons (thn (h1 pins s σ H { D with nx := u D } I h) fun f s1 q => ?_)
 cases f with
 | next =>
   obtain ⟨σ', H', I', q⟩ := q
   exact h2 pins s1 σ' H' D I' q
 | ret v => exact q
 | brk => exact q
 | cont => exact q
theorem q4z (h1 : PS X st t) : PSs X [st] t := by
 intro pins s σ H D I h
 refine wpAny_execs_cons (thn (h1 pins s σ H D I h) fun f s1 q => ?_)
 cases f with
 | next => exact wpAny_execs_nil q
 | ret v => exact q
 | brk => exact q
 | cont => exact q
theorem Inv.quiet {pins : List (Addr × Obj)} {σ : St} {H : Hp} {s : Shared} (I : Inv X pins σ H s) : interactive X.env = false := by simp [interactive, I.ok.kind]
def tDrop (te : TE) : TS := fun D σ H => te σ H fun _ H1 => D.nx σ H1
theorem ps_expr (he : PE X e te) (hs : swapsWith e none pos.line X.env = pure false := by rfl) : PS X (.Expr e pos) (tDrop te) := by
 intro pins s σ H D I h
 exact wpAny_Expr_any (thn (he pins s σ H _ I h) fun v s1 ⟨x, H1, I1, r1, q1⟩ => ⟨σ, H1, I1, q1⟩) I.quiet hs
def tRet (te : TE) : TS := fun D σ H => te σ H D.rt
theorem q8z (he : PE X e te) : PS X (.Return (some e) pos) (tRet te) := by
 intro pins s σ H D I h
 exact wpAny_Return_some (thn (he pins s σ H _ I h) fun v s1 ⟨x, H1, I1, r1, q1⟩ => ⟨x, σ, H1, I1, r1, q1⟩)
def tIfS (c : TT) (t u : TS) : TS := fun D σ H => c σ H fun b H1 => if b = true then t D σ H1 else u D σ H1
theorem ps_if {c : Expr} {a b : List Stmt} {tc : TT} (hc : PT X c tc) (ha : PSs X a t) (hb : PSs X b u) : PS X (.If c a b pos) (tIfS tc t u) := by
 intro pins s σ H D I h
 refine wpAny_If (thn (hc pins s σ H _ I h) fun d s1 ⟨H1, I1, q1⟩ => ?_)
 cases d with
 | true => exact ha pins s1 σ H1 D I1 q1
 | false => exact hb pins s1 σ H1 D I1 q1
end
abbrev TG := V -> St -> Hp -> (St -> Hp -> Prop) -> Prop
abbrev TGs := List V -> St -> Hp -> (St -> Hp -> Prop) -> Prop
def PG (X : Cx) (target : Expr) (t : TG) : Prop :=
 ∀ (pins : List (Addr × Obj)) (s : Shared) (σ : St) (H : Hp) (v : V) (u : Value) (Q : St → Hp → Prop), Inv X pins σ H s → RelV v u → t v σ H Q →
  wpAny (model X.prog X.w) X.A (assign target X.env u) (fun _ s' => ∃ σ' H', Inv X pins σ' H' s' ∧ Q σ' H') X.xe s
def PGs (X : Cx) (ts : List Expr) (t : TGs) : Prop :=
 ∀ (pins : List (Addr × Obj)) (s : Shared) (σ : St) (H : Hp) (vs : List V) (us : List Value) (Q : St → Hp → Prop), Inv X pins σ H s → Vals vs us → t vs σ H Q →
  wpAny (model X.prog X.w) X.A (assignInOrder ((assignEach ts X.env).map (·.2)) us) (fun _ s' => ∃ σ' H', Inv X pins σ' H' s' ∧ Q σ' H') X.xe s
abbrev TSet := V -> V -> V -> Hp -> (Hp -> Prop) -> Prop
def PSet (X : Cx) (t : TSet) : Prop :=
 ∀ (pins : List (Addr × Obj)) (s : Shared) (σ : St) (H : Hp) (o i v : V) (ov iv u : Value) (Q : Hp → Prop), Inv X pins σ H s → RelV o ov → RelV i iv → RelV v u → t o i v H Q →
  wpAny (model X.prog X.w) X.A (setItem ov iv u) (fun _ s' => ∃ H', Inv X pins σ H' s' ∧ Q H') X.xe s
section
variable {X : Cx} {pos : Pos}
def gName (i : Nat) : TG := fun v σ H Q => Q (σ.set i (some v)) H
theorem pg_name {i : Nat} {x : Str} (hN : X.N.Nodup) (hi : X.N[i]? = some x) (hx : Loc X.env.scope x) (hf : X.fn x = true ∨ X.env.scope.names.lookup x = some .local := by first | exact .inl rfl | exact .inr rfl | assumption) : PG X (.Name x pos) (gName i) := by
 intro pins s σ H v u Q I r h
 exact wpAny_assign_Name (store_ok I hN hi hx r (fun s' I' => ⟨_, H, I', h⟩) hf)
def gNil : TGs := fun vs σ H Q => vs = [] /\ Q σ H
def gCons (t : TG) (u : TGs) : TGs := fun vs σ H Q => ∃ v r, vs = v :: r /\ t v σ H fun σ' H' => u r σ' H' Q
theorem pgs_nil : PGs X [] gNil := by
 intro pins s σ H vs us Q I r h
 obtain ⟨e, h⟩ := h
 subst e
 cases r
 exact assignInOrder_nil ⟨σ, H, I, h⟩
theorem pgs_cons {e : Expr} {es : List Expr} {t : TG} {u : TGs} (h1 : PG X e t) (h2 : PGs X es u)
 (hs : (assignEach (e :: es) X.env).map (·.2) = assign e X.env :: (assignEach es X.env).map (·.2) := by rfl) : PGs X (e :: es) (gCons t u) := by
 intro pins s σ H vs us Q I r h
 obtain ⟨v, vr, e1, h⟩ := h
 subst e1
 cases r with
 | cons r rr =>
   rw [hs]
   refine assignInOrder_cons (thn (h1 pins s σ H _ _ _ I r h) fun _ s1 ⟨σ1, H1, I1, q1⟩ => ?_)
   exact h2 pins s1 σ1 H1 _ _ Q I1 rr q1
def gTup (K : PySem.W.Frag) (n : Nat) (t : TGs) : TG := fun v σ H Q => ∃ a xs, v = .ref a /\ SqT K H a xs /\ xs.length = n /\ t xs σ H Q
theorem pg_tup {es : List Expr} {k : Nat} {t : TGs} {n : Nat} (hc : X.calm = true) (h : PGs X es t)
 (hn : (assignEach es X.env).length = n := by rfl) (hst : (assignEach es X.env).findIdx? (·.1) = none := by rfl) : PG X (.Tuple es k pos) (gTup X.K n t) := by
 intro pins s σ H v u Q I r hw
 obtain ⟨a, xs, e1, hq, hl, hw⟩ := hw
 subst e1
 cases r
 obtain ⟨its, rv, ht, hz⟩ := I.tuple hq
 refine assign_Tuple_tuple (I.ok.hd hc) ht (by simp [hn, ← hl, rv.length]) hst fun h' hx => ?_
 have I1 : Inv X pins σ H { s with heap := h' } := I.kept (t' := s.toks) fun b o e => hx b o (Nat.ne_of_lt (Heap.lt_size e)) e
 exact h pins _ σ H xs _ Q I1 (by simpa using rv) hw
def gSub (to ti : TE) (t : TSet) : TG := fun v σ H Q => to σ H fun o H1 => ti σ H1 fun i H2 => t o i v H2 fun H3 => Q σ H3
theorem pg_sub {o i : Expr} {to ti : TE} {t : TSet} (ho : PE X o to) (hi : PE X i ti) (hs : PSet X t)
 (ha : ∀ v, assign (.Subscript o i pos) X.env v = (do
  let ov ← holding [v] (eval o X.env)
  let iv ← holding [v, ov] (eval i X.env)
  standAt pos
  holding [v, ov, iv] (setItem ov iv v)
  release [v, ov, iv] []) := by intro _; rfl) : PG X (.Subscript o i pos) (gSub to ti t) := by
 intro pins s σ H v u Q I r h
 rw [ha]
 refine wpAny_bind (wpAny_holding (thn (ho pins s σ H _ I h) fun ov s1 ⟨x, H1, I1, r1, q1⟩ => ?_))
 refine wpAny_bind (wpAny_holding (thn (hi pins s1 σ H1 _ I1 q1) fun iv s2 ⟨y, H2, I2, r2, q2⟩ => ?_))
 refine wpAny_bind (wpAny_standAt (wpAny_bind (wpAny_holding (thn (hs pins s2 σ H2 x y v ov iv u _ I2 r1 r2 r q2) fun _ s3 ⟨H3, I3, q3⟩ => ?_))))
 exact wpAny_release ⟨σ, H3, I3, q3⟩
def tAsg (te : TE) (g : TG) : TS := fun D σ H => te σ H fun x H1 => g x σ H1 D.nx
theorem ps_asg {tg e : Expr} {te : TE} {g : TG} (he : PE X e te) (hg : PG X tg g) (hs : swapsWithSole [tg] e pos.line X.env = pure false := by rfl) (hw : swappedStores [tg] e X.env = pure none := by rfl)
 (h1 : (assignEach [tg] X.env).map (·.2) = [assign tg X.env] := by rfl) : PS X (.Assign [tg] e pos) (tAsg te g) := by
 intro pins s σ H D I h
 refine wpAny_Assign_stores (thn (he pins s σ H _ I h) fun v s1 ⟨x, H1, I1, r1, q1⟩ => ?_) hs hw
 rw [h1]
 exact thn (hg pins s1 σ H1 x v _ I1 r1 q1) fun _ s2 q => q
theorem q12z {i : Nat} {x : Str} {e : Expr} {te : TE} {pos' : Pos} (hN : X.N.Nodup) (hi : X.N[i]? = some x) (hx : Loc X.env.scope x) (he : PE X e te) (hs : swapsWith e (some (.Name x pos')) pos.line X.env = pure false := by rfl) (hf : X.fn x = true ∨ X.env.scope.names.lookup x = some .local := by first | exact .inl rfl | exact .inr rfl | assumption) :
 PS X (.Assign [.Name x pos'] e pos) (tAsg te (gName i)) := by
 intro pins s σ H D I h
 refine wpAny_Assign_Name (thn (he pins s σ H _ I h) fun v s1 ⟨y, H1, I1, r1, q1⟩ => ?_) hs
 exact store_ok I1 hN hi hx r1 (fun s2 I2 => ⟨_, H1, I2, q1⟩) hf
end
section
variable {X : Cx} {pos : Pos}
def tWhile (c : TT) (tb : TS) : TS := fun D σ H => ∃ W : Nat -> St -> Hp -> Prop, (∃ m, W m σ H) /\ ∀ m σ H, W m σ H ->
 c σ H fun b H1 => if b = true then ∃ N : St → Hp → Prop, (∀ σ' H', N σ' H' → ∃ m', m' < m ∧ W m' σ' H') ∧ tb { D with nx := N, ct := N, bk := D.nx } σ H1 else D.nx σ H1
theorem ps_while {c : Expr} {body : List Stmt} {tc : TT} {tb : TS} (hp : PassesOwn (model X.prog X.w) X.A X.env X.xe) (hc : PT X c tc) (hb : PSs X body tb) : PS X (.While c body [] pos) (tWhile tc tb) := by
 intro pins s σ H D I h
 obtain ⟨W, ⟨m0, w0⟩, turn⟩ := h
 refine wpAny_While (codeAny_whileLoop (fun n s' => ∃ σ' H', Inv X pins σ' H' s' ∧ W n σ' H') ?_ m0 ⟨σ, H, I, w0⟩)
 rintro n s1 ⟨σ1, H1, I1, w1⟩
 refine wpAny_passesOwn hp (thn (hc pins s1 σ1 H1 _ I1 (turn n σ1 H1 w1)) fun b s2 ⟨H2, I2, q2⟩ => ?_)
 cases b with
 | true =>
   obtain ⟨N, hN, q2⟩ := q2
   rw [if_pos rfl]
   refine wpAny_passesOwn hp (thn (hb pins s2 σ1 H2 _ I2 q2) fun f s3 q3 => ?_)
   cases f with
   | next =>
     obtain ⟨σ3, H3, I3, n3⟩ := q3
     obtain ⟨m', hm, w3⟩ := hN σ3 H3 n3
     exact ⟨m', hm, σ3, H3, I3, w3⟩
   | cont =>
     obtain ⟨σ3, H3, I3, n3⟩ := q3
     obtain ⟨m', hm, w3⟩ := hN σ3 H3 n3
     exact ⟨m', hm, σ3, H3, I3, w3⟩
   | brk => exact q3
   | ret v => exact q3
 | false =>
   rw [if_neg Bool.false_ne_true]
   exact wpAny_execs_nil ⟨σ1, H2, I2, q2⟩
end
structure It where
 go : Nat → Hp → Prop
 yld : Nat → Hp → V → Hp → Prop
 stop : Nat → Hp → Prop
def FpOk (X : Cx) (pins : List (Addr × Obj)) (H : Hp) (b : Addr) : Prop :=
 H b = none ∧ b ≠ X.env.locals ∧ b ∉ X.fs ∧ (b ∈ X.ex ∨ X.s_0.heap.objs.size ≤ b) ∧ (∀ x c, X.env.cells.lookup x = some c → c ≠ b) ∧ ∀ p ∈ X.pn ++ pins, p.1 ≠ b
theorem Inv.fpOk {X : Cx} {pins : List (Addr × Obj)} {σ : St} {H H' : Hp} {s : Shared} {b : Addr} (I : Inv X pins σ H s) (hb : s.heap.objs.size ≤ b) (hn : H' b = none) : FpOk X pins H' b := by
 refine ⟨hn, Nat.ne_of_gt (Nat.lt_of_lt_of_le I.lt hb), I.nofs hb, .inr (Nat.le_trans I.sz hb), fun x c e z => ?_, fun p hp z => ?_⟩
 . obtain ⟨v, q⟩ := I.cell x c e
   exact absurd (Nat.lt_of_lt_of_le q.lt (by rw [z]; exact hb)) (Nat.lt_irrefl _)
 . exact absurd (Nat.lt_of_lt_of_le (Heap.lt_size (I.pin p hp).1) (by rw [z]; exact hb)) (Nat.lt_irrefl _)
structure Turn (P : Program) (w : World) (K : PySem.W.Frag) (tg : Expr) (J : It) (fp : List Addr) (it : Addr) (tn : Nat -> Heap -> Prop) : Prop where
 mem : it ∈ fp
 obj : ∀ i h, tn i h → ∀ b ∈ fp, ∃ o, h.get? b = some o ∧ ∀ v, o.data ≠ .cell v
 keep : ∀ i h h', tn i h → (∀ b ∈ fp, ∀ o, h.get? b = some o → h'.get? b = some o) → tn i h'
 item : ∀ (X : Cx), X.prog = P → X.w = w → X.K = K → X.calm = true → ∀ (i : Nat) (pins : List (Addr × Obj)) (s : Shared) (σ : St) (H : Hp) (E : Value → Shared → Prop), Inv X pins σ H s → (∀ b ∈ fp, FpOk X pins H b) → tn i s.heap → J.go i H →
  wpAny (model P w) X.A (pyNext (.ref it)) (fun r s1 => ∃ u, r = some u ∧
   wpAny (model P w) X.A (letOwnedTupleGo tg (.ref it) u) (fun _ s2 => ∃ x H', Inv X pins σ H' s2 ∧ RelV x u ∧ J.yld i H x H' ∧ tn (i + 1) s2.heap ∧ ∀ b ∈ fp, H' b = none) E s1) E s
 done : ∀ (X : Cx), X.prog = P → X.w = w → X.K = K → X.calm = true → ∀ (i : Nat) (pins : List (Addr × Obj)) (s : Shared) (σ : St) (H : Hp) (E : Value → Shared → Prop), Inv X pins σ H s → (∀ b ∈ fp, FpOk X pins H b) → tn i s.heap → J.stop i H →
  wpAny (model P w) X.A (pyNext (.ref it)) (fun r s1 => r = none ∧ Inv X pins σ H s1) E s
 self : ∀ (A : Around) (i : Nat) (s : Shared) (Q : Value → Shared → Prop) (E : Value → Shared → Prop), tn i s.heap → Q (.ref it) s → wpAny (model P w) A (pyIter (.ref it)) Q E s
abbrev TI := St -> Hp -> (It -> Hp -> Prop) -> Prop
def PIE (X : Cx) (pins : List (Addr × Obj)) (σ : St) (tg : Expr) (R : It -> Hp -> Prop) (itv : Value) (s2 : Shared) : Prop :=
 ∃ (it : Addr) (fp : List Addr) (tn : Nat → Heap → Prop) (J : It) (H' : Hp), itv = .ref it ∧ Inv X pins σ H' s2 ∧ Turn X.prog X.w X.K tg J fp it tn ∧ tn 0 s2.heap ∧ (∀ b ∈ fp, FpOk X pins H' b) ∧ R J H'
def PI (X : Cx) (tg iter : Expr) (wi : TI) : Prop :=
 ∀ (pins : List (Addr × Obj)) (s : Shared) (σ : St) (H : Hp) (R : It → Hp → Prop), Inv X pins σ H s → wi σ H R →
  wpAny (model X.prog X.w) X.A (eval iter X.env) (fun v s1 => wpAny (model X.prog X.w) X.A (pyIter v) (PIE X pins σ tg R) X.xe s1) X.xe s
theorem go_of {M : Model} {A : Around} {E : Value -> Shared -> Prop} {s : Shared} {tg : Expr} {it : Addr} {u : Value} {o : Obj} {n : String} {vs : Array Value} {Q : Unit -> Shared -> Prop} (ho : s.heap.get? it = some o) (hc : o.cls = .type n) (hd : o.data = .fields vs)
 (hn : ["enumerate", "zip", "dict_itemiterator", "dict_reverseitemiterator", "odict_iterator", "itertools.zip_longest", "itertools.pairwise"].contains n = false) (hQ : Q () s) : wpAny M A (letOwnedTupleGo tg (.ref it) u) Q E s := by
 unfold letOwnedTupleGo
 cases tg <;> first
  | exact wpAny_pure hQ
  | (cases u <;> first
   | exact wpAny_pure hQ
   | (refine wpAny_bind (wpAny_load ho ?_)
      rw [hc, hd]
      show wpAny M A (if (["enumerate", "zip", "dict_itemiterator", "dict_reverseitemiterator", "odict_iterator", "itertools.zip_longest", "itertools.pairwise"].contains n && vs[0]? == some (rawInt _)) = true then _ else _) Q E s
      rw [if_neg (by intro h; rw [hn, Bool.false_and] at h; cases h)]
      exact wpAny_pure hQ))
def Itl (K : PySem.W.Frag) (a : Addr) : It :=
 ⟨fun i H => ∃ xs x, SqL K H a xs ∧ xs[i]? = some x, fun i H x H' => H' = H ∧ ∀ xs, SqL K H a xs → xs[i]? = some x, fun i H => ∃ xs, SqL K H a xs ∧ xs.length ≤ i⟩
def Itt (K : PySem.W.Frag) (a : Addr) : It :=
 ⟨fun i H => ∃ xs x, SqT K H a xs ∧ xs[i]? = some x, fun i H x H' => H' = H ∧ ∀ xs, SqT K H a xs → xs[i]? = some x, fun i H => ∃ xs, SqT K H a xs ∧ xs.length ≤ i⟩
def Itr (lo : Int) (n : Nat) : It := ⟨fun i _ => i < n, fun i H x H' => H' = H /\ x = .int (lo + i), fun i _ => n ≤ i⟩
theorem turn_list {P : Program} {w : World} {K : PySem.W.Frag} {tg : Expr} (a it : Addr) : Turn P w K tg (Itl K a) [it] it (fun i h => h.IsListIter it a i) where
 mem := by simp
 obj := fun i h st b hb => by
  have e : b = it := by simpa using hb
  subst e
  obtain ⟨o, e, c, d⟩ := st
  exact ⟨o, e, fun v z => by rw [d] at z; cases z⟩
 keep := fun i h h' st k => st.at fun o e => k it (by simp) o e
 item := by
  intro X hP hw hK hc i pins s σ H E I hf st hg
  subst hP hw hK
  obtain ⟨xs, x, hq, hx⟩ := hg
  obtain ⟨its, rv, p, hz⟩ := I.list hq
  obtain ⟨u, hu, ru⟩ := rv.get hx
  obtain ⟨f0, f1, f2, f3, f4, f5⟩ := hf it (by simp)
  refine wpAny_pyNext_list_item st p.isList (x := u) (by simpa using hu) fun h' st' sb => ?_
  have I1 : Inv X pins σ H { s with heap := h' } := I.turned (t' := s.toks) (fun b o hb e => (sb.2 b hb).trans e) f0 f1 f3 f4 f5
  obtain ⟨o, e, c, d⟩ := id st'
  exact ⟨u, rfl, go_of (s := { s with heap := h' }) e c d (by decide) ⟨x, H, I1, ru, ⟨rfl, fun ys hy => by rw [I.list_inj hy hq]; exact hx⟩, st', fun b hb => (hf b hb).1⟩⟩
 done := by
  intro X hP hw hK hc i pins s σ H E I hf st hg
  subst hP hw hK
  obtain ⟨xs, hq, hx⟩ := hg
  obtain ⟨its, rv, p, hz⟩ := I.list hq
  obtain ⟨f0, f1, f2, f3, f4, f5⟩ := hf it (by simp)
  have hl := rv.length
  exact wpAny_pyNext_list_end (I.ok.hd hc) st p.isList (by simp; omega) fun h' eb => ⟨rfl, I.turned (t' := s.toks) (fun b o hb e => eb b o hb e) f0 f1 f3 f4 f5⟩
 self := fun _ _ _ _ _ st h => wpAny_pyIter_listiter st h
theorem turn_tuple {P : Program} {w : World} {K : PySem.W.Frag} {tg : Expr} (a it : Addr) : Turn P w K tg (Itt K a) [it] it (fun i h => h.IsTupleIter it a i) where
 mem := by simp
 obj := fun i h st b hb => by
  have e : b = it := by simpa using hb
  subst e
  obtain ⟨o, e, c, d⟩ := st
  exact ⟨o, e, fun v z => by rw [d] at z; cases z⟩
 keep := fun i h h' st k => st.at fun o e => k it (by simp) o e
 item := by
  intro X hP hw hK hc i pins s σ H E I hf st hg
  subst hP hw hK
  obtain ⟨xs, x, hq, hx⟩ := hg
  obtain ⟨its, rv, p, hz⟩ := I.tuple hq
  obtain ⟨u, hu, ru⟩ := rv.get hx
  obtain ⟨f0, f1, f2, f3, f4, f5⟩ := hf it (by simp)
  refine wpAny_pyNext_tuple_item st (show s.heap.IsTuple a its.toArray from p) (x := u) (by simpa using hu) fun h' st' sb => ?_
  have I1 : Inv X pins σ H { s with heap := h' } := I.turned (t' := s.toks) (fun b o hb e => (sb.2 b hb).trans e) f0 f1 f3 f4 f5
  obtain ⟨o, e, c, d⟩ := id st'
  exact ⟨u, rfl, go_of (s := { s with heap := h' }) e c d (by decide) ⟨x, H, I1, ru, ⟨rfl, fun ys hy => by rw [I.tuple_inj hy hq]; exact hx⟩, st', fun b hb => (hf b hb).1⟩⟩
 done := by
  intro X hP hw hK hc i pins s σ H E I hf st hg
  subst hP hw hK
  obtain ⟨xs, hq, hx⟩ := hg
  obtain ⟨its, rv, p, hz⟩ := I.tuple hq
  obtain ⟨f0, f1, f2, f3, f4, f5⟩ := hf it (by simp)
  have hl := rv.length
  exact wpAny_pyNext_tuple_end (I.ok.hd hc) st (show s.heap.IsTuple a its.toArray from p) (by simp; omega) fun h' eb => ⟨rfl, I.turned (t' := s.toks) (fun b o hb e => eb b o hb e) f0 f1 f3 f4 f5⟩
 self := fun _ _ _ _ _ st h => wpAny_pyIter_tupleiter st h
theorem turn_range {P : Program} {w : World} {K : PySem.W.Frag} {tg : Expr} (it : Addr) (lo : Int) (n : Nat) : Turn P w K tg (Itr lo n) [it] it (fun i h => IsRangeIter h it (lo + (i : Nat) * 1) ((n : Int) - (i : Nat)) 1) where
 mem := by simp
 obj := fun i h st b hb => by
  have e : b = it := by simpa using hb
  subst e
  exact ⟨_, st, fun v z => by
   have z' : Data.fields _ = Data.cell v := z
   cases z'⟩
 keep := fun i h h' st k => k it (by simp) _ st
 item := by
  intro X hP hw hK hc i pins s σ H E I hf st hg
  subst hP hw hK
  obtain ⟨f0, f1, f2, f3, f4, f5⟩ := hf it (by simp)
  have W := Walks.range (prog := X.prog) (w := X.w) (I.ok.hd hc) it lo 1 n
  refine W.item i s _ _ hg st fun v h' tk hv st' kk => ?_
  obtain ⟨t, rfl⟩ := hv
  have I1 : Inv X pins σ H { s with heap := h', toks := tk } := I.turned (fun b o hb e => kk b o (by simpa using hb) e) f0 f1 f3 f4 f5
  refine ⟨_, rfl, go_of (s := { s with heap := h', toks := tk }) (n := "range_iterator") st' rfl rfl (by decide) ⟨.int (lo + i), H, I1, ⟨t, ?_⟩, ⟨rfl, rfl⟩, st', fun b hb => (hf b hb).1⟩⟩
  rw [Int.mul_one]
 done := by
  intro X hP hw hK hc i pins s σ H E I hf st hg
  subst hP hw hK
  obtain ⟨f0, f1, f2, f3, f4, f5⟩ := hf it (by simp)
  exact wpAny_pyNext_range_end (I.ok.hd hc) st (by have : n ≤ i := hg; omega) fun h' eb => ⟨rfl, I.turned (t' := s.toks) (fun b o hb e => eb b o hb e) f0 f1 f3 f4 f5⟩
 self := fun _ _ _ _ _ st h => wpAny_pyIter_rangeiter st h
end L2
namespace L2
open PySem PySem.Spec PyProof.Rows
section
variable {X : Cx} {tg : Expr}
def iList (K : PySem.W.Frag) (tl : TE) : TI := fun σ H R => tl σ H fun x H1 => ∃ a, x = .ref a /\ (∃ xs, SqL K H1 a xs) /\ R (Itl K a) H1
def iTup (K : PySem.W.Frag) (tl : TE) : TI := fun σ H R => tl σ H fun x H1 => ∃ a, x = .ref a /\ (∃ xs, SqT K H1 a xs) /\ R (Itt K a) H1
theorem pi_list {l : Expr} {tl : TE} (hl : PE X l tl) : PI X tg l (iList X.K tl) := by
 intro pins s σ H R I h
 refine thn (hl pins s σ H _ I h) fun v s1 ⟨x, H1, I1, r1, q1⟩ => ?_
 obtain ⟨a, e, ⟨xs, hq⟩, q⟩ := q1
 subst e
 cases r1
 obtain ⟨its, rv, p, hz⟩ := I1.list hq
 refine wpAny_pyIter_list p.isList ?_
 refine ⟨s1.heap.objs.size, [s1.heap.objs.size], _, _, H1, rfl, I1.kept (t' := s1.toks) fun b o e => Heap.get?_push_of_some _ e, turn_list a _, ⟨_, Heap.get?_push_size _ rfl, rfl, rfl⟩, fun b hb => ?_, q⟩
 have e : b = s1.heap.objs.size := by simpa using hb
 subst e
 exact I1.fpOk (Nat.le_refl _) (I1.hok.fresh (Nat.le_refl _))
theorem pi_tup {l : Expr} {tl : TE} (hl : PE X l tl) : PI X tg l (iTup X.K tl) := by
 intro pins s σ H R I h
 refine thn (hl pins s σ H _ I h) fun v s1 ⟨x, H1, I1, r1, q1⟩ => ?_
 obtain ⟨a, e, ⟨xs, hq⟩, q⟩ := q1
 subst e
 cases r1
 obtain ⟨its, rv, p, hz⟩ := I1.tuple hq
 refine wpAny_pyIter_tuple (show s1.heap.IsTuple a its.toArray from p) ?_
 refine ⟨s1.heap.objs.size, [s1.heap.objs.size], _, _, H1, rfl, I1.kept (t' := s1.toks) fun b o e => Heap.get?_push_of_some _ e, turn_tuple a _, ⟨_, Heap.get?_push_size _ rfl, rfl, rfl⟩, fun b hb => ?_, q⟩
 have e : b = s1.heap.objs.size := by simpa using hb
 subst e
 exact I1.fpOk (Nat.le_refl _) (I1.hok.fresh (Nat.le_refl _))
theorem range_it {pins : List (Addr × Obj)} {σ : St} {H : Hp} {s : Shared} {R : It -> Hp -> Prop} {E : Value -> Shared -> Prop} {lo hi : Int} {t u v : Tok} {tk : Nat} (I : Inv X pins σ H s) (h1 : -(2 ^ 62) ≤ lo) (h2 : lo < 2 ^ 62) (h3 : -(2 ^ 62) ≤ hi) (h4 : hi < 2 ^ 62)
 (q : R (Itr lo (hi - lo).toNat) H) : wpAny (model X.prog X.w) X.A (pyIter (.ref s.heap.objs.size)) (PIE X pins σ tg R) E { s with heap := s.heap.push { cls := .type "range", data := .fields #[.int lo t, .int hi u, .int 1 v] }, toks := tk } := by
 refine wpAny_pyIter_range (IsRange.new ..) (small_one h1 h2 h3 h4) ?_
 have I1 : Inv X pins σ H { s with heap := s.heap.push { cls := .type "range", data := .fields #[.int lo t, .int hi u, .int 1 v] }, toks := tk } := I.kept fun b o e => Heap.get?_push_of_some _ e
 refine ⟨(s.heap.push { cls := .type "range", data := .fields #[.int lo t, .int hi u, .int 1 v] }).objs.size, [(s.heap.push { cls := .type "range", data := .fields #[.int lo t, .int hi u, .int 1 v] }).objs.size], _, _, H, rfl,
  I1.kept (t' := tk) fun b o e => Heap.get?_push_of_some _ e, turn_range _ lo (hi - lo).toNat, ?_, fun b hb => ?_, q⟩
 . have e1 : lo + ((0 : Nat) : Int) * 1 = lo := by simp
   have e2 : (((hi - lo).toNat : Nat) : Int) - ((0 : Nat) : Int) = Builtin.Range.rangeSize lo hi 1 := by rw [rangeSize_one]; split <;> omega
   show IsRangeIter _ _ (lo + ((0 : Nat) : Int) * 1) ((((hi - lo).toNat : Nat) : Int) - ((0 : Nat) : Int)) 1
   rw [e1, e2]
   exact Heap.get?_push_size _ rfl
 . have e : b = (s.heap.push { cls := .type "range", data := .fields #[.int lo t, .int hi u, .int 1 v] }).objs.size := by simpa using hb
   subst e
   exact I1.fpOk (Nat.le_refl _) (I1.hok.fresh (Nat.le_refl _))
def iRng1 (ta : TA) : TI := fun σ H R => ta σ H fun vs H1 => ∃ j : Int, vs = [.int j] /\ -(2 ^ 62) ≤ j /\ j < 2 ^ 62 /\ R (Itr 0 j.toNat) H1
def iRng2 (ta : TA) : TI := fun σ H R => ta σ H fun vs H1 => ∃ i j : Int, vs = [.int i, .int j] /\ (-(2 ^ 62) ≤ i /\ i < 2 ^ 62 /\ -(2 ^ 62) ≤ j /\ j < 2 ^ 62) /\ R (Itr i (j - i).toNat) H1
theorem pi_range1 {a : Expr} {ta : TA} {p pos : Pos} (hg : Gl X "range") (hm : X.mg "range" = none) (ha : PA X [a] ta) (hs : starEach [a] X.env = [(false, eval a X.env)] := by rfl) : PI X tg (.Call (.Name "range" p) [a] [] pos) (iRng1 ta) := by
 intro pins s σ H R I h
 refine Call_ (ld_blt I hg hm boot_range (PyProof.Rows.callWith_type1 (thn (ha pos pins s σ H _ I h) fun us s1 ⟨vs, H1, I1, r1, q1⟩ => ?_) hs rfl))
 obtain ⟨j, e, q1, q2, q⟩ := q1
 subst e
 cases r1 with
 | cons r rr =>
   cases rr
   obtain ⟨t, rfl⟩ := r
   exact call_range_1 (range_it I1 (by omega) (by omega) q1 q2 (by simpa using q))
theorem pi_range2 {a b : Expr} {ta : TA} {p pos : Pos} (hg : Gl X "range") (hm : X.mg "range" = none) (ha : PA X [a, b] ta) (hs : starEach [a, b] X.env = [(false, eval a X.env), (false, eval b X.env)] := by rfl) (hs2 : starEach [b] X.env = [(false, eval b X.env)] := by rfl) :
 PI X tg (.Call (.Name "range" p) [a, b] [] pos) (iRng2 ta) := by
 intro pins s σ H R I h
 refine Call_ (ld_blt I hg hm boot_range (PyProof.Rows.callWith_type1 (thn (ha pos pins s σ H _ I h) fun us s1 ⟨vs, H1, I1, r1, q1⟩ => ?_) (by rw [hs, hs2]) (by rw [hs2]; rfl)))
 obtain ⟨i, j, e, ⟨q1, q2, q3, q4⟩, q⟩ := q1
 subst e
 cases r1 with
 | cons r rr =>
   cases rr with
   | cons r' rr =>
     cases rr
     obtain ⟨t, rfl⟩ := r
     obtain ⟨t', rfl⟩ := r'
     exact call_range_2 (range_it I1 q1 q2 q3 q4 q)
def tFor (wi : TI) (g : TG) (tb : TS) : TS := fun D σ H => wi σ H fun J H1 => ∃ W : Nat -> Nat -> St -> Hp -> Prop, (∃ m, W 0 m σ H1) /\ ∀ i m σ H, W i m σ H ->
 (J.stop i H ∧ D.nx σ H) ∨ (J.go i H ∧ ∃ N : St → Hp → Prop, (∀ σ' H', N σ' H' → ∃ m', m' < m ∧ W (i + 1) m' σ' H') ∧ ∀ x H', J.yld i H x H' → g x σ H' fun σ2 H2 => tb { D with nx := N, ct := N, bk := D.nx } σ2 H2)
def pinsAt (fp : List Addr) (h : Heap) : List (Addr × Obj) := fp.filterMap fun b => (h.get? b).map fun o => (b, o)
theorem mem_pinsAt {fp : List Addr} {h : Heap} {b : Addr} {o : Obj} (hb : b ∈ fp) (e : h.get? b = some o) : (b, o) ∈ pinsAt fp h := List.mem_filterMap.mpr ⟨b, hb, by rw [e]; rfl⟩
theorem of_pinsAt {fp : List Addr} {h : Heap} {p : Addr × Obj} (hp : p ∈ pinsAt fp h) : p.1 ∈ fp /\ h.get? p.1 = some p.2 := by
 obtain ⟨b, hb, e⟩ := List.mem_filterMap.mp hp
 cases q : h.get? b with
 | none => rw [q] at e; cases e
 | some o =>
   rw [q] at e
   have e' : (b, o) = p := Option.some.inj e
   subst e'
   exact ⟨hb, q⟩
theorem Inv.pinned {pins : List (Addr × Obj)} {σ : St} {H : Hp} {s : Shared} {fp : List Addr} (I : Inv X pins σ H s) (hf : ∀ b ∈ fp, FpOk X pins H b) (ho : ∀ b ∈ fp, ∃ o, s.heap.get? b = some o /\ ∀ v, o.data ≠ .cell v) : Inv X (pins ++ pinsAt fp s.heap) σ H s :=
 I.pins_of fun p hp => (List.mem_append.mp hp).elim (fun z => I.pin p (List.mem_append_right _ z)) fun z => by
  obtain ⟨hb, e⟩ := of_pinsAt z
  obtain ⟨f0, f1, f2, _⟩ := hf p.1 hb
  obtain ⟨o, e', d⟩ := ho p.1 hb
  rw [e] at e'; cases e'
  exact ⟨e, f0, f1, f2, d⟩
theorem Inv.unpinned {pins pl : List (Addr × Obj)} {σ : St} {H : Hp} {s : Shared} (I : Inv X (pins ++ pl) σ H s) : Inv X pins σ H s := I.pins_of fun p hp => I.pin p (List.mem_append_right _ (List.mem_append_left _ hp))
theorem ps_for {iter : Expr} {body : List Stmt} {wi : TI} {g : TG} {tb : TS} {pos : Pos} (hp : PassesOwn (model X.prog X.w) X.A X.env X.xe) (hc : X.calm = true) (hi : PI X tg iter wi) (hg : PG X tg g) (hb : PSs X body tb)
 (hs : ∀ x, foldedSetIterable iter X.env x = pure x := by intro _; rfl) : PS X (.For tg iter body [] pos) (tFor wi g tb) := by
 intro pins s σ H D I h
 refine wpAny_For (thn (hi pins s σ H _ I h) fun v s1 h1 => thn h1 fun itv s2 h2 => ?_) hs
 obtain ⟨it, fp, tn, J, H2, e, I2, T, st2, f2, W, ⟨m0, w0⟩, turn⟩ := h2
 subst e
 have stat : ∀ {H' : Hp}, (∀ b ∈ fp, H' b = none) → ∀ b ∈ fp, FpOk X pins H' b := fun hn b hb => ⟨hn b hb, (f2 b hb).2⟩
 refine codeAny_forLoop_any (fun n s' => ∃ i σ' H', Inv X pins σ' H' s' ∧ tn i s'.heap ∧ (∀ b ∈ fp, H' b = none) ∧ W i n σ' H') ?_ m0 ⟨0, σ, H2, I2, st2, fun b hb => (f2 b hb).1, w0⟩
 rintro n s3 ⟨i, σ3, H3, I3, st3, fr3, w3⟩
 rcases turn i n σ3 H3 w3 with ⟨stop, qn⟩ | ⟨go, N, hN, step⟩
 . refine wpAny_passesOwn hp (thn (T.done X rfl rfl rfl hc i pins s3 σ3 H3 X.xe I3 (stat fr3) st3 stop) fun r s4 ⟨hr, I4⟩ => ?_)
   subst hr
   exact wpAny_execs_nil ⟨σ3, H3, I4, qn⟩
 . refine wpAny_passesOwn hp (thn (T.item X rfl rfl rfl hc i pins s3 σ3 H3 X.xe I3 (stat fr3) st3 go) fun r s4 ⟨u, hr, h4⟩ => ?_)
   subst hr
   refine wpAny_passesOwn hp (thn h4 fun _ s5 ⟨x, H5, I5, r5, y5, st5, fr5⟩ => ?_)
   have I5' := I5.pinned (stat fr5) (T.obj _ _ st5)
   refine wpAny_passesOwn hp (thn (hg _ s5 σ3 H5 x u _ I5' r5 (step x H5 y5)) fun _ s6 ⟨σ6, H6, I6, q6⟩ => ?_)
   refine wpAny_passesOwn hp (thn (hb _ s6 σ6 H6 _ I6 q6) fun f s7 q7 => ?_)
   have again : ∀ {σ7 : St} {H7 : Hp}, Inv X (pins ++ pinsAt fp s5.heap) σ7 H7 s7 → N σ7 H7 → ∃ m, m < n ∧ ∃ i σ' H', Inv X pins σ' H' s7 ∧ tn i s7.heap ∧ (∀ b ∈ fp, H' b = none) ∧ W i m σ' H' := fun {σ7 H7} I7 n7 => by
    obtain ⟨m', hm, w7⟩ := hN σ7 H7 n7
    refine ⟨m', hm, i + 1, σ7, H7, I7.unpinned, T.keep _ _ _ st5 fun b hb o e => (I7.pin (b, o) (List.mem_append_right _ (List.mem_append_right _ (mem_pinsAt hb e)))).1, fun b hb => ?_, w7⟩
    obtain ⟨o, e, d⟩ := T.obj _ _ st5 b hb
    exact (I7.pin (b, o) (List.mem_append_right _ (List.mem_append_right _ (mem_pinsAt hb e)))).2.1
   cases f with
   | next => obtain ⟨σ7, H7, I7, n7⟩ := q7; exact again I7 n7
   | cont => obtain ⟨σ7, H7, I7, n7⟩ := q7; exact again I7 n7
   | brk => obtain ⟨σ7, H7, I7, q7⟩ := q7; exact ⟨σ7, H7, I7.unpinned, q7⟩
   | ret v => obtain ⟨x7, σ7, H7, I7, r7, q7⟩ := q7; exact ⟨x7, σ7, H7, I7.unpinned, r7, q7⟩
end
theorem for_list {K : PySem.W.Frag} {a : Addr} {xs : List V} {g : TG} {tb : TS} {D : Ends} {σ : St} {H : Hp} (Pv : Nat -> St -> Hp -> Prop) (h0 : Pv 0 σ H) (hl : ∀ i σ H, i ≤ xs.length -> Pv i σ H -> SqL K H a xs)
 (hs : ∀ i x σ H, xs[i]? = some x → Pv i σ H → g x σ H fun σ2 H2 => tb { D with nx := Pv (i + 1), ct := Pv (i + 1), bk := D.nx } σ2 H2) (hd : ∀ σ H, Pv xs.length σ H → D.nx σ H) :
 ∃ W : Nat → Nat → St → Hp → Prop, (∃ m, W 0 m σ H) ∧ ∀ i m σ H, W i m σ H →
  ((Itl K a).stop i H ∧ D.nx σ H) ∨ ((Itl K a).go i H ∧ ∃ N : St → Hp → Prop, (∀ σ' H', N σ' H' → ∃ m', m' < m ∧ W (i + 1) m' σ' H') ∧ ∀ x H', (Itl K a).yld i H x H' → g x σ H' fun σ2 H2 => tb { D with nx := N, ct := N, bk := D.nx } σ2 H2) := by
 refine ⟨fun i m σ H => m = xs.length - i ∧ i ≤ xs.length ∧ Pv i σ H, ⟨xs.length, by simp, Nat.zero_le _, h0⟩, ?_⟩
 rintro i m σ H ⟨rfl, hi, p⟩
 have q := hl i σ H hi p
 by_cases hlt : i < xs.length
 . refine .inr ⟨⟨xs, xs[i], q, by simp [hlt]⟩, Pv (i + 1), fun σ' H' p' => ⟨xs.length - (i + 1), by omega, rfl, hlt, p'⟩, fun x H' y => ?_⟩
   obtain ⟨e, y⟩ := y
   subst e
   exact hs i x σ _ (y xs q) p
 . have e : i = xs.length := by omega
   subst e
   exact .inl ⟨⟨xs, q, Nat.le_refl _⟩, hd σ H p⟩
theorem for_tup {K : PySem.W.Frag} {a : Addr} {xs : List V} {g : TG} {tb : TS} {D : Ends} {σ : St} {H : Hp} (Pv : Nat -> St -> Hp -> Prop) (h0 : Pv 0 σ H) (hl : ∀ i σ H, i ≤ xs.length -> Pv i σ H -> SqT K H a xs)
 (hs : ∀ i x σ H, xs[i]? = some x → Pv i σ H → g x σ H fun σ2 H2 => tb { D with nx := Pv (i + 1), ct := Pv (i + 1), bk := D.nx } σ2 H2) (hd : ∀ σ H, Pv xs.length σ H → D.nx σ H) :
 ∃ W : Nat → Nat → St → Hp → Prop, (∃ m, W 0 m σ H) ∧ ∀ i m σ H, W i m σ H →
  ((Itt K a).stop i H ∧ D.nx σ H) ∨ ((Itt K a).go i H ∧ ∃ N : St → Hp → Prop, (∀ σ' H', N σ' H' → ∃ m', m' < m ∧ W (i + 1) m' σ' H') ∧ ∀ x H', (Itt K a).yld i H x H' → g x σ H' fun σ2 H2 => tb { D with nx := N, ct := N, bk := D.nx } σ2 H2) := by
 refine ⟨fun i m σ H => m = xs.length - i ∧ i ≤ xs.length ∧ Pv i σ H, ⟨xs.length, by simp, Nat.zero_le _, h0⟩, ?_⟩
 rintro i m σ H ⟨rfl, hi, p⟩
 have q := hl i σ H hi p
 by_cases hlt : i < xs.length
 . refine .inr ⟨⟨xs, xs[i], q, by simp [hlt]⟩, Pv (i + 1), fun σ' H' p' => ⟨xs.length - (i + 1), by omega, rfl, hlt, p'⟩, fun x H' y => ?_⟩
   obtain ⟨e, y⟩ := y
   subst e
   exact hs i x σ _ (y xs q) p
 . have e : i = xs.length := by omega
   subst e
   exact .inl ⟨⟨xs, q, Nat.le_refl _⟩, hd σ H p⟩
theorem for_range {lo : Int} {n : Nat} {g : TG} {tb : TS} {D : Ends} {σ : St} {H : Hp} (Pv : Nat -> St -> Hp -> Prop) (h0 : Pv 0 σ H)
 (hs : ∀ i σ H, i < n → Pv i σ H → g (.int (lo + i)) σ H fun σ2 H2 => tb { D with nx := Pv (i + 1), ct := Pv (i + 1), bk := D.nx } σ2 H2) (hd : ∀ σ H, Pv n σ H → D.nx σ H) :
 ∃ W : Nat → Nat → St → Hp → Prop, (∃ m, W 0 m σ H) ∧ ∀ i m σ H, W i m σ H →
  ((Itr lo n).stop i H ∧ D.nx σ H) ∨ ((Itr lo n).go i H ∧ ∃ N : St → Hp → Prop, (∀ σ' H', N σ' H' → ∃ m', m' < m ∧ W (i + 1) m' σ' H') ∧ ∀ x H', (Itr lo n).yld i H x H' → g x σ H' fun σ2 H2 => tb { D with nx := N, ct := N, bk := D.nx } σ2 H2) := by
 refine ⟨fun i m σ H => m = n - i ∧ i ≤ n ∧ Pv i σ H, ⟨n, by simp, Nat.zero_le _, h0⟩, ?_⟩
 rintro i m σ H ⟨rfl, hi, p⟩
 by_cases hlt : i < n
 . refine .inr ⟨hlt, Pv (i + 1), fun σ' H' p' => ⟨n - (i + 1), by omega, rfl, hlt, p'⟩, fun x H' y => ?_⟩
   obtain ⟨e, y⟩ := y
   subst e y
   exact hs i σ _ hlt p
 . have e : i = n := by omega
   subst e
   exact .inl ⟨Nat.le_refl _, hd σ H p⟩
end L2
namespace L2
open PySem PySem.Spec PyProof.Rows
abbrev R2 := V -> V -> Hp -> VK -> Prop
def OpR (X : Cx) (f : Value -> Value -> Sem Value) (r : R2) : Prop :=
 ∀ (pins : List (Addr × Obj)) (s : Shared) (σ : St) (H : Hp) (x y : V) (v u : Value) (Q : VK), Inv X pins σ H s → RelV x v → RelV y u → r x y H Q →
  wpAny (model X.prog X.w) X.A (f v u) (EP X pins σ Q) X.xe s
def UnR (X : Cx) (f : Value -> Sem Value) (r : V -> Hp -> VK -> Prop) : Prop :=
 ∀ (pins : List (Addr × Obj)) (s : Shared) (σ : St) (H : Hp) (x : V) (v : Value) (Q : VK), Inv X pins σ H s → RelV x v → r x H Q →
  wpAny (model X.prog X.w) X.A (f v) (EP X pins σ Q) X.xe s
def CallR (X : Cx) (f : Value) (r : List V -> Hp -> VK -> Prop) : Prop :=
 ∀ (pins : List (Addr × Obj)) (s : Shared) (σ : St) (H : Hp) (xs : List V) (us : List Value) (Q : VK), Inv X pins σ H s → Vals xs us → r xs H Q →
  wpAny (model X.prog X.w) X.A (call f us) (EP X pins σ Q) X.xe s
def tOp (r : R2) (ta tb : TE) : TE := fun σ H Q => ta σ H fun x H1 => tb σ H1 fun y H2 => r x y H2 Q
def tUn (r : V -> Hp -> VK -> Prop) (ta : TE) : TE := fun σ H Q => ta σ H fun x H1 => r x H1 Q
def rI (C : Int -> Int -> Prop) (g : Int -> Int -> V) : R2 := fun x y H Q => ∃ i j, x = .int i /\ y = .int j /\ C i j /\ Q (g i j) H
def rI0 (g : Int -> Int -> V) : R2 := fun x y H Q => ∃ i j, x = .int i /\ y = .int j /\ Q (g i j) H
def rU (g : Int -> V) : V -> Hp -> VK -> Prop := fun x H Q => ∃ i, x = .int i /\ Q (g i) H
section
variable {X : Cx} {a b c : Expr} {ta tb tc : TE} {pos : Pos}
theorem binT (ha : PE X a ta) (hb : PE X b tb) {pins : List (Addr × Obj)} {s : Shared} {σ : St} {H : Hp} {R : V -> V -> Hp -> Prop} (I : Inv X pins σ H s)
 (h : ta σ H fun x H1 => tb σ H1 fun y H2 => R x y H2) {Q : Value → Shared → Prop} {f : Value → Value → Sem Value}
 (hf : ∀ v u s2 x y H2, Inv X pins σ H2 s2 → RelV x v → RelV y u → R x y H2 → wpAny (model X.prog X.w) X.A (f v u) Q X.xe s2) :
 wpAny (model X.prog X.w) X.A (eval a X.env) (fun v s₁ => wpAny (model X.prog X.w) X.A (eval b X.env) (fun u s₂ => wpAny (model X.prog X.w) X.A (f v u) Q X.xe s₂) X.xe s₁) X.xe s := by
 refine thn (ha pins s σ H _ I h) fun v s1 ⟨x, H1, I1, r1, q1⟩ => ?_
 refine thn (hb pins s1 σ H1 _ I1 q1) fun u s2 ⟨y, H2, I2, r2, q2⟩ => ?_
 exact hf v u s2 x y H2 I2 r1 r2 q2
theorem pe_op {op : Operator} {r : R2} (ho : OpR X (binaryOp op) r) (ha : PE X a ta) (hb : PE X b tb) : PE X (.BinOp a op b pos) (tOp r ta tb) := by
 intro pins s σ H Q I h
 exact wpAny_BinOp (binT ha hb I h fun v u s2 x y H2 I2 rx ry q => ho pins s2 σ H2 x y v u Q I2 rx ry q)
theorem pe_un {op : UnaryOp} {r : V -> Hp -> VK -> Prop} (ho : UnR X (unaryOp op) r) (ha : PE X a ta) : PE X (.UnaryOp op a pos) (tUn r ta) := by
 intro pins s σ H Q I h
 exact UnaryOp_ (thn (ha pins s σ H _ I h) fun v s1 ⟨x, H1, I1, r1, q1⟩ => ho pins s1 σ H1 x v Q I1 r1 q1)
theorem opI {f : Value -> Value -> Sem Value} {C : Int -> Int -> Prop} {g : Int -> Int -> Int}
 (rule : ∀ (i j : Int) (t u : Tok) (s : Shared) (Q : Value → Shared → Prop) (E : Value → Shared → Prop), C i j → Q (.int (g i j) s.toks) { s with toks := s.toks + 1 } → wpAny (model X.prog X.w) X.A (f (.int i t) (.int j u)) Q E s) :
 OpR X f (rI C fun i j => .int (g i j)) := by
 intro pins s σ H x y v u Q I rx ry h
 obtain ⟨i, j, rfl, rfl, hc, q⟩ := h
 obtain ⟨t, rfl⟩ := rx
 obtain ⟨t', rfl⟩ := ry
 exact rule i j t t' s _ _ hc ⟨.int (g i j), H, I.tok _, ⟨_, rfl⟩, q⟩
theorem opI0 {f : Value -> Value -> Sem Value} {g : Int -> Int -> Int}
 (rule : ∀ (i j : Int) (t u : Tok) (s : Shared) (Q : Value → Shared → Prop) (E : Value → Shared → Prop), Q (.int (g i j) s.toks) { s with toks := s.toks + 1 } → wpAny (model X.prog X.w) X.A (f (.int i t) (.int j u)) Q E s) :
 OpR X f (rI0 fun i j => .int (g i j)) := by
 intro pins s σ H x y v u Q I rx ry h
 obtain ⟨i, j, rfl, rfl, q⟩ := h
 obtain ⟨t, rfl⟩ := rx
 obtain ⟨t', rfl⟩ := ry
 exact rule i j t t' s _ _ ⟨.int (g i j), H, I.tok _, ⟨_, rfl⟩, q⟩
theorem opB0 {f : Value -> Value -> Sem Value} {g : Int -> Int -> Bool}
 (rule : ∀ (i j : Int) (t u : Tok) (s : Shared) (Q : Value → Shared → Prop) (E : Value → Shared → Prop), Q (.bool (g i j)) s → wpAny (model X.prog X.w) X.A (f (.int i t) (.int j u)) Q E s) :
 OpR X f (rI0 fun i j => .bl (g i j)) := by
 intro pins s σ H x y v u Q I rx ry h
 obtain ⟨i, j, rfl, rfl, q⟩ := h
 obtain ⟨t, rfl⟩ := rx
 obtain ⟨t', rfl⟩ := ry
 exact rule i j t t' s _ _ ⟨.bl (g i j), H, I, rfl, q⟩
def CPow (i j : Int) : Prop := 0 ≤ j /\ j ≤ 1000000 /\ i.natAbs < 2 ^ 64
theorem two_pow_nn (k : Nat) : (0 : Int) ≤ 2 ^ k := by
 rw [two_pow_cast]
 exact Int.natCast_nonneg _
theorem op_add : OpR X (binaryOp .Add) (rI0 fun i j => .int (i + j)) := opI0 fun _ _ _ _ _ _ _ q => add_int q
theorem op_sub : OpR X (binaryOp .Sub) (rI0 fun i j => .int (i - j)) := opI0 fun _ _ _ _ _ _ _ q => sub_int q
theorem op_mod : OpR X (binaryOp .Mod) (rI (fun _ j => 0 < j) fun i j => .int (i % j)) := opI fun i j _ _ _ _ _ hc q => by
 have h1 : (0 : Int) < j := hc
 exact mod_int' (by omega) (by rw [Int.fmod_eq_emod_of_nonneg i (by omega)]; exact q)
theorem op_shl : OpR X (binaryOp .LShift) (rI CPow fun i j => .int (i * 2 ^ j.toNat)) := opI fun _ _ _ _ _ _ _ hc q => lshift_int_small hc.1 hc.2.1 hc.2.2 q
theorem op_shr : OpR X (binaryOp .RShift) (rI (fun _ j => 0 ≤ j) fun i j => .int (i / 2 ^ j.toNat)) := opI fun i j _ _ _ _ _ hc q =>
 rshift_int hc (by rw [Int.fdiv_eq_ediv_of_nonneg i (two_pow_nn _)]; exact q)
theorem op_and : OpR X (binaryOp .BitAnd) (rI0 fun i j => .int (Builtin.bitAnd i j)) := opI0 fun _ _ _ _ _ _ _ q => and_int q
theorem op_or : OpR X (binaryOp .BitOr) (rI0 fun i j => .int (Builtin.bitOr i j)) := opI0 fun _ _ _ _ _ _ _ q => or_int q
theorem op_xor : OpR X (binaryOp .BitXor) (rI0 fun i j => .int (Builtin.bitXor i j)) := opI0 fun _ _ _ _ _ _ _ q => xor_int q
theorem unI {f : Value -> Sem Value} {g : Int -> Int}
 (rule : ∀ (i : Int) (t : Tok) (s : Shared) (Q : Value → Shared → Prop) (E : Value → Shared → Prop), Q (.int (g i) s.toks) { s with toks := s.toks + 1 } → wpAny (model X.prog X.w) X.A (f (.int i t)) Q E s) :
 UnR X f (rU fun i => .int (g i)) := by
 intro pins s σ H x v Q I rx h
 obtain ⟨i, rfl, q⟩ := h
 obtain ⟨t, rfl⟩ := rx
 exact rule i t s _ _ ⟨.int (g i), H, I.tok _, ⟨_, rfl⟩, q⟩
theorem un_neg : UnR X (unaryOp .USub) (rU fun i => .int (-i)) := unI fun _ _ _ _ _ q => neg_int q
theorem un_inv : UnR X (unaryOp .Invert) (rU fun i => .int (Builtin.bitNot i)) := unI fun _ _ _ _ _ q => invert_int q
end
def scal : V -> V -> Bool
 | .non, .non => true | .non, .int _ => true | .int _, .non => true | .non, .bl _ => true | .bl _, .non => true | .non, .str _ => true | .str _, .non => true
 | .int _, .int _ => true | .bl _, .bl _ => true | .str _, .str _ => true | .byt _, .byt _ => true
 | .int _, .str _ => true | .str _, .int _ => true | .bl _, .str _ => true | .str _, .bl _ => true
 | _, _ => false
def rEq : R2 := fun x y H Q => scal x y = true /\ Q (.bl (decide (x = y))) H
def rNe : R2 := fun x y H Q => scal x y = true /\ Q (.bl (!decide (x = y))) H
theorem dec_int {i j : Int} : decide (V.int i = V.int j) = (i == j) := by
 rw [Bool.eq_iff_iff]
 simp
theorem dec_bl {i j : Bool} : decide (V.bl i = V.bl j) = (i == j) := by
 rw [Bool.eq_iff_iff]
 simp
theorem dec_str {i j : Str} : decide (V.str i = V.str j) = (i == j) := by
 rw [Bool.eq_iff_iff]
 simp
theorem dec_byt {i j : Array UInt8} : decide (V.byt i = V.byt j) = (i.toList == j.toList) := by
 rw [Bool.eq_iff_iff]
 cases i
 cases j
 simp
section
variable {X : Cx} {a b c : Expr} {ta tb tc : TE} {pos : Pos}
theorem fin_bl {pins : List (Addr × Obj)} {σ : St} {H : Hp} {s : Shared} {Q : VK} {k k' : Bool} (I : Inv X pins σ H s) (q : Q (.bl k) H) (e : k = k') : EP X pins σ Q (.bool k') s := by
 subst e
 exact ⟨.bl k, H, I, rfl, q⟩
theorem op_eq : OpR X (compareOp .Eq) rEq := by
 intro pins s σ H x y v u Q I rx ry h
 obtain ⟨hs, q⟩ := h
 cases x with
 | non =>
   cases rx
   cases y with
   | non => cases ry; exact PySem.EqNone.eq_none_none (fin_bl I q (by simp))
   | bl j => cases ry; exact PySem.EqNone.eq_none_bool (fin_bl I q (by simp))
   | int j => obtain ⟨t', rfl⟩ := ry; exact PySem.EqNone.eq_none_int (fin_bl I q (by simp))
   | str j => obtain ⟨t', rfl⟩ := ry; exact PySem.EqNone.eq_none_str (fin_bl I q (by simp))
   | _ => exact absurd (show false = true from hs) Bool.false_ne_true
 | bl i =>
   cases rx
   cases y with
   | non => cases ry; exact PySem.EqNone.eq_bool_none (fin_bl I q (by simp))
   | bl j => cases ry; exact eq_bool (fin_bl I q dec_bl)
   | str j => obtain ⟨t', rfl⟩ := ry; exact PySem.EqMixed.eq_bool_str (fin_bl I q (by simp))
   | _ => exact absurd (show false = true from hs) Bool.false_ne_true
 | int i =>
   obtain ⟨t, rfl⟩ := rx
   cases y with
   | non => cases ry; exact PySem.EqNone.eq_int_none (fin_bl I q (by simp))
   | int j => obtain ⟨t', rfl⟩ := ry; exact eq_int (fin_bl I q dec_int)
   | str j => obtain ⟨t', rfl⟩ := ry; exact PySem.EqMixed.eq_int_str (fin_bl I q (by simp))
   | _ => exact absurd (show false = true from hs) Bool.false_ne_true
 | str i =>
   obtain ⟨t, rfl⟩ := rx
   cases y with
   | non => cases ry; exact PySem.EqNone.eq_str_none (fin_bl I q (by simp))
   | bl j => cases ry; exact PySem.EqMixed.eq_str_bool (fin_bl I q (by simp))
   | int j => obtain ⟨t', rfl⟩ := ry; exact PySem.EqMixed.eq_str_int (fin_bl I q (by simp))
   | str j => obtain ⟨t', rfl⟩ := ry; exact eq_str (fin_bl I q dec_str)
   | _ => exact absurd (show false = true from hs) Bool.false_ne_true
 | byt i =>
   obtain ⟨t, rfl⟩ := rx
   cases y with
   | byt j => obtain ⟨t', rfl⟩ := ry; exact PySem.W.eq_bytes (fin_bl I q dec_byt)
   | _ => exact absurd (show false = true from hs) Bool.false_ne_true
 | _ => cases y <;> exact absurd (show false = true from hs) Bool.false_ne_true
theorem op_ne : OpR X (compareOp .NotEq) rNe := by
 intro pins s σ H x y v u Q I rx ry h
 obtain ⟨hs, q⟩ := h
 cases x with
 | non =>
   cases rx
   cases y with
   | non => cases ry; exact PySem.EqNone.ne_none_none (fin_bl I q (by simp))
   | bl j => cases ry; exact PySem.EqNone.ne_none_bool (fin_bl I q (by simp))
   | int j => obtain ⟨t', rfl⟩ := ry; exact PySem.EqNone.ne_none_int (fin_bl I q (by simp))
   | str j => obtain ⟨t', rfl⟩ := ry; exact PySem.EqNone.ne_none_str (fin_bl I q (by simp))
   | _ => exact absurd (show false = true from hs) Bool.false_ne_true
 | bl i =>
   cases rx
   cases y with
   | non => cases ry; exact PySem.EqNone.ne_bool_none (fin_bl I q (by simp))
   | bl j => cases ry; exact ne_bool (fin_bl I q (congrArg not dec_bl))
   | str j => obtain ⟨t', rfl⟩ := ry; exact PySem.EqMixed.ne_bool_str (fin_bl I q (by simp))
   | _ => exact absurd (show false = true from hs) Bool.false_ne_true
 | int i =>
   obtain ⟨t, rfl⟩ := rx
   cases y with
   | non => cases ry; exact PySem.EqNone.ne_int_none (fin_bl I q (by simp))
   | int j => obtain ⟨t', rfl⟩ := ry; exact ne_int (fin_bl I q (congrArg not dec_int))
   | str j => obtain ⟨t', rfl⟩ := ry; exact PySem.EqMixed.ne_int_str (fin_bl I q (by simp))
   | _ => exact absurd (show false = true from hs) Bool.false_ne_true
 | str i =>
   obtain ⟨t, rfl⟩ := rx
   cases y with
   | non => cases ry; exact PySem.EqNone.ne_str_none (fin_bl I q (by simp))
   | bl j => cases ry; exact PySem.EqMixed.ne_str_bool (fin_bl I q (by simp))
   | int j => obtain ⟨t', rfl⟩ := ry; exact PySem.EqMixed.ne_str_int (fin_bl I q (by simp))
   | str j => obtain ⟨t', rfl⟩ := ry; exact ne_str (fin_bl I q (congrArg not dec_str))
   | _ => exact absurd (show false = true from hs) Bool.false_ne_true
 | byt i =>
   obtain ⟨t, rfl⟩ := rx
   cases y with
   | byt j => obtain ⟨t', rfl⟩ := ry; exact PySem.W.ne_bytes (fin_bl I q (congrArg not dec_byt))
   | _ => exact absurd (show false = true from hs) Bool.false_ne_true
 | _ => cases y <;> exact absurd (show false = true from hs) Bool.false_ne_true
theorem op_lt : OpR X (compareOp .Lt) (rI0 fun i j => .bl (decide (i < j))) := opB0 fun _ _ _ _ _ _ _ q => lt_int q
theorem op_le : OpR X (compareOp .LtE) (rI0 fun i j => .bl (decide (i ≤ j))) := opB0 fun _ _ _ _ _ _ _ q => le_int q
theorem op_gt : OpR X (compareOp .Gt) (rI0 fun i j => .bl (decide (j < i))) := opB0 fun _ _ _ _ _ _ _ q => gt_int q
theorem op_ge : OpR X (compareOp .GtE) (rI0 fun i j => .bl (decide (j ≤ i))) := opB0 fun _ _ _ _ _ _ _ q => ge_int q
theorem nomark (b : Expr) {op : CmpOp} (h : op ≠ .In := by decide) (h2 : op ≠ .NotIn := by decide) : behindInMarks op b = false := by
 have e1 : (op == CmpOp.In) = false := by cases op <;> first | rfl | exact absurd rfl h
 have e2 : (op == CmpOp.NotIn) = false := by cases op <;> first | rfl | exact absurd rfl h2
 cases b <;> simp [behindInMarks, e1, e2]
theorem pe_cmpR {op : CmpOp} {r : R2} (ho : OpR X (compareOp op) r) (ha : PE X a ta) (hb : PE X b tb) (hm : behindInMarks op b = false) : PE X (.Compare a [op] [b] pos) (tOp r ta tb) := by
 intro pins s σ H Q I h
 exact wpAny_Compare1 (binT ha hb I h fun v u s2 x y H2 I2 rx ry q => ho pins s2 σ H2 x y v u Q I2 rx ry q) hm
def tTest (t : TE) : TT := fun σ H Q => t σ H fun x H' => ∃ k, x = .bl k /\ Q k H'
theorem pt_cmpR {op : CmpOp} {r : R2} (ho : OpR X (compareOp op) r) (ha : PE X a ta) (hb : PE X b tb) (hm : behindInMarks op b = false) : PT X (.Compare a [op] [b] pos) (tTest (tOp r ta tb)) := by
 intro pins s σ H Q I h
 refine wpAny_isTrue_Compare1 (thn (ha pins s σ H _ I h) fun v s1 ⟨x, H1, I1, r1, q1⟩ => thn (hb pins s1 σ H1 _ I1 q1) fun u s2 ⟨y, H2, I2, r2, q2⟩ =>
  thn (ho pins s2 σ H2 x y v u _ I2 r1 r2 q2) fun c s3 ⟨z, H3, I3, r3, k, e, q3⟩ => ?_) hm
 subst e
 cases r3
 exact wpAny_truthy_bool ⟨H3, I3, q3⟩
theorem line63 : (sizeLine : Nat) < 2 ^ 63 := by rw [sizeLine_eq]; decide
theorem vals1 {x : V} {us : List Value} (r : Vals [x] us) : ∃ u, us = [u] /\ RelV x u := by
 cases r with
 | cons r1 r2 => cases r2; exact ⟨_, rfl, r1⟩
end
end L2
namespace L2
open PySem PySem.Spec PyProof.Rows
structure ObjM (h : Heap) (x dx C : Addr) (mA : Str -> Option Value) : Prop where
 obj : h.get? x = some (PySem.W.instObj C dx)
 ns : h.Ns1 dx mA
 ne : dx ≠ x
theorem lookIn_ns {h : Heap} {dx : Addr} {mA : Str -> Option Value} (n : h.Ns1 dx mA) : ∃ od, h.get? dx = some od /\ ∀ name, PySem.W.lookIn name od = some (mA name) := by
 obtain ⟨o, es, ep, ho, hd, hk, _, hm⟩ := n
 refine ⟨o, ho, fun name => ?_⟩
 have e := hm name
 unfold nsFind findBy at e
 rw [← Array.find?_toList] at e
 unfold PySem.W.lookIn
 rw [hd]
 dsimp only
 split
 . rename_i y q
   rw [q] at e
   exact congrArg some e
 . rename_i q
   rw [q] at e
   have a : es.toList.any (·.refKey) = false := by
    rw [List.any_eq_false]
    intro y hy
    obtain ⟨z, t, hkey⟩ := hk y (Array.mem_toList_iff.mp hy)
    simp [DictEntry.refKey, hkey]
   have a' : ¬ es.toList.any (·.refKey) = true := by rw [a]; exact Bool.false_ne_true
   rw [if_neg a']
   exact congrArg some e
theorem ObjM.look {h : Heap} {x dx C : Addr} {mA : Str -> Option Value} (I : ObjM h x dx C mA) : ∃ od, PySem.W.InstAt h x (PySem.W.instObj C dx) C (some od) /\ ∀ name, PySem.W.lookIn name od = some (mA name) :=
 let ⟨od, ho, hl⟩ := lookIn_ns I.ns
 ⟨od, ⟨I.obj, rfl, rfl, ho⟩, hl⟩
section
variable {prog : Program} {w : World} {A : Around} {E : Value → Shared → Prop} {s : Shared} {K : PySem.W.Frag} {x dx C f : Addr} {mA : Str → Option Value} {name : Str} {v : Value}
theorem get_map {expr : Bool} {Q : Value -> Shared -> Prop} (X : K.In s.heap) (I : ObjM s.heap x dx C mA) (hg : PySem.W.plainGet K C name = true) (hh : PySem.W.hasDictIn K C = true)
 (ha : PySem.W.findIn K (.ref C) name = some none) (hv : mA name = some v) (hv' : PySem.W.handedIn v = true) (h : Q v { s with toks := s.toks + 1 }) :
 wpAny (model prog w) A (getAttr (.ref x) name expr) Q E s := by
 obtain ⟨od, J, hl⟩ := I.look
 exact PySem.W.get_value X J (PySem.W.plainGet_of hg).1 (PySem.W.findObj_own hh ha rfl (by rw [hl, hv])) hv' h
theorem get_meth {pl : Sem Bool} {Q : Value × List Value -> Shared -> Prop} (X : K.In s.heap) (I : ObjM s.heap x dx C mA) (hg : PySem.W.plainGet K C name = true)
 (hf : PySem.W.findIn K (.ref C) name = some (some (.ref f))) (ht : PySem.W.isFn K (.ref f) = true) (hv : mA name = none) (h : Q (.ref f, [.ref x]) s) :
 wpAny (model prog w) A (getMethod (.ref x) name pl) Q E s := by
 obtain ⟨od, J, hl⟩ := I.look
 exact PySem.W.method_fn X J (PySem.W.plainGet_of hg).1 (PySem.W.plainGet_of hg).2 hf (beq_iff_eq.mp ht) (by show (PySem.W.lookIn name od).map (·.isSome) = some false; rw [hl, hv]; rfl) h
theorem set_map {ns : List Str} {Q : Unit -> Shared -> Prop} (X : K.In s.heap) (I : ObjM s.heap x dx C mA)
 (hs : PySem.W.findIn K (.ref C) "__setattr__" = some (some (.builtin "object.__setattr__"))) (hp : PySem.W.plainOver K C = true) (ht : PySem.W.takerIn K C name = some none) (hh : PySem.W.hasDictIn K C = true)
 (hw : PySem.Within mA ns) (hsz : ns.length ≤ sizeLine)
 (h : ∀ h', ObjM h' x dx C (fun y => if y = name then some v else mA y) → Heap.SameBut dx s.heap h' → Q () { s with heap := h', toks := s.toks + 2 }) :
 wpAny (model prog w) A (setAttr (.ref x) name v) Q E s := by
 obtain ⟨od, J, hl⟩ := I.look
 refine PySem.W.set_plain X J hs (PySem.W.osa_open (s := { s with toks := s.toks + 1 }) (r := none) X J hp ht fun b => ?_)
 obtain ⟨cd, hc, hd'⟩ := PySem.W.any_some hh
 have hx : s.heap.get? x = some ⟨.ref C, some dx, .plain, #[]⟩ := I.obj
 refine wpAny_bind (wpAny_pure (wpAny_bind (wpAny_bind (wpAny_loadPart hx (wpAny_bind (PySem.W.Looks.here (s := { s with toks := s.toks + 1 }) (PySem.W.looks_clsIn X hc) ?_))))))
 rw [hd']
 refine wpAny_pure (a := some dx) (wpAny_bind (wpAny_pure (wpAny_bind ?_)))
 refine wpAny_nsSet1 (s := { s with toks := s.toks + 1 }) I.ns fun h' hn2 hs2 => ?_
 obtain ⟨oD, esD, epD, hoD, hdD, hcD⟩ := hn2.count (PySem.Within.cons name v hw)
 refine wpAny_bind (wpAny_lookBehind hoD (by rw [hdD]; exact pastItsLine_dict (Nat.le_trans hcD (by rw [List.length_cons]; omega))) ?_)
 exact wpAny_pure (h _ ⟨(hs2.2 _ (Ne.symm I.ne)).trans I.obj, hn2, I.ne⟩ hs2)
theorem make_map {R : Result -> Shared -> Prop} {vs : List Value} {kw : List (Str × Value)} (X : K.In s.heap) (hm : PySem.W.makesIn K C = true)
 (hi : PySem.W.findIn K (.ref C) "__init__" = some (some (.ref f))) (hf : PySem.W.typeIn K (.ref f) = some (.type "function"))
 (h : codeAny (model prog w) (A.under (.builtin "type.__call__" ⟨.ref C :: vs, kw⟩)) (.call (.ref f) ⟨.ref (s.heap.objs.size + 1) :: vs, kw⟩) (PySem.W.InitBack (s.heap.objs.size + 1) R)
  { s with heap := (s.heap.push PySem.W.emptyDict).push (PySem.W.instObj C s.heap.objs.size) }) :
 codeAny (model prog w) A (.call (.ref C) ⟨vs, kw⟩) R s := by
 obtain ⟨hh, g, d, t, os⟩ := s
 exact PySem.W.make_core (PySem.W.makes_of X hm) (PySem.W.looks_findIn X hi) (fun self => PySem.W.bind_fn X self hf) (.inl rfl) h
end
def putF (f : Str) (v : V) : List (Str × V) -> List (Str × V)
 | [] => [(f, v)]
 | (g, x) :: r => if g = f then (g, v) :: r else (g, x) :: putF f v r
theorem lookup_putF (f g : Str) (v : V) : ∀ fs : List (Str × V), (putF f v fs).lookup g = if g = f then some v else fs.lookup g
 | [] => by
   show List.lookup g [(f, v)] = _
   by_cases h : g = f
   . have hb : (g == f) = true := beq_iff_eq.mpr h
     simp only [List.lookup, hb, if_pos h]
   . have hb : (g == f) = false := beq_eq_false_iff_ne.mpr h
     simp only [List.lookup, hb, if_neg h]
 | (k, x) :: r => by
   have ih := lookup_putF f g v r
   rw [show putF f v ((k, x) :: r) = (if k = f then (k, v) :: r else (k, x) :: putF f v r) from rfl]
   by_cases hk : k = f
   . rw [if_pos hk]
     by_cases h : g = k
     . have hb : (g == k) = true := beq_iff_eq.mpr h
       simp only [List.lookup, hb, if_pos (h.trans hk)]
     . have hb : (g == k) = false := beq_eq_false_iff_ne.mpr h
       simp only [List.lookup, hb, if_neg (fun e : g = f => h (e.trans hk.symm))]
   . rw [if_neg hk]
     by_cases h : g = k
     . have hb : (g == k) = true := beq_iff_eq.mpr h
       simp only [List.lookup, hb, if_neg (fun e : g = f => hk (h.symm.trans e))]
     . have hb : (g == k) = false := beq_eq_false_iff_ne.mpr h
       simp only [List.lookup, hb]
       exact ih
theorem keys_putF (f : Str) (v : V) : ∀ fs : List (Str × V), f ∈ (putF f v fs).map (·.1) /\ ∀ g, g ∈ fs.map (·.1) -> g ∈ (putF f v fs).map (·.1)
 | [] => ⟨by simp [putF], fun g h => by simp at h⟩
 | (k, x) :: r => by
   obtain ⟨i1, i2⟩ := keys_putF f v r
   rw [show putF f v ((k, x) :: r) = (if k = f then (k, v) :: r else (k, x) :: putF f v r) from rfl]
   by_cases hk : k = f
   . rw [if_pos hk]
     subst hk
     exact ⟨by simp, fun g h => by simpa using h⟩
   . rw [if_neg hk]
     refine ⟨?_, fun g h => ?_⟩
     . rw [List.map_cons]
       exact List.mem_cons_of_mem _ i1
     . rw [List.map_cons] at h ⊢
       rcases List.mem_cons.mp h with e | e
       . exact List.mem_cons.mpr (.inl e)
       . exact List.mem_cons_of_mem _ (i2 g e)
theorem length_putF (f : Str) (v : V) : ∀ fs : List (Str × V), (putF f v fs).length ≤ fs.length + 1
 | [] => by simp [putF]
 | (k, x) :: r => by
   have ih := length_putF f v r
   rw [show putF f v ((k, x) :: r) = (if k = f then (k, v) :: r else (k, x) :: putF f v r) from rfl]
   by_cases hk : k = f
   . rw [if_pos hk, List.length_cons, List.length_cons]; omega
   . rw [if_neg hk, List.length_cons, List.length_cons]; omega
theorem RelO.some_of {v : V} {o : Option Value} (r : RelO (some v) o) : ∃ u, o = some u /\ RelV v u := by
 cases o with
 | none => exact (show False from r).elim
 | some u => exact ⟨u, rfl, r⟩
theorem RelO.none_of {o : Option Value} (r : RelO none o) : o = none := by
 cases o with
 | none => rfl
 | some u => exact (show False from r).elim
theorem handed_of {v : V} {u : Value} (r : RelV v u) : PySem.W.handedIn u = true := by
 cases v with
 | non => cases (show u = Value.none from r); rfl
 | bl b => cases (show u = Value.bool b from r); rfl
 | int i => obtain ⟨t, e⟩ := (show ∃ t, u = Value.int i t from r); cases e; rfl
 | str x => obtain ⟨t, e⟩ := (show ∃ t, u = Value.str x t from r); cases e; rfl
 | byt b => obtain ⟨t, e⟩ := (show ∃ t, u = Value.bytes b t from r); cases e; rfl
 | flt b => obtain ⟨t, e⟩ := (show ∃ t, u = Value.float b t from r); cases e; rfl
 | ref a => cases (show u = Value.ref a from r); rfl
 | ty n => cases (show u = Value.type n from r); rfl
section
variable {P : Program} {w : World} {H H' : Hp} {h h' : Heap} {a C dx : Addr} {fs fs' : List (Str × V)}
theorem ins_get (hok : HOk P w H h) (e : H a = some (.ins C dx fs)) : ∃ mA, ObjM h a dx C mA /\ (∀ f, RelO (fs.lookup f) (mA f)) /\ PySem.Within mA (fs.map (·.1)) /\ fs.length ≤ 1000 /\ H dx = some (.own a) := by
 obtain ⟨d, z, ne, ob, mA, n, r, q⟩ := (show ObjOk P w H h a (.ins C dx fs) from hok a _ e)
 exact ⟨mA, ⟨ob, n, ne⟩, r, q, z, d⟩
end
structure Cls (K : PySem.W.Frag) (C : Addr) : Prop where
 pg : PySem.W.plainGet K C Str.empty = true
 hd : PySem.W.hasDictIn K C = true
 po : PySem.W.plainOver K C = true
 sa : PySem.W.findIn K (.ref C) "__setattr__" = some (some (.builtin "object.__setattr__"))
theorem Cls.get {K : PySem.W.Frag} {C : Addr} (c : Cls K C) (f : Str) : PySem.W.plainGet K C f = true := c.pg
def NoAttr (K : PySem.W.Frag) (C : Addr) (f : Str) : Prop := PySem.W.findIn K (.ref C) f = some none
theorem NoAttr.taker {K : PySem.W.Frag} {C : Addr} {f : Str} (n : NoAttr K C f) : PySem.W.takerIn K C f = some none := by
 unfold PySem.W.takerIn
 rw [show PySem.W.findIn K (.ref C) f = some none from n]
 rfl
structure Meth (K : PySem.W.Frag) (C : Addr) (m : Str) (f : Addr) : Prop where
 at_ : PySem.W.findIn K (.ref C) m = some (some (.ref f))
 fn : PySem.W.isFn K (.ref f) = true
 kp : PySem.W.keepIn K (.ref f) = true
section
variable {X : Cx} {pins : List (Addr × Obj)} {σ : St} {H : Hp} {s : Shared} {a C dx : Addr} {fs : List (Str × V)} {f : Str} {v : V} {A : Around} {E : Value → Shared → Prop}
theorem getattr_ok {b : Bool} {Q : Value -> Shared -> Prop} (I : Inv X pins σ H s) (e : H a = some (.ins C dx fs)) (c : Cls X.K C) (n : NoAttr X.K C f) (l : fs.lookup f = some v)
 (h : ∀ u s', Inv X pins σ H s' → RelV v u → Q u s') : wpAny (model X.prog X.w) A (getAttr (.ref a) f b) Q E s := by
 obtain ⟨mA, O, r, _, _, _⟩ := ins_get I.hok e
 obtain ⟨u, hu, ru⟩ := RelO.some_of (v := v) (o := mA f) (by rw [← l]; exact r f)
 exact get_map I.kIn O (c.get f) c.hd n hu (handed_of ru) (h u _ (I.tok _) ru)
theorem getmeth_ok {m : Str} {g : Addr} {pl : Sem Bool} {Q : Value × List Value -> Shared -> Prop} (I : Inv X pins σ H s) (e : H a = some (.ins C dx fs)) (c : Cls X.K C) (k : Meth X.K C m g) (l : fs.lookup m = none)
 (h : Q (.ref g, [.ref a]) s) : wpAny (model X.prog X.w) A (getMethod (.ref a) m pl) Q E s := by
 obtain ⟨mA, O, r, _, _, _⟩ := ins_get I.hok e
 have hn : mA m = none := RelO.none_of (by rw [← l]; exact r m)
 exact get_meth I.kIn O (c.get m) k.at_ k.fn hn h
theorem setattr_ok {y : V} {u : Value} {Q : Unit -> Shared -> Prop} (I : Inv X pins σ H s) (e : H a = some (.ins C dx fs)) (c : Cls X.K C) (n : NoAttr X.K C f) (hl : fs.length < 1000) (ry : RelV y u)
 (h : ∀ s', Inv X pins σ (upd H a (.ins C dx (putF f y fs))) s' → Q () s') : wpAny (model X.prog X.w) A (setAttr (.ref a) f u) Q E s := by
 obtain ⟨mA, O, r, wi, _, ho⟩ := ins_get I.hok e
 have hz : (fs.map (·.1)).length ≤ sizeLine := by rw [List.length_map, sizeLine_eq]; omega
 refine set_map I.kIn O c.sa c.po n.taker c.hd wi hz fun h' O' sb => h _ ?_
 have hd : ∃ o, h'.get? dx = some o := let ⟨o, _, _, e', _⟩ := O'.ns; ⟨o, e'⟩
 refine I.write (x := a) (e := dx) (by rw [e]; exact True.intro) (.inr ho) (fun b q hb z => (sb.2 b hb).trans z) hd ?_
 refine ⟨by rw [q5z O.ne]; exact ho, ?_, O.ne, O'.obj, _, O'.ns, fun g => ?_, fun g hg => ?_⟩
 . have := length_putF f y fs; omega
 . show RelO ((putF f y fs).lookup g) (if g = f then some u else mA g)
   rw [lookup_putF]
   by_cases q : g = f
   . rw [if_pos q, if_pos q]; exact ry
   . rw [if_neg q, if_neg q]; exact r g
 . by_cases q : g = f
   . rw [q]; exact (keys_putF f y fs).1
   . refine (keys_putF f y fs).2 g (wi g fun z => hg ?_)
     show (if g = f then some u else mA g) = none
     rw [if_neg q]; exact z
theorem Inv.made (I : Inv X pins σ H s) : Inv X pins σ (upd (upd H s.heap.objs.size (.own (s.heap.objs.size + 1))) (s.heap.objs.size + 1) (.ins C s.heap.objs.size []))
 { s with heap := (s.heap.push PySem.W.emptyDict).push (PySem.W.instObj C s.heap.objs.size) } := by
 have e1 : (s.heap.push PySem.W.emptyDict).get? s.heap.objs.size = some PySem.W.emptyDict := Heap.get?_push_size s.heap rfl
 have e2 : ((s.heap.push PySem.W.emptyDict).push (PySem.W.instObj C s.heap.objs.size)).get? (s.heap.objs.size + 1) = some (PySem.W.instObj C s.heap.objs.size) := by
  have := Heap.get?_push_size (s.heap.push PySem.W.emptyDict) (o := PySem.W.instObj C s.heap.objs.size) rfl
  rwa [Heap.size_push] at this
 have e3 : (s.heap.push PySem.W.emptyDict).Ns s.heap.objs.size (fun _ => none) := ⟨PySem.W.emptyDict, #[], _, e1, rfl, (fun e he => absurd he (by simp)), fun _ => rfl⟩
 have I1 := I.laid (a := s.heap.objs.size) (o := .own (s.heap.objs.size + 1)) (h' := s.heap.push PySem.W.emptyDict) (t' := s.toks) (fun b u q => Heap.get?_push_of_some _ q) (Nat.le_refl _) ⟨_, e1⟩
 refine I1.laid (a := s.heap.objs.size + 1) (o := .ins C s.heap.objs.size []) (t' := s.toks) (fun b u q => Heap.get?_push_of_some _ q) (Nat.le_of_eq (Heap.size_push _ _)) ?_
 have ne : s.heap.objs.size ≠ s.heap.objs.size + 1 := Nat.ne_of_lt (Nat.lt_succ_self _)
 refine ⟨by rw [q5z ne, q1z], Nat.zero_le _, ne, e2, fun _ => none, (Heap.Ns1.of_empty e3).at fun o q => Heap.get?_push_of_some _ q, fun _ => True.intro, fun y hy => absurd rfl hy⟩
theorem attr_of {prog : Program} {w : World} {env : Env} {e : Expr} {f : Str} {pos : Pos} {s : Shared} {Q : Value -> Shared -> Prop} (hb : attributeBase e f env (eval e env) = eval e env)
 (h : wpAny (model prog w) A (eval e env) (fun o s₁ => wpAny (model prog w) A (getAttr o f true) Q E s₁) E s) : wpAny (model prog w) A (eval (.Attribute e f pos) env) Q E s :=
 Attribute_any_ h (by rw [arm_eval_Attribute, hb])
end
def tFld (K : PySem.W.Frag) (ta : TE) (f : Str) : TE := fun σ H Q => ta σ H fun x H1 => ∃ a C dx fs v, x = .ref a /\ H1 a = some (.ins C dx fs) /\ Cls K C /\ NoAttr K C f /\ fs.lookup f = some v /\ Q v H1
def sFld (K : PySem.W.Frag) (ta tv : TE) (f : Str) : TS := fun D σ H => tv σ H fun y H1 => ta σ H1 fun x H2 => ∃ a C dx fs, x = .ref a /\ H2 a = some (.ins C dx fs) /\ Cls K C /\ NoAttr K C f /\ fs.length < 1000 /\
 D.nx σ (upd H2 a (.ins C dx (putF f y fs)))
section
variable {X : Cx} {o e value : Expr} {f : Str} {pos pos' tpos : Pos} {ta tv : TE}
theorem q11z (he : PE X e ta) (hb : attributeBase e f X.env (eval e X.env) = eval e X.env) : PE X (.Attribute e f pos) (tFld X.K ta f) := by
 intro pins s σ H Q I h
 refine attr_of hb (thn (he pins s σ H _ I h) fun u s1 ⟨x, H1, I1, rx, a, C, dx, fs, v, ex, ea, c, n, l, q⟩ => ?_)
 subst ex
 obtain rfl : u = Value.ref a := rx
 exact getattr_ok I1 ea c n l fun u' s2 I2 ru => ⟨v, H1, I2, ru, q⟩
theorem ps_fld (ha : PE X o ta) (hv : PE X value tv) (hs : swapsWith value (some (.Attribute o f pos')) pos.line X.env = pure false) : PS X (.Assign [.Attribute o f pos'] value pos) (sFld X.K ta tv f) := by
 intro pins s σ H D I h
 refine plainObj_wpAny_Assign_Attribute (thn (hv pins s σ H _ I h) fun u s1 ⟨y, H1, I1, ry, q⟩ => thn (ha pins s1 σ H1 _ I1 q) fun ov s2 ⟨x, H2, I2, rx, a, C, dx, fs, ex, ea, c, n, l, q2⟩ => ?_) hs
 subst ex
 obtain rfl : ov = Value.ref a := rx
 exact setattr_ok I2 ea c n l ry fun s3 I3 => ⟨σ, _, I3, q2⟩
end
end L2
namespace L2
open PySem PySem.Spec PyProof.Rows
structure Room (k : Nat) (A : Around) : Prop where
 hd : A.handled = none
 dp : A.depth + 3 * k + 5 < recursionLimit
 un : A.units + 16 * k + 200 < cLine
theorem Room.mono {j k : Nat} {A : Around} (r : Room k A) (h : j ≤ k) : Room j A := ⟨r.hd, by have := r.dp; omega, by have := r.un; omega⟩
theorem Room.deeper {k : Nat} {A : Around} (r : Room (k + 1) A) (env : Env) : Room k (A.deeper env) :=
 ⟨r.hd, by have := r.dp; show A.depth + 1 + 3 * k + 5 < _; omega, by have := r.un; show A.units + 3 + 16 * k + 200 < _; omega⟩
theorem make_depth {A : Around} {C : Addr} {us : List Value} {kw : List (Str × Value)} : (A.under (.builtin "type.__call__" ⟨.ref C :: us, kw⟩)).depth = A.depth + 1 := by
 first | rfl | simp [Around.under, Code.weight, Code.isCreation, Code.isGuard, Code.isCaller, Code.frames, Code.isFrame, guardIds]
theorem make_units {A : Around} {C : Addr} {us : List Value} {kw : List (Str × Value)} : (A.under (.builtin "type.__call__" ⟨.ref C :: us, kw⟩)).units = A.units + 1 := by
 first | rfl | simp [Around.under, Code.cUnits, Code.frames, Code.isFrame]
theorem Room.make {k : Nat} {A : Around} (r : Room (k + 1) A) (C : Addr) (us : List Value) (kw : List (Str × Value)) : Room k (A.under (.builtin "type.__call__" ⟨.ref C :: us, kw⟩)) :=
 ⟨r.hd, by have := r.dp; rw [make_depth]; omega, by have := r.un; rw [make_units]; omega⟩
theorem Room.depth {k : Nat} {A : Around} (r : Room k A) : A.depth < recursionLimit := by have := r.dp; omega
theorem Room.units {k : Nat} {A : Around} (r : Room k A) : A.units + 64 < cLine := by have := r.un; omega
def tNil : TA := fun _ H Q => Q [] H
def tCons (ta : TE) (tr : TA) : TA := fun σ H Q => ta σ H fun x H1 => tr σ H1 fun xs H2 => Q (x :: xs) H2
section
variable {X : Cx} {e : Expr} {es : List Expr} {te : TE} {t : TA} {pos : Pos}
theorem q2z : PA X [] tNil := fun _ _ _ _ H Q I h => Calls.spliced_nil ⟨[], H, I, .nil, h⟩
theorem q0z (ha : PE X e te) (hr : PA X es t) (hs : starEach (e :: es) X.env = (false, eval e X.env) :: starEach es X.env := by rfl) : PA X (e :: es) (tCons te t) := by
 intro pos pins s σ H Q I h
 rw [hs]
 show wpAny _ _ (spliced ((false, eval e X.env) :: backTo pos (starEach es X.env))) _ _ s
 refine Calls.spliced_cons (thn (ha pins s σ H _ I h) fun u s1 ⟨x, H1, I1, r1, q1⟩ => ?_)
 exact thn (hr pos pins s1 σ H1 _ I1 q1) fun us s2 ⟨xs, H2, I2, r2, q2⟩ => ⟨x :: xs, H2, I2, .cons r1 r2, q2⟩
def tTup (t : TA) : TE := fun σ H Q => t σ H fun xs H1 => xs.length ≤ sizeLine /\ ∀ p, H1 p = none -> Q (.ref p) (upd H1 p (.tup xs))
def tLst (t : TA) : TE := fun σ H Q => t σ H fun xs H1 => xs.length ≤ sizeLine /\ ∀ p, H1 p = none -> Q (.ref p) (upd H1 p (.lst xs))
theorem pe_tup {x1} (h : PA X es t) : PE X (.Tuple es x1 pos) (tTup t) := by
 intro pins s σ H Q I hq
 refine wpAny_Tuple_spliced (thn (h pos pins s σ H _ I hq) fun us s1 ⟨xs, H1, I1, r, z, q⟩ => ⟨by rw [← r.length]; exact z, ?_⟩)
 have hf : H1 s1.heap.objs.size = none := I1.hok.fresh (Nat.le_refl _)
 refine ⟨.ref s1.heap.objs.size, upd H1 s1.heap.objs.size (.tup xs), I1.laid (t' := s1.toks) (fun b u e => Heap.get?_push_of_some _ e) (Nat.le_refl _) ?_, rfl, q _ hf⟩
 exact ⟨z, us, r, ⟨_, Heap.get?_push_size _ rfl, rfl, _, rfl⟩⟩
theorem q13z (h : PA X es t) : PE X (.List es pos) (tLst t) := by
 intro pins s σ H Q I hq
 refine wpAny_List_spliced (thn (h pos pins s σ H _ I hq) fun us s1 ⟨xs, H1, I1, r, z, q⟩ => ⟨by rw [← r.length]; exact z, ?_⟩)
 have hf : H1 s1.heap.objs.size = none := I1.hok.fresh (Nat.le_refl _)
 refine ⟨.ref s1.heap.objs.size, upd H1 s1.heap.objs.size (.lst xs), I1.laid (t' := s1.toks) (fun b u e => Heap.get?_push_of_some _ e) (Nat.le_refl _) ?_, rfl, q _ hf⟩
 exact ⟨z, us, 0, r, Heap.get?_push_size _ rfl⟩
end
abbrev Sp := List V -> Hp -> VK -> XK -> Prop
abbrev CXT := List Env -> Hp -> Shared -> XK -> Value -> Shared -> Prop
structure Env0 (P : Program) (w : World) (K : PySem.W.Frag) (mg : Str -> Option Value) (base : Heap) (A : Around) (outer : List Env) (s : Shared) (H : Hp) : Prop where
 frames : A.frames = some outer
 mod : Mod K mg base
 bs : ∀ b o, base.get? b = some o → s.heap.get? b = some o ∧ H b = none
 bsz : base.objs.size ≤ s.heap.objs.size
 funs : s.heap.FunFrames base outer
 frf : ∀ b ∈ frs outer, H b = none
 hok : HOk P w H s.heap
 bare : AllBare s.gens
def CE (outer : List Env) (P : Program) (w : World) (H : Hp) (s : Shared) (Q : VK) (u : Value) (s' : Shared) : Prop :=
 ∃ v H', s'.os = s.os ∧ AllBare s'.gens ∧ Un (frs outer) [] H H' s.heap s'.heap ∧ HOk P w H' s'.heap ∧ RelV v u ∧ Q v H'
def CR (CX : CXT) (outer : List Env) (P : Program) (w : World) (H : Hp) (s : Shared) (Q : VK) (E : XK) (r : Result) (s' : Shared) : Prop :=
 match r with
 | .ok (.ret u) => CE outer P w H s Q u s'
 | .ok _ => False
 | .error e => CX outer H s E e s'
structure FnOk (P : Program) (w : World) (K : PySem.W.Frag) (mg : Str -> Option Value) (base : Heap) (CX : CXT) (k : Nat) (f : Addr) (fd : FuncData) (ps : List Str) (sp : Sp) : Prop where
 len : ∀ vs H Q E, sp vs H Q E → vs.length = ps.length
 run : ∀ (A : Around) (outer : List Env) (s : Shared) (H : Hp) (args : Args) (us : List Value) (vs : List V) (Q : VK) (E : XK), Room k A → Env0 P w K mg base A outer s H → BindsTo s fd args (ps.zip us) → Vals vs us → sp vs H Q E →
  codeAny (model P w) A (.call (.ref f) args) (CR CX outer P w H s Q E) s
theorem Env0.make {P : Program} {w : World} {K : PySem.W.Frag} {mg : Str -> Option Value} {base : Heap} {A : Around} {outer : List Env} {s : Shared} {H : Hp} (e : Env0 P w K mg base A outer s H) (C : Addr) (us : List Value) (kw : List (Str × Value)) :
 Env0 P w K mg base (A.under (.builtin "type.__call__" ⟨.ref C :: us, kw⟩)) outer s H := ⟨by first | exact e.frames | (simpa [Around.under, Code.envs, Code.isFrame, pushEnvs] using e.frames), e.mod, e.bs, e.bsz, e.funs, e.frf, e.hok, e.bare⟩
section
variable {X : Cx} {pins : List (Addr × Obj)} {σ : St} {H : Hp} {s s' : Shared}
theorem Inv.env0 (I : Inv X pins σ H s) : Env0 X.prog X.w X.K X.mg X.base X.A X.stack s H :=
 ⟨I.ok.frames, I.ok.mod, I.bs, Nat.le_trans I.ok.bsz I.sz, I.stack, I.stkFree, I.hok, I.bare⟩
theorem Inv.after {Q : VK} {u : Value} (I : Inv X pins σ H s) (h : CE X.stack X.prog X.w H s Q u s') : EP X pins σ Q u s' := by
 obtain ⟨v, H', os, bare, un, hok, r, q⟩ := h
 obtain ⟨hh, g, d, t, os'⟩ := s'
 obtain rfl : os' = s.os := os
 exact ⟨v, H', I.call (h' := hh) (g' := g) (d' := d) (t' := t) (ch := []) un hok bare (fun b z => absurd z (by simp)), r, q⟩
end
def tCall (sp : Sp) (dvs : List V) (E : XK) (t : TA) : TE := fun σ H Q => t σ H fun vs H1 => sp (vs ++ dvs) H1 Q E
def tMeth (C : Addr) (m : Str) (sp : Sp) (dvs : List V) (E : XK) (ta : TE) (t : TA) : TE := fun σ H Q => ta σ H fun x H1 => ∃ a dx fs, x = .ref a /\ H1 a = some (.ins C dx fs) /\ fs.lookup m = none /\
 t σ H1 fun vs H2 => sp (x :: (vs ++ dvs)) H2 Q E
def tMake (C : Addr) (sp : Sp) (dvs : List V) (E : XK) (t : TA) : TE := fun σ H Q => t σ H fun vs H1 => ∀ x dx, H1 x = none -> H1 dx = none -> dx ≠ x ->
 sp (.ref x :: (vs ++ dvs)) (upd (upd H1 dx (.own x)) x (.ins C dx [])) (fun v H2 => v = .non ∧ Q (.ref x) H2) E
def Binds (K : PySem.W.Frag) (fd : FuncData) (ps : List Str) (ds : List Value) : Prop :=
 ∀ (s : Shared) (us : List Value), K.In s.heap → (us ++ ds).length = ps.length → BindsTo s fd ⟨us, []⟩ (ps.zip (us ++ ds))
theorem Binds.all {K : PySem.W.Frag} {fd : FuncData} {ps : List Str} (h : ∀ us : List Value, us.length = ps.length -> bindArgs fd ⟨us, []⟩ = pure (ps.zip us)) : Binds K fd ps [] := fun s us _ hl => by
 rw [List.append_nil] at hl ⊢
 exact .of_eq (h us hl)
def Passes (CX : CXT) (X : Cx) (E : XK) : Prop := ∀ (pins : List (Addr × Obj)) (σ : St) (H : Hp) (s : Shared) (e : Value) (s' : Shared), Inv X pins σ H s -> CX X.stack H s E e s' -> X.xe e s'
section
variable {X : Cx} {CX : CXT} {k : Nat} {f C : Addr} {fd : FuncData} {ps : List Str} {sp : Sp} {dvs : List V} {ds : List Value} {E : XK} {x m : Str} {p pos apos : Pos} {e o : Expr} {es : List Expr} {ta : TE} {t : TA}
theorem run_fn {pins : List (Addr × Obj)} {σ : St} {H : Hp} {s : Shared} {Q : VK} {us : List Value} {vs : List V} (F : FnOk X.prog X.w X.K X.mg X.base CX k f fd ps sp) (hr : Room k X.A) (hb : Binds X.K fd ps ds) (hd : Vals dvs ds) (hx : Passes CX X E)
 (I : Inv X pins σ H s) (r : Vals vs us) (h : sp (vs ++ dvs) H Q E) : wpAny (model X.prog X.w) X.A (call (.ref f) us) (EP X pins σ Q) X.xe s := by
 have r2 : Vals (vs ++ dvs) (us ++ ds) := r.append hd
 have hl : (us ++ ds).length = ps.length := by rw [← r2.length]; exact F.len _ _ _ _ h
 refine wpAny_call (codeAny_mono (F.run X.A X.stack s H ⟨us, []⟩ (us ++ ds) (vs ++ dvs) Q E hr I.env0 (hb s us I.kIn hl) r2 h) fun r s' hq => ?_)
 cases r with
 | error e => exact hx pins σ H s e s' I hq
 | ok fl =>
   cases fl with
   | ret u => exact I.after hq
   | next => exact False.elim hq
   | brk => exact False.elim hq
   | cont => exact False.elim hq
theorem pe_call (F : FnOk X.prog X.w X.K X.mg X.base CX k f fd ps sp) (hr : Room k X.A) (hg : Gl X x) (hm : X.mg x = some (.ref f)) (hk : PySem.W.keepIn X.K (.ref f) = true) (hb : Binds X.K fd ps ds) (hd : Vals dvs ds) (hx : Passes CX X E)
 (ha : PA X (e :: es) t) (hdb : (x == ("__debug__" : Str)) = false := by decide) (he : starEach (e :: es) X.env = (false, eval e X.env) :: starEach es X.env := by rfl) (hpl : (backTo pos (starEach es X.env)).any (·.1) = false := by rfl) :
 PE X (.Call (.Name x p) (e :: es) [] pos) (tCall sp dvs E t) := by
 intro pins s σ H Q I h
 refine wpAny_Call_Name_kw (ld_glob I hg hm ?_ hdb)
 refine PySem.W.callWith_K (h₀ := X.base) I.ok.mod.kin hk (thn (ha pos pins s σ H _ I h) fun us s1 ⟨vs, H1, I1, r, q⟩ => ⟨I1.kIn, ?_⟩) he hpl
 exact run_fn F hr hb hd hx I1 r q
theorem pe_meth {pl : Sem Bool} (he : PE X o ta) (c : Cls X.K C) (hm : Meth X.K C m f) (F : FnOk X.prog X.w X.K X.mg X.base CX k f fd ps sp) (hr : Room k X.A) (hb : Binds X.K fd ps ds) (hd : Vals dvs ds) (hx : Passes CX X E) (ha : PA X (e :: es) t)
 (hst : starEach (e :: es) X.env = (false, eval e X.env) :: starEach es X.env := by rfl) (hpl : (backTo pos (starEach es X.env)).any (·.1) = false := by rfl)
 (ht : eval (.Call (.Attribute o m apos) (e :: es) [] pos) X.env = (do
  let ov ← eval o X.env
  standAt apos.atName
  let (f, first) ← holding [ov] (getMethod ov m pl)
  callWith pos f first (backTo pos (starEach (e :: es) X.env)) (backToKw pos (keywordEach [] X.env))) := by rfl) :
 PE X (.Call (.Attribute o m apos) (e :: es) [] pos) (tMeth C m sp dvs E ta t) := by
 intro pins s σ H Q I h
 refine PySem.W.methodCall_KW (pl := pl) (thn (he pins s σ H _ I h) fun u s1 ⟨x, H1, I1, rx, a, dx, fs, ex, ea, l, q⟩ => ?_) ht
 subst ex
 obtain rfl : u = Value.ref a := rx
 refine getmeth_ok I1 ea c hm l ?_
 refine PySem.W.callWith_K (first := [.ref a]) (h₀ := X.base) I.ok.mod.kin hm.kp (thn (ha pos pins s1 σ H1 _ I1 q) fun us s2 ⟨vs, H2, I2, r, q2⟩ => ⟨I2.kIn, ?_⟩) hst hpl
 exact run_fn (us := .ref a :: us) (vs := .ref a :: vs) F hr hb hd hx I2 (.cons rfl r) q2
theorem pe_meth0 {pl : Sem Bool} (he : PE X o ta) (c : Cls X.K C) (hm : Meth X.K C m f) (F : FnOk X.prog X.w X.K X.mg X.base CX k f fd ps sp) (hr : Room k X.A) (hb : Binds X.K fd ps ds) (hd : Vals dvs ds) (hx : Passes CX X E)
 (ht : eval (.Call (.Attribute o m apos) [] [] pos) X.env = (do
  let ov ← eval o X.env
  standAt apos.atName
  let (f, first) ← holding [ov] (getMethod ov m pl)
  callWith pos f first (backTo pos (starEach [] X.env)) (backToKw pos (keywordEach [] X.env))) := by rfl) :
 PE X (.Call (.Attribute o m apos) [] [] pos) (tMeth C m sp dvs E ta tNil) := by
 intro pins s σ H Q I h
 refine PySem.W.methodCall_KW (pl := pl) (thn (he pins s σ H _ I h) fun u s1 ⟨x, H1, I1, rx, a, dx, fs, ex, ea, l, q⟩ => ?_) ht
 subst ex
 obtain rfl : u = Value.ref a := rx
 refine getmeth_ok I1 ea c hm l ?_
 exact PySem.W.callWith_K0 (first := [.ref a]) I1.kIn hm.kp (run_fn (us := [.ref a]) (vs := [.ref a]) F hr hb hd hx I1 (.cons rfl .nil) q)
structure Mk (K : PySem.W.Frag) (C f : Addr) : Prop where
 makes : PySem.W.makesIn K C = true
 init : PySem.W.findIn K (.ref C) "__init__" = some (some (.ref f))
 fn : PySem.W.isFn K (.ref f) = true
 kp : PySem.W.keepIn K (.ref C) = true
theorem run_make {pins : List (Addr × Obj)} {σ : St} {H : Hp} {s : Shared} {Q : VK} {us : List Value} {vs : List V} (M : Mk X.K C f) (F : FnOk X.prog X.w X.K X.mg X.base CX k f fd ps sp) (hr : Room (k + 1) X.A) (hb : Binds X.K fd ps ds) (hd : Vals dvs ds)
 (hx : Passes CX X E) (I : Inv X pins σ H s) (r : Vals vs us)
 (h : ∀ x dx, H x = none → H dx = none → dx ≠ x → sp (.ref x :: (vs ++ dvs)) (upd (upd H dx (.own x)) x (.ins C dx [])) (fun v H2 => v = .non ∧ Q (.ref x) H2) E) :
 wpAny (model X.prog X.w) X.A (call (.ref C) us) (EP X pins σ Q) X.xe s := by
 have hq := h (s.heap.objs.size + 1) s.heap.objs.size (I.hok.fresh (Nat.le_succ _)) (I.hok.fresh (Nat.le_refl _)) (Nat.ne_of_lt (Nat.lt_succ_self _))
 have I2 := Inv.made (C := C) I
 have r2 : Vals (V.ref (s.heap.objs.size + 1) :: (vs ++ dvs)) (Value.ref (s.heap.objs.size + 1) :: (us ++ ds)) := .cons rfl (r.append hd)
 have hl : (Value.ref (s.heap.objs.size + 1) :: us ++ ds).length = ps.length := by
  have e := r2.length
  rw [F.len _ _ _ _ hq] at e
  exact e.symm
 refine wpAny_call (make_map (f := f) I.kIn M.makes M.init (beq_iff_eq.mp M.fn) (codeAny_mono (F.run _ X.stack _ _ ⟨Value.ref (s.heap.objs.size + 1) :: us, []⟩ (Value.ref (s.heap.objs.size + 1) :: (us ++ ds)) _ _ E (hr.make C us [])
  (I2.env0.make C us []) (hb _ (Value.ref (s.heap.objs.size + 1) :: us) I2.kIn hl) r2 hq) fun r s' hq' => ?_))
 cases r with
 | error e => exact hx pins σ _ _ e s' I2 hq'
 | ok fl =>
   cases fl with
   | ret u =>
     obtain ⟨v, H', I3, rv, ev, q3⟩ := I2.after hq'
     subst ev
     exact ⟨rv, ⟨V.ref (s.heap.objs.size + 1), H', I3, rfl, q3⟩⟩
   | next => exact False.elim hq'
   | brk => exact False.elim hq'
   | cont => exact False.elim hq'
theorem pe_make0 (M : Mk X.K C f) (F : FnOk X.prog X.w X.K X.mg X.base CX k f fd ps sp) (hr : Room (k + 1) X.A) (hg : Gl X x) (hm : X.mg x = some (.ref C)) (hb : Binds X.K fd ps ds) (hd : Vals dvs ds) (hx : Passes CX X E)
 (hdb : (x == ("__debug__" : Str)) = false := by decide) : PE X (.Call (.Name x p) [] [] pos) (tMake C sp dvs E tNil) := by
 intro pins s σ H Q I h
 refine wpAny_Call_Name_kw (ld_glob I hg hm ?_ hdb)
 exact PySem.W.callWith_K0 I.kIn M.kp (run_make (us := []) M F hr hb hd hx I .nil h)
end
structure FnScope (N P : List Str) (sc : Scope) : Prop where
 kind : sc.kind = .function
 co : sc.isCoroutine = false
 gen : sc.isGenerator = false
 nd : N.Nodup
 pre : N.take P.length = P
 par : ∀ x ∈ P, sc.names.lookup x = some .local ∨ sc.names.lookup x = some .cell
 nofree : ∀ y ∈ sc.names, y.2 ≠ .free
theorem bindL_out {kindOf : Str -> Option NameKind} {x : Str} : ∀ {binds : List (Str × Value)} {m : Str -> Option Value}, (∀ v, (x, v) ∉ binds) -> bindL kindOf binds m x = m x
 | [], _, _ => rfl
 | (n, v) :: r, m, h => by
   unfold bindL
   rw [bindL_out fun w hw => h w (List.mem_cons_of_mem _ hw)]
   split
   . have : x ≠ n := by rintro rfl; exact h v List.mem_cons_self
     simp [this]
   . rfl
theorem bindC_out {kindOf : Str -> Option NameKind} {x : Str} : ∀ {binds : List (Str × Value)} {m : Str -> Option Value}, (∀ v, (x, v) ∉ binds) -> bindC kindOf binds m x = m x
 | [], _, _ => rfl
 | (n, v) :: r, m, h => by
   unfold bindC
   rw [bindC_out fun w hw => h w (List.mem_cons_of_mem _ hw)]
   split
   . rfl
   . have : x ≠ n := by rintro rfl; exact h v List.mem_cons_self
     simp [this]
theorem bindL_get {kindOf : Str -> Option NameKind} {x : Str} {v : Value} : ∀ {P : List Str} {vs : List Value} {i : Nat} {m : Str -> Option Value}, P.Nodup -> P[i]? = some x -> vs[i]? = some v -> kindOf x = some .local ->
 bindL kindOf (P.zip vs) m x = some v
 | [], _, _, _, _, h, _, _ => by simp at h
 | _ :: _, [], _, _, _, _, h, _ => by simp at h
 | p :: P, w :: vs, 0, m, nd, h1, h2, hk => by
   simp at h1 h2; subst h1; subst h2
   show bindL kindOf ((p, w) :: P.zip vs) m p = _
   unfold bindL
   rw [bindL_out fun v hv => (List.nodup_cons.mp nd).1 (List.of_mem_zip hv).1, if_pos hk]
   simp
 | p :: P, w :: vs, i + 1, m, nd, h1, h2, hk => by
   show bindL kindOf ((p, w) :: P.zip vs) m x = _
   unfold bindL
   exact bindL_get (i := i) (List.nodup_cons.mp nd).2 (by simpa using h1) (by simpa using h2) hk
theorem bindC_get {kindOf : Str -> Option NameKind} {x : Str} {v : Value} : ∀ {P : List Str} {vs : List Value} {i : Nat} {m : Str -> Option Value}, P.Nodup -> P[i]? = some x -> vs[i]? = some v -> kindOf x ≠ some .local ->
 bindC kindOf (P.zip vs) m x = some v
 | [], _, _, _, _, h, _, _ => by simp at h
 | _ :: _, [], _, _, _, _, h, _ => by simp at h
 | p :: P, w :: vs, 0, m, nd, h1, h2, hk => by
   simp at h1 h2; subst h1; subst h2
   show bindC kindOf ((p, w) :: P.zip vs) m p = _
   unfold bindC
   rw [bindC_out fun v hv => (List.nodup_cons.mp nd).1 (List.of_mem_zip hv).1, if_neg hk]
   simp
 | p :: P, w :: vs, i + 1, m, nd, h1, h2, hk => by
   show bindC kindOf ((p, w) :: P.zip vs) m x = _
   unfold bindC
   exact bindC_get (i := i) (List.nodup_cons.mp nd).2 (by simpa using h1) (by simpa using h2) hk
def start (N : List Str) (vs : List V) : St := vs.map some ++ List.replicate (N.length - vs.length) none
def cxOf (CX : CXT) (P : Program) (w : World) (K : PySem.W.Frag) (mg : Str -> Option Value) (base : Heap) (N : List Str) (qual : Str) (scope : Scope) (f : Addr) (cd : Value) (A : Around) (outer : List Env) (s : Shared) (H : Hp) (E : XK) : Cx where
 prog := P
 w := w
 K := K
 mg := mg
 base := base
 A := A.deeper (envOfC qual scope s.heap.objs.size f cd)
 N := N
 s_0 := s
 H_0 := H
 env := envOfC qual scope s.heap.objs.size f cd
 outer := outer
 stack := envOfC qual scope s.heap.objs.size f cd :: outer
 ex := []
 calm := true
 fn := fun _ => true
 pn := []
 xe := fun e s' => wpAny (model P w) (A.deeper (envOfC qual scope s.heap.objs.size f cd)) (leaving (envOfC qual scope s.heap.objs.size f cd) e) (fun _ s'' => CX outer H s E e s'') (fun e' s'' => CX outer H s E e' s'') s'
theorem cell_has {sc : Scope} {n : Nat} {x : Str} (h : sc.names.lookup x = some .cell) : ∃ c, (cellsFrom n sc.names []).lookup x = some c := by
 have q := PySem.W.cellsFrom_some sc.names n [] (.inl h)
 exact Option.isSome_iff_exists.mp q
theorem inv_start {CX : CXT} {P : Program} {w : World} {K : PySem.W.Frag} {mg : Str -> Option Value} {base : Heap} {N ps : List Str} {qual : Str} {scope : Scope} {f : Addr} {cd : Value} {A : Around} {outer : List Env} {s s1 : Shared} {H : Hp} {E : XK} {us : List Value} {vs : List V}
 (S : FnScope N ps scope) (hd : A.handled = none) (e0 : Env0 P w K mg base A outer s H) (hl : vs.length = ps.length) (r : Vals vs us)
 (x : InCallC s s.heap.objs.size (bindL (envOfC qual scope s.heap.objs.size f cd).kindOf (ps.zip us) fun _ => none) (cellsFrom (s.heap.objs.size + 1) scope.names []) (bindC (envOfC qual scope s.heap.objs.size f cd).kindOf (ps.zip us) fun _ => none) s1) :
 Inv (cxOf CX P w K mg base N qual scope f cd A outer s H E) [] (start N vs) H s1 := by
 have hpl : ps.length ≤ N.length := by have := congrArg List.length S.pre; rw [List.length_take] at this; omega
 obtain ⟨h1, tk, rfl, hk⟩ := x.done
 have noA : ∀ b : Addr, b ∉ (cxOf CX P w K mg base N qual scope f cd A outer s H E).ex := fun b z => absurd (show b ∈ ([] : List Addr) from z) (by simp)
 refine ⟨⟨e0.mod, S.kind, rfl, rfl, Nat.le_refl _, fun y z c h1 h2 => ?_, fun y hy => ?_, fun y c _ h => ?_, fun _ => hd, Around.frames_deeper e0.frames, .inr ⟨rfl, rfl⟩, fun b z => absurd z (noA b), e0.bs, e0.bsz, fun b _ _ => noA b, fun b z => absurd z (noA b), e0.funs, e0.frf⟩,
  rfl, e0.bare, Un.kept hk, ⟨_, x.toInCall.ns, fun i y v h1 h2 h3 => ?_⟩, fun y c h => ⟨_, x.cell y c h⟩, e0.hok.fresh (Nat.le_refl _), fun y c h => ?_, fun p hp => absurd (show p ∈ ([] : List (Addr × Obj)) from hp) (by simp), e0.hok.kept hk, ?_⟩
 . exact name_of_addr x.apart (PySem.mem_of_lookup h1) (PySem.mem_of_lookup h2)
 . have hy : scope.names.lookup y = some .cell ∨ scope.names.lookup y = some .free := hy
   rcases hy with hy | hy
   . exact cell_has hy
   . exact absurd rfl (S.nofree _ (PySem.mem_of_lookup hy))
 . exact Nat.le_of_lt (x.above y c (PySem.mem_of_lookup h))
 . have hi : i < vs.length := by
    unfold start at h2
    by_cases hi : i < vs.length
    . exact hi
    . rw [List.getElem?_append_right (by simpa using hi)] at h2
      rw [List.getElem?_replicate] at h2
      split at h2 <;> cases h2
   have ha : vs[i]? = some v := by
    unfold start at h2
    rw [List.getElem?_append_left (by simpa using hi), List.getElem?_map] at h2
    cases e : vs[i]? with
    | none => rw [e] at h2; cases h2
    | some a => rw [e] at h2; cases h2; rfl
   obtain ⟨u, hu, rv⟩ := r.get ha
   have hp : ps[i]? = some y := by
    rw [← S.pre, List.getElem?_take_of_lt (by omega)]; exact h1
   have ndP : ps.Nodup := by rw [← S.pre]; exact S.nd.sublist (List.take_sublist _ _)
   refine ⟨u, rv, ?_⟩
   rcases S.par y (List.mem_of_getElem? hp) with k | k
   . exact .inl ⟨k, bindL_get ndP hp hu k⟩
   . obtain ⟨c, e⟩ := cell_has (n := s.heap.objs.size + 1) k
     refine .inr ⟨.inl k, c, e, ?_⟩
     have q := x.cell y c e
     rw [bindC_get ndP hp hu (by show scope.names.lookup y ≠ _; rw [k]; decide)] at q
     exact q
 . exact e0.hok.fresh (Nat.le_of_lt (x.above y c (PySem.mem_of_lookup h)))
 . unfold start
   show _ = N.length
   rw [List.length_append, List.length_map, List.length_replicate]
   omega
theorem fn_of {CX : CXT} {P : Program} {w : World} {K : PySem.W.Frag} {mg : Str -> Option Value} {base : Heap} {k : Nat} {f : Addr} {name qual : Str} {params : Arguments} {body : List Stmt} {scope : Scope} {dV kV doc pm cdv ct oc : Value} {an od : Option Addr}
 {osl : Array (Option Value)} {N ps : List Str} {sp : Sp} (lk : K.lookup f = some ⟨oc, od, .func (PySem.W.fnOf name qual params body scope dV kV doc pm an cdv ct), osl⟩) (hcd : PySem.W.codeIn K cdv qual = true) (S : FnScope N ps scope)
 (len : ∀ vs H Q E, sp vs H Q E → vs.length = ps.length)
 (hbody : ∀ (A : Around) (outer : List Env) (s : Shared) (H : Hp) (vs : List V) (Q : VK) (E : XK), Room k (A.deeper (envOfC qual scope s.heap.objs.size f cdv)) → sp vs H Q E →
  ∃ t, PSs (cxOf CX P w K mg base N qual scope f cdv A outer s H E) body t ∧ t { nx := fun _ H' => Q .non H', rt := Q } (start N vs) H) :
 FnOk P w K mg base CX (k + 1) f (PySem.W.fnOf name qual params body scope dV kV doc pm an cdv ct) ps sp := by
 refine ⟨len, fun A outer s H args us vs Q E hr e0 hb r hsp => ?_⟩
 have hl := len _ _ _ _ hsp
 have KX : K.In s.heap := e0.mod.kin.keeps fun b o e => (e0.bs b o e).1
 have lim : s.heap.NoLimit := e0.mod.nolimit.keeps fun b o e => (e0.bs b o e).1
 have hkind : ∀ y ∈ ps.zip us, scope.names.lookup y.1 = some .local ∨ (scope.names.lookup y.1 = some .cell ∧ ((cellsFrom (s.heap.objs.size + 1) scope.names []).lookup y.1).isSome = true) := fun ⟨n, v⟩ hy => by
  rcases S.par n (List.of_mem_zip hy).1 with q | q
  . exact .inl q
  . exact .inr ⟨q, PySem.W.cellsFrom_some _ _ _ (.inl q)⟩
 refine codeAny_call_function hr.depth (KX _ _ lk) rfl S.co S.gen rfl (PySem.W.codeRec_of KX hcd) (hb _ _ _ _ ?_)
 refine wpAny_newFunctionEnv_cells S.kind hkind fun env he s1 x => ?_
 subst he
 refine ⟨lim.keeps x.toInCall.keep, codeAny_func ?_⟩
 obtain ⟨t, ht, hq⟩ := hbody A outer s H vs Q E (hr.deeper _) hsp
 have I : Inv (cxOf CX P w K mg base N qual scope f cdv A outer s H E) [] (start N vs) H s1 := inv_start S hr.hd e0 hl r x
 refine wpAny_mono (ht [] s1 (start N vs) H _ I hq) (fun fl s' hs => ?_) fun e s' hs => hs
 have fin : ∀ {σ' : St} {H' : Hp} {v : V} {u : Value}, Inv (cxOf CX P w K mg base N qual scope f cdv A outer s H E) [] σ' H' s' → RelV v u → Q v H' → CE outer P w H s Q u s' :=
  fun {σ' H' v u} J rv q => ⟨v, H', J.os, J.bare, J.base, J.hok, rv, q⟩
 cases fl with
 | ret u =>
   obtain ⟨v, σ', H', J, rv, q⟩ := hs
   exact fin J rv q
 | next =>
   obtain ⟨σ', H', J, q⟩ := hs
   exact fin (v := V.non) (u := Value.none) J rfl q
 | brk =>
   obtain ⟨_, _, _, q⟩ := hs
   exact False.elim q
 | cont =>
   obtain ⟨_, _, _, q⟩ := hs
   exact False.elim q
end L2
namespace L2
open PySem PySem.Spec PyProof.Rows
section
variable {X : Cx} {x : Str} {p pos : Pos} {e : Expr} {es : List Expr} {t : TA} {id T : String} {r : List V → Hp → VK → Prop}
def tCB (r : List V -> Hp -> VK -> Prop) (t : TA) : TE := fun σ H Q => t σ H fun vs H1 => r vs H1 Q
theorem q16z (hc : CallR X (.builtin id) r) (hg : Gl X x) (hm : X.mg x = none) (hv : bootBuiltins x = some (.builtin id)) (ha : PA X (e :: es) t) (hn : x ≠ "__name__" := by decide) (hdb : (x == ("__debug__" : Str)) = false := by decide)
 (he : starEach (e :: es) X.env = (false, eval e X.env) :: starEach es X.env := by rfl) (hpl : (backTo pos (starEach es X.env)).any (·.1) = false := by rfl) : PE X (.Call (.Name x p) (e :: es) [] pos) (tCB r t) := by
 intro pins s σ H Q I h
 refine wpAny_Call_Name_kw (ld_blt I hg hm hv ?_ hn hdb)
 exact PyProof.Rows.callWith_builtin1 (thn (ha pos pins s σ H _ I h) fun us s1 ⟨vs, H1, I1, r1, q1⟩ => hc pins s1 σ H1 vs us Q I1 r1 q1) he hpl
theorem pe_callTy (hc : CallR X (.type T) r) (hg : Gl X x) (hm : X.mg x = none) (hv : bootBuiltins x = some (.type T)) (ha : PA X (e :: es) t) (hn : x ≠ "__name__" := by decide) (hdb : (x == ("__debug__" : Str)) = false := by decide)
 (he : starEach (e :: es) X.env = (false, eval e X.env) :: starEach es X.env := by rfl) (hpl : (backTo pos (starEach es X.env)).any (·.1) = false := by rfl) : PE X (.Call (.Name x p) (e :: es) [] pos) (tCB r t) := by
 intro pins s σ H Q I h
 refine wpAny_Call_Name_kw (ld_blt I hg hm hv ?_ hn hdb)
 exact PyProof.Rows.callWith_type1 (thn (ha pos pins s σ H _ I h) fun us s1 ⟨vs, H1, I1, r1, q1⟩ => hc pins s1 σ H1 vs us Q I1 r1 q1) he hpl
end
end L2
namespace HT
open PySem PyProof.Rows
section
variable {prog : Program} {w : World} {A : Around} {E : Value → Shared → Prop} {s : Shared}
theorem cat_tup {t b : Addr} {vs ws : List Value} {Q : Value -> Shared -> Prop} (ht : IsTup s.heap t vs.toArray) (hb : IsTup s.heap b ws.toArray) (hv : vs ≠ [])
 (h1 : ws = [] → Q (.ref t) s) (h2 : ws ≠ [] → Q (.ref s.heap.objs.size) { s with heap := s.heap.push { cls := .type "tuple", data := .seq (vs ++ ws).toArray } })
 (hsz : vs.length + ws.length ≤ sizeLine) : wpAny (model prog w) A (binaryOp .Add (.ref t) (.ref b)) Q E s := by
 obtain ⟨⟨cls, dd, data, sl⟩, ho, hc, n, hd⟩ := id ht
 obtain ⟨⟨cls2, dd2, data2, sl2⟩, ho2, hc2, n2, hd2⟩ := id hb
 simp only at hc hd hc2 hd2
 subst hc hd hc2 hd2
 have e : vs.toArray ++ ws.toArray = (vs ++ ws).toArray := by simp
 by_cases hw : ws = []
 . exact concat_meets ⟨_, ho, rfl⟩ ⟨_, ho2, rfl⟩ noFill_tuple_add seq_tuple_add PySem.F.slot_tuple_add PySem.F.entry_tuple_add (PySem.F.args_tuple_add_2 _ _)
    (tuple_addW1 t b vs.toArray ws.toArray n n2 dd dd2 sl sl2 (by simpa using hv) (by simp [hw])) ⟨ho, ho2, h1 hw⟩
 . refine concat_meets ⟨_, ho, rfl⟩ ⟨_, ho2, rfl⟩ noFill_tuple_add seq_tuple_add PySem.F.slot_tuple_add PySem.F.entry_tuple_add (PySem.F.args_tuple_add_2 _ _)
    (tuple_addW2 t b vs.toArray ws.toArray n n2 dd dd2 sl sl2 (by simpa using hv) (by simpa using hw) (by rw [List.size_toArray, List.size_toArray]; exact hsz)) ⟨ho, ho2, ?_⟩
   rw [e]
   exact h2 hw
def sIx (n d : Nat) : Option Int -> Nat
 | none => d
 | some v => if v < 0 then (v + (n : Int)).toNat else min v.toNat n
theorem sIx_none (n d : Nat) : sIx n d none = d := rfl
theorem sIx_nat (n d k : Nat) : sIx n d (some (k : Int)) = min k n := by
 show (if (k : Int) < 0 then ((k : Int) + (n : Int)).toNat else min (k : Int).toNat n) = min k n
 rw [if_neg (by omega), Int.toNat_natCast]
end
end HT
namespace L2
open PySem PySem.Spec PyProof.Rows
abbrev TO := St -> Hp -> (Option Int -> Hp -> Prop) -> Prop
def PO (X : Cx) (e : Option Expr) (t : TO) : Prop :=
 ∀ (pins : List (Addr × Obj)) (s : Shared) (σ : St) (H : Hp) (Q : Option Int → Hp → Prop), Inv X pins σ H s → t σ H Q →
  wpAny (model X.prog X.w) X.A (evalPart e X.env) (fun u s' => ∃ o H', Inv X pins σ H' s' ∧ IsPart u o ∧ Q o H') X.xe s
def tNoPart : TO := fun _ H Q => Q none H
def tPart (t : TE) : TO := fun σ H Q => t σ H fun x H1 => ∃ i, x = .int i /\ Q (some i) H1
section
variable {X : Cx} {e : Expr} {te : TE} {lo hi : Option Expr} {tl th : TO} {pos p2 : Pos}
theorem po_none : PO X none tNoPart := by
 intro pins s σ H Q I h
 rw [evalPart_none]
 exact wpAny_pure ⟨none, H, I, .none, h⟩
theorem po_some (h : PE X e te) : PO X (some e) (tPart te) := by
 intro pins s σ H Q I hw
 rw [evalPart_some]
 refine thn (h pins s σ H _ I hw) fun u s1 ⟨x, H1, I1, r1, q1⟩ => ?_
 obtain ⟨i, rfl, q⟩ := q1
 obtain ⟨t, rfl⟩ := r1
 exact ⟨some i, H1, I1, .int i t, q⟩
def SlR (X : Cx) (r : V -> Option Int -> Option Int -> Hp -> VK -> Prop) : Prop :=
 ∀ (pins : List (Addr × Obj)) (s : Shared) (σ : St) (H : Hp) (x : V) (v vl vu : Value) (lo hi : Option Int) (sl : Addr) (Q : VK), Inv X pins σ H s → RelV x v → s.heap.IsSliceOf sl vl vu .none → IsPart vl lo → IsPart vu hi → r x lo hi H Q →
  ∃ T id, typeLookup (.type T) "__getitem__" = pure (some (.builtin id)) ∧ s.TypeIs v T ∧ wpAny (model X.prog X.w) X.A (getItem v (.ref sl)) (EP X pins σ Q) X.xe s
def tSl (r : V -> Option Int -> Option Int -> Hp -> VK -> Prop) (te : TE) (tl th : TO) : TE := fun σ H Q => te σ H fun x H1 => tl σ H1 fun l H2 => th σ H2 fun u H3 => r x l u H3 Q
theorem pe_slice {r : V -> Option Int -> Option Int -> Hp -> VK -> Prop} (hr : SlR X r) (he : PE X e te) (hl : PO X lo tl) (hu : PO X hi th) : PE X (.Subscript e (.Slice lo hi none p2) pos) (tSl r te tl th) := by
 intro pins s σ H Q I h
 refine Subscript_ (thn (he pins s σ H _ I h) fun v s1 ⟨x, H1, I1, r1, q1⟩ => ?_)
 refine wpAny_Slice (thn (hl pins s1 σ H1 _ I1 q1) fun vl s2 ⟨l, H2, I2, pl, q2⟩ => thn (hu pins s2 σ H2 _ I2 q2) fun vu s3 ⟨u, H3, I3, pu, q3⟩ => ?_)
 rw [evalPart_none]
 refine wpAny_pure ?_
 have I4 : Inv X pins σ H3 { s3 with heap := s3.heap.push { cls := .type "slice", data := .fields #[vl, vu, .none] } } := I3.kept (t' := s3.toks) fun b ob q => Heap.get?_push_of_some _ q
 obtain ⟨T, id, hT, ht, hg⟩ := hr pins { s3 with heap := s3.heap.push { cls := .type "slice", data := .fields #[vl, vu, .none] } } σ H3 x v vl vu l u s3.heap.objs.size Q I4 r1 (Heap.IsSliceOf.new ..) pl pu q3
 show wpAny (model X.prog X.w) X.A (subscriptTail e (.Slice lo hi none p2) v (.ref s3.heap.objs.size)) (EP X pins σ Q) X.xe { s3 with heap := s3.heap.push { cls := .type "slice", data := .fields #[vl, vu, .none] } }
 exact tail_any (ops := [.ref s3.heap.objs.size, v]) ht hT hg (by with_unfolding_all rfl)
def cutV (xs : List V) (lo hi : Option Int) : List V := (xs.drop (HT.sIx xs.length 0 lo)).take (HT.sIx xs.length xs.length hi - HT.sIx xs.length 0 lo)
theorem cutV_length (xs : List V) (lo hi : Option Int) : (cutV xs lo hi).length ≤ xs.length := by
 unfold cutV
 rw [List.length_take, List.length_drop]
 omega
def rCatT (K : PySem.W.Frag) : R2 := fun x y H Q => ∃ a b xs ys, x = .ref a /\ y = .ref b /\ SqT K H a xs /\ SqT K H b ys /\ xs ≠ [] /\ xs.length + ys.length ≤ sizeLine /\
 (ys = [] → Q (.ref a) H) ∧ (ys ≠ [] → ∀ p, H p = none → Q (.ref p) (upd H p (.tup (xs ++ ys))))
theorem Vals.nil_iff {xs : List V} {us : List Value} (r : Vals xs us) : us = [] ↔ xs = [] := by
 cases r with
 | nil => simp
 | cons _ _ => simp
theorem op_catT : OpR X (binaryOp .Add) (rCatT X.K) := by
 intro pins s σ H x y v u Q I rx ry h
 obtain ⟨a, b, xs, ys, rfl, rfl, ha, hb, hx, hz, q1, q2⟩ := h
 cases rx
 cases ry
 obtain ⟨its, r1, p1, _⟩ := I.tuple ha
 obtain ⟨its2, r2, p2, _⟩ := I.tuple hb
 refine HT.cat_tup p1 p2 (fun z => hx (r1.nil_iff.mp z)) (fun z => ⟨.ref a, H, I, rfl, q1 (r2.nil_iff.mp z)⟩) (fun z => ?_) (by rw [← r1.length, ← r2.length]; exact hz)
 refine ⟨.ref s.heap.objs.size, _, I.laid (t' := s.toks) (o := .tup (xs ++ ys)) (fun b ob q => Heap.get?_push_of_some _ q) (Nat.le_refl _) ?_, rfl, q2 (fun w => z (r2.nil_iff.mpr w)) _ (I.hok.fresh (Nat.le_refl _))⟩
 exact ⟨by rw [List.length_append]; exact hz, _, r1.append r2, IsTup.new _ _⟩
end
end L2
namespace L2
open PySem PySem.Spec PyProof.Rows
def ixN (n : Nat) (i : Int) : Option Nat := if 0 ≤ i then (if i < n then some i.toNat else none) else if -(n : Int) ≤ i then some (i + n).toNat else none
def atI {α : Type} (xs : List α) (i : Int) : Option α := (ixN xs.length i).bind fun j => xs[j]?
theorem ixN_seq {n : Nat} {i : Int} {j : Nat} (h : ixN n i = some j) : seqIndex? i n = some j /\ j < n /\ -(n : Int) ≤ i /\ i < n := by
 unfold ixN at h
 by_cases h0 : 0 ≤ i
 . rw [if_pos h0] at h
   by_cases h1 : i < n
   . rw [if_pos h1] at h
     have e : i.toNat = j := Option.some.inj h
     exact ⟨by rw [seqIndex_of h0 h1, e], by omega, by omega, h1⟩
   . rw [if_neg h1] at h; cases h
 . rw [if_neg h0] at h
   by_cases h1 : -(n : Int) ≤ i
   . rw [if_pos h1] at h
     have e : (i + n).toNat = j := Option.some.inj h
     exact ⟨by rw [seqIndex_neg (by omega) h1, e], by omega, h1, by omega⟩
   . rw [if_neg h1] at h; cases h
theorem atI_get {α : Type} {xs : List α} {i : Int} {v : α} (h : atI xs i = some v) : ∃ j, seqIndex? i xs.length = some j /\ xs[j]? = some v /\ j < xs.length /\ -(xs.length : Int) ≤ i /\ i < xs.length := by
 unfold atI at h
 cases e : ixN xs.length i with
 | none => rw [e] at h; cases h
 | some j =>
   rw [e] at h
   obtain ⟨h1, h2, h3, h4⟩ := ixN_seq e
   exact ⟨j, h1, h, h2, h3, h4⟩
theorem atI_nat {α : Type} {xs : List α} {j : Nat} {v : α} (h : xs[j]? = some v) : atI xs (j : Int) = some v := by
 have hj : j < xs.length := (List.getElem?_eq_some_iff.mp h).1
 have e : ixN xs.length (j : Int) = some j := by
  unfold ixN
  rw [if_pos (by omega), if_pos (by omega)]; simp
 unfold atI; rw [e]; exact h
theorem atI_last {α : Type} (xs : List α) (v : α) : atI (xs ++ [v]) (-1) = some v := by
 have hl : (xs ++ [v]).length = xs.length + 1 := by simp
 have e : ixN (xs ++ [v]).length (-1) = some xs.length := by
  unfold ixN
  rw [hl, if_neg (by decide), if_pos (by omega)]
  congr 1
  omega
 unfold atI
 rw [e]
 show (xs ++ [v])[xs.length]? = some v
 simp
def PlainIx (b : Expr) : Prop := ∀ o i, subscripted b false o i = operate [o, i] (getItem o i)
def IxR (X : Cx) (r : R2) : Prop :=
 ∀ (value slice : Expr) (pins : List (Addr × Obj)) (s : Shared) (σ : St) (H : Hp) (x y : V) (v u : Value) (Q : VK), Inv X pins σ H s → RelV x v → RelV y u → r x y H Q →
  subscripted slice false v u = operate [v, u] (getItem v u) → wpAny (model X.prog X.w) X.A (subscriptTail value slice v u) (EP X pins σ Q) X.xe s
def MtR (X : Cx) (id : String) (r : V -> List V -> Hp -> VK -> Prop) : Prop :=
 ∀ (pins : List (Addr × Obj)) (s : Shared) (σ : St) (H : Hp) (x : V) (xs : List V) (v : Value) (us : List Value) (Q : VK), Inv X pins σ H s → RelV x v → Vals xs us → r x xs H Q →
  wpAny (model X.prog X.w) X.A (call (.builtin id) (v :: us)) (EP X pins σ Q) X.xe s
section
variable {X : Cx} {a b : Expr} {ta tb : TE} {pos : Pos}
theorem pe_ix {r : R2} (hr : IxR X r) (ha : PE X a ta) (hb : PE X b tb) (hs : PlainIx b) : PE X (.Subscript a b pos) (tOp r ta tb) := by
 intro pins s σ H Q I h
 exact Subscript_ (binT ha hb I h fun v u s2 x y H2 I2 rx ry q => hr a b pins s2 σ H2 x y v u Q I2 rx ry q (hs _ _))
def rIxL (K : PySem.W.Frag) : R2 := fun x y H Q => ∃ p xs i v, x = .ref p /\ y = .int i /\ SqL K H p xs /\ atI xs i = some v /\ Q v H
def rIxT (K : PySem.W.Frag) : R2 := fun x y H Q => ∃ p xs i v, x = .ref p /\ y = .int i /\ SqT K H p xs /\ atI xs i = some v /\ Q v H
theorem ix_list : IxR X (rIxL X.K) := by
 intro value slice pins s σ H x y v u Q I rx ry h hs
 obtain ⟨p, xs, i, z, rfl, rfl, hq, he, q⟩ := h
 cases rx
 obtain ⟨t, rfl⟩ := ry
 obtain ⟨its, r, pl, hz⟩ := I.list hq
 obtain ⟨j, h1, h2, h3, h4, h5⟩ := atI_get he
 obtain ⟨w, ew, rw'⟩ := r.get h2
 have hl := r.length
 have hn := line63
 have fin : EP X pins σ Q w s := ⟨z, H, I, rw', q⟩
 by_cases h0 : 0 ≤ i
 . have hj : i.toNat = j := by
    rw [seqIndex_of h0 h5] at h1
    exact Option.some.inj h1
   exact item_listR pl.isList h0 (by omega) (by rw [hj]; simpa using ew) fin hs
 . have hj : (i + (its.toArray.size : Int)).toNat = j := by
    rw [seqIndex_neg (by omega) h4] at h1
    rw [List.size_toArray, ← hl]
    exact Option.some.inj h1
   exact subscriptTail_builtinR (x := w) pl.isList.typeIs slot_list_getitem.lookup
    (wpAny_getItem_list_neg (Q := fun r s' => r = w ∧ EP X pins σ Q r s') pl.isList (by omega) (by rw [List.size_toArray] <;> omega) (by omega) (by rw [hj]; simpa using ew) ⟨rfl, fin⟩) hs
theorem ix_tup : IxR X (rIxT X.K) := by
 intro value slice pins s σ H x y v u Q I rx ry h hs
 obtain ⟨p, xs, i, z, rfl, rfl, hq, he, q⟩ := h
 cases rx
 obtain ⟨t, rfl⟩ := ry
 obtain ⟨its, r, pl, hz⟩ := I.tuple hq
 obtain ⟨j, h1, h2, h3, h4, h5⟩ := atI_get he
 obtain ⟨w, ew, rw'⟩ := r.get h2
 have hl := r.length
 have hn := line63
 have fin : EP X pins σ Q w s := ⟨z, H, I, rw', q⟩
 exact subscriptTail_builtinR (x := w) pl.typeIs slot_tuple_getitem.lookup
  (getItem_tuple (j := j) (Q := fun r s' => r = w ∧ EP X pins σ Q r s') pl (by omega) (by omega) (by rw [List.size_toArray, ← hl]; exact h1) (by simpa using ew) ⟨rfl, fin⟩) hs
theorem mapSeq_set (its : List Value) (n j : Nat) (u : Value) : Obj.mapSeq (·.setIfInBounds j u) { cls := .type "list", data := .seq its.toArray n } = { cls := .type "list", data := .seq (its.set j u).toArray n } := by
 simp [Obj.mapSeq]
theorem Inv.lst {pins : List (Addr × Obj)} {σ : St} {H : Hp} {s : Shared} {p : Addr} {xs : List V} (I : Inv X pins σ H s) (h : H p = some (.lst xs)) :
 ∃ (its : List Value) (n : Nat), Vals xs its ∧ s.heap.get? p = some { cls := .type "list", data := .seq its.toArray n } ∧ xs.length ≤ sizeLine := by
 obtain ⟨z, its, n, r, e⟩ := I.hok p _ h
 exact ⟨its, n, r, e, z⟩
theorem Inv.lstUpd {pins : List (Addr × Obj)} {σ : St} {H : Hp} {s : Shared} {p : Addr} {xs ys : List V} {its its' : List Value} {n n' : Nat} {f : Obj -> Obj} (I : Inv X pins σ H s) (h : H p = some (.lst xs))
 (ho : s.heap.get? p = some { cls := .type "list", data := .seq its.toArray n }) (hf : f { cls := .type "list", data := .seq its.toArray n } = { cls := .type "list", data := .seq its'.toArray n' }) (r : Vals ys its') (hz : ys.length ≤ sizeLine) (t : Nat) :
 Inv X pins σ (upd H p (.lst ys)) { s with heap := s.heap.update p f, toks := t } := by
 have e : (s.heap.update p f).get? p = some { cls := .type "list", data := .seq its'.toArray n' } := by
  rw [Heap.get?_update_self f ho (by rw [hf] <;> rfl), hf]
 refine I.write (x := p) (e := p) (by rw [h]; trivial) (.inl rfl) (fun b u hb q => (Heap.get?_update_other _ _ (Ne.symm hb)).trans q) ⟨_, e⟩ ?_
 exact ⟨hz, its', n', r, e⟩
def rSetL : V -> V -> V -> Hp -> (Hp -> Prop) -> Prop := fun o i v H Q => ∃ p xs k j, o = .ref p /\ i = .int k /\ H p = some (.lst xs) /\ ixN xs.length k = some j /\ Q (upd H p (.lst (xs.set j v)))
theorem set_list : PSet X rSetL := by
 intro pins s σ H o i v ov iv u Q I ro ri rv h
 obtain ⟨p, xs, k, j, rfl, rfl, hp, hj, q⟩ := h
 cases ro
 obtain ⟨t, rfl⟩ := ri
 obtain ⟨its, n, r, ho, hz⟩ := I.lst hp
 obtain ⟨h1, h2, h3, h4⟩ := ixN_seq hj
 have hl := r.length
 have hn := line63
 have I' : Inv X pins σ (upd H p (.lst (xs.set j v))) { s with heap := s.heap.update p (Obj.mapSeq (·.setIfInBounds j u)) } :=
  I.lstUpd hp ho (mapSeq_set its n j u) (r.set rv j) (by rw [List.length_set]; exact hz) s.toks
 by_cases h0 : 0 ≤ k
 . have hk : k.toNat = j := by
    rw [seqIndex_of h0 h4] at h1
    exact Option.some.inj h1
   exact PySem.W.ki_setAt ho h0 (by omega) (by rw [List.size_toArray, ← hl]; exact h4) (by rw [hk]; exact ⟨_, I', q⟩)
 . have hk : (k + (its.toArray.size : Int)).toNat = j := by
    rw [seqIndex_neg (by omega) h3] at h1
    rw [List.size_toArray, ← hl]
    exact Option.some.inj h1
   exact PySem.W.ki_setBack ho (by omega) (by rw [List.size_toArray, ← hl]; exact h3) (by omega) (by rw [hk]; exact ⟨_, I', q⟩)
theorem slice_bounds (lo hi : Option Int) (n : Nat) : (sliceBounds lo hi none n).1 = ((HT.sIx n 0 lo : Nat) : Int) /\ (sliceBounds lo hi none n).2.1 = ((HT.sIx n n hi : Nat) : Int) /\ (sliceBounds lo hi none n).2.2 = 1 := by
 refine ⟨?_, ?_, rfl⟩
 . cases lo with
   | none => simp [sliceBounds, HT.sIx]
   | some i =>
     simp only [sliceBounds, HT.sIx, Option.getD_none, show (1 : Int) > 0 by decide, if_true]
     by_cases h : i < 0
     . simp only [h, if_true] <;> omega
     . simp only [h, if_false] <;> omega
 . cases hi with
   | none => simp [sliceBounds, HT.sIx]
   | some i =>
     simp only [sliceBounds, HT.sIx, Option.getD_none, show (1 : Int) > 0 by decide, if_true]
     by_cases h : i < 0
     . simp only [h, if_true] <;> omega
     . simp only [h, if_false] <;> omega
theorem slicePick_cut (its : List Value) (lo hi : Option Int) : slicePick its.toArray lo hi none = ((its.drop (HT.sIx its.length 0 lo)).take (HT.sIx its.length its.length hi - HT.sIx its.length 0 lo)).toArray := by
 obtain ⟨h1, h2, h3⟩ := slice_bounds lo hi its.toArray.size
 unfold slicePick
 rw [h1, h2, h3]
 simp only [sliceRange_one, pick_run, List.size_toArray] <;> rfl
def rSlL (K : PySem.W.Frag) : V -> Option Int -> Option Int -> Hp -> VK -> Prop := fun x lo hi H Q => ∃ a xs, x = .ref a /\ SqL K H a xs /\ ∀ p, H p = none -> Q (.ref p) (upd H p (.lst (cutV xs lo hi)))
theorem sl_list : SlR X (rSlL X.K) := by
 intro pins s σ H x v vl vu lo hi sl Q I rx hs pl pu h
 obtain ⟨a, xs, rfl, hx, q⟩ := h
 cases rx
 obtain ⟨its, r, ht, hz⟩ := I.list hx
 have hlen := r.length
 refine ⟨"list", _, slot_list_getitem.lookup, ht.isList.typeIs, ?_⟩
 refine wpAny_getItem_list_slice ht.isList hs pl pu .none (by simp) ?_ (by rw [List.size_toArray] <;> omega)
 rw [slicePick_cut, ← hlen]
 refine ⟨.ref s.heap.objs.size, _, I.laid (t' := s.toks) (o := .lst (cutV xs lo hi)) (fun b ob q => Heap.get?_push_of_some _ q) (Nat.le_refl _) ?_, rfl, q _ (I.hok.fresh (Nat.le_refl _))⟩
 exact ⟨Nat.le_trans (cutV_length xs lo hi) hz, _, 0, (r.drop (HT.sIx xs.length 0 lo)).take (HT.sIx xs.length xs.length hi - HT.sIx xs.length 0 lo), Heap.get?_push_size _ rfl⟩
def flatV : V -> Bool
 | .non => true
 | .bl _ => true
 | .int _ => true
 | .str _ => true
 | _ => false
def eqV : V -> V -> Bool
 | .non, .non => true
 | .bl a, .bl b => a == b
 | .bl a, .int b => (if a then 1 else 0) == b
 | .int a, .bl b => a == (if b then 1 else 0)
 | .int a, .int b => a == b
 | .str a, .str b => a == b
 | _, _ => false
theorem eqAt_V {A : Around} {s : Shared} {y x : V} {u v : Value} (ry : RelV y u) (rx : RelV x v) (fy : flatV y = true) (fx : flatV x = true) : SeqAt.EqAt A s u v (eqV y x) := by
 cases y with
 | non =>
   cases ry
   cases x with
   | non => cases rx; exact SeqAt.EqAt.same _
   | bl b => cases rx; exact SeqAt.EqAt.none_bool b
   | int b => obtain ⟨t, rfl⟩ := rx; exact SeqAt.EqAt.none_int b t
   | str b => obtain ⟨t, rfl⟩ := rx; exact SeqAt.EqAt.none_str b t
   | _ => exact absurd (show false = true from fx) Bool.false_ne_true
 | bl a =>
   cases ry
   cases x with
   | non => cases rx; exact SeqAt.EqAt.bool_none a
   | bl b => cases rx; exact SeqAt.EqAt.bool_bool a b
   | int b => obtain ⟨t, rfl⟩ := rx; exact SeqAt.EqAt.bool_int a b t
   | str b => obtain ⟨t, rfl⟩ := rx; exact SeqAt.EqAt.bool_str a b t
   | _ => exact absurd (show false = true from fx) Bool.false_ne_true
 | int a =>
   obtain ⟨t', rfl⟩ := ry
   cases x with
   | non => cases rx; exact SeqAt.EqAt.int_none a t'
   | bl b => cases rx; exact SeqAt.EqAt.int_bool a t' b
   | int b => obtain ⟨t, rfl⟩ := rx; exact SeqAt.EqAt.int_int a t' b t
   | str b => obtain ⟨t, rfl⟩ := rx; exact SeqAt.EqAt.int_str a t' b t
   | _ => exact absurd (show false = true from fx) Bool.false_ne_true
 | str a =>
   obtain ⟨t', rfl⟩ := ry
   cases x with
   | non => cases rx; exact SeqAt.EqAt.str_none a t'
   | bl b => cases rx; exact SeqAt.EqAt.str_bool a t' b
   | int b => obtain ⟨t, rfl⟩ := rx; exact SeqAt.EqAt.str_int a t' b t
   | str b => obtain ⟨t, rfl⟩ := rx; exact SeqAt.EqAt.str_str a t' b t
   | _ => exact absurd (show false = true from fx) Bool.false_ne_true
 | _ => exact absurd (show false = true from fy) Bool.false_ne_true
def eqU (x : V) (u : Value) : Bool := match u with
 | .none => eqV .non x
 | .bool b => eqV (.bl b) x
 | .int i _ => eqV (.int i) x
 | .str z _ => eqV (.str z) x
 | _ => false
theorem eqU_of {x y : V} {u : Value} (r : RelV y u) (f : flatV y = true) : eqU x u = eqV y x := by
 cases y with
 | non => cases r; rfl
 | bl b => cases r; rfl
 | int i => obtain ⟨t, rfl⟩ := r; rfl
 | str z => obtain ⟨t, rfl⟩ := r; rfl
 | _ => exact absurd (show false = true from f) Bool.false_ne_true
theorem any_eqU {x : V} : ∀ {xs : List V} {us : List Value}, Vals xs us -> xs.all flatV = true -> us.any (eqU x) = xs.any fun y => eqV y x
 | _, _, .nil, _ => rfl
 | y :: xs, u :: us, .cons r t, f => by
   rw [List.all_cons, Bool.and_eq_true] at f
   rw [List.any_cons, List.any_cons, eqU_of r f.1, any_eqU t f.2]
theorem mem_eqAt {A : Around} {s : Shared} {x : V} {v : Value} (rx : RelV x v) (fx : flatV x = true) : ∀ {xs : List V} {us : List Value}, Vals xs us -> xs.all flatV = true -> ∀ u ∈ us, SeqAt.EqAt A s u v (eqU x u)
 | _, _, .nil, _ => fun u hu => by cases hu
 | y :: xs, u :: us, .cons r t, f => fun u' hu => by
   rw [List.all_cons, Bool.and_eq_true] at f
   rcases List.mem_cons.mp hu with rfl | hu
   . rw [eqU_of r f.1]; exact eqAt_V r rx f.1 fx
   . exact mem_eqAt rx fx t f.2 u' hu
def inV (x : V) (xs : List V) : Bool := xs.any fun y => eqV y x
def rIn (K : PySem.W.Frag) (neg : Bool) : R2 := fun x y H Q => ∃ p xs, y = .ref p /\ (SqL K H p xs ∨ SqT K H p xs) /\ flatV x = true /\ xs.all flatV = true /\ Q (.bl (if neg then !inV x xs else inV x xs)) H
theorem op_in_seq : OpR X (compareOp .In) (rIn X.K false) := by
 intro pins s σ H x y v u Q I rx ry h
 obtain ⟨p, xs, rfl, hq, fx, fs, q⟩ := h
 cases ry
 rcases hq with hq | hq
 . obtain ⟨its, r, pl, hz⟩ := I.list hq
   refine SeqAt.in_listAt (eqU x) pl.isList (fun w hw => mem_eqAt rx fx r fs w (by simpa using hw)) ⟨.bl _, H, I, rfl, ?_⟩
   rw [show its.toArray.any (eqU x) = its.any (eqU x) by simp, any_eqU r fs]
   exact q
 . obtain ⟨its, r, pl, hz⟩ := I.tuple hq
   refine SeqAt.in_tupleAt (eqU x) pl (fun w hw => mem_eqAt rx fx r fs w (by simpa using hw)) ⟨.bl _, H, I, rfl, ?_⟩
   rw [show its.toArray.any (eqU x) = its.any (eqU x) by simp, any_eqU r fs]
   exact q
theorem op_notIn_seq : OpR X (compareOp .NotIn) (rIn X.K true) := by
 intro pins s σ H x y v u Q I rx ry h
 obtain ⟨p, xs, rfl, hq, fx, fs, q⟩ := h
 cases ry
 rcases hq with hq | hq
 . obtain ⟨its, r, pl, hz⟩ := I.list hq
   refine SeqAt.notIn_listAt (eqU x) pl.isList (fun w hw => mem_eqAt rx fx r fs w (by simpa using hw)) ⟨.bl _, H, I, rfl, ?_⟩
   rw [show its.toArray.any (eqU x) = its.any (eqU x) by simp, any_eqU r fs]
   exact q
 . obtain ⟨its, r, pl, hz⟩ := I.tuple hq
   refine SeqAt.notIn_tupleAt (eqU x) pl (fun w hw => mem_eqAt rx fx r fs w (by simpa using hw)) ⟨.bl _, H, I, rfl, ?_⟩
   rw [show its.toArray.any (eqU x) = its.any (eqU x) by simp, any_eqU r fs]
   exact q
theorem q15z : CallR X (.builtin "len") (fun xs H Q => ∃ p ys, xs = [.ref p] /\ (SqL X.K H p ys ∨ SqT X.K H p ys) /\ Q (.int ys.length) H) := by
 intro pins s σ H xs us Q I r h
 obtain ⟨p, ys, rfl, hq, q⟩ := h
 obtain ⟨u, rfl, rx⟩ := vals1 r
 cases rx
 have hn := line63
 rcases hq with hq | hq
 . obtain ⟨its, r', pl, hz⟩ := I.list hq
   have hlen := r'.length
   exact Calls.call_len_list pl.isList (by simp only [List.size_toArray] <;> omega) ⟨.int ys.length, H, I.tok _, ⟨s.toks + 1, by rw [List.size_toArray, hlen]⟩, q⟩
 . obtain ⟨its, r', pl, hz⟩ := I.tuple hq
   have hlen := r'.length
   exact len_tuple pl (by simp only [List.size_toArray] <;> omega) ⟨.int ys.length, H, I.tok _, ⟨s.toks + 1, by rw [List.size_toArray, hlen]⟩, q⟩
theorem call_len_str : CallR X (.builtin "len") (fun xs H Q => ∃ z, xs = [.str z] /\ z.length ≤ sizeLine /\ Q (.int z.length) H) := by
 intro pins s σ H xs us Q I r h
 obtain ⟨z, rfl, hz, q⟩ := h
 obtain ⟨u, rfl, t, rfl⟩ := vals1 r
 have hn := line63
 exact len_str (by omega) ⟨.int z.length, H, I.tok _, ⟨_, rfl⟩, q⟩
theorem call_list_of : CallR X (.type "list") (fun xs H Q => ∃ p ys, xs = [.ref p] /\ (SqL X.K H p ys ∨ SqT X.K H p ys) /\ ∀ l, H l = none -> Q (.ref l) (upd H l (.lst ys))) := by
 intro pins s σ H xs us Q I r h
 obtain ⟨p, ys, rfl, hq, q⟩ := h
 obtain ⟨u, rfl, rx⟩ := vals1 r
 cases rx
 have fin : ∀ (its : List Value), Vals ys its → ys.length ≤ sizeLine → ∀ (h' : Heap) (c' : Nat), (∀ b o', s.heap.get? b = some o' → h'.get? b = some o') →
  h'.get? s.heap.objs.size = some { cls := .type "list", dict := none, data := .seq its.toArray c', slots := #[] } → EP X pins σ Q (.ref s.heap.objs.size) { s with heap := h' } := fun its r' hz h' c' kp e =>
  ⟨.ref s.heap.objs.size, _, I.laid (t' := s.toks) kp (Nat.le_refl _) (show ObjOk X.prog X.w _ h' _ (.lst ys) from ⟨hz, its, c', r', e⟩), rfl, q _ (I.hok.fresh (Nat.le_refl _))⟩
 rcases hq with hq | hq
 . obtain ⟨its, r', pl, hz⟩ := I.list hq
   have hlen := r'.length
   obtain ⟨o, ho, hc, n, hd⟩ := pl.isList
   exact call_list_seq p (.inl rfl) ho hc hd (fun h' c' kp e => fin its r' hz h' c' kp e) (by simp only [List.size_toArray] <;> omega)
 . obtain ⟨its, r', pl, hz⟩ := I.tuple hq
   have hlen := r'.length
   obtain ⟨o, ho, hc, n, hd⟩ := pl
   exact call_list_seq p (.inr rfl) ho hc hd (fun h' c' kp e => fin its r' hz h' c' kp e) (by simp only [List.size_toArray] <;> omega)
theorem call_tuple_of : CallR X (.type "tuple") (fun xs H Q => ∃ p ys, xs = [.ref p] /\ ((SqL X.K H p ys /\ ∀ l, H l = none -> Q (.ref l) (upd H l (.tup ys))) ∨ (SqT X.K H p ys /\ Q (.ref p) H))) := by
 intro pins s σ H xs us Q I r h
 obtain ⟨p, ys, rfl, h⟩ := h
 obtain ⟨u, rfl, rx⟩ := vals1 r
 cases rx
 rcases h with ⟨hq, q⟩ | ⟨hq, q⟩
 . obtain ⟨its, r', pl, hz⟩ := I.list hq
   have hlen := r'.length
   refine call_tuple_list pl.isList (fun h' kp => ?_) (by simp only [List.size_toArray] <;> omega)
   have I1 : Inv X pins σ H { s with heap := h' } := I.kept (t' := s.toks) kp
   have I2 : Inv X pins σ (upd H h'.objs.size (.tup ys)) { s with heap := h'.push { cls := .type "tuple", data := .seq its.toArray } } :=
    I1.laid (t' := s.toks) (fun b o e => Heap.get?_push_of_some _ e) (Nat.le_refl _) (show ObjOk X.prog X.w _ _ _ (.tup ys) from ⟨hz, its, r', IsTup.new _ _⟩)
   exact ⟨.ref h'.objs.size, _, I2, rfl, q _ (I1.hok.fresh (Nat.le_refl _))⟩
 . obtain ⟨its, r', pl, hz⟩ := I.tuple hq
   exact call_tuple_same pl ⟨.ref p, H, I, rfl, q⟩
def tyV (K : PySem.W.Frag) (T : String) (x : V) (H : Hp) : Prop := match x with
 | .str _ => T = "str"
 | .int _ => T = "int"
 | .ref p => (T = "list" ∧ ∃ xs, SqL K H p xs) ∨ (T = "tuple" ∧ ∃ o, K.lookup p = some o ∧ o.cls = .type "tuple" ∧ o.dict = none) ∨
  (T = "dict" ∧ ((∃ kvs, H p = some (.dK kvs)) ∨ ∃ kvs, H p = some (.dT kvs))) ∨ (T = "set" ∧ ∃ S n, H p = some (.set S n))
 | _ => False
theorem tyV_is {pins : List (Addr × Obj)} {σ : St} {H : Hp} {s : Shared} {T : String} {x : V} {v : Value} (I : Inv X pins σ H s) (r : RelV x v) (ty : tyV X.K T x H) :
 s.TypeIs v T ∧ ∀ a, v = .ref a → ∃ ob, s.heap.get? a = some ob ∧ ob.dict = none := by
 cases x with
 | str z =>
   obtain ⟨t, rfl⟩ := r
   cases (show T = "str" from ty)
   exact ⟨typeIs_str s z t, fun _ e => nomatch e⟩
 | int i =>
   obtain ⟨t, rfl⟩ := r
   cases (show T = "int" from ty)
   exact ⟨typeIs_int s i t, fun _ e => nomatch e⟩
 | ref p =>
   cases r
   rcases ty with ⟨rfl, xs, hq⟩ | ⟨rfl, o, hk, hc, hd⟩ | ⟨rfl, hk⟩ | ⟨rfl, S, n, hk⟩
   . obtain ⟨its, _, pl, _⟩ := I.list hq
     refine ⟨pl.isList.typeIs, fun a e => ?_⟩
     cases e
     obtain ⟨o, n, e, c, hd, _⟩ := pl
     exact ⟨o, e, hd⟩
   . refine ⟨⟨o, I.kIn p o hk, hc⟩, fun a e => ?_⟩
     cases e
     exact ⟨o, I.kIn _ o hk, hd⟩
   . have z : ∃ o, s.heap.get? p = some o ∧ o.ExactDict := by
      rcases hk with ⟨kvs, hk⟩ | ⟨kvs, hk⟩
      . obtain ⟨_, _, _, _, o, _, _, e, ex, _⟩ := I.hok p _ hk
        exact ⟨o, e, ex⟩
      . obtain ⟨_, _, _, _, o, _, _, e, ex, _⟩ := I.hok p _ hk
        exact ⟨o, e, ex⟩
     obtain ⟨o, e, ex⟩ := z
     refine ⟨⟨o, e, ex.1⟩, fun a e2 => ?_⟩
     cases e2
     exact ⟨o, e, ex.2.1⟩
   . obtain ⟨o, _, _, _, e, ex, _⟩ := I.hok p _ hk
     refine ⟨⟨o, e, ex.1⟩, fun a e2 => ?_⟩
     cases e2
     exact ⟨o, e, ex.2.1⟩
 | _ => exact False.elim ty
def tBM0 (K : PySem.W.Frag) (T : String) (r : V -> List V -> Hp -> VK -> Prop) (to : TE) : TE := fun σ H Q => to σ H fun x H1 => tyV K T x H1 /\ r x [] H1 Q
def tBM (K : PySem.W.Frag) (T : String) (r : V -> List V -> Hp -> VK -> Prop) (to : TE) (t : TA) : TE := fun σ H Q => to σ H fun x H1 => tyV K T x H1 /\ t σ H1 fun xs H2 => r x xs H2 Q
variable {o e : Expr} {es : List Expr} {to : TE} {t : TA} {name : Str} {apos cpos : Pos} {T id : String} {r : V → List V → Hp → VK → Prop}
theorem pe_bm0 (pa : PlainAttrs T) (slot : Slot T name id) (hty : typeOf (.builtin id) = pure (.type "method_descriptor")) (hm : MtR X id r) (ho : PE X o to)
 (hbase : attributeBase o name X.env (eval o X.env) = eval o X.env := by rfl) (hline : (apos.endLine == cpos.line) = true := by rfl) : PE X (.Call (.Attribute o name apos) [] [] cpos) (tBM0 X.K T r to) := by
 intro pins s σ H Q I h
 refine wpAny_Call_method0_late hbase hline (thn (ho pins s σ H _ I h) fun v s1 ⟨x, H1, I1, r1, ty, q1⟩ => ?_)
 obtain ⟨h1, h2⟩ := tyV_is I1 r1 ty
 exact ⟨T, id, pa, slot, hty, h1, h2, Calls.callWith_builtin rfl (PySem.evalArgs_none (hm pins s1 σ H1 x [] v [] Q I1 r1 .nil q1))⟩
theorem pe_bm (pa : PlainAttrs T) (slot : Slot T name id) (hty : typeOf (.builtin id) = pure (.type "method_descriptor")) (hm : MtR X id r) (ho : PE X o to) (ha : PA X (e :: es) t)
 (hbase : attributeBase o name X.env (eval o X.env) = eval o X.env := by rfl)
 (hfew : ((backTo cpos (starEach (e :: es) X.env)).all (fun x => !x.1) && (backToKw cpos (keywordEach [] X.env)).all (fun x => x.1.isSome)
  && decide ((e :: es).length + ([] : List Keyword).length + (if ([] : List Keyword).isEmpty then 0 else 1) < 30)) = true := by rfl)
 (hline : (apos.endLine == cpos.line) = true := by rfl) (hs : starEach (e :: es) X.env = (false, eval e X.env) :: starEach es X.env := by rfl) (hplain : (backTo cpos (starEach es X.env)).any (·.1) = false := by rfl) :
 PE X (.Call (.Attribute o name apos) (e :: es) [] cpos) (tBM X.K T r to t) := by
 intro pins s σ H Q I h
 refine wpAny_Call_method_late hbase hfew hline rfl (thn (ho pins s σ H _ I h) fun v s1 ⟨x, H1, I1, r1, ty, q1⟩ => ?_)
 obtain ⟨h1, h2⟩ := tyV_is I1 r1 ty
 refine ⟨T, id, pa, slot, hty, h1, h2, ?_⟩
 have hA := ha cpos pins s1 σ H1 _ I1 q1
 rw [hs] at hA ⊢
 refine Calls.callWith_builtin (by show (false || (backTo cpos (starEach es X.env)).any (·.1)) = false; rw [hplain] <;> rfl) (Calls.evalArgs_plain ?_)
 exact thn hA fun us s2 ⟨vs, H2, I2, r2, q2⟩ => hm pins s2 σ H2 x vs v us Q I2 r1 r2 q2
/- xs.append(e), list.index on a module's tuple .. are MtR facts of 06m -/
end
end L2
namespace L2
open PySem PySem.Spec PyProof.Rows
def MtM (X : Cx) (id : String) (r : V -> List V -> Hp -> VK -> Prop) : Prop :=
 ∀ (pins : List (Addr × Obj)) (s : Shared) (σ : St) (H : Hp) (x : V) (xs : List V) (v : Value) (us : List Value) (Q : VK), Inv X pins σ H s → RelV x v → Vals xs us → r x xs H Q →
  wpAny (model X.prog X.w) X.A (call (.builtin id) (v :: us)) (EP X pins σ Q) X.xe s
theorem Vals.one : ∀ {x : V} {us : List Value}, Vals [x] us -> ∃ u, us = [u] /\ RelV x u
 | _, _, .cons r .nil => ⟨_, rfl, r⟩
theorem Vals.zero : ∀ {us : List Value}, Vals [] us -> us = []
 | _, .nil => rfl
theorem Vals.dropLast {xs : List V} {us : List Value} (h : Vals xs us) : Vals xs.dropLast us.dropLast := by
 induction h with
 | nil => exact .nil
 | cons r t ih =>
   cases t with
   | nil => exact .nil
   | cons q t' => exact .cons r ih
theorem Vals.rep {xs : List V} {us : List Value} (h : Vals xs us) : ∀ k : Nat, Vals (List.replicate k xs).flatten (List.replicate k us).flatten
 | 0 => .nil
 | k + 1 => by
   rw [List.replicate_succ, List.replicate_succ, List.flatten_cons, List.flatten_cons]
   exact Vals.append h (Vals.rep h k)
theorem erase_last {α : Type} (l : List α) : l.eraseIdx (l.length - 1) = l.dropLast := by
 induction l with
 | nil => rfl
 | cons a r ih =>
   cases r with
   | nil => rfl
   | cons b r =>
     have e : (a :: b :: r).length - 1 = ((b :: r).length - 1) + 1 := by
      have h1 : (a :: b :: r).length = r.length + 2 := rfl
      have h2 : (b :: r).length = r.length + 1 := rfl
      omega
     rw [e, List.eraseIdx_cons_succ, ih]
     all_goals rfl
theorem foldl_rep (its : List Value) : ∀ (k : Nat) (acc : List Value),
 List.foldl (fun x1 x2 => x1 ++ x2) acc.toArray (List.replicate k its.toArray) = (acc ++ (List.replicate k its).flatten).toArray
 | 0, acc => by simp
 | k + 1, acc => by
   have e : acc.toArray ++ its.toArray = (acc ++ its).toArray := by simp
   have e2 : (acc ++ its) ++ (List.replicate k its).flatten = acc ++ (List.replicate (k + 1) its).flatten := by
    rw [List.replicate_succ, List.flatten_cons, List.append_assoc]
   rw [← e2, ← foldl_rep its k (acc ++ its), ← e, List.replicate_succ, List.foldl_cons]
section
variable {X : Cx} {pins : List (Addr × Obj)} {σ : St} {H : Hp} {s : Shared} {l b : Addr} {xs ys zs : List V}
theorem Inv.lset {its its' : List Value} {n : Nat} {f : Array Value -> Array Value} {t' : Nat} (I : Inv X pins σ H s) (hH : H l = some (.lst xs))
 (e : s.heap.get? l = some { cls := .type "list", data := .seq its.toArray n }) (hf : f its.toArray = its'.toArray) (hv : Vals ys its') (hz : ys.length ≤ sizeLine) :
 Inv X pins σ (upd H l (.lst ys)) { s with heap := s.heap.update l (Obj.mapSeq f), toks := t' } := by
 have q := PySem.IsL.update e f
 rw [hf] at q
 refine I.write (x := l) (e := l) (by rw [hH]; exact trivial) (.inl rfl) (fun b' u hb hu => (Heap.get?_update_other s.heap (Obj.mapSeq f) (Ne.symm hb)).trans hu) ⟨_, q⟩ ?_
 exact ⟨hz, its', _, hv, q⟩
theorem Inv.lnew {its : List Value} {t' : Nat} (I : Inv X pins σ H s) (hv : Vals ys its) (hz : ys.length ≤ sizeLine) :
 Inv X pins σ (upd H s.heap.objs.size (.lst ys)) { s with heap := s.heap.push { cls := .type "list", data := .seq its.toArray }, toks := t' } :=
 I.laid (fun _ _ q => Heap.get?_push_of_some _ q) (Nat.le_refl _) ⟨hz, its, 0, hv, Heap.get?_push_size _ rfl⟩
theorem Inv.fresh (I : Inv X pins σ H s) : H s.heap.objs.size = none := I.hok.fresh (Nat.le_refl _)
theorem Inv.lstM (I : Inv X pins σ H s) (hH : H l = some (.lst xs)) : xs.length ≤ sizeLine /\ ∃ (its : List Value) (n : Nat), Vals xs its /\ xs.length = its.length /\ s.heap.get? l = some { cls := .type "list", data := .seq its.toArray n } := by
 obtain ⟨z, its, n, r, e⟩ := I.hok l _ hH
 exact ⟨z, its, n, r, r.length, e⟩
theorem notLongL {n : Nat} (h : n ≤ sizeLine) : Builtin.List.listTooLong n = false := by
 unfold Builtin.List.listTooLong
 exact decide_eq_false (by omega)
end
section
variable {X : Cx}
def rAppend : V -> List V -> Hp -> VK -> Prop := fun x vs H Q => ∃ l xs y, x = .ref l /\ vs = [y] /\ H l = some (.lst xs) /\ xs.length < sizeLine /\ Q .non (upd H l (.lst (xs ++ [y])))
theorem mt_append : MtM X "list.append" rAppend := by
 intro pins s σ H x vs v us Q I rx rv h
 obtain ⟨l, xs, y, rfl, rfl, hH, hz, q⟩ := h
 cases rx
 obtain ⟨u, rfl, ru⟩ := rv.one
 obtain ⟨z, its, n, r, hl, e⟩ := I.lstM hH
 refine call_meets F.slot_list_append ⟨_, e, rfl⟩ F.entry_list_append (F.args_list_append_2 _ _) (PySem.list_append l its.toArray n u (by rw [List.size_toArray]; omega)) ⟨e, ?_⟩
 refine ⟨.non, _, I.lset (its' := its ++ [u]) hH e (by simp) (r.append (.cons ru .nil)) ?_, rfl, q⟩
 rw [List.length_append, List.length_singleton]
 omega
def rExtend : V -> List V -> Hp -> VK -> Prop := fun x vs H Q => ∃ l b xs zs, x = .ref l /\ vs = [.ref b] /\ H l = some (.lst xs) /\ H b = some (.lst zs) /\ xs.length + zs.length ≤ sizeLine /\ Q .non (upd H l (.lst (xs ++ zs)))
theorem mt_extend : MtM X "list.extend" rExtend := by
 intro pins s σ H x vs v us Q I rx rv h
 obtain ⟨l, b, xs, zs, rfl, rfl, hH, hB, hz, q⟩ := h
 cases rx
 obtain ⟨u, rfl, ru⟩ := rv.one
 cases ru
 obtain ⟨z, its, n, r, hl, e⟩ := I.lstM hH
 obtain ⟨z2, its2, n2, r2, hl2, e2⟩ := I.lstM hB
 have hsz : its.toArray.size + its2.toArray.size ≤ sizeLine := by rw [List.size_toArray, List.size_toArray]; omega
 have hlong : ¬ (!its.toArray.isEmpty && Builtin.List.listTooLong (its.toArray.size + its2.toArray.size)) = true := by
  rw [notLongL hsz, Bool.and_false]
  exact Bool.false_ne_true
 refine call_meets F.slot_list_extend ⟨_, e, rfl⟩ F.entry_list_extend (F.args_list_extend_2 _ _)
  (AutoSeq1.list_extend_list_list_0 l its.toArray n b its2.toArray n2 hlong (by rw [List.size_toArray]; omega) (by omega)) ⟨e, e2, ?_⟩
 refine ⟨.non, _, I.lset (its' := its ++ its2) hH e (by simp) (r.append r2) ?_, rfl, q⟩
 rw [List.length_append]
 omega
def rPop : V -> List V -> Hp -> VK -> Prop := fun x vs H Q => ∃ l xs y, x = .ref l /\ vs = [] /\ H l = some (.lst xs) /\ xs[xs.length - 1]? = some y /\ Q y (upd H l (.lst xs.dropLast))
theorem mt_pop : MtM X "list.pop" rPop := by
 intro pins s σ H x vs v us Q I rx rv h
 obtain ⟨l, xs, y, rfl, rfl, hH, hy, q⟩ := h
 cases rx
 have hus := rv.zero
 subst hus
 obtain ⟨z, its, n, r, hl, e⟩ := I.lstM hH
 obtain ⟨u, hu, ru⟩ := r.get hy
 have hy' : its.toArray[its.toArray.size - 1]? = some u := by
  show its.toArray[its.length - 1]? = some u
  rw [← Array.getElem?_toList, ← hl]
  exact hu
 refine call_meets F.slot_list_pop ⟨_, e, rfl⟩ F.entry_list_pop (F.args_list_pop_1 _) (MeetsSeq.list_pop_last l its.toArray n u hy' (by rw [List.size_toArray]; omega)) ⟨e, ?_⟩
 refine ⟨y, _, I.lset (its' := its.dropLast) hH e ?_ r.dropLast ?_, ru, q⟩
 . show its.toArray.eraseIdxIfInBounds (its.toArray.size - 1) = its.dropLast.toArray
   rw [List.size_toArray, List.eraseIdxIfInBounds_toArray, erase_last]
 . rw [List.length_dropLast]
   omega
def rCat : R2 := fun x y H Q => ∃ l b xs zs, x = .ref l /\ y = .ref b /\ H l = some (.lst xs) /\ H b = some (.lst zs) /\ xs.length + zs.length ≤ sizeLine /\ ∀ p, H p = none -> Q (.ref p) (upd H p (.lst (xs ++ zs)))
theorem op_cat : OpR X (binaryOp .Add) rCat := by
 intro pins s σ H x y v u Q I rx ry h
 obtain ⟨l, b, xs, zs, rfl, rfl, hH, hB, hz, q⟩ := h
 cases rx
 cases ry
 obtain ⟨z, its, n, r, hl, e⟩ := I.lstM hH
 obtain ⟨z2, its2, n2, r2, hl2, e2⟩ := I.lstM hB
 refine PySem.P.add_list e e2 ?_ (by rw [List.size_toArray, List.size_toArray]; omega)
 have ea : its.toArray ++ its2.toArray = (its ++ its2).toArray := by simp
 rw [ea]
 exact ⟨.ref _, _, I.lnew (t' := s.toks) (r.append r2) (by rw [List.length_append]; omega), rfl, q _ I.fresh⟩
def rRep : R2 := fun x y H Q => ∃ l k xs, x = .ref l /\ y = .int k /\ H l = some (.lst xs) /\ -(2 ^ 63) ≤ k /\ k < 2 ^ 63 /\ xs.length * k.toNat ≤ sizeLine /\
 ∀ p, H p = none → Q (.ref p) (upd H p (.lst (List.replicate k.toNat xs).flatten))
theorem len_rep {α : Type} (xs : List α) (k : Nat) : (List.replicate k xs).flatten.length = k * xs.length := by
 induction k with
 | zero => simp
 | succ k ih => rw [List.replicate_succ, List.flatten_cons, List.length_append, ih, Nat.succ_mul, Nat.add_comm]
theorem op_rep : OpR X (binaryOp .Mult) rRep := by
 intro pins s σ H x y v u Q I rx ry h
 obtain ⟨l, k, xs, rfl, rfl, hH, h1, h2, hz, q⟩ := h
 cases rx
 obtain ⟨t, rfl⟩ := ry
 obtain ⟨z, its, n, r, hl, e⟩ := I.lstM hH
 have hlen : its.toArray.size * k.toNat ≤ sizeLine := by rw [List.size_toArray, ← hl]; exact hz
 have hcap : ¬ its.toArray.size * k.toNat > (2 ^ 63 - 1) / 8 := by
  have : (sizeLine : Nat) ≤ (2 ^ 63 - 1) / 8 := by decide
  omega
 have hfit : ¬ (!Builtin.List.listFitsIndex k) = true := by
  rw [fitsIndex_both h1 h2]
  exact Bool.false_ne_true
 have hlong : ¬ Builtin.List.listTooLong (its.toArray.size * k.toNat) = true := by
  rw [notLongL hlen]
  exact Bool.false_ne_true
 have hnew : List.foldl (fun x1 x2 => x1 ++ x2) #[] (List.replicate (if its.toArray.isEmpty = true then 0 else k.toNat) its.toArray) = (List.replicate k.toNat its).flatten.toArray := by
  have f0 : ∀ m : Nat, List.foldl (fun x1 x2 => x1 ++ x2) #[] (List.replicate m its.toArray) = (List.replicate m its).flatten.toArray := fun m => by
   have := foldl_rep its m []
   rw [List.nil_append] at this
   exact this
  rw [f0]
  cases its with
  | nil => simp
  | cons a r' => rw [if_neg (by simp)]
 refine wpAny_binaryOp_repeat_ref (T := "list") (U := "int") (by decide) ⟨_, e, rfl⟩ (fun s' => typeIs_int s' k t) noFill_list_mul F.fills_int_mul F.slot_int_rmul repeat_list F.slot_int_index.lookup
  (call_meets F.slot_int_rmul (typeIs_int s k t) F.entry_int_rmul (F.args_int_rmul_2 _ _) (int___rmul___int_list k t l its.toArray n)
   ⟨e, rfl, ⟨_, e, rfl⟩, call_meets F.slot_list_mul ⟨_, e, rfl⟩ F.entry_list_mul (F.args_list_mul_2 _ _) (AutoListH.list___mul___list_int_3 l its.toArray n k t hfit hcap hlong) ⟨e, ?_⟩⟩)
 rw [hnew]
 exact ⟨.ref _, _, I.lnew (t' := s.toks) (r.rep k.toNat) (by rw [len_rep, Nat.mul_comm]; exact hz), rfl, q _ I.fresh⟩
end
end L2
namespace L2
open PySem PySem.Spec PyProof.Rows
theorem Vals.ints : ∀ {ns : List Int} {us : List Value}, Vals (ns.map V.int) us -> IntsAre us ns
 | [], us, h => by
   rw [List.map_nil] at h
   cases h
   exact IntsAre.nil
 | n :: ns, us, h => by
   rw [List.map_cons] at h
   cases h with
   | cons r t =>
     obtain ⟨k, rfl⟩ := r
     exact IntsAre.cons n k (Vals.ints t)
theorem vals_of_ints : ∀ {us : List Value} {ns : List Int}, IntsAre us ns -> Vals (ns.map V.int) us
 | _, _, .nil => by rw [List.map_nil]; exact Paired.nil
 | _, _, .cons n t h => by rw [List.map_cons]; exact Paired.cons (show RelV (V.int n) (Value.int n t) from ⟨t, rfl⟩) (vals_of_ints h)
theorem Vals.ref1 {a : Addr} {us : List Value} (r : Vals [V.ref a] us) : us = [Value.ref a] := by
 cases r with
 | cons r t =>
   cases t
   cases r
   rfl
section
variable {prog : Program} {w : World} {A : Around} {E : Value → Shared → Prop} {s : Shared} {l : Addr} {its : List Value} {ns : List Int} {Q : Value → Shared → Prop}
theorem max_raw (hh : A.handled = none) (hl : s.heap.IsList l its.toArray) (hi : IntsAre its ns) (hne : 0 < ns.length)
 (h : ∀ h' tk M t', (∀ b o, s.heap.get? b = some o → h'.get? b = some o) → M ∈ ns → (∀ a, a ∈ ns → a ≤ M) → Q (.int M t') { s with heap := h', toks := tk }) : wpAny (model prog w) A (call (.builtin "max") [.ref l]) Q E s := by
 obtain ⟨xs, e⟩ := hi.allInts.items
 have hn : numsOf (intItems xs).toList = ns := by rw [← e]; exact hi.numsOf
 rw [nums_intItems] at hn
 subst hn
 rw [e] at hl
 have hsz : 0 < xs.size := by simpa using hne
 refine PySem.max_intList hh hl hsz fun v h' tk hv hk => ?_
 obtain ⟨t, rfl⟩ := intItems_at hv
 obtain ⟨h1, h2⟩ := argBest_gt (numAt xs) (xs.size - 1)
 refine h h' tk _ t hk ?_ fun a ha => ?_
 . rw [numAt_eq]; exact PySem.getD_mem (by rw [List.length_map, Array.length_toList]; omega)
 . obtain ⟨j, hj, rfl⟩ := mem_getD ha
   rw [List.length_map, Array.length_toList] at hj
   rw [← numAt_eq]; exact h2 j (by omega)
end
section
variable {X : Cx}
def rMax (K : PySem.W.Frag) : List V -> Hp -> VK -> Prop := fun vs H Q => ∃ (a : Addr) (ns : List Int), vs = [V.ref a] /\ SqL K H a (ns.map V.int) /\ 0 < ns.length /\ ∀ m, m ∈ ns -> (∀ y, y ∈ ns -> y ≤ m) -> Q (.int m) H
theorem cr_max (hc : X.calm = true) : CallR X (.builtin "max") (rMax X.K) := by
 intro pins s σ H vs us Q I r h
 obtain ⟨a, ns, rfl, hs, hne, q⟩ := h
 obtain ⟨its, rv, hl, _⟩ := I.list hs
 rw [Vals.ref1 r]
 exact max_raw (I.ok.hd hc) hl.isList rv.ints hne fun h' tk m t' hk h1 h2 => ⟨.int _, H, I.kept hk, ⟨_, rfl⟩, q m h1 h2⟩
def rSorted (K : PySem.W.Frag) : List V -> Hp -> VK -> Prop := fun vs H Q => ∃ (a : Addr) (ns : List Int), vs = [V.ref a] /\ SqL K H a (ns.map V.int) /\ ns.length < 64 /\
 ∀ (ns' : List Int) (p : Addr), ns'.Perm ns → ns'.Pairwise (· ≤ ·) → H p = none → Q (.ref p) (upd H p (.lst (ns'.map V.int)))
theorem small64 {n : Nat} (h : n < 64) : n ≤ sizeLine := by rw [sizeLine_eq]; omega
theorem cr_sorted : CallR X (.builtin "sorted") (rSorted X.K) := by
 intro pins s σ H vs us Q I r h
 obtain ⟨a, ns, rfl, hs, h64, q⟩ := h
 obtain ⟨its, rv, hl, _⟩ := I.list hs
 rw [Vals.ref1 r]
 have hi := rv.ints
 refine PyProof.Rows.sorted_ints hl.isList hi (by rw [hi.length]; exact h64) fun out ns' h1 h2 h3 => ?_
 obtain ⟨ep, he'⟩ := PyProof.Rows.sortedAll_at s.heap its out
 have hlen : (ns'.map V.int).length ≤ sizeLine := by rw [List.length_map, h2.length_eq]; exact small64 h64
 exact ⟨.ref _, upd H (s.heap.objs.size + 1) (.lst (ns'.map V.int)), I.laid (t' := s.toks) (fun _ _ => PyProof.Rows.sortedAll_old) (Nat.le_succ _) ⟨hlen, out.toList, ep, vals_of_ints h1, he'⟩, rfl, q ns' _ h2 h3 (I.hok.fresh (Nat.le_succ _))⟩
end
section
variable {X : Cx}
def rIndex (K : PySem.W.Frag) : V -> List V -> Hp -> VK -> Prop := fun x xs H Q => ∃ (a : Addr) (ys : List V) (y : V) (j : Nat) (z : V), x = V.ref a /\ xs = [y] /\ SqL K H a ys /\ flatV y = true /\ ys.all flatV = true /\ ys[j]? = some z /\ eqV z y = true /\
 (∀ (m : Nat) (z' : V), m < j → ys[m]? = some z' → eqV z' y = false) ∧ Q (.int (j : Nat)) H
theorem flat_at {ys : List V} (f : ys.all flatV = true) {j : Nat} {z : V} (h : ys[j]? = some z) : flatV z = true := List.all_eq_true.mp f z (List.mem_of_getElem? h)
theorem mt_index : MtR X "list.index" (rIndex X.K) := by
 intro pins s σ H x xs v us Q I rx rxs h
 obtain ⟨a, ys, y, j, z, rfl, rfl, hs, fy, fys, hz, hzj, hno, q⟩ := h
 cases rx
 cases rxs with
 | cons ry rt =>
   rename_i uy ut
   cases rt
   obtain ⟨its, rv, ⟨⟨cls, dd, data, sl⟩, n, ho, hc, hdn, hd⟩, hlen⟩ := I.list hs
   simp only at hc hd
   subst hc hd
   obtain ⟨u, hu, ru⟩ := rv.get hz
   obtain ⟨hjl, hje⟩ := List.getElem?_eq_some_iff.mp hu
   have hvl := rv.length
   have hj : j < its.toArray.size := by simpa using hjl
   have hsl := sizeLine_eq
   refine call_meets PySem.F.slot_list_index ⟨_, ho, rfl⟩ PySem.F.entry_list_index (PySem.F.args_list_index_2 _ _)
    (SeqAt.list_indexAt a its.toArray n dd sl uy (eqU y) j hj (by omega) ?_ ?_) ⟨ho, fun u' hu' => mem_eqAt ry fy rv fys u' (by simpa using hu'), ?_⟩
   . have e1 : its.toArray[j] = u := by simpa using hje
     rw [e1, eqU_of ru (flat_at fys hz)]
     exact hzj
   . intro m hm hmj
     have hml : m < its.length := by simpa using hm
     have hmy : m < ys.length := by omega
     have hy' : ys[m]? = some ys[m] := List.getElem?_eq_getElem hmy
     obtain ⟨u2, hu2, ru2⟩ := rv.get hy'
     obtain ⟨_, hme⟩ := List.getElem?_eq_some_iff.mp hu2
     have e1 : its.toArray[m] = u2 := by simpa using hme
     rw [e1, eqU_of ru2 (flat_at fys hy')]
     exact hno m _ hmj hy'
   . exact ⟨.int (j : Nat), H, I.tok _, ⟨_, rfl⟩, q⟩
end
mutual
inductive Dp (K : PySem.W.Frag) (H : Hp) : V → PyData → Prop
 | non : Dp K H .non .none
 | bl (b : Bool) : Dp K H (.bl b) (.bool b)
 | int (i : Int) : Dp K H (.int i) (.int i)
 | str (x : Str) : Dp K H (.str x) (.str x)
 | lst {a : Addr} {xs : List V} {ds : List PyData} : SqL K H a xs → DpAll K H xs ds → Dp K H (.ref a) (.list ds)
 | tup {a : Addr} {xs : List V} {ds : List PyData} : SqT K H a xs → DpAll K H xs ds → Dp K H (.ref a) (.tuple ds)
inductive DpAll (K : PySem.W.Frag) (H : Hp) : List V → List PyData → Prop
 | nil : DpAll K H [] []
 | cons {v : V} {vs : List V} {d : PyData} {ds : List PyData} : Dp K H v d → DpAll K H vs ds → DpAll K H (v :: vs) (d :: ds)
end
section
variable {X : Cx} {pins : List (Addr × Obj)} {σ : St} {H : Hp} {s : Shared}
mutual
theorem Dp.reads (I : Inv X pins σ H s) : ∀ (d : PyData) (v : V) (u : Value), Dp X.K H v d -> RelV v u -> ∃ as, Reads s.heap u d as
 | .none, _, _, h, r => by
   cases h
   cases r
   exact ⟨_, Reads.none⟩
 | .bool b, _, _, h, r => by
   cases h
   cases r
   exact ⟨_, Reads.bool b⟩
 | .int i, _, _, h, r => by
   cases h
   obtain ⟨t, rfl⟩ := r
   exact ⟨_, Reads.int i t⟩
 | .str x, _, _, h, r => by
   cases h
   obtain ⟨t, rfl⟩ := r
   exact ⟨_, Reads.str x t⟩
 | .list ds, _, _, h, r => by
   cases h with
   | lst hs ha =>
     cases r
     obtain ⟨its, rv, ⟨o, n, ho, hc, _, hd⟩, _⟩ := I.list hs
     obtain ⟨as, hr⟩ := Dp.readsAll I ds _ its ha rv
     exact ⟨_, Reads.list ho hc hd hr⟩
 | .tuple ds, _, _, h, r => by
   cases h with
   | tup hs ha =>
     cases r
     obtain ⟨its, rv, ⟨o, ho, hc, n, hd⟩, _⟩ := I.tuple hs
     obtain ⟨as, hr⟩ := Dp.readsAll I ds _ its ha rv
     exact ⟨_, Reads.tuple ho hc hd hr⟩
 | .dict _, _, _, h, _ => by cases h
theorem Dp.readsAll (I : Inv X pins σ H s) : ∀ (ds : List PyData) (vs : List V) (us : List Value), DpAll X.K H vs ds -> Vals vs us -> ∃ as, ReadsAll s.heap us ds as
 | [], _, _, h, r => by
   cases h
   cases r
   exact ⟨_, ReadsAll.nil⟩
 | d :: ds, _, _, h, r => by
   cases h with
   | cons h1 h2 =>
     cases r with
     | cons r1 r2 =>
       obtain ⟨as, q1⟩ := Dp.reads I d _ _ h1 r1
       obtain ⟨bs, q2⟩ := Dp.readsAll I ds _ _ h2 r2
       exact ⟨_, ReadsAll.cons q1 q2⟩
end
end
section
variable {X : Cx}
def rEqD (K : PySem.W.Frag) : R2 := fun x y H Q => ∃ d e, Dp K H x d /\ Dp K H y e /\ SeqAt.shaped d = true /\ SeqAt.shaped e = true /\ Q (.bl (PyData.eqv d e)) H
theorem op_eqD (hu : X.A.units + 64 < cLine) : OpR X (compareOp .Eq) (rEqD X.K) := by
 intro pins s σ H x y v u Q I rx ry h
 obtain ⟨d, e, hd, he, sd, se, q⟩ := h
 obtain ⟨as, r1⟩ := Dp.reads I d x v hd rx
 obtain ⟨bs, r2⟩ := Dp.reads I e y u he ry
 exact SeqAt.compareEq_shaped r1 r2 sd se hu ⟨.bl _, H, I, rfl, q⟩
end
end L2
namespace L2
open PySem PySem.Spec PyProof.Rows
abbrev CellAt (h : Heap) (c : Addr) (v : Option Value) : Prop := h.IsCell c v
def relS (scope sc : Scope) : Scope :=
 { scope with names := scope.names.map fun (n, k) => if (k == .free && sc.kind == .function && sc.names.lookup n == some .cell) then (n, .cell) else (n, k) }
def cloFrom (cells : List (Str × Addr)) : List (Str × NameKind) -> List (Str × Addr) -> List (Str × Addr)
 | [], acc => acc
 | (n, k) :: r, acc => if k == .free then cloFrom cells r ((n, (cells.lookup n).getD 0) :: acc) else cloFrom cells r acc
theorem closure_loop (env : Env) (f : Str × NameKind -> List (Str × Addr) -> Sem (ForInStep (List (Str × Addr))))
 (hf : ∀ n k c, f (n, k) c = if k == .free then (do let a ← cellOf env n; pure (.yield ((n, a) :: c))) else pure (.yield c)) :
 ∀ (names : List (Str × NameKind)) (acc : List (Str × Addr)), (∀ y ∈ names, y.2 = .free → ∃ c, env.cells.lookup y.1 = some c) → forIn names acc f = pure (cloFrom env.cells names acc)
 | [], acc, _ => by rw [List.forIn_nil]; rfl
 | (n, k) :: r, acc, h => by
   rw [List.forIn_cons, hf]
   have ih := fun acc => closure_loop env f hf r acc fun y hy => h y (List.mem_cons_of_mem _ hy)
   unfold cloFrom
   by_cases hk : (k == NameKind.free) = true
   . rw [if_pos hk, if_pos hk]
     obtain ⟨c, hc⟩ := h (n, k) List.mem_cons_self (by simpa using hk)
     have e : cellOf env n = pure c := by unfold cellOf; rw [hc]
     rw [e]
     have e2 : (env.cells.lookup n).getD 0 = c := by rw [hc]; rfl
     rw [e2]
     exact ih _
   . rw [if_neg hk, if_neg hk]
     exact ih _
theorem closure_ok {scope : Scope} {env : Env} (h : ∀ y ∈ scope.names, y.2 = .free -> ∃ c, env.cells.lookup y.1 = some c) : closureFor scope env = pure (cloFrom env.cells scope.names []) := by
 simp only [closureFor]
 rw [closure_loop env _ (fun n k c => rfl) scope.names [] h]
 rfl
theorem mem_lookup {α : Type} : ∀ {l : List (Str × α)} {n : Str} {c : α}, (n, c) ∈ l -> ∃ c', l.lookup n = some c'
 | (k, v) :: r, n, c, h => by
   rw [List.lookup_cons]
   cases hb : n == k with
   | true => exact ⟨_, rfl⟩
   | false =>
     rcases List.mem_cons.mp h with e | h
     . cases e; simp at hb
     . exact mem_lookup h
theorem cloFrom_mem {cells : List (Str × Addr)} : ∀ {names : List (Str × NameKind)} {acc : List (Str × Addr)} {n : Str} {c : Addr}, (n, c) ∈ cloFrom cells names acc -> (n, c) ∈ acc ∨ ((n, .free) ∈ names /\ c = (cells.lookup n).getD 0)
 | [], _, _, _, h => .inl h
 | (m, k) :: r, acc, n, c, h => by
   unfold cloFrom at h
   split at h
   . rename_i hk
     have hk : k = .free := by simpa using hk
     rcases cloFrom_mem h with h | ⟨h1, h2⟩
     . rcases List.mem_cons.mp h with e | h
       . cases e; exact .inr ⟨hk ▸ List.mem_cons_self, rfl⟩
       . exact .inl h
     . exact .inr ⟨List.mem_cons_of_mem _ h1, h2⟩
   . rcases cloFrom_mem h with h | ⟨h1, h2⟩
     . exact .inl h
     . exact .inr ⟨List.mem_cons_of_mem _ h1, h2⟩
theorem cloFrom_acc {cells : List (Str × Addr)} : ∀ {names : List (Str × NameKind)} {acc : List (Str × Addr)} {p : Str × Addr}, p ∈ acc -> p ∈ cloFrom cells names acc
 | [], _, _, h => h
 | (m, k) :: r, acc, p, h => by
   unfold cloFrom
   split
   . exact cloFrom_acc (List.mem_cons_of_mem _ h)
   . exact cloFrom_acc h
theorem cloFrom_has {cells : List (Str × Addr)} : ∀ {names : List (Str × NameKind)} {acc : List (Str × Addr)} {n : Str}, (n, .free) ∈ names -> (n, (cells.lookup n).getD 0) ∈ cloFrom cells names acc
 | (m, k) :: r, acc, n, h => by
   unfold cloFrom
   rcases List.mem_cons.mp h with e | h
   . cases e
     exact cloFrom_acc List.mem_cons_self
   . split
     . exact cloFrom_has h
     . exact cloFrom_has h
theorem cells_mem : ∀ {names : List (Str × NameKind)} {h : Heap} {acc : List (Str × Addr)} {x : Str} {c : Addr}, (x, c) ∈ cellsFrom h.objs.size names acc ->
 (x, c) ∈ acc ∨ ((x, .cell) ∈ names ∧ h.objs.size ≤ c ∧ CellAt (pushCells h names) c none)
 | [], _, _, _, _, h => .inl h
 | (n, k) :: r, h, acc, x, c, hm => by
   unfold cellsFrom at hm
   unfold pushCells
   split at hm
   . rename_i hk
     rw [if_pos hk]
     have hk : k = .cell := by simpa using hk
     rw [← Heap.size_push h { cls := .type "cell", data := .cell none }] at hm
     rcases cells_mem hm with hm | ⟨h1, h2, h3⟩
     . rcases List.mem_cons.mp hm with e | hm
       . cases e
         exact .inr ⟨hk ▸ List.mem_cons_self, Nat.le_refl _, _, pushCells_keeps r _ _ _ (Heap.get?_push_size _ rfl), rfl⟩
       . exact .inl hm
     . rw [Heap.size_push] at h2
       exact .inr ⟨List.mem_cons_of_mem _ h1, Nat.le_of_succ_le h2, h3⟩
   . rename_i hk
     rw [if_neg hk]
     rcases cells_mem hm with hm | ⟨h1, h2, h3⟩
     . exact .inl hm
     . exact .inr ⟨List.mem_cons_of_mem _ h1, h2, h3⟩
theorem cells_acc : ∀ {names : List (Str × NameKind)} {n : Nat} {acc : List (Str × Addr)} {p : Str × Addr}, p ∈ acc -> p ∈ cellsFrom n names acc
 | [], _, _, _, h => h
 | (m, k) :: r, n, acc, p, h => by
   unfold cellsFrom
   split
   . exact cells_acc (List.mem_cons_of_mem _ h)
   . exact cells_acc h
theorem cells_has : ∀ {names : List (Str × NameKind)} {n : Nat} {acc : List (Str × Addr)} {x : Str}, (x, .cell) ∈ names -> ∃ c, (x, c) ∈ cellsFrom n names acc
 | (m, k) :: r, n, acc, x, h => by
   unfold cellsFrom
   rcases List.mem_cons.mp h with e | h
   . cases e
     exact ⟨n, cells_acc List.mem_cons_self⟩
   . split
     . exact cells_has h
     . exact cells_has h
theorem cells_inj : ∀ {names : List (Str × NameKind)} {h : Heap} {acc : List (Str × Addr)} {x y : Str} {c : Addr}, (∀ p ∈ acc, p.2 < h.objs.size) -> (∀ x y c, (x, c) ∈ acc -> (y, c) ∈ acc -> x = y) ->
 (x, c) ∈ cellsFrom h.objs.size names acc → (y, c) ∈ cellsFrom h.objs.size names acc → x = y
 | [], _, _, _, _, _, _, hi, h1, h2 => hi _ _ _ h1 h2
 | (n, k) :: r, h, acc, x, y, c, hl, hi, h1, h2 => by
   unfold cellsFrom at h1 h2
   split at h1
   . rename_i hk
     rw [if_pos hk] at h2
     rw [← Heap.size_push h { cls := .type "cell", data := .cell none }] at h1 h2
     refine cells_inj (h := h.push _) (fun p hp => ?_) (fun x y c a b => ?_) h1 h2
     . rw [Heap.size_push]
       rcases List.mem_cons.mp hp with rfl | hp
       . exact Nat.lt_succ_self _
       . exact Nat.lt_succ_of_lt (hl p hp)
     . rcases List.mem_cons.mp a with e | a <;> rcases List.mem_cons.mp b with e' | b
       . cases e; cases e'; rfl
       . cases e; exact absurd (hl _ b) (Nat.lt_irrefl _)
       . cases e'; exact absurd (hl _ a) (Nat.lt_irrefl _)
       . exact hi _ _ _ a b
   . rename_i hk
     rw [if_neg hk] at h2
     exact cells_inj hl hi h1 h2
theorem newEnv_comp {M : Model} {A : Around} {E : Value -> Shared -> Prop} {s : Shared} {scope : Scope} {globals : Addr} {closure : List (Str × Addr)} {qual : Str} {func : Option Addr} {code : Value} {around : Env} {builtins : Addr} {Q : Env -> Shared -> Prop}
 (h : Q (newEnv scope s.heap.objs.size globals (cellsFrom (s.heap.objs.size + 1) scope.names closure) qual func code (some around) builtins)
  { s with heap := pushCells (s.heap.push { cls := .type "dict", data := .dict #[] }) scope.names }) :
 wpAny M A (newFunctionEnv scope globals closure [] qual func code (some around) builtins) Q E s := by
 simp only [newFunctionEnv, Option.isSome_some, if_true]
 refine wpAny_bind (wpAny_alloc ?_)
 refine wpAny_bind (wpAny_layCells _ (fun n k c => rfl) scope.names closure _ _ ?_)
 rw [show ({ s with heap := s.heap.push { cls := .type "dict", data := .dict #[] } } : Shared).heap.objs.size = s.heap.objs.size + 1 from Heap.size_push ..]
 rw [List.forIn_nil]
 exact wpAny_bind (wpAny_pure (wpAny_pure h))
theorem lookup_relS {sc : Scope} : ∀ {names : List (Str × NameKind)} {x : Str} {k : NameKind},
 (names.map fun (n, k) => if (k == NameKind.free && sc.kind == .function && sc.names.lookup n == some .cell) then (n, NameKind.cell) else (n, k)).lookup x = some k →
 ∃ k', names.lookup x = some k' ∧ (k = k' ∨ (k' = .free ∧ k = .cell))
 | [], _, _, h => by simp at h
 | (n, k₀) :: r, x, k, h => by
   have ih := @lookup_relS sc r x k
   have h' : List.lookup x ((if (k₀ == NameKind.free && sc.kind == .function && sc.names.lookup n == some .cell) = true then (n, NameKind.cell) else (n, k₀)) :: (r.map _)) = some k := h
   cases hx : x == n with
   | true =>
     simp only [List.lookup_cons, hx]
     by_cases hc : (k₀ == NameKind.free && sc.kind == .function && sc.names.lookup n == some .cell) = true
     . rw [if_pos hc] at h'
       simp only [List.lookup_cons, hx] at h'
       cases h'
       simp only [Bool.and_eq_true, beq_iff_eq] at hc
       exact ⟨k₀, rfl, .inr ⟨hc.1.1, rfl⟩⟩
     . rw [if_neg hc] at h'
       simp only [List.lookup_cons, hx] at h'
       cases h'
       exact ⟨_, rfl, .inl rfl⟩
   | false =>
     simp only [List.lookup_cons, hx]
     by_cases hc : (k₀ == NameKind.free && sc.kind == .function && sc.names.lookup n == some .cell) = true
     . rw [if_pos hc] at h'
       simp only [List.lookup_cons, hx] at h'
       exact ih h'
     . rw [if_neg hc] at h'
       simp only [List.lookup_cons, hx] at h'
       exact ih h'
structure BlkOk (N : List Str) (sc scope : Scope) (own : List (Str × Nat)) : Prop where
 kind : scope.kind = .function
 uniq : ∀ y ∈ scope.names, scope.names.lookup y.1 = some y.2
 ix : ∀ p ∈ own, N[p.2]? = some p.1
 free : ∀ y ∈ scope.names, y.2 = .free → sc.names.lookup y.1 = some .cell ∨ sc.names.lookup y.1 = some .free
 own : ∀ y ∈ scope.names, y.2 = .local ∨ y.2 = .cell → y.1 ∈ own.map (·.1) ∨ y.1 ∉ N
def wipe (σ : St) : List Nat -> St
 | [] => σ
 | v :: vs => (wipe σ vs).set v none
theorem wipe_length (σ : St) : ∀ vs : List Nat, (wipe σ vs).length = σ.length
 | [] => rfl
 | v :: vs => by unfold wipe; rw [List.length_set, wipe_length σ vs]
theorem wipe_some {σ : St} {i : Nat} {x : V} : ∀ {vs : List Nat}, (wipe σ vs)[i]? = some (some x) -> σ[i]? = some (some x) /\ i ∉ vs
 | [], h => ⟨h, by simp⟩
 | v :: vs, h => by
   unfold wipe at h
   by_cases hi : v = i
   . subst hi
     by_cases hv : v < (wipe σ vs).length
     . rw [List.getElem?_set_self hv] at h; cases h
     . rw [List.getElem?_eq_none (by simpa using hv)] at h; cases h
   . rw [List.getElem?_set_ne hi] at h
     obtain ⟨h1, h2⟩ := wipe_some h
     exact ⟨h1, by simp only [List.mem_cons, not_or]; exact ⟨fun e => hi e.symm, h2⟩⟩
abbrev Cx.blk (X : Cx) (s : Shared) (H : Hp) (scope : Scope) (cenv : Env) (fp : List Addr) : Cx := { X with s_0 := s, H_0 := H, env := cenv, outer := X.stack, ex := fp, fn := fun x => scope.names.lookup x == some .cell, pn := [], xe := fun _ _ => False }
section
variable {X : Cx} {pins : List (Addr × Obj)} {σ : St} {H : Hp} {s : Shared}
theorem block_start {scope : Scope} {own : List (Str × Nat)} {fp : List Addr} (I : Inv X pins σ H s) (ok : BlkOk X.N X.env.scope scope own) (hN : X.N.Nodup) (hfp : ∀ b ∈ fp, FpOk X pins H b /\ b < s.heap.objs.size) :
 Inv (X.blk s H scope (compEnvC scope (cellsFrom (s.heap.objs.size + 1) scope.names (cloFrom X.env.cells scope.names [])) s.heap.objs.size X.env) fp) [] (wipe σ (own.map (·.2))) H { s with heap := pushCells (s.heap.push { cls := .type "dict", data := .dict #[] }) scope.names } := by
 have hfree : ∀ y ∈ scope.names, y.2 = .free → ∃ c, X.env.cells.lookup y.1 = some c := fun y hy e => by
  rcases ok.free y hy e with k | k
  . exact I.ok.has _ (.inl k)
  . exact I.ok.has _ (.inr k)
 generalize hcenv : compEnvC scope (cellsFrom (s.heap.objs.size + 1) scope.names (cloFrom X.env.cells scope.names [])) s.heap.objs.size X.env = cenv
 have kp : ∀ b o, s.heap.get? b = some o → (pushCells (s.heap.push { cls := .type "dict", data := .dict #[] }) scope.names).get? b = some o := fun b o e => pushCells_keeps _ _ _ _ (Heap.get?_push_of_some _ e)
 have hL : cenv.locals = s.heap.objs.size := by rw [← hcenv]; rfl
 have hcl : cenv.cells = cellsFrom (s.heap.objs.size + 1) scope.names (cloFrom X.env.cells scope.names []) := by rw [← hcenv]; rfl
 have hsc : cenv.scope = relS scope X.env.scope := by rw [← hcenv]; rfl
 rw [← Heap.size_push s.heap { cls := .type "dict", data := .dict #[] }] at hcl
 have cm : ∀ {y c}, (y, c) ∈ cloFrom X.env.cells scope.names [] → X.env.cells.lookup y = some c ∧ c < s.heap.objs.size := fun {y c} hm => by
  rcases cloFrom_mem hm with hm | ⟨h1, rfl⟩
  . cases hm
  . obtain ⟨c, hc⟩ := hfree _ h1 rfl
    rw [hc]
    obtain ⟨w, z⟩ := I.cell _ _ hc
    exact ⟨rfl, z.lt⟩
 have mem : ∀ {y c}, cenv.cells.lookup y = some c → (X.env.cells.lookup y = some c ∧ c < s.heap.objs.size) ∨ (s.heap.objs.size + 1 ≤ c ∧ CellAt (pushCells (s.heap.push { cls := .type "dict", data := .dict #[] }) scope.names) c none) := fun {y c} e => by
  rw [hcl] at e
  rcases cells_mem (PySem.mem_of_lookup e) with hm | ⟨_, h2, h3⟩
  . exact .inl (cm hm)
  . rw [Heap.size_push] at h2; exact .inr ⟨h2, h3⟩
 have look : ∀ {y}, scope.names.lookup y = some .free → ∃ c, cenv.cells.lookup y = some c ∧ X.env.cells.lookup y = some c := fun {y} hl => by
  have hy : (y, NameKind.free) ∈ scope.names := PySem.mem_of_lookup hl
  obtain ⟨c', e'⟩ := mem_lookup (cells_acc (names := scope.names) (n := (s.heap.push { cls := .type "dict", data := .dict #[] }).objs.size) (cloFrom_has (cells := X.env.cells) (acc := []) hy))
  rw [← hcl] at e'
  refine ⟨c', e', ?_⟩
  rw [hcl] at e'
  rcases cells_mem (PySem.mem_of_lookup e') with hm | ⟨h1, _, _⟩
  . exact (cm hm).1
  . have := ok.uniq _ h1
    rw [hl] at this; cases this
 have okB : (X.blk s H scope cenv fp).Ok := by
  refine ⟨I.ok.mod, by show cenv.scope.kind = _; rw [hsc]; exact ok.kind, by show cenv.globals = _; rw [← hcenv]; exact I.ok.glob, by show cenv.builtins = _; rw [← hcenv]; exact I.ok.blt, by show s.heap.objs.size ≤ cenv.locals; rw [hL]; exact Nat.le_refl _,
   fun y z c e1 e2 => ?_, fun y hy => ?_, fun y c z e => ?_, I.ok.hd, I.ok.frames, .inl rfl, fun b hb => ⟨?_, fun y c e z => ?_⟩, I.bs, Nat.le_trans I.ok.bsz I.sz, fun b o e hb => ?_, fun b hb z => ?_, I.stack, I.stkFree⟩
  . have e1 : cenv.cells.lookup y = some c := e1
    have e2 : cenv.cells.lookup z = some c := e2
    rw [hcl] at e1 e2
    refine cells_inj (fun p hp => ?_) (fun y z c a b => I.ok.inj y z c (cm a).1 (cm b).1) (PySem.mem_of_lookup e1) (PySem.mem_of_lookup e2)
    rw [Heap.size_push]
    exact Nat.lt_succ_of_lt (cm (y := p.1) (c := p.2) hp).2
  . show ∃ c, cenv.cells.lookup y = some c
    have key : ∀ k, cenv.kindOf y = some k → (k = .cell ∨ k = .free) → ∃ c, cenv.cells.lookup y = some c := fun k hk hk' => by
     unfold Env.kindOf at hk
     rw [hsc] at hk
     obtain ⟨k', e, r⟩ := lookup_relS hk
     have : k' = .cell ∨ k' = .free := by
      rcases r with rfl | ⟨rfl, _⟩
      . exact hk'
      . exact .inr rfl
     rcases this with rfl | rfl
     . obtain ⟨c, hm⟩ := cells_has (n := (s.heap.push { cls := .type "dict", data := .dict #[] }).objs.size) (acc := cloFrom X.env.cells scope.names []) (PySem.mem_of_lookup e)
       obtain ⟨c', e'⟩ := mem_lookup hm
       exact ⟨c', by rw [hcl]; exact e'⟩
     . obtain ⟨c, h1, _⟩ := look e
       exact ⟨c, h1⟩
    rcases hy with hy | hy
    . exact key _ hy (.inl rfl)
    . exact key _ hy (.inr rfl)
  . have z : (scope.names.lookup y == some NameKind.cell) = true := z
    have z : scope.names.lookup y = some .cell := by simpa using z
    have e : cenv.cells.lookup y = some c := e
    rw [hcl] at e
    rcases cells_mem (PySem.mem_of_lookup e) with hm | ⟨_, h2, _⟩
    . rcases cloFrom_mem hm with hm | ⟨h1, _⟩
      . cases hm
      . have q := ok.uniq _ h1
        rw [z] at q; cases q
    . rw [Heap.size_push] at h2
      exact Nat.le_of_succ_le h2
  . show b ≠ cenv.locals
    rw [hL]; exact Nat.ne_of_lt (hfp b hb).2
  . have e : cenv.cells.lookup y = some c := e
    rcases mem e with ⟨h1, _⟩ | ⟨h1, _⟩
    . exact (hfp b hb).1.2.2.2.2.1 y c h1 z
    . have h2 : s.heap.objs.size + 1 ≤ b := by rw [← z]; exact h1
      exact absurd (Nat.lt_of_lt_of_le (hfp b hb).2 (Nat.le_of_succ_le h2)) (Nat.lt_irrefl _)
  . rcases (hfp b hb).1.2.2.2.1 with z | z
    . exact I.ok.noex b o e z
    . exact absurd (Nat.lt_of_lt_of_le (Heap.lt_size e) (Nat.le_trans I.ok.bsz z)) (Nat.lt_irrefl _)
  . rcases List.mem_cons.mp (I.stkSub b z) with z | z
    . exact (hfp b hb).1.2.1 z
    . exact (hfp b hb).1.2.2.1 z
 refine ⟨okB, rfl, I.bare, Un.kept kp, ⟨fun _ => none, ?_, fun i y av e1 e2 e3 => ?_⟩, fun y c e => ?_, ?_, fun y c e => ?_, fun p hp => ?_, I.hok.kept kp, by rw [wipe_length]; exact I.len⟩
 . show Heap.Ns _ cenv.locals _
   rw [hL]
   exact Heap.Ns.keeps (Heap.Ns.new ..) fun b o e => pushCells_keeps _ _ _ _ e
 . obtain ⟨e2, hne⟩ := wipe_some e2
   have hfr : scope.names.lookup y = some .free ∧ (cenv.kindOf y = some .cell ∨ cenv.kindOf y = some .free) := by
    have key : ∀ k, cenv.scope.names.lookup y = some k → k = .local ∨ k = .cell ∨ k = .free → scope.names.lookup y = some .free ∧ (cenv.kindOf y = some .cell ∨ cenv.kindOf y = some .free) := fun k hk hk' => by
     have hk0 := hk
     rw [hsc] at hk
     obtain ⟨k', e, r⟩ := lookup_relS hk
     have no : ¬ (k' = .local ∨ k' = .cell) := fun hh => by
      rcases ok.own _ (PySem.mem_of_lookup e) hh with e' | e'
      . obtain ⟨p, hp, hpy⟩ := List.mem_map.mp e'
        have e3 := ok.ix p hp
        have : p.1 = y := hpy
        rw [this] at e3
        exact hne (List.mem_map.mpr ⟨p, hp, nodup_ix hN e3 e1⟩)
      . exact e' (List.mem_of_getElem? e1)
     rcases r with rfl | ⟨rfl, rfl⟩
     . rcases hk' with rfl | rfl | rfl
       . exact absurd (.inl rfl) no
       . exact absurd (.inr rfl) no
       . exact ⟨e, .inr hk0⟩
     . exact ⟨e, .inl hk0⟩
    have e3 : Vis cenv.scope y := e3
    rcases e3 with e3 | e3 | e3
    . exact key _ e3 (.inl rfl)
    . exact key _ e3 (.inr (.inl rfl))
    . exact key _ e3 (.inr (.inr rfl))
   obtain ⟨m, hn, hl⟩ := I.loc
   have hvis : Vis X.env.scope y := (ok.free _ (PySem.mem_of_lookup hfr.1) rfl).elim (fun k => .inr (.inl k)) (fun k => .inr (.inr k))
   obtain ⟨w, r, q⟩ := hl i y av e1 e2 hvis
   refine ⟨w, r, .inr ⟨hfr.2, ?_⟩⟩
   obtain ⟨c, h1, h2⟩ := look hfr.1
   rcases q with ⟨k, _⟩ | ⟨_, c', e', z⟩
   . have k : X.env.scope.names.lookup y = some .local := k
     rcases ok.free _ (PySem.mem_of_lookup hfr.1) rfl with k' | k' <;> rw [show X.env.scope.names.lookup y = _ from k'] at k <;> cases k
   . rw [h2] at e'; cases e'
     exact ⟨c, h1, z.keeps kp⟩
 . have e : cenv.cells.lookup y = some c := e
   rcases mem e with ⟨h1, _⟩ | ⟨_, z⟩
   . obtain ⟨w, z⟩ := I.cell y c h1
     exact ⟨w, z.keeps kp⟩
   . exact ⟨_, z⟩
 . show H cenv.locals = none
   rw [hL]; exact I.hok.fresh (Nat.le_refl _)
 . have e : cenv.cells.lookup y = some c := e
   rcases mem e with ⟨h1, _⟩ | ⟨h1, _⟩
   . exact I.freeC y c h1
   . exact I.hok.fresh (Nat.le_of_succ_le h1)
 . exact absurd (show p ∈ ([] : List (Addr × Obj)) ++ [] from hp) (by simp)
theorem app_ok {E : Value -> Shared -> Prop} {D : Addr} {xs : List V} {y : V} {v : Value} {Q : Value -> Shared -> Prop} (I : Inv X pins σ H s) (hD : H D = some (.lst xs)) (hz : xs.length < sizeLine) (r : RelV y v)
 (h : ∀ s', Inv X pins σ (upd H D (.lst (xs ++ [y]))) s' → Q .none s') : wpAny (model X.prog X.w) X.A (call (.builtin "list.append") [.ref D, v]) Q E s := by
 obtain ⟨hz', its, n, ri, e⟩ := I.hok D _ hD
 have hl := ri.length
 refine append_at (hsz := by rw [List.size_toArray]; omega) e fun h' sb ho' => ?_
 refine h { s with heap := h' } (I.write (t' := s.toks) (by rw [hD]; trivial) (.inl rfl) (fun b u hb q => (sb.2 b hb).trans q) ⟨_, ho'⟩ ⟨by rw [List.length_append]; exact hz, its ++ [v], n + 1, ri.append (.cons r .nil), ?_⟩)
 rw [ho']
 simp
def PTs (X : Cx) (ifs : List Expr) (t : TT) : Prop :=
 ∀ (pins : List (Addr × Obj)) (s : Shared) (σ : St) (H : Hp) (Q : Bool → Hp → Prop), Inv X pins σ H s → t σ H Q →
  wpAny (model X.prog X.w) X.A (forIn ifs true fun c r => if r = true then do let ok ← isTrue c X.env (eval c X.env); pure (ForInStep.yield ok) else pure (ForInStep.yield r)) (TP X pins σ Q) X.xe s
def tYes : TT := fun _ H Q => Q true H
theorem pts_nil : PTs X [] tYes := fun _ _ _ H _ I h => wpAny_tests_nil ⟨H, I, h⟩
theorem pts_one {c : Expr} {t : TT} (h : PT X c t) : PTs X [c] t := fun pins s σ H Q I hw => wpAny_tests_one (h pins s σ H Q I hw)
end
theorem thnF {α : Type} {t : Sem α} {Q Q' : α -> Shared -> Prop} {M : Model} {A : Around} {E : Value -> Shared -> Prop} {s : Shared} (h : wpAny M A t Q (fun _ _ => False) s) (hQ : ∀ a s, Q a s -> Q' a s) : wpAny M A t Q' E s := wpAny_mono h hQ fun _ _ z => False.elim z
theorem compLoop_any {prog : Program} {w : World} {A : Around} {R : Result -> Shared -> Prop} {s : Shared} {elt target iter : Expr} {ifs : List Expr} {scope : Scope} {pos : Pos} {it acc : Value} {env : Env} (I : Nat -> Shared -> Prop)
 (turn : ∀ n s, I n s → wpAny (model prog w) A (pyNext it) (fun r s₁ => match r with
  | none => R (.ok .next) s₁
  | some v => wpAny (model prog w) A (letOwnedTupleGo target it v) (fun _ s₁' => wpAny (model prog w) A (assign target env v) (fun _ s₂ =>
   wpAny (model prog w) A (forIn ifs true fun c r => if r = true then do let ok ← isTrue c env (eval c env); pure (ForInStep.yield ok) else pure (ForInStep.yield r)) (fun ok s₃ =>
    if ok = true then wpAny (model prog w) A (eval elt env) (fun x s₄ =>
     wpAny (model prog w) A (call (.builtin "list.append") [acc, x]) (fun _ s₅ => ∃ m, m < n ∧ I m s₅) (notedBy (model prog w) A env fun e s' => R (.error e) s') s₄) (notedBy (model prog w) A env fun e s' => R (.error e) s') s₃
    else ∃ m, m < n ∧ I m s₃) (notedBy (model prog w) A env fun e s' => R (.error e) s') s₂) (notedBy (model prog w) A env fun e s' => R (.error e) s') s₁') (notedBy (model prog w) A env fun e s' => R (.error e) s') s₁) (notedBy (model prog w) A env fun e s' => R (.error e) s') s)
 (n : Nat) (h : I n s) :
 codeAny (model prog w) A (.compLoop (.ListComp elt [⟨target, iter, ifs, 0⟩] scope pos) 0 it acc env) R s := by
 refine codeAny_loop rfl I (fun n s hI => ?_) n h
 show wpAny _ A ((compTurn (.ListComp elt [⟨target, iter, ifs, 0⟩] scope pos) 0 it acc env).onRaise (fun x => do noteFrame x env; theTreesLotGoes x)) _ _ s
 refine wpAny_noted ?_
 rw [compTurn_list]
 refine wpAny_bind (wpAny_standAt (wpAny_bind (wpAny_mono (turn n s hI) (fun r s₁ h₁ => ?_) fun _ _ h' => h')))
 cases r with
 | none => exact wpAny_pure h₁
 | some v =>
   refine wpAny_bind (wpAny_mono h₁ (fun _ s₁' h₁' => ?_) fun _ _ h' => h')
   refine wpAny_bind (wpAny_mono h₁' (fun _ s₂ h₂ => wpAny_bind (wpAny_mono h₂ (fun ok s₃ h₃ => ?_) fun _ _ h' => h')) fun _ _ h' => h')
   cases ok with
   | false => exact wpAny_pure ⟨rfl, h₃⟩
   | true =>
     exact wpAny_bind (wpAny_bind (wpAny_mono h₃ (fun x s₄ h₄ => wpAny_bind (wpAny_mono h₄ (fun _ s₅ h₅ => wpAny_pure (wpAny_pure ⟨rfl, h₅⟩)) fun _ _ h' => h')) fun _ _ h' => h'))
section
variable {X : Cx}
def tLc (wi : TI) (g : TG) (tt : TT) (te : TE) (vs : List Nat) : TE := fun σ H Q => wi σ H fun J H1 => ∀ D, H1 D = none -> ∃ W : Nat -> Nat -> Hp -> Prop, (∃ m, W 0 m (upd H1 D (.lst []))) /\ ∀ i m H, W i m H ->
 (J.stop i H ∧ Q (.ref D) H) ∨ (J.go i H ∧ ∃ Nx : Hp → Prop, (∀ H', Nx H' → ∃ m', m' < m ∧ W (i + 1) m' H') ∧ ∀ x H', J.yld i H x H' → g x (wipe σ vs) H' fun σ2 H2 => wipe σ2 vs = wipe σ vs ∧ tt σ2 H2 fun b H3 =>
  if b = true then te σ2 H3 fun y H4 => ∃ acc, H4 D = some (.lst acc) ∧ acc.length < sizeLine ∧ Nx (upd H4 D (.lst (acc ++ [y]))) else Nx H3)
theorem lc_core {pins : List (Addr × Obj)} {s : Shared} {σ : St} {H : Hp} {Q : VK} {elt tg iter : Expr} {ifs : List Expr} {scope : Scope} {own : List (Str × Nat)} {pos pos' : Pos} {wi : TI} {g : TG} {tt : TT} {te : TE} {use : Option (Value -> Sem Unit)} {Qf : Value -> Shared -> Prop}
 (hc : X.calm = true) (hN : X.N.Nodup) (I : Inv X pins σ H s) (hi : PI X tg iter wi) (ok : BlkOk X.N X.env.scope scope own)
 (hg : ∀ (s : Shared) (H : Hp) (C : Addr) (cl : List (Str × Addr)) (fp : List Addr), PG (X.blk s H scope (compEnvC scope cl C X.env) fp) tg g) (ht : ∀ (s : Shared) (H : Hp) (C : Addr) (cl : List (Str × Addr)) (fp : List Addr), PTs (X.blk s H scope (compEnvC scope cl C X.env) fp) ifs tt)
 (he : ∀ (s : Shared) (H : Hp) (C : Addr) (cl : List (Str × Addr)) (fp : List Addr), PE (X.blk s H scope (compEnvC scope cl C X.env) fp) elt te) (hs : ∀ x, foldedSetIterable iter X.env x = pure x)
 (h : tLc wi g tt te (own.map (·.2)) σ H Q)
 (hRR : ∀ D C s' m H', Inv X pins σ H' s' → Q (.ref D) H' → s'.heap.Ns C m → FpOk X pins H' C → compPost (model X.prog X.w) X.A X.xe use Qf (.ref D) C (.ok .next) s') :
 wpAny (model X.prog X.w) X.A (comprehension (.ListComp elt [⟨tg, iter, ifs, 0⟩] scope pos) scope X.env pos' (newList []) false (eval iter X.env) use) Qf X.xe s := by
 have hfree : ∀ y ∈ scope.names, y.2 = .free → ∃ c, X.env.cells.lookup y.1 = some c := fun y hy e => by
  rcases ok.free y hy e with k | k
  . exact I.ok.has _ (.inl k)
  . exact I.ok.has _ (.inr k)
 refine wpAny_comprehension_free (use := use) rfl hs (closure_ok hfree) ok.kind (fun y hy e => by rw [ok.uniq y hy, e])
  (thn (hi pins s σ H _ I h) fun xv s1 hx => thn hx fun itv s2 h2 => ?_)
 obtain ⟨it, fp, tn, J, H2, e, I2, T, st2, f2, q⟩ := h2
 subst e
 refine wpAny_newObj_type (newEnv_comp ?_) (by show 0 ≤ sizeLine; decide)
 generalize hD : s2.heap.objs.size = D
 have hDn : H2 D = none := I2.hok.fresh (Nat.le_of_eq hD)
 obtain ⟨W, ⟨m0, w0⟩, turn⟩ := q D hDn
 generalize hs3 : ({ s2 with heap := s2.heap.push { cls := .type "list", data := .seq ([] : List Value).toArray } } : Shared) = s3
 have I3 : Inv X pins σ (upd H2 D (.lst [])) s3 := by
  rw [← hs3]
  refine I2.laid (t' := s2.toks) (fun b o e => Heap.get?_push_of_some _ e) (Nat.le_of_eq hD) ⟨Nat.zero_le _, [], 0, .nil, ?_⟩
  rw [← hD]
  exact Heap.get?_push_size _ rfl
 have h3 : s3.heap = s2.heap.push { cls := .type "list", data := .seq ([] : List Value).toArray } := by rw [← hs3]
 have sz : ∀ b ∈ fp, b < s2.heap.objs.size := fun b hb => by
  obtain ⟨o, e, _⟩ := T.obj _ _ st2 b hb
  exact Heap.lt_size e
 have f3 : ∀ b ∈ fp, FpOk X pins (upd H2 D (.lst [])) b ∧ b < s3.heap.objs.size := fun b hb => by
  have hlt := sz b hb
  refine ⟨⟨?_, (f2 b hb).2⟩, by rw [h3, Heap.size_push]; exact Nat.lt_succ_of_lt hlt⟩
  rw [q5z (by rw [← hD]; exact Nat.ne_of_lt hlt)]
  exact (f2 b hb).1
 have st3 : tn 0 s3.heap := T.keep _ _ _ st2 fun b _ o e => by rw [h3]; exact Heap.get?_push_of_some _ e
 have I4 := block_start I3 ok hN f3
 have pg := hg s3 (upd H2 D (.lst [])) s3.heap.objs.size (cellsFrom (s3.heap.objs.size + 1) scope.names (cloFrom X.env.cells scope.names [])) fp
 have pt := ht s3 (upd H2 D (.lst [])) s3.heap.objs.size (cellsFrom (s3.heap.objs.size + 1) scope.names (cloFrom X.env.cells scope.names [])) fp
 have pe := he s3 (upd H2 D (.lst [])) s3.heap.objs.size (cellsFrom (s3.heap.objs.size + 1) scope.names (cloFrom X.env.cells scope.names [])) fp
 show codeAny _ _ (.compStart (.ListComp elt [⟨tg, iter, ifs, 0⟩] scope pos) 0 (.ref it) (.ref D) (compEnvC scope (cellsFrom (s3.heap.objs.size + 1) scope.names (cloFrom X.env.cells scope.names [])) s3.heap.objs.size X.env)) (compPost (model X.prog X.w) X.A X.xe use Qf (.ref D) s3.heap.objs.size) { s3 with heap := pushCells (s3.heap.push { cls := .type "dict", data := .dict #[] }) scope.names }
 have nfp : ∀ b ∈ fp, (upd H2 D (.lst [])) b = none := fun b hb => (f3 b hb).1.1
 generalize hce : compEnvC scope (cellsFrom (s3.heap.objs.size + 1) scope.names (cloFrom X.env.cells scope.names [])) s3.heap.objs.size X.env = ce at I4 pg pt pe ⊢
 have cL : ce.locals = s3.heap.objs.size := by subst hce; rfl
 generalize hH3 : upd H2 D (.lst []) = H3 at I3 I4 pg pt pe w0 nfp f3
 generalize hs4 : ({ s3 with heap := pushCells (s3.heap.push { cls := .type "dict", data := .dict #[] }) scope.names } : Shared) = s4 at I4 ⊢
 have st4 : tn 0 s4.heap := T.keep _ _ _ st3 fun b _ o e => by rw [← hs4]; exact pushCells_keeps _ _ _ _ (Heap.get?_push_of_some _ e)
 have stat : ∀ {σ' : St} {H' : Hp} {s' : Shared}, Inv (X.blk s3 H3 scope ce fp) [] σ' H' s' → (∀ b ∈ fp, H' b = none) → ∀ b ∈ fp, FpOk (X.blk s3 H3 scope ce fp) [] H' b := fun {σ' H' s'} I' hn b hb =>
  ⟨hn b hb, (I'.ok.exf b hb).1, I'.ok.exfs b hb, .inl hb, fun x c e => (I'.ok.exf b hb).2 x c e, fun p hp => absurd (show p ∈ ([] : List (Addr × Obj)) ++ [] from hp) (by simp)⟩
 have loop : codeAny (model X.prog X.w) X.A (.compLoop (.ListComp elt [⟨tg, iter, ifs, 0⟩] scope pos) 0 (.ref it) (.ref D) ce) (compPost (model X.prog X.w) X.A X.xe use Qf (.ref D) s3.heap.objs.size) s4 := by
  refine compLoop_any (fun n s' => ∃ i H', Inv (X.blk s3 H3 scope ce fp) [] (wipe σ (own.map (·.2))) H' s' ∧ tn i s'.heap ∧ (∀ b ∈ fp, H' b = none) ∧ W i n H') ?_ m0 ⟨0, H3, I4, st4, nfp, w0⟩
  rintro n s5 ⟨i, H5, I5, st5, n5, w5⟩
  rcases turn i n H5 w5 with ⟨stop, qq⟩ | ⟨go, Nx, hNx, step⟩
  . have td := T.done (X.blk s3 H3 scope ce fp) rfl rfl rfl hc i [] s5 _ H5 (fun _ _ => False) I5 (stat I5 n5) st5 stop
    refine thnF td fun r s6 ⟨hr, I6⟩ => ?_
    subst hr
    have I7 : Inv X pins σ H5 s6 := I3.call' (ch := fp) I6.os I6.base I6.hok I6.bare fun b hb => ⟨(f3 b hb).1.2.2.2.1, (f3 b hb).1.2.1, (f3 b hb).1.2.2.2.2.1, (f3 b hb).1.2.2.2.2.2⟩
    have nC : H5 s3.heap.objs.size = none := by
     have z : H5 ce.locals = none := I6.free
     rw [cL] at z
     exact z
    obtain ⟨m, hn, _⟩ := I6.loc
    have hn : s6.heap.Ns ce.locals m := hn
    rw [cL] at hn
    exact hRR D s3.heap.objs.size s6 m H5 I7 qq hn (I3.fpOk (Nat.le_refl _) nC)
  . have ti := T.item (X.blk s3 H3 scope ce fp) rfl rfl rfl hc i [] s5 _ H5 (fun _ _ => False) I5 (stat I5 n5) st5 go
    refine thnF ti fun r s6 ⟨u, hr, h6⟩ => ?_
    subst hr
    refine thnF h6 fun _ s7 ⟨x, H7, I7, r7, y7, st7, n7⟩ => ?_
    have I7' := I7.pinned (stat I7 n7) (T.obj _ _ st7)
    refine thnF (pg _ s7 _ H7 x u _ I7' r7 (step x H7 y7)) fun _ s8 ⟨σ8, H8, I8, hw8, q8⟩ => ?_
    refine thnF (pt _ s8 σ8 H8 _ I8 q8) fun b s9 ⟨H9, I9, q9⟩ => ?_
    have fin : ∀ {s' : Shared} {H' : Hp}, Inv (X.blk s3 H3 scope ce fp) ([] ++ pinsAt fp s7.heap) σ8 H' s' → Nx H' → ∃ m, m < n ∧ ∃ i H', Inv (X.blk s3 H3 scope ce fp) [] (wipe σ (own.map (·.2))) H' s' ∧ tn i s'.heap ∧ (∀ b ∈ fp, H' b = none) ∧ W i m H' := fun {s' H'} I' nx => by
     obtain ⟨m', hm, w'⟩ := hNx H' nx
     have pin' : ∀ b ∈ fp, ∀ o, s7.heap.get? b = some o → s'.heap.get? b = some o ∧ H' b = none := fun b hb o e =>
      let z := I'.pin (b, o) (List.mem_append_right _ (List.mem_append_right _ (mem_pinsAt hb e)))
      ⟨z.1, z.2.1⟩
     have hl : (wipe σ (own.map (·.2))).length = σ8.length := by rw [← hw8, wipe_length]
     refine ⟨m', hm, i + 1, H', (I'.unpinned (pins := [])).weak hl (fun j v e => ?_), T.keep _ _ _ st7 fun b hb o e => (pin' b hb o e).1, fun b hb => ?_, w'⟩
     . rw [← hw8] at e
       exact (wipe_some e).1
     . obtain ⟨o, e, _⟩ := T.obj _ _ st7 b hb
       exact (pin' b hb o e).2
    cases b with
    | false =>
      simp only [Bool.false_eq_true, if_false] at q9 ⊢
      exact fin I9 q9
    | true =>
      simp only [if_true] at q9 ⊢
      refine thnF (pe _ s9 σ8 H9 _ I9 q9) fun z s10 ⟨yv, H10, I10, r10, acc, hD10, hz10, nx⟩ => ?_
      exact app_ok (X := X.blk s3 H3 scope ce fp) I10 hD10 hz10 r10 fun s11 I11 => fin I11 nx
 exact codeAny_compStart_list loop (T.self X.A 0 _ _ _ st4 loop)
theorem pe_lc {elt tg iter : Expr} {ifs : List Expr} {scope : Scope} {own : List (Str × Nat)} {pos : Pos} {wi : TI} {g : TG} {tt : TT} {te : TE} (hc : X.calm = true) (hN : X.N.Nodup) (hi : PI X tg iter wi) (ok : BlkOk X.N X.env.scope scope own)
 (hg : ∀ (s : Shared) (H : Hp) (C : Addr) (cl : List (Str × Addr)) (fp : List Addr), PG (X.blk s H scope (compEnvC scope cl C X.env) fp) tg g) (ht : ∀ (s : Shared) (H : Hp) (C : Addr) (cl : List (Str × Addr)) (fp : List Addr), PTs (X.blk s H scope (compEnvC scope cl C X.env) fp) ifs tt)
 (he : ∀ (s : Shared) (H : Hp) (C : Addr) (cl : List (Str × Addr)) (fp : List Addr), PE (X.blk s H scope (compEnvC scope cl C X.env) fp) elt te) (hs : ∀ x, foldedSetIterable iter X.env x = pure x := by intro _; rfl) :
 PE X (.ListComp elt [⟨tg, iter, ifs, 0⟩] scope pos) (tLc wi g tt te (own.map (·.2))) := by
 intro pins s σ H Q I h
 rw [eval_ListComp]
 refine lc_core hc hN I hi ok hg ht he hs h fun D C s' m H' I' q hn f => ⟨m, hn, fun h'' sb => ?_⟩
 obtain ⟨f0, f1, f2, f3, f4, f5⟩ := f
 exact ⟨.ref D, H', I'.turned (t' := s'.toks) (fun b o hb e => (sb.2 b hb).trans e) f0 f1 f3 f4 f5, rfl, q⟩
theorem ps_setLc {i : Nat} {y : Str} {py : Pos} {elt tg iter : Expr} {ifs : List Expr} {scope : Scope} {own : List (Str × Nat)} {pos spos : Pos} {wi : TI} {g : TG} {tt : TT} {te : TE} (hc : X.calm = true) (hN : X.N.Nodup) (hy : X.N[i]? = some y) (hyl : X.env.scope.names.lookup y = some .local)
 (hsw : swapsWith (.ListComp elt [⟨tg, iter, ifs, 0⟩] scope pos) (some (.Name y py)) spos.line X.env = pure true) (hi : PI X tg iter wi) (ok : BlkOk X.N X.env.scope scope own)
 (hg : ∀ (s : Shared) (H : Hp) (C : Addr) (cl : List (Str × Addr)) (fp : List Addr), PG (X.blk s H scope (compEnvC scope cl C X.env) fp) tg g) (ht : ∀ (s : Shared) (H : Hp) (C : Addr) (cl : List (Str × Addr)) (fp : List Addr), PTs (X.blk s H scope (compEnvC scope cl C X.env) fp) ifs tt)
 (he : ∀ (s : Shared) (H : Hp) (C : Addr) (cl : List (Str × Addr)) (fp : List Addr), PE (X.blk s H scope (compEnvC scope cl C X.env) fp) elt te) (hs : ∀ x, foldedSetIterable iter X.env x = pure x := by intro _; rfl) :
 PS X (.Assign [.Name y py] (.ListComp elt [⟨tg, iter, ifs, 0⟩] scope pos) spos) (tAsg (tLc wi g tt te (own.map (·.2))) (gName i)) := by
 intro pins s σ H D I h
 rw [exec_Assign_Name_used _ _ _ _ hsw]
 refine wpAny_bind (wpAny_standAt (wpAny_bind ?_))
 show wpAny _ X.A (do let _ ← comprehension (.ListComp elt [⟨tg, iter, ifs, 0⟩] scope pos) scope X.env (firstIterPos [⟨tg, iter, ifs, 0⟩] pos) (newList []) false (eval iter X.env) (some (assign (.Name y py) X.env))) _ _ s
 have h : tLc wi g tt te (own.map (·.2)) σ H (fun x H1 => gName i x σ H1 D.nx) := h
 refine wpAny_bind (thn (lc_core (Qf := fun _ s' => SP X pins D .next s') hc hN I hi ok hg ht he hs h fun L C s' m H' I' q hn f => ?_) fun _ s' hq => wpAny_pure (wpAny_pure hq))
 show wpAny _ _ (assign (.Name y py) X.env (.ref L)) _ _ _
 refine wpAny_assign_Name (store_ok2 (v := V.ref L) I' hN hy (.inl hyl) rfl (fun s2 I2 ⟨a, sb, ha⟩ => ?_) (.inr hyl))
 obtain ⟨f0, f1, f2, f3, f4, f5⟩ := f
 have haC : C ≠ a := by
  rcases ha with z | z
  . rw [z]; exact f1
  . exact fun e => f4 y a z e.symm
 refine ⟨m, hn.sameBut sb haC, fun h3 sb3 => ?_⟩
 exact ⟨_, H', I2.turned (t' := s2.toks) (fun b o hb e => (sb3.2 b hb).trans e) f0 f1 f3 f4 f5, q⟩
theorem sw_true {elt : Expr} {gs : List Comprehension} {scope : Scope} {pos py : Pos} {y : Str} {l : Nat} {env : Env} (hk : env.scope.kind = .function) (hy : env.scope.names.lookup y = some .local) (hl : (py.line == pos.line) = true)
 (ha : (scope.names.any fun (n, k) => n == y && (k == .local || k == .cell)) = false) : swapsWith (.ListComp elt gs scope pos) (some (.Name y py)) l env = pure true := by
 have ky : env.kindOf y = some .local := hy
 have hb : env.blockKind = .function := by unfold Env.blockKind; rw [hk]; rfl
 unfold swapsWith
 simp only [hb, ky, ha, Expr.pos, hl]
 rfl
end
theorem lc_range {lo : Int} {n : Nat} {g : TG} {tt : TT} {te : TE} {vs : List Nat} {σ : St} {H1 : Hp} {D : Addr} {Qd : Hp -> Prop} (Pv : Nat -> Hp -> Prop) (h0 : Pv 0 (upd H1 D (.lst [])))
 (hs : ∀ i H, i < n → Pv i H → g (.int (lo + i)) (wipe σ vs) H fun σ2 H2 => wipe σ2 vs = wipe σ vs ∧ tt σ2 H2 fun b H3 =>
  if b = true then te σ2 H3 fun y H4 => ∃ acc, H4 D = some (.lst acc) ∧ acc.length < sizeLine ∧ Pv (i + 1) (upd H4 D (.lst (acc ++ [y]))) else Pv (i + 1) H3) (hd : ∀ H, Pv n H → Qd H) :
 ∃ W : Nat → Nat → Hp → Prop, (∃ m, W 0 m (upd H1 D (.lst []))) ∧ ∀ i m H, W i m H →
  ((Itr lo n).stop i H ∧ Qd H) ∨ ((Itr lo n).go i H ∧ ∃ Nx : Hp → Prop, (∀ H', Nx H' → ∃ m', m' < m ∧ W (i + 1) m' H') ∧ ∀ x H', (Itr lo n).yld i H x H' → g x (wipe σ vs) H' fun σ2 H2 => wipe σ2 vs = wipe σ vs ∧ tt σ2 H2 fun b H3 =>
    if b = true then te σ2 H3 fun y H4 => ∃ acc, H4 D = some (.lst acc) ∧ acc.length < sizeLine ∧ Nx (upd H4 D (.lst (acc ++ [y]))) else Nx H3) := by
 refine ⟨fun i m H => m = n - i ∧ i ≤ n ∧ Pv i H, ⟨n, by simp, Nat.zero_le _, h0⟩, ?_⟩
 rintro i m H ⟨rfl, hi, p⟩
 by_cases hlt : i < n
 . refine .inr ⟨hlt, Pv (i + 1), fun H' p' => ⟨n - (i + 1), by omega, rfl, hlt, p'⟩, fun x H' y => ?_⟩
   obtain ⟨e, y⟩ := y
   subst e y
   exact hs i _ hlt p
 . have e : i = n := by omega
   subst e
   exact .inl ⟨Nat.le_refl _, hd H p⟩
theorem lc_list {K : PySem.W.Frag} {a : Addr} {xs : List V} {g : TG} {tt : TT} {te : TE} {vs : List Nat} {σ : St} {H1 : Hp} {D : Addr} {Qd : Hp -> Prop} (Pv : Nat -> Hp -> Prop) (h0 : Pv 0 (upd H1 D (.lst []))) (hl : ∀ i H, i ≤ xs.length -> Pv i H -> SqL K H a xs)
 (hs : ∀ i x H, xs[i]? = some x → Pv i H → g x (wipe σ vs) H fun σ2 H2 => wipe σ2 vs = wipe σ vs ∧ tt σ2 H2 fun b H3 =>
  if b = true then te σ2 H3 fun y H4 => ∃ acc, H4 D = some (.lst acc) ∧ acc.length < sizeLine ∧ Pv (i + 1) (upd H4 D (.lst (acc ++ [y]))) else Pv (i + 1) H3) (hd : ∀ H, Pv xs.length H → Qd H) :
 ∃ W : Nat → Nat → Hp → Prop, (∃ m, W 0 m (upd H1 D (.lst []))) ∧ ∀ i m H, W i m H →
  ((Itl K a).stop i H ∧ Qd H) ∨ ((Itl K a).go i H ∧ ∃ Nx : Hp → Prop, (∀ H', Nx H' → ∃ m', m' < m ∧ W (i + 1) m' H') ∧ ∀ x H', (Itl K a).yld i H x H' → g x (wipe σ vs) H' fun σ2 H2 => wipe σ2 vs = wipe σ vs ∧ tt σ2 H2 fun b H3 =>
    if b = true then te σ2 H3 fun y H4 => ∃ acc, H4 D = some (.lst acc) ∧ acc.length < sizeLine ∧ Nx (upd H4 D (.lst (acc ++ [y]))) else Nx H3) := by
 refine ⟨fun i m H => m = xs.length - i ∧ i ≤ xs.length ∧ Pv i H, ⟨xs.length, by simp, Nat.zero_le _, h0⟩, ?_⟩
 rintro i m H ⟨rfl, hi, p⟩
 have q := hl i H hi p
 by_cases hlt : i < xs.length
 . refine .inr ⟨⟨xs, xs[i], q, by simp [hlt]⟩, Pv (i + 1), fun H' p' => ⟨xs.length - (i + 1), by omega, rfl, hlt, p'⟩, fun x H' y => ?_⟩
   obtain ⟨e, y⟩ := y
   subst e
   exact hs i x _ (y xs q) p
 . have e : i = xs.length := by omega
   subst e
   exact .inl ⟨⟨xs, q, Nat.le_refl _⟩, hd H p⟩
theorem lc_tup {K : PySem.W.Frag} {a : Addr} {xs : List V} {g : TG} {tt : TT} {te : TE} {vs : List Nat} {σ : St} {H1 : Hp} {D : Addr} {Qd : Hp -> Prop} (Pv : Nat -> Hp -> Prop) (h0 : Pv 0 (upd H1 D (.lst []))) (hl : ∀ i H, i ≤ xs.length -> Pv i H -> SqT K H a xs)
 (hs : ∀ i x H, xs[i]? = some x → Pv i H → g x (wipe σ vs) H fun σ2 H2 => wipe σ2 vs = wipe σ vs ∧ tt σ2 H2 fun b H3 =>
  if b = true then te σ2 H3 fun y H4 => ∃ acc, H4 D = some (.lst acc) ∧ acc.length < sizeLine ∧ Pv (i + 1) (upd H4 D (.lst (acc ++ [y]))) else Pv (i + 1) H3) (hd : ∀ H, Pv xs.length H → Qd H) :
 ∃ W : Nat → Nat → Hp → Prop, (∃ m, W 0 m (upd H1 D (.lst []))) ∧ ∀ i m H, W i m H →
  ((Itt K a).stop i H ∧ Qd H) ∨ ((Itt K a).go i H ∧ ∃ Nx : Hp → Prop, (∀ H', Nx H' → ∃ m', m' < m ∧ W (i + 1) m' H') ∧ ∀ x H', (Itt K a).yld i H x H' → g x (wipe σ vs) H' fun σ2 H2 => wipe σ2 vs = wipe σ vs ∧ tt σ2 H2 fun b H3 =>
    if b = true then te σ2 H3 fun y H4 => ∃ acc, H4 D = some (.lst acc) ∧ acc.length < sizeLine ∧ Nx (upd H4 D (.lst (acc ++ [y]))) else Nx H3) := by
 refine ⟨fun i m H => m = xs.length - i ∧ i ≤ xs.length ∧ Pv i H, ⟨xs.length, by simp, Nat.zero_le _, h0⟩, ?_⟩
 rintro i m H ⟨rfl, hi, p⟩
 have q := hl i H hi p
 by_cases hlt : i < xs.length
 . refine .inr ⟨⟨xs, xs[i], q, by simp [hlt]⟩, Pv (i + 1), fun H' p' => ⟨xs.length - (i + 1), by omega, rfl, hlt, p'⟩, fun x H' y => ?_⟩
   obtain ⟨e, y⟩ := y
   subst e
   exact hs i x _ (y xs q) p
 . have e : i = xs.length := by omega
   subst e
   exact .inl ⟨⟨xs, q, Nat.le_refl _⟩, hd H p⟩
def blkC (N : List Str) (sc scope : Scope) (own : List (Str × Nat)) : Bool :=
 (match scope.kind with | .function => true | _ => false) && (scope.names.all fun y => decide (scope.names.lookup y.1 = some y.2)) && (own.all fun p => decide (N[p.2]? = some p.1)) &&
  (scope.names.all fun y => match y.2 with
   | .free => (match sc.names.lookup y.1 with | some .cell => true | some .free => true | _ => false)
   | .local => decide (y.1 ∈ own.map (·.1)) || decide (y.1 ∉ N)
   | .cell => decide (y.1 ∈ own.map (·.1)) || decide (y.1 ∉ N)
   | _ => true)
theorem blkOk_by {N : List Str} {sc scope : Scope} {own : List (Str × Nat)} (h : blkC N sc scope own = true) : BlkOk N sc scope own := by
 unfold blkC at h
 simp only [Bool.and_eq_true, List.all_eq_true, decide_eq_true_eq] at h
 obtain ⟨⟨⟨h1, h2⟩, h3⟩, h4⟩ := h
 refine ⟨?_, h2, h3, fun y hy e => ?_, fun y hy e => ?_⟩
 . split at h1
   . assumption
   . cases h1
 . have q := h4 y hy
   simp only [e] at q
   split at q <;> first | exact .inl (by assumption) | exact .inr (by assumption) | cases q
 . have q := h4 y hy
   rcases e with e | e <;> (simp only [e, Bool.or_eq_true, decide_eq_true_eq] at q; exact q)
end L2
namespace L2
open PySem PySem.Spec PyProof.Rows
end L2
namespace L2
open PySem PySem.Spec PyProof.Rows
section
variable {κ : Type} [DecidableEq κ]
def valV (kvs : List (κ × V)) (k : κ) : Option V := (kvs.find? fun kv => decide (kv.1 = k)).map (·.2)
def putK (kvs : List (κ × V)) (k : κ) (v : V) : List (κ × V) :=
 if (kvs.any fun kv => decide (kv.1 = k)) = true then kvs.map (fun kv => if kv.1 = k then (kv.1, v) else kv) else kvs ++ [(k, v)]
theorem valV_nil {k : κ} : valV ([] : List (κ × V)) k = none := rfl
theorem valV_pos {p : κ × V} {r : List (κ × V)} {k : κ} (e : p.1 = k) : valV (p :: r) k = some p.2 := by simp [valV, List.find?_cons, e]
theorem valV_neg {p : κ × V} {r : List (κ × V)} {k : κ} (e : ¬ p.1 = k) : valV (p :: r) k = valV r k := by simp [valV, List.find?_cons, e]
theorem valV_any (k : κ) : ∀ kvs : List (κ × V), (kvs.any fun kv => decide (kv.1 = k)) = (valV kvs k).isSome
 | [] => rfl
 | p :: r => by
   rw [List.any_cons]
   by_cases e : p.1 = k
   . simp only [valV_pos e, decide_eq_true e, Bool.true_or, Option.isSome_some]
   . rw [valV_neg e, decide_eq_false e, Bool.false_or]; exact valV_any k r
theorem valV_map (k j : κ) (y : V) : ∀ kvs : List (κ × V), valV (kvs.map fun kv => if kv.1 = k then (kv.1, y) else kv) j = (valV kvs j).map fun x => if j = k then y else x
 | [] => rfl
 | p :: r => by
   have ih := valV_map k j y r
   rw [List.map_cons]
   by_cases h : p.1 = k
   . rw [if_pos h]
     by_cases e : p.1 = j
     . rw [valV_pos (p := (p.1, y)) e, valV_pos e, Option.map_some, if_pos (e.symm.trans h)]
     . rw [valV_neg (p := (p.1, y)) e, valV_neg e, ih]
   . rw [if_neg h]
     by_cases e : p.1 = j
     . rw [valV_pos (p := p) e, valV_pos e, Option.map_some, if_neg (fun z => h (e.trans z))]
     . rw [valV_neg (p := p) e, valV_neg e, ih]
theorem valV_snoc (k j : κ) (y : V) : ∀ kvs : List (κ × V), valV kvs k = none -> valV (kvs ++ [(k, y)]) j = if j = k then some y else valV kvs j
 | [], _ => by
   by_cases e : k = j
   . rw [if_pos e.symm]; exact valV_pos (p := (k, y)) e
   . rw [if_neg (fun z => e z.symm)]; exact valV_neg (p := (k, y)) e
 | p :: r, hn => by
   rw [List.cons_append]
   have hk : ¬ p.1 = k := fun z => by rw [valV_pos z] at hn; cases hn
   rw [valV_neg hk] at hn
   have ih := valV_snoc k j y r hn
   by_cases e : p.1 = j
   . rw [valV_pos e, valV_pos e, if_neg (fun z => hk (e.trans z))]
   . rw [valV_neg e, valV_neg e, ih]
theorem valV_put (kvs : List (κ × V)) (k j : κ) (y : V) : valV (putK kvs k y) j = if j = k then some y else valV kvs j := by
 unfold putK
 by_cases a : (kvs.any fun kv => decide (kv.1 = k)) = true
 . rw [if_pos a, valV_map]
   rw [valV_any] at a
   by_cases e : j = k
   . obtain ⟨x, hx⟩ := Option.isSome_iff_exists.mp a
     rw [if_pos e, e, hx, Option.map_some, if_pos rfl]
   . rw [if_neg e]
     cases valV kvs j with
     | none => rfl
     | some x => rw [Option.map_some, if_neg e]
 . rw [if_neg a]
   refine valV_snoc k j y kvs ?_
   rw [valV_any] at a
   cases q : valV kvs k with
   | none => rfl
   | some x => rw [q] at a; exact (a rfl).elim
theorem length_putK (kvs : List (κ × V)) (k : κ) (v : V) : (putK kvs k v).length ≤ kvs.length + 1 := by
 unfold putK
 split
 . rw [List.length_map]; omega
 . rw [List.length_append, List.length_cons, List.length_nil]; omega
theorem RelO.isSome_eq {o : Option V} {u : Option Value} (r : RelO o u) : o.isSome = u.isSome := by
 cases o with
 | none => cases u with
   | none => rfl
   | some _ => exact (show False from r).elim
 | some _ => cases u with
   | none => exact (show False from r).elim
   | some _ => rfl
theorem KV.val {kvs : List (κ × V)} {vs : List (κ × Value)} (r : KV kvs vs) (k : κ) : RelO (valV kvs k) (valueAt vs k) := by
 unfold KV at r
 induction r with
 | nil => exact True.intro
 | @cons p q ps qs h t ih =>
   obtain ⟨h1, h2⟩ := h
   by_cases e : p.1 = k
   . have e' : q.1 = k := h1.symm.trans e
     have b : valueAt (q :: qs) k = some q.2 := by simp [valueAt, List.find?_cons, e']
     rw [valV_pos e, b]; exact h2
   . have e' : ¬ q.1 = k := fun z => e (h1.trans z)
     have b : valueAt (q :: qs) k = valueAt qs k := by simp [valueAt, List.find?_cons, e']
     rw [valV_neg e, b]; exact ih
theorem KV.any {kvs : List (κ × V)} {vs : List (κ × Value)} (r : KV kvs vs) (k : κ) : (kvs.any fun kv => decide (kv.1 = k)) = vs.any fun kv => decide (kv.1 = k) := by
 unfold KV at r
 induction r with
 | nil => rfl
 | cons h t ih => rw [List.any_cons, List.any_cons, ih, h.1]
theorem KV.repl {kvs : List (κ × V)} {vs : List (κ × Value)} (r : KV kvs vs) (k : κ) {y : V} {u : Value} (ry : RelV y u) :
 KV (kvs.map fun kv => if kv.1 = k then (kv.1, y) else kv) (vs.map fun kv => if kv.1 = k then (kv.1, u) else kv) := by
 unfold KV at r ⊢
 induction r with
 | nil => exact .nil
 | @cons p q ps qs h t ih =>
   rw [List.map_cons, List.map_cons]
   refine .cons ?_ ih
   obtain ⟨h1, h2⟩ := h
   by_cases e : p.1 = k
   . rw [if_pos e, if_pos (h1.symm.trans e)]; exact ⟨h1, ry⟩
   . rw [if_neg e, if_neg (fun z => e (h1.trans z))]; exact ⟨h1, h2⟩
theorem KV.put {kvs : List (κ × V)} {vs : List (κ × Value)} (r : KV kvs vs) (k : κ) {y : V} {u : Value} (ry : RelV y u) : KV (putK kvs k y) (stored vs k u) := by
 unfold putK stored
 rw [r.any k]
 by_cases e : (vs.any fun kv => decide (kv.1 = k)) = true
 . rw [if_pos e, if_pos e]; exact r.repl k ry
 . rw [if_neg e, if_neg e]; exact Paired.snoc r ⟨rfl, ry⟩
theorem KV.length {kvs : List (κ × V)} {vs : List (κ × Value)} (r : KV kvs vs) : kvs.length = vs.length := Paired.length r
end
theorem kV_is {P : Program} {w : World} {k : Key} {u : Value} (r : RelV (kV k) u) : (mixKind P w).is k u = true := by
 cases k with
 | inl i => obtain ⟨t, e⟩ := (show ∃ t, u = Value.int i t from r); subst e; exact mixKind_int P w i t
 | inr x => obtain ⟨t, e⟩ := (show ∃ t, u = Value.str x t from r); subst e; exact mixKind_str P w x t
theorem items_are {P : Program} {w : World} : ∀ {ks : List Key} {us : List Value}, Vals (ks.map kV) us -> ItemsAre (mixKind P w) ks us
 | [], _, r => by rw [List.map_nil] at r; cases r; exact .nil
 | k :: ks, _, r => by
   rw [List.map_cons] at r
   cases r with
   | cons h t => exact .cons (kV_is h) (items_are t)
abbrev KT (H : Hp) : List (List Key × V) -> List (List Key × Addr × Value) -> Prop := Paired fun p q => p.1 = q.1 /\ H q.2.1 = some (.tup (p.1.map kV)) /\ RelV p.2 q.2.2
theorem KT.val {H : Hp} {kvs : List (List Key × V)} {xs : List (List Key × Addr × Value)} (r : KT H kvs xs) (k : List Key) : RelO (valV kvs k) ((atKey xs k).map (·.2)) := by
 induction r with
 | nil => exact True.intro
 | @cons p q ps qs h t ih =>
   obtain ⟨h1, _, h2⟩ := h
   by_cases e : p.1 = k
   . have e' : q.1 = k := h1.symm.trans e
     have b : atKey (q :: qs) k = some q.2 := by simp [atKey, List.find?_cons, e']
     rw [valV_pos e, b]; exact h2
   . have e' : ¬ q.1 = k := fun z => e (h1.trans z)
     have b : atKey (q :: qs) k = atKey qs k := by simp [atKey, List.find?_cons, e']
     rw [valV_neg e, b]; exact ih
theorem KT.repl {H : Hp} {kvs : List (List Key × V)} {xs : List (List Key × Addr × Value)} (r : KT H kvs xs) (k : List Key) {y : V} {u : Value} (ry : RelV y u) :
 KT H (kvs.map fun kv => if kv.1 = k then (kv.1, y) else kv) (xs.map (putAt k u)) := by
 induction r with
 | nil => exact .nil
 | @cons p q ps qs h t ih =>
   rw [List.map_cons, List.map_cons]
   refine .cons ?_ ih
   obtain ⟨h1, h2, h3⟩ := h
   unfold putAt
   by_cases e : p.1 = k
   . rw [if_pos e, if_pos (h1.symm.trans e)]; exact ⟨h1, h2, ry⟩
   . rw [if_neg e, if_neg (fun z => e (h1.trans z))]; exact ⟨h1, h2, h3⟩
theorem KT.put {H : Hp} {kvs : List (List Key × V)} {xs : List (List Key × Addr × Value)} (r : KT H kvs xs) (k : List Key) {b : Addr} {y : V} {u : Value} (hb : H b = some (.tup (k.map kV))) (ry : RelV y u) :
 KT H (putK kvs k y) (storedH xs k b u) := by
 have e : (kvs.any fun kv => decide (kv.1 = k)) = (atKey xs k).isSome := by
  rw [valV_any, (r.val k).isSome_eq, Option.isSome_map]
 unfold putK storedH
 rw [e]
 by_cases q : (atKey xs k).isSome = true
 . rw [if_pos q, if_pos q]; exact r.repl k ry
 . rw [if_neg q, if_neg q]; exact Paired.snoc r ⟨rfl, hb, ry⟩
theorem KT.keeps {H H' : Hp} {kvs : List (List Key × V)} {xs : List (List Key × Addr × Value)} (r : KT H kvs xs) (ht : ∀ b ys, H b = some (.tup ys) -> H' b = some (.tup ys)) : KT H' kvs xs :=
 Paired.mapP r fun _ _ z => ⟨z.1, ht _ _ z.2.1, z.2.2⟩
section
variable {P : Program} {w : World} {H : Hp} {h : Heap} {a : Addr}
theorem rd_of {u : HO} (ok : HOk P w H h) (e : Rd H a u) : ObjOk P w H h a u := e.ok ok
theorem dk_rd {kvs : List (Key × V)} (ok : HOk P w H h) (e : Rd H a (.dK kvs)) : kvs.length ≤ sizeLine /\ (a == sysModules) = false /\ ∃ vs, KV kvs vs /\ h.DictOf (mixKind P w) a vs :=
 show ObjOk P w H h a (.dK kvs) from rd_of ok e
theorem dk_of {kvs : List (Key × V)} (ok : HOk P w H h) (e : H a = some (.dK kvs)) : kvs.length ≤ sizeLine /\ (a == sysModules) = false /\ ∃ vs, KV kvs vs /\ h.DictOf (mixKind P w) a vs := dk_rd ok (.inl e)
theorem key_of {ks : List Key} (ok : HOk P w H h) (e : H a = some (.tup (ks.map kV))) : (tupleKind (mixKind P w)).is h ks a := by
 obtain ⟨_, its, r, o, h1, h2, n, h3⟩ := (show ObjOk P w H h a (.tup (ks.map kV)) from ok a _ e)
 exact ⟨o, its.toArray, n, h1, h2, h3, by simpa using items_are r⟩
theorem dt_rd {kvs : List (List Key × V)} (ok : HOk P w H h) (e : Rd H a (.dT kvs)) : kvs.length ≤ sizeLine /\ (a == sysModules) = false /\
 ∃ xs, KT H kvs xs ∧ h.DictOfH (tupleKind (mixKind P w)) a xs := by
 obtain ⟨z, y, xs, r, o, es, ep, h1, h2, h3, h4, h5⟩ := (show ObjOk P w H h a (.dT kvs) from rd_of ok e)
 refine ⟨z, y, xs, r, o, es, ep, h1, h2, h3, h4, fun x hx => ?_, h5⟩
 have all : ∀ {l : List (List Key × V)} {m : List (List Key × Addr × Value)}, KT H l m → ∀ x ∈ m, (tupleKind (mixKind P w)).is h x.1 x.2.1 := by
  intro l m q
  induction q with
  | nil => intro x hx; exact nomatch hx
  | @cons p q ps qs hq t ih =>
    intro x hx
    rcases List.mem_cons.mp hx with e | hx
    . subst e
      exact key_of ok (by rw [← hq.1]; exact hq.2.1)
    . exact ih x hx
 exact all r x hx
theorem dt_of {kvs : List (List Key × V)} (ok : HOk P w H h) (e : H a = some (.dT kvs)) : kvs.length ≤ sizeLine /\ (a == sysModules) = false /\
 ∃ xs, KT H kvs xs ∧ h.DictOfH (tupleKind (mixKind P w)) a xs := dt_rd ok (.inl e)
end
def DGet (H : Hp) (a : Addr) (y : V) (r : Option V) : Prop :=
 (∃ kvs k, Rd H a (.dK kvs) ∧ y = kV k ∧ r = valV kvs k) ∨ ∃ kvs k b, Rd H a (.dT kvs) ∧ y = .ref b ∧ H b = some (.tup (k.map kV)) ∧ r = valV kvs k
def DPut (H : Hp) (a : Addr) (y v : V) (H' : Hp) : Prop :=
 (∃ kvs k, H a = some (.dK kvs) ∧ y = kV k ∧ kvs.length < sizeLine ∧ H' = upd H a (.dK (putK kvs k v))) ∨
 ∃ kvs k b, H a = some (.dT kvs) ∧ y = .ref b ∧ H b = some (.tup (k.map kV)) ∧ kvs.length < sizeLine ∧ H' = upd H a (.dT (putK kvs k v))
theorem DGet.k {H : Hp} {a : Addr} {kvs : List (Key × V)} {k : Key} (e : H a = some (.dK kvs)) : DGet H a (kV k) (valV kvs k) := .inl ⟨kvs, k, .inl e, rfl, rfl⟩
theorem DPut.k {H : Hp} {a : Addr} {kvs : List (Key × V)} {k : Key} {v : V} (e : H a = some (.dK kvs)) (hl : kvs.length < sizeLine) : DPut H a (kV k) v (upd H a (.dK (putK kvs k v))) := .inl ⟨kvs, k, e, rfl, hl, rfl⟩
section
variable {X : Cx} {pins : List (Addr × Obj)} {σ : St} {H : Hp} {s : Shared} {a : Addr} {y v : V} {u r : Value} {o : Option V} {A : Around} {E : Value → Shared → Prop}
theorem Inv.big (I : Inv X pins σ H s) : sysModules < s.heap.objs.size := by
 have h : mainGlobals < s.heap.objs.size := (I.mod.glob.keeps I.bk).lt
 exact Nat.lt_trans (by decide) h
theorem d_getItem {Q : Value -> Shared -> Prop} (hu : A.units + 1 < cLine) (I : Inv X pins σ H s) (g : DGet H a y (some v)) (ry : RelV y u) (h : ∀ w' s', Inv X pins σ H s' -> RelV v w' -> Q w' s') :
 wpAny (model X.prog X.w) A (getItem (.ref a) u) Q E s := by
 rcases g with ⟨kvs, k, e, ey, l⟩ | ⟨kvs, k, b, e, ey, eb, l⟩
 . subst ey
   obtain ⟨z, hd, vs, rel, dd⟩ := dk_rd I.hok e
   obtain ⟨w', hw, rw'⟩ := RelO.some_of (v := v) (o := valueAt vs k) (by rw [l]; exact rel.val k)
   exact wpAny_getItem_of (kV_is ry) dd.mapOf hw (h w' _ (I.tok _) rw')
 . subst ey
   cases (show u = Value.ref b from ry)
   obtain ⟨z, hd, xs, rel, dd⟩ := dt_rd I.hok e
   obtain ⟨w', hw, rw'⟩ := RelO.some_of (v := v) (o := (atKey xs k).map (·.2)) (by rw [l]; exact rel.val k)
   obtain ⟨p, hp, hp2⟩ := Option.map_eq_some_iff.mp hw
   refine wpAny_getItem_heap (tupleKind_room_in1 hu) (key_of I.hok eb) dd hp ?_
   rw [hp2]
   exact h w' _ (I.tok _) rw'
theorem d_in {Q : Value -> Shared -> Prop} (hu : A.units + 1 < cLine) (I : Inv X pins σ H s) (g : DGet H a y o) (ry : RelV y u) (h : ∀ s', Inv X pins σ H s' -> Q (.bool o.isSome) s') :
 wpAny (model X.prog X.w) A (compareOp .In u (.ref a)) Q E s := by
 rcases g with ⟨kvs, k, e, ey, l⟩ | ⟨kvs, k, b, e, ey, eb, l⟩
 . subst ey
   obtain ⟨z, hd, vs, rel, dd⟩ := dk_rd I.hok e
   refine wpAny_in_of (kV_is ry) hd dd.mapOf ?_
   rw [← (rel.val k).isSome_eq, ← l]
   exact h _ (I.tok _)
 . subst ey
   cases (show u = Value.ref b from ry)
   obtain ⟨z, hd, xs, rel, dd⟩ := dt_rd I.hok e
   refine wpAny_in_heap (tupleKind_room_in1 hu) (key_of I.hok eb) hd dd ?_
   have q := (rel.val k).isSome_eq
   rw [Option.isSome_map] at q
   rw [← q, ← l]
   exact h _ (I.tok _)
theorem d_notIn {Q : Value -> Shared -> Prop} (hu : A.units + 1 < cLine) (I : Inv X pins σ H s) (g : DGet H a y o) (ry : RelV y u) (h : ∀ s', Inv X pins σ H s' -> Q (.bool (!o.isSome)) s') :
 wpAny (model X.prog X.w) A (compareOp .NotIn u (.ref a)) Q E s := by
 rcases g with ⟨kvs, k, e, ey, l⟩ | ⟨kvs, k, b, e, ey, eb, l⟩
 . subst ey
   obtain ⟨z, hd, vs, rel, dd⟩ := dk_rd I.hok e
   refine wpAny_notIn_of (kV_is ry) hd dd.mapOf ?_
   rw [← (rel.val k).isSome_eq, ← l]
   exact h _ (I.tok _)
 . subst ey
   cases (show u = Value.ref b from ry)
   obtain ⟨z, hd, xs, rel, dd⟩ := dt_rd I.hok e
   refine wpAny_notIn_heap (tupleKind_room_in1 hu) (key_of I.hok eb) hd dd ?_
   have q := (rel.val k).isSome_eq
   rw [Option.isSome_map] at q
   rw [← q, ← l]
   exact h _ (I.tok _)
theorem d_write {h' : Heap} {t' : Nat} {ob : HO} (I : Inv X pins σ H s) (mu : Mut (H a)) (hs : Heap.SameBut a s.heap h') (he : ∃ q, h'.get? a = some q) (new : ObjOk X.prog X.w (upd H a ob) h' a ob) :
 Inv X pins σ (upd H a ob) { s with heap := h', toks := t' } :=
 I.write (x := a) (e := a) mu (.inl rfl) (fun b q hb z => (hs.2 b hb).trans z) he new
theorem dk_new {P : Program} {w : World} {H' : Hp} {h' : Heap} {kvs : List (Key × V)} {vs : List (Key × Value)} (z : kvs.length ≤ sizeLine) (hd : (a == sysModules) = false) (rel : KV kvs vs) (dd : h'.DictOf (mixKind P w) a vs) :
 ObjOk P w H' h' a (.dK kvs) := ⟨z, hd, vs, rel, dd⟩
theorem d_setItem {H' : Hp} {Q : Unit -> Shared -> Prop} (hu : A.units + 1 < cLine) (I : Inv X pins σ H s) (g : DPut H a y v H') (ry : RelV y u) (rv : RelV v r) (h : ∀ s', Inv X pins σ H' s' -> Q () s') :
 wpAny (model X.prog X.w) A (setItem (.ref a) u r) Q E s := by
 rcases g with ⟨kvs, k, e, ey, l, eH⟩ | ⟨kvs, k, b, e, ey, eb, l, eH⟩
 . subst ey eH
   obtain ⟨z, hd, vs, rel, dd⟩ := dk_of I.hok e
   have hz : vs.length ≤ sizeLine := by rw [← rel.length]; exact z
   have hl : (putK kvs k v).length ≤ sizeLine := by have := length_putK kvs k v; omega
   refine wpAny_setItem_pairs (hsz := hz) (kV_is ry) dd fun h' dd' hs => h _ ?_
   have he : ∃ q, h'.get? a = some q := let ⟨q, _, _, hq, _⟩ := dd'; ⟨q, hq⟩
   exact d_write I (by rw [e]; exact True.intro) hs he (dk_new hl hd (rel.put k rv) dd')
 . subst ey eH
   cases (show u = Value.ref b from ry)
   obtain ⟨z, hd, xs, rel, dd⟩ := dt_of I.hok e
   have hz : xs.length ≤ sizeLine := by rw [← Paired.length rel]; exact z
   have hl : (putK kvs k v).length ≤ sizeLine := by have := length_putK kvs k v; omega
   refine wpAny_setItem_heap (hsz := hz) (tupleKind_room_in1 hu) (key_of I.hok eb) dd fun h' dd' hs => h _ ?_
   obtain ⟨q, es, ep, hq, h2, h3, h4, _, h5⟩ := dd'
   refine d_write I (by rw [e]; exact True.intro) hs ⟨q, hq⟩ ⟨hl, hd, _, (rel.put k eb rv).keeps fun c ys ec => ?_, q, es, ep, hq, h2, h3, h4, h5⟩
   rw [q5z (ne_of ec e (fun z => nomatch z))]
   exact ec
end
def NoSl (i : Expr) : Prop := ∀ ov iv, subscripted i false ov iv = operate [ov, iv] (getItem ov iv)
theorem subD_of {prog : Program} {w : World} {A : Around} {E : Value -> Shared -> Prop} {s : Shared} {env : Env} {value slice : Expr} {pos : Pos} {T id : String} {Q : Value -> Shared -> Prop}
 (hl : typeLookup (.type T) "__getitem__" = pure (some (.builtin id))) (hs : NoSl slice)
 (h : wpAny (model prog w) A (eval value env) (fun o s₁ => wpAny (model prog w) A (eval slice env) (fun i s₂ => s₂.TypeIs o T ∧ wpAny (model prog w) A (getItem o i) Q E s₂) E s₁) E s) :
 wpAny (model prog w) A (eval (.Subscript value slice pos) env) Q E s := by
 refine Subscript_ (wpAny_mono h (fun o s₁ h₁ => wpAny_mono h₁ (fun i s₂ h₂ => ?_) fun _ _ x => x) fun _ _ x => x)
 obtain ⟨hT, h₂⟩ := h₂
 unfold subscriptTail
 refine wpAny_bind ?_
 rw [getitemInPython_of_ne hT.not_modules]
 refine wpAny_bind (wpAny_specialOf hT hl ?_)
 have fin : wpAny (model prog w) A (subscripted slice false o i) (fun r s₃ => wpAny (model prog w) A (letTemporaryGo value o r >>= fun _ => pure r) Q E s₃) E s₂ := by
  rw [hs o i]
  exact wpAny_operating (wpAny_mono h₂ (fun r s₃ h₃ => wpAny_bind (wpAny_letTemporaryGo (wpAny_pure h₃))) fun _ _ x => x)
 first
  | exact wpAny_pure (wpAny_bind fin)
  | exact wpAny_bind (wpAny_pure (wpAny_bind fin))
  | exact wpAny_bind fin
theorem dict_typeIs {X : Cx} {pins : List (Addr × Obj)} {σ : St} {H : Hp} {s : Shared} {a : Addr} {y : V} {o : Option V} (I : Inv X pins σ H s) (g : DGet H a y o) : s.TypeIs (.ref a) "dict" := by
 rcases g with ⟨kvs, k, e, _, _⟩ | ⟨kvs, k, b, e, _, _, _⟩
 . obtain ⟨_, _, vs, _, dd⟩ := dk_rd I.hok e
   exact dd.typeIs
 . obtain ⟨_, _, xs, _, dd⟩ := dt_rd I.hok e
   exact dd.typeIs
def tDGet (td ty : TE) : TE := fun σ H Q => td σ H fun x H1 => ty σ H1 fun y H2 => ∃ a v, x = .ref a /\ DGet H2 a y (some v) /\ Q v H2
def tDIn (ty td : TE) : TE := fun σ H Q => ty σ H fun y H1 => td σ H1 fun x H2 => ∃ a o, x = .ref a /\ DGet H2 a y o /\ Q (.bl o.isSome) H2
def tDNotIn (ty td : TE) : TE := fun σ H Q => ty σ H fun y H1 => td σ H1 fun x H2 => ∃ a o, x = .ref a /\ DGet H2 a y o /\ Q (.bl (!o.isSome)) H2
def sDPut (td ty tv : TE) : TS := fun D σ H => tv σ H fun v H1 => td σ H1 fun x H2 => ty σ H2 fun y H3 => ∃ a H4, x = .ref a /\ DPut H3 a y v H4 /\ D.nx σ H4
section
variable {X : Cx} {o i e value : Expr} {pos pos' tpos : Pos} {td ty tv : TE}
theorem pe_dget (hu : X.A.units + 1 < cLine) (ho : PE X o td) (hi : PE X i ty) (hs : NoSl i) : PE X (.Subscript o i pos) (tDGet td ty) := by
 intro pins s σ H Q I h
 refine subD_of PySem.F.slot_dict_getitem.lookup hs (thn (ho pins s σ H _ I h) fun u s1 ⟨x, H1, I1, rx, q1⟩ => thn (hi pins s1 σ H1 _ I1 q1) fun iv s2 ⟨y, H2, I2, ry, a, v, ex, g, q2⟩ => ?_)
 subst ex
 obtain rfl : u = Value.ref a := rx
 exact ⟨dict_typeIs I2 g, d_getItem hu I2 g ry fun w' s3 I3 rw' => ⟨v, H2, I3, rw', q2⟩⟩
theorem pc_din (hu : X.A.units + 1 < cLine) (hi : PE X i ty) (ho : PE X o td) : PC X .In i o (tDIn ty td) := by
 intro pins s σ H Q I h
 refine thn (hi pins s σ H _ I h) fun iv s1 ⟨y, H1, I1, ry, q1⟩ => thn (ho pins s1 σ H1 _ I1 q1) fun u s2 ⟨x, H2, I2, rx, a, ov, ex, g, q2⟩ => ?_
 subst ex
 obtain rfl : u = Value.ref a := rx
 exact d_in hu I2 g ry fun s3 I3 => ⟨.bl ov.isSome, H2, I3, rfl, q2⟩
theorem pc_dnotin (hu : X.A.units + 1 < cLine) (hi : PE X i ty) (ho : PE X o td) : PC X .NotIn i o (tDNotIn ty td) := by
 intro pins s σ H Q I h
 refine thn (hi pins s σ H _ I h) fun iv s1 ⟨y, H1, I1, ry, q1⟩ => thn (ho pins s1 σ H1 _ I1 q1) fun u s2 ⟨x, H2, I2, rx, a, ov, ex, g, q2⟩ => ?_
 subst ex
 obtain rfl : u = Value.ref a := rx
 exact d_notIn hu I2 g ry fun s3 I3 => ⟨.bl (!ov.isSome), H2, I3, rfl, q2⟩
theorem ps_dput (hu : X.A.units + 1 < cLine) (ho : PE X o td) (hi : PE X i ty) (hv : PE X value tv) (hs : swapsWith value (some (.Subscript o i pos')) pos.line X.env = pure false) :
 PS X (.Assign [.Subscript o i pos'] value pos) (sDPut td ty tv) := by
 intro pins s σ H D I h
 refine wpAny_Assign_Subscript (thn (hv pins s σ H _ I h) fun r s1 ⟨v, H1, I1, rv, q1⟩ => thn (ho pins s1 σ H1 _ I1 q1) fun u s2 ⟨x, H2, I2, rx, q2⟩ => thn (hi pins s2 σ H2 _ I2 q2) fun iv s3 ⟨y, H3, I3, ry, a, H4, ex, g, q3⟩ => ?_) hs
 subst ex
 obtain rfl : u = Value.ref a := rx
 exact d_setItem hu I3 g ry rv fun s4 I4 => ⟨σ, H4, I4, q3⟩
end
theorem dk_empty {P : Program} {w : World} {H : Hp} (h : Heap) (hb : sysModules < h.objs.size) : ObjOk P w H (h.push { cls := .type "dict", data := .dict #[] }) h.objs.size (.dK []) :=
 ⟨Nat.zero_le _, beq_eq_false_iff_ne.mpr (Ne.symm (Nat.ne_of_lt hb)), [], .nil, Heap.DictOf.new h⟩
def tDNewK : TE := fun _ H Q => ∀ p, H p = none -> Q (.ref p) (upd H p (.dK []))
section
variable {X : Cx} {pos : Pos}
theorem pe_dnewK : PE X (.Dict [] [] pos) tDNewK := fun pins s σ H Q I h =>
 wpAny_Dict_empty ⟨.ref s.heap.objs.size, _, I.laid (a := s.heap.objs.size) (o := .dK []) (t' := s.toks) (fun _ _ q => Heap.get?_push_of_some _ q) (Nat.le_refl _) (dk_empty s.heap I.big), rfl, h _ (I.hok.fresh (Nat.le_refl _))⟩
end
end L2
namespace L2
open PySem PySem.Spec PyProof.Rows
end L2
namespace L2
open PySem PySem.Spec PyProof.Rows
section
variable {X : Cx} {pins : List (Addr × Obj)} {σ : St} {H : Hp} {s : Shared} {h' : Heap}
theorem Inv.turnedL {t' : Nat} {ch : List Addr} (I : Inv X pins σ H s) (k : ∀ b o, b ∉ ch -> s.heap.get? b = some o -> h'.get? b = some o) (hf : ∀ b ∈ ch, FpOk X pins H b) : Inv X pins σ H { s with heap := h', toks := t' } := by
 have nit : ∀ b u, H b = some u → b ∉ ch := fun b u e z => by
  have q := (hf b z).1
  rw [q] at e; cases e
 refine I.step (g' := s.gens) (d' := s.drawn) (ch := ch) (fun b hb => ⟨(hf b hb).2.2.2.1, (hf b hb).2.1, (hf b hb).2.2.2.2.1, (hf b hb).2.2.2.2.2⟩) (fun b o _ _ hc e _ => k b o hc e) (fun b o _ _ hc e _ => ⟨o.slots, k b o hc e⟩)
  (fun _ _ _ _ n => n) (fun b o hc e => ⟨o, k b o hc e⟩) (fun _ _ e => e) (fun _ _ _ e => e) (fun b ps e => ⟨#[], by rw [e]; simp⟩) (fun m hm => ?_) (fun b u e => ?_) I.bare
 . obtain ⟨o, es, ep, ho, r⟩ := hm
   exact ⟨o, es, ep, k _ o (fun z => (hf _ z).2.1 rfl) ho, r⟩
 . refine (I.hok b u e).stay (fun c v hc q => k c v ?_ q) (fun _ q => q) fun _ _ q => q
   rcases hc with z | z
   . rw [z]; exact nit b u e
   . exact nit c _ z
theorem Inv.turnedNew {t' : Nat} {ch : List Addr} {T : Addr} {ob : HO} (I : Inv X pins σ H s) (k : ∀ b o, b ∉ ch -> s.heap.get? b = some o -> h'.get? b = some o) (hf : ∀ b ∈ ch, FpOk X pins H b) (hT : s.heap.objs.size ≤ T)
 (new : ObjOk X.prog X.w (upd H T ob) h' T ob) : Inv X pins σ (upd H T ob) { s with heap := h', toks := t' } := by
 have hn : H T = none := I.hok.fresh hT
 have nit : ∀ b u, H b = some u → b ∉ ch := fun b u e z => by
  have q := (hf b z).1
  rw [q] at e; cases e
 refine I.step (g' := s.gens) (d' := s.drawn) (ch := ch) (fun b hb => ⟨(hf b hb).2.2.2.1, (hf b hb).2.1, (hf b hb).2.2.2.2.1, (hf b hb).2.2.2.2.2⟩) (fun b o _ _ hc e _ => k b o hc e) (fun b o _ _ hc e _ => ⟨o.slots, k b o hc e⟩)
  (fun b o _ e n => ?_) (fun b o hc e => ⟨o, k b o hc e⟩) (fun b xs e => ?_) (fun b o u e => ?_) (fun b ps e => ⟨#[], ?_⟩) (fun m hm => ?_) (fun b u e => ?_) I.bare
 . rw [q5z (Nat.ne_of_lt (Nat.lt_of_lt_of_le (Heap.lt_size e) hT))]; exact n
 . rw [q5z (q7z e hn)]; exact e
 . rw [q5z (q7z e hn)]; exact e
 . rw [q5z (q7z e hn), e]; simp
 . obtain ⟨o, es, ep, ho, r⟩ := hm
   exact ⟨o, es, ep, k _ o (fun z => (hf _ z).2.1 rfl) ho, r⟩
 . by_cases hb : b = T
   . subst hb
     rw [q1z] at e
     cases e
     exact new
   . rw [q5z hb] at e
     refine (I.hok b u e).stay (fun c v hc q => k c v ?_ q) (fun c q => by rw [q5z (q7z q hn)]; exact q) fun c xs q => by rw [q5z (q7z q hn)]; exact q
     rcases hc with z | z
     . rw [z]; exact nit b u e
     . exact nit c _ z
theorem Inv.lock {d : Addr} {u : HO} (I : Inv X pins σ H s) (h : H d = some u) (mu : Mut (some u)) : ∃ od, Inv X pins σ (upd H d (.frz od u)) s := by
 have x := I.hok d u h
 have ex : ∃ od, s.heap.get? d = some od := by
  cases u with
  | lst xs => obtain ⟨_, _, _, _, e⟩ := x; exact ⟨_, e⟩
  | dK kvs => obtain ⟨_, _, _, _, o, _, _, e, _⟩ := x; exact ⟨o, e⟩
  | dT kvs => obtain ⟨_, _, _, _, o, _, _, e, _⟩ := x; exact ⟨o, e⟩
  | set S n => obtain ⟨o, _, _, _, e, _⟩ := x; exact ⟨o, e⟩
  | ins C dx fs => obtain ⟨_, _, _, e, _⟩ := x; exact ⟨_, e⟩
  | ext φ => obtain ⟨_, ⟨_, e⟩, _⟩ := x; exact ⟨_, e⟩
  | _ => exact False.elim mu
 obtain ⟨od, e⟩ := ex
 have new : ObjOk X.prog X.w (upd H d (.frz od u)) s.heap d (.frz od u) := by
  refine ⟨e, x.stay (fun b v _ q => q) (fun b q => ?_) fun b xs q => ?_⟩
  . rw [q5z (fun z => by rw [z, h] at q; cases q; exact mu)]; exact q
  . rw [q5z (fun z => by rw [z, h] at q; cases q; exact mu)]; exact q
 exact ⟨od, I.write (x := d) (e := d) (t' := s.toks) (h' := s.heap) (by rw [h]; exact mu) (.inl rfl) (fun b v _ q => q) ⟨od, e⟩ new⟩
theorem Inv.nofrz {d : Addr} {u : HO} (I : Inv X pins σ H s) (h : H d = some u) (mu : Mut (some u)) : ∀ o' u', X.H_0 d ≠ some (.frz o' u') := fun o' u' e => by
 have q := I.base.frzs d o' u' e
 rw [h] at q
 cases q
 exact mu
theorem Inv.unlock {d : Addr} {od : Obj} {u : HO} (I : Inv X pins σ H s) (h : H d = some (.frz od u)) (hn : ∀ o' u', X.H_0 d ≠ some (.frz o' u')) : Inv X pins σ (upd H d u) s := by
 have neH : ∀ b o, H b = some o → (∀ o' u', o ≠ .frz o' u') → b ≠ d := fun b o e hne z => by
  rw [z, h] at e
  cases e
  exact hne _ _ rfl
 have neN : ∀ b, H b = none → b ≠ d := fun b e z => by rw [z, h] at e; cases e
 refine ⟨I.ok, I.os, I.bare, ⟨I.base.keep, I.base.slot, fun b o e n hx => ?_, I.base.there, fun b xs e => ?_, fun b o x e => ?_, fun b ps e => ?_⟩, I.loc, I.cell, ?_, fun x c e => ?_, fun p hp => ?_, fun b o e => ?_, I.len⟩
 . rw [q5z (neN b (I.base.free b o e n hx))]; exact I.base.free b o e n hx
 . have q := I.base.tups b xs e
   rw [q5z (neH b _ q (fun _ _ z => nomatch z))]; exact q
 . have q := I.base.frzs b o x e
   rw [q5z (fun z => by rw [z] at e; exact hn _ _ e)]; exact q
 . obtain ⟨m, q⟩ := I.base.tbls b ps e
   exact ⟨m, by rw [q5z (neH b _ q (fun _ _ z => nomatch z))]; exact q⟩
 . rw [q5z (neN _ I.free)]; exact I.free
 . rw [q5z (neN c (I.freeC x c e))]; exact I.freeC x c e
 . obtain ⟨e, n, r⟩ := I.pin p hp
   exact ⟨e, by rw [q5z (neN _ n)]; exact n, r⟩
 . by_cases hb : b = d
   . rw [hb, q1z] at e
     cases e
     rw [hb]
     obtain ⟨_, x⟩ := I.hok d _ h
     exact x.stay (fun c v _ q => q) (fun c q => by rw [q5z (neH c _ q (fun _ _ z => nomatch z))]; exact q) fun c xs q => by rw [q5z (neH c _ q (fun _ _ z => nomatch z))]; exact q
   . rw [q5z hb] at e
     exact (I.hok b o e).stay (fun c v _ q => q) (fun c q => by rw [q5z (neH c _ q (fun _ _ z => nomatch z))]; exact q) fun c xs q => by rw [q5z (neH c _ q (fun _ _ z => nomatch z))]; exact q
end
def tLock (t : TS) : TS := fun D σ H => ∃ d u, H d = some u /\ Mut (some u) /\ ∀ od, t ⟨fun σ' H' => H' d = some (.frz od u) /\ D.nx σ' (upd H' d u), fun v H' => H' d = some (.frz od u) /\ D.rt v (upd H' d u), fun σ' H' => H' d = some (.frz od u) /\ D.bk σ' (upd H' d u), fun σ' H' => H' d = some (.frz od u) /\ D.ct σ' (upd H' d u)⟩ σ (upd H d (.frz od u))
section
variable {X : Cx}
theorem ps_lock {st : Stmt} {t : TS} (h : PS X st t) : PS X st (tLock t) := by
 intro pins s σ H D I hw
 obtain ⟨d, u, hd, mu, hw⟩ := hw
 obtain ⟨od, I1⟩ := I.lock hd mu
 refine thn (h pins s σ _ _ I1 (hw od)) fun f s1 q => ?_
 cases f with
 | next => obtain ⟨σ', H', I2, e, q⟩ := q; exact ⟨σ', _, I2.unlock e (I.nofrz hd mu), q⟩
 | brk => obtain ⟨σ', H', I2, e, q⟩ := q; exact ⟨σ', _, I2.unlock e (I.nofrz hd mu), q⟩
 | cont => obtain ⟨σ', H', I2, e, q⟩ := q; exact ⟨σ', _, I2.unlock e (I.nofrz hd mu), q⟩
 | ret v => obtain ⟨x, σ', H', I2, r, e, q⟩ := q; exact ⟨x, σ', _, I2.unlock e (I.nofrz hd mu), r, q⟩
theorem pi_one {tg : Expr} {pins : List (Addr × Obj)} {σ : St} {H : Hp} {s : Shared} {R : It -> Hp -> Prop} {J : It} {tn : Nat -> Heap -> Prop} {tk : Nat} (I : Inv X pins σ H s) (o : Obj)
 (T : Turn X.prog X.w X.K tg J [s.heap.objs.size] s.heap.objs.size tn) (st : tn 0 (s.heap.push o)) (q : R J H) : PIE X pins σ tg R (.ref s.heap.objs.size) { s with heap := s.heap.push o, toks := tk } := by
 refine ⟨s.heap.objs.size, [s.heap.objs.size], tn, J, H, rfl, I.kept fun b ob e => Heap.get?_push_of_some _ e, T, st, fun b hb => ?_, q⟩
 have e : b = s.heap.objs.size := by simpa using hb
 subst e
 exact I.fpOk (Nat.le_refl _) (I.hok.fresh (Nat.le_refl _))
end
section
variable {prog : Program} {w : World} {A : Around} {E : Value → Shared → Prop} {s : Shared}
theorem iter_keys {d : Addr} {o : Obj} {es : Array DictEntry} {ep : Nat} {Q : Value -> Shared -> Prop} (hd : (d == sysModules) = false) (ho : s.heap.get? d = some o) (hc : o.ExactDict) (hdat : o.data = .dict es ep)
 (hQ : Q (.ref s.heap.objs.size) { s with heap := s.heap.push { cls := .type "dict_keyiterator", data := .fields #[.ref d, .int 0 0, .int es.size 0, .int ep 0] } }) :
 wpAny (model prog w) A (pyIter (.ref d)) Q E s := by
 have hT : s.TypeIs (.ref d) "dict" := ⟨o, ho, hc.1⟩
 refine wpAny_pyIter_slot hT F.slot_dict_iter (wpAny_call_entry F.slot_dict_iter hT F.entry_dict_iter ?_ (F.args_dict_iter_1 _))
 unfold Builtin.«dict.__iter__»
 refine wpAny_bind ?_
 unfold Builtin.Dict.dictSlotNone
 refine wpAny_bind (wpAny_notOrdered_dict hT ?_)
 show wpAny _ _ (pure (Value.ref d)) _ _ s
 refine wpAny_pure ?_
 show wpAny _ _ (Builtin.Dict.showsAll d >>= _) _ _ s
 unfold Builtin.Dict.showsAll
 rw [if_neg (by rw [hd]; exact Bool.false_ne_true)]
 refine wpAny_bind (wpAny_pure ?_)
 refine wpAny_bind (wpAny_dictEntries ho hdat ?_)
 refine wpAny_bind (wpAny_dictEpoch ho hdat ?_)
 refine wpAny_bind (wpAny_newObj_type (wpAny_pure ⟨_, rfl, "dict_keyiterator", _, ⟨_, Heap.get?_push_size _ rfl, rfl⟩, F.slot_dict_keyiterator_next.lookup, ?_⟩))
 simpa [rawInt] using hQ
theorem next_key_item {it d : Addr} {i n ep : Nat} {od : Obj} {es : Array DictEntry} {en : DictEntry} {Q : Option Value -> Shared -> Prop} (hit : s.heap.IsKeyIter it d i n ep) (hod : s.heap.get? d = some od) (hdd : od.data = .dict es ep)
 (hsz : es.size = n) (hx : es[i]? = some en) (hQ : ∀ h', h'.IsKeyIter it d (i + 1) n ep → Heap.SameBut it s.heap h' → Q (some en.key) { s with heap := h' }) : wpAny (model prog w) A (pyNext (.ref it)) Q E s := by
 obtain ⟨o, ho, hc, hd⟩ := id hit
 unfold pyNext
 refine wpAny_bind (wpAny_attempt (wpAny_callSpecial?_slot (name := Str.ofString "__next__") hit.typeIs F.slot_dict_keyiterator_next
  (wpAny_call_entry F.slot_dict_keyiterator_next hit.typeIs F.entry_dict_keyiterator_next ?_ (F.args_dict_keyiterator_next_1 _))))
 refine wpAny_bind (wpAny_pure ?_)
 refine wpAny_bind ?_
 refine wpAny_bind ?_
 first | refine wpAny_bind (wpAny_typeNameOfWhole_keyiter hit.typeIs (wpAny_pure ?_)) | refine wpAny_bind (wpAny_typeNameOf_keyiter hit.typeIs (wpAny_pure ?_))
 refine wpAny_bind (wpAny_fieldsOf ho hd ?_)
 have hown : Builtin.Dict_items.ownsTuple "dict_keyiterator" = false := by decide
 simp only [hown, Bool.false_eq_true, if_false]
 show wpAny _ _ (if (Value.ref d == Value.none) = true then _ else _) _ _ s
 rw [if_neg (show ¬ ((Value.ref d == Value.none) = true) from Bool.false_ne_true)]
 refine wpAny_bind (wpAny_pure ?_)
 refine wpAny_bind (wpAny_dictEntries hod hdd ?_)
 rw [if_neg (by rw [hsz]; simp)]
 refine wpAny_bind (wpAny_pure ?_)
 refine wpAny_bind (wpAny_dictEpoch hod hdd ?_)
 rw [if_neg (by simp)]
 refine wpAny_pure ?_
 obtain ⟨hlt', hen⟩ := Array.getElem?_eq_some_iff.mp hx
 simp only [show ¬ ((i : Int) < 0) from by omega, if_false, Int.toNat_natCast, Array.getElem?_eq_getElem hlt']
 refine wpAny_bind ?_
 first | refine wpAny_bind (wpAny_typeNameOfWhole_keyiter hit.typeIs (wpAny_pure ?_)) | refine wpAny_bind (wpAny_typeNameOf_keyiter hit.typeIs (wpAny_pure ?_))
 refine wpAny_bind (wpAny_isOneOf_keyiter hit.typeIs ?_)
 show wpAny _ _ (setField (.ref it) 1 (rawInt ((i : Int) + 1)) >>= _) _ _ s
 refine wpAny_bind (wpAny_setField ho hd (by simp) ?_)
 have hit' : (s.heap.update it (Obj.mapFields (·.setIfInBounds 1 (rawInt ((i : Int) + 1))))).IsKeyIter it d (i + 1) n ep :=
  ⟨_, Heap.get?_update_self _ ho (Obj.isFreed_of_fields (Obj.data_mapFields hd _)), (Obj.cls_mapFields ..).trans hc, by rw [Obj.data_mapFields hd]; simp [rawInt]⟩
 refine wpAny_bind (wpAny_holding ?_)
 refine wpAny_bind (wpAny_isOneOf_keyiter (s := { s with heap := s.heap.update it (Obj.mapFields (·.setIfInBounds 1 (rawInt ((i : Int) + 1)))) }) hit'.typeIs ?_)
 show wpAny _ _ (pure es[i].key) _ _ _
 rw [hen]
 exact wpAny_pure (wpAny_pure ⟨_, rfl, wpAny_pure (hQ _ hit' (Heap.SameBut.update ..))⟩)
theorem next_key_end {it d : Addr} {i n ep : Nat} {od : Obj} {es : Array DictEntry} {Q : Option Value -> Shared -> Prop} (hh : A.handled = none) (hit : s.heap.IsKeyIter it d i n ep) (hod : s.heap.get? d = some od) (hdd : od.data = .dict es ep)
 (hsz : es.size = n) (hge : n ≤ i) (hQ : ∀ h', Heap.ExtBut it s.heap h' → Q none { s with heap := h' }) : wpAny (model prog w) A (pyNext (.ref it)) Q E s := by
 obtain ⟨o, ho, hc, hd⟩ := id hit
 unfold pyNext
 refine wpAny_bind (wpAny_attempt (wpAny_callSpecial?_slot (name := Str.ofString "__next__") hit.typeIs F.slot_dict_keyiterator_next
  (wpAny_call_entry F.slot_dict_keyiterator_next hit.typeIs F.entry_dict_keyiterator_next ?_ (F.args_dict_keyiterator_next_1 _))))
 refine wpAny_bind (wpAny_pure ?_)
 refine wpAny_bind ?_
 refine wpAny_bind ?_
 first | refine wpAny_bind (wpAny_typeNameOfWhole_keyiter hit.typeIs (wpAny_pure ?_)) | refine wpAny_bind (wpAny_typeNameOf_keyiter hit.typeIs (wpAny_pure ?_))
 refine wpAny_bind (wpAny_fieldsOf ho hd ?_)
 have hown : Builtin.Dict_items.ownsTuple "dict_keyiterator" = false := by decide
 simp only [hown, Bool.false_eq_true, if_false]
 show wpAny _ _ (if (Value.ref d == Value.none) = true then _ else _) _ _ s
 rw [if_neg (show ¬ ((Value.ref d == Value.none) = true) from Bool.false_ne_true)]
 refine wpAny_bind (wpAny_pure ?_)
 refine wpAny_bind (wpAny_dictEntries hod hdd ?_)
 rw [if_neg (by rw [hsz]; simp)]
 refine wpAny_bind (wpAny_pure ?_)
 refine wpAny_bind (wpAny_dictEpoch hod hdd ?_)
 rw [if_neg (by simp)]
 refine wpAny_pure ?_
 have hge' : es.size ≤ i := by rw [hsz]; exact hge
 simp only [show ¬ ((i : Int) < 0) from by omega, if_false, Int.toNat_natCast, Array.getElem?_eq_none hge']
 refine wpAny_bind ?_
 first | refine wpAny_bind (wpAny_typeNameOfWhole_keyiter hit.typeIs (wpAny_pure ?_)) | refine wpAny_bind (wpAny_typeNameOf_keyiter hit.typeIs (wpAny_pure ?_))
 show wpAny _ _ (setField (.ref it) 0 .none >>= _) _ _ s
 refine wpAny_bind (wpAny_setField ho hd (by simp) ?_)
 show wpAny _ _ (newExc (.type "StopIteration") [] >>= _) _ _ _
 refine wpAny_bind ?_
 simp only [newExc, newTuple]
 refine wpAny_bind (wpAny_newObj_type ?_ (by size_fits))
 refine wpAny_bind (m := firstArgMember _ _) (wpAny_of_eq (a := Value.none) (by first | rfl | (simp only [firstArgMember]; rfl)) ?_)
 refine wpAny_newObj_type ?_ (by size_fits)
 simp only [raiseNew]
 refine wpAny_bind (wpAny_handled ?_)
 rw [show A.in1.handled = none from hh]
 refine wpAny_bind (wpAny_pure (wpAny_throw ?_))
 refine wpAny_bind (wpAny_isInstance (T := "StopIteration") (b := true) ⟨_, Heap.get?_push_size _ rfl, rfl⟩ isSubtype_stop ?_)
 exact wpAny_pure (hQ _ (((Heap.SameBut.update ..).extBut.push _).push _))
end
theorem kv_get {κ : Type} {kvs : List (κ × V)} {vs : List (κ × Value)} (h : KV kvs vs) : ∀ {i : Nat} {k : κ} {v : V}, kvs[i]? = some (k, v) -> ∃ u, vs[i]? = some (k, u) /\ RelV v u := by
 unfold KV at h
 induction h with
 | nil => intro i k v e; simp at e
 | @cons a b l₁ l₂ r t ih =>
   intro i k v e
   cases i with
   | zero =>
     simp only [List.getElem?_cons_zero, Option.some.injEq] at e
     subst e
     refine ⟨b.2, ?_, r.2⟩
     simp only [List.getElem?_cons_zero]
     exact congrArg some (Prod.ext r.1.symm rfl)
   | succ j =>
     simp only [List.getElem?_cons_succ] at e ⊢
     exact ih e
theorem paired_get {α β : Type} {G : α -> β -> Prop} {l₁ : List α} {l₂ : List β} (h : Paired G l₁ l₂) : ∀ {i : Nat} {a : α}, l₁[i]? = some a -> ∃ b, l₂[i]? = some b /\ G a b := by
 induction h with
 | nil => intro i a e; simp at e
 | @cons a b l₁ l₂ r t ih =>
   intro i a' e
   cases i with
   | zero =>
     simp only [List.getElem?_cons_zero, Option.some.injEq] at e
     subst e
     exact ⟨b, rfl, r⟩
   | succ j =>
     simp only [List.getElem?_cons_succ] at e ⊢
     exact ih e
theorem relV_key {k : Key} {u : Value} (h : keyIs k u = true) : RelV (kV k) u := by
 rcases keyIs_shape h with ⟨i, t, rfl, rfl⟩ | ⟨x, t, rfl, rfl⟩
 . exact ⟨t, rfl⟩
 . exact ⟨t, rfl⟩
section
variable {X : Cx} {pins : List (Addr × Obj)} {σ : St} {H : Hp} {s : Shared} {d : Addr} {o : Obj}
theorem Inv.frzK {kvs : List (Key × V)} (I : Inv X pins σ H s) (h : H d = some (.frz o (.dK kvs))) :
 (d == sysModules) = false ∧ s.heap.get? d = some o ∧ o.ExactDict ∧ ∃ (es : Array DictEntry) (ep : Nat) (vs : List (Key × Value)), o.data = .dict es ep ∧ es.size = kvs.length ∧ KV kvs vs ∧ s.heap.DictAt (mixKind X.prog X.w) d vs ep := by
 obtain ⟨hd, z, hs, vs, kv, o', es, ep, ho, hx, hdt, r⟩ := I.hok d _ h
 rw [hd] at ho
 cases ho
 refine ⟨hs, hd, hx, es, ep, vs, hdt, ?_, kv, o, es, hd, hx, hdt, r⟩
 have l1 := r.2.1.length
 have l2 : kvs.length = vs.length := Paired.length kv
 rw [Array.length_toList] at l1
 omega
theorem Inv.frzT {kvs : List (List Key × V)} (I : Inv X pins σ H s) (h : H d = some (.frz o (.dT kvs))) :
 (d == sysModules) = false ∧ s.heap.get? d = some o ∧ o.ExactDict ∧ ∃ (es : Array DictEntry) (ep : Nat), o.data = .dict es ep ∧ es.size = kvs.length ∧
  ∀ (i : Nat) (k : List Key) (v : V), kvs[i]? = some (k, v) → ∃ (en : DictEntry) (q : Addr), es[i]? = some en ∧ en.key = .ref q ∧ H q = some (.tup (k.map kV)) := by
 obtain ⟨hd, z, hs, xs, pr, o', es, ep, ho, hx, hdt, he, _⟩ := I.hok d _ h
 rw [hd] at ho
 cases ho
 refine ⟨hs, hd, hx, es, ep, hdt, ?_, fun i k v e => ?_⟩
 . have l1 : es.size = xs.length := size_of_entries he
   have l2 : kvs.length = xs.length := Paired.length pr
   omega
 . obtain ⟨b, hb, e1, e2, _⟩ := paired_get pr e
   have q := entry_at he i
   rw [hb] at q
   exact ⟨_, b.2.1, q, rfl, e2⟩
end
def Itk (d : Addr) (o : Obj) (kvs : List (Key × V)) : It :=
 ⟨fun i H => H d = some (.frz o (.dK kvs)) ∧ i < kvs.length, fun i H x H' => H' = H ∧ ∃ k v, kvs[i]? = some (k, v) ∧ x = kV k, fun i H => H d = some (.frz o (.dK kvs)) ∧ kvs.length ≤ i⟩
def Itkt (d : Addr) (o : Obj) (kvs : List (List Key × V)) : It :=
 ⟨fun i H => H d = some (.frz o (.dT kvs)) ∧ i < kvs.length, fun i H x H' => H' = H ∧ ∃ (k : List Key) (v : V) (q : Addr), kvs[i]? = some (k, v) ∧ x = .ref q ∧ H q = some (.tup (k.map kV)), fun i H => H d = some (.frz o (.dT kvs)) ∧ kvs.length ≤ i⟩
theorem dict_ep {o : Obj} {es es' : Array DictEntry} {ep ep' : Nat} (h : o.data = .dict es ep) (h' : o.data = .dict es' ep') : es' = es /\ ep' = ep := by
 rw [h] at h'
 cases h'
 exact ⟨rfl, rfl⟩
section
variable {P : Program} {w : World} {K : PySem.W.Frag} {tg : Expr} {d : Addr} {o : Obj} {es : Array DictEntry} {ep : Nat}
theorem turn_keys {kvs : List (Key × V)} (it : Addr) (hod : o.data = .dict es ep) : Turn P w K tg (Itk d o kvs) [it] it (fun i h => h.IsKeyIter it d i kvs.length ep) where
 mem := by simp
 obj := fun i h st b hb => by
  have e : b = it := by simpa using hb
  subst e
  obtain ⟨oi, e, c, dd⟩ := st
  exact ⟨oi, e, fun v z => by rw [dd] at z; cases z⟩
 keep := fun i h h' st k => st.at fun oi e => k it (by simp) oi e
 item := by
  intro X hP hw hK hc i pins s σ H E I hf st hg
  subst hP hw hK
  obtain ⟨hd, hi⟩ := hg
  obtain ⟨f0, f1, f2, f3, f4, f5⟩ := hf it (by simp)
  obtain ⟨hs, hgd, hx, es', ep', vs, hdt, hsz, kv, hm⟩ := I.frzK hd
  obtain ⟨rfl, rfl⟩ := dict_ep hod hdt
  obtain ⟨⟨k, v⟩, hkv⟩ : ∃ p, kvs[i]? = some p := ⟨kvs[i], List.getElem?_eq_getElem hi⟩
  obtain ⟨u, hu, ru⟩ := kv_get kv hkv
  have hl : kvs.length = vs.length := Paired.length kv
  rw [hl] at st
  refine wpAny_pyNext_dict_item st hm hu fun key h' hkey st' sb => ?_
  have I1 : Inv X pins σ H { s with heap := h' } := I.turned (t' := s.toks) (fun b ob hb e => (sb.2 b hb).trans e) f0 f1 f3 f4 f5
  obtain ⟨oi, e, c, dd⟩ := id st'
  refine ⟨key, rfl, go_of (s := { s with heap := h' }) e c dd (by decide) ⟨kV k, H, I1, relV_key (show keyIs k key = true from hkey), ⟨rfl, k, v, hkv, rfl⟩, ?_, fun b hb => (hf b hb).1⟩⟩
  show h'.IsKeyIter it d (i + 1) kvs.length _
  rw [hl]
  exact st'
 done := by
  intro X hP hw hK hc i pins s σ H E I hf st hg
  subst hP hw hK
  obtain ⟨hd, hi⟩ := hg
  obtain ⟨f0, f1, f2, f3, f4, f5⟩ := hf it (by simp)
  obtain ⟨hs, hgd, hx, es', ep', vs, hdt, hsz, kv, hm⟩ := I.frzK hd
  obtain ⟨rfl, rfl⟩ := dict_ep hod hdt
  exact next_key_end (I.ok.hd hc) st hgd hdt hsz hi fun h' eb => ⟨rfl, I.turned (t' := s.toks) (fun b ob hb e => eb b ob hb e) f0 f1 f3 f4 f5⟩
 self := fun A i s Q E st h => wpAny_pyIter_keyiter st h
theorem turn_keysT {kvs : List (List Key × V)} (it : Addr) (hod : o.data = .dict es ep) : Turn P w K tg (Itkt d o kvs) [it] it (fun i h => h.IsKeyIter it d i kvs.length ep) where
 mem := by simp
 obj := fun i h st b hb => by
  have e : b = it := by simpa using hb
  subst e
  obtain ⟨oi, e, c, dd⟩ := st
  exact ⟨oi, e, fun v z => by rw [dd] at z; cases z⟩
 keep := fun i h h' st k => st.at fun oi e => k it (by simp) oi e
 item := by
  intro X hP hw hK hc i pins s σ H E I hf st hg
  subst hP hw hK
  obtain ⟨hd, hi⟩ := hg
  obtain ⟨f0, f1, f2, f3, f4, f5⟩ := hf it (by simp)
  obtain ⟨hs, hgd, hx, es', ep', hdt, hsz, ent⟩ := I.frzT hd
  obtain ⟨rfl, rfl⟩ := dict_ep hod hdt
  obtain ⟨⟨k, v⟩, hkv⟩ : ∃ p, kvs[i]? = some p := ⟨kvs[i], List.getElem?_eq_getElem hi⟩
  obtain ⟨en, q, hen, hkey, hq⟩ := ent i k v hkv
  refine next_key_item st hgd hdt hsz hen fun h' st' sb => ?_
  have I1 : Inv X pins σ H { s with heap := h' } := I.turned (t' := s.toks) (fun b ob hb e => (sb.2 b hb).trans e) f0 f1 f3 f4 f5
  obtain ⟨oi, e, c, dd⟩ := id st'
  exact ⟨en.key, rfl, go_of (s := { s with heap := h' }) e c dd (by decide) ⟨.ref q, H, I1, hkey, ⟨rfl, k, v, q, hkv, rfl, hq⟩, st', fun b hb => (hf b hb).1⟩⟩
 done := by
  intro X hP hw hK hc i pins s σ H E I hf st hg
  subst hP hw hK
  obtain ⟨hd, hi⟩ := hg
  obtain ⟨f0, f1, f2, f3, f4, f5⟩ := hf it (by simp)
  obtain ⟨hs, hgd, hx, es', ep', hdt, hsz, ent⟩ := I.frzT hd
  obtain ⟨rfl, rfl⟩ := dict_ep hod hdt
  exact next_key_end (I.ok.hd hc) st hgd hdt hsz hi fun h' eb => ⟨rfl, I.turned (t' := s.toks) (fun b ob hb e => eb b ob hb e) f0 f1 f3 f4 f5⟩
 self := fun A i s Q E st h => by
  refine wpAny_pyIter_slot st.typeIs F.slot_dict_keyiterator_iter (wpAny_call_entry F.slot_dict_keyiterator_iter st.typeIs F.entry_dict_keyiterator_iter ?_ (F.args_dict_keyiterator_iter_1 _))
  show wpAny _ _ (ret (.ref it)) _ _ s
  exact wpAny_pure ⟨_, rfl, "dict_keyiterator", _, st.typeIs, F.slot_dict_keyiterator_next.lookup, h⟩
end
def iKeys (td : TE) : TI := fun σ H R => td σ H fun x H1 => ∃ d o, x = .ref d /\ ((∃ kvs, H1 d = some (.frz o (.dK kvs)) /\ R (Itk d o kvs) H1) ∨ ∃ kvs, H1 d = some (.frz o (.dT kvs)) /\ R (Itkt d o kvs) H1)
section
variable {X : Cx} {tg e : Expr} {td : TE} {apos cpos : Pos}
theorem pi_keys (he : PE X e td) : PI X tg e (iKeys td) := by
 intro pins s σ H R I h
 refine thn (he pins s σ H _ I h) fun u s1 ⟨x, H1, I1, rx, d, o, ex, q⟩ => ?_
 subst ex
 obtain rfl : u = Value.ref d := rx
 rcases q with ⟨kvs, hd, q⟩ | ⟨kvs, hd, q⟩
 . obtain ⟨hs, hgd, hx, es, ep, vs, hdt, hsz, kv, hm⟩ := I1.frzK hd
   refine iter_keys hs hgd hx hdt (pi_one (tk := s1.toks) I1 _ (turn_keys _ hdt) ⟨_, Heap.get?_push_size _ rfl, rfl, ?_⟩ q)
   rw [hsz] <;> rfl
 . obtain ⟨hs, hgd, hx, es, ep, hdt, hsz, ent⟩ := I1.frzT hd
   refine iter_keys hs hgd hx hdt (pi_one (tk := s1.toks) I1 _ (turn_keysT _ hdt) ⟨_, Heap.get?_push_size _ rfl, rfl, ?_⟩ q)
   rw [hsz] <;> rfl
end
theorem boot_zip5 : bootBuiltins "zip" = some (.type "zip") := by decide +kernel
end L2
section 
namespace Bits
open PySem PyProof.Rows
theorem nat_and_mul_pow (k : Nat) : ∀ a b : Nat, a < 2 ^ k -> a &&& (b * 2 ^ k) = 0 := by
 induction k with
 | zero =>
   intro a b h
   have h0 : a = 0 := by
    rw [Nat.pow_zero] at h
    omega
   subst h0
   simp
 | succ k ih =>
   intro a b h
   have hm : (b * 2 ^ (k + 1)) = (b * 2 ^ k) * 2 := by rw [Nat.pow_succ, Nat.mul_assoc]
   have hlt : a / 2 < 2 ^ k := by
    rw [Nat.pow_succ] at h
    generalize 2 ^ k = m at h ⊢
    omega
   have i := ih (a / 2) b hlt
   rw [hm]
   generalize b * 2 ^ k = B at i ⊢
   have e : (a &&& (B * 2)) / 2 = a / 2 &&& (B * 2) / 2 := Nat.and_div_two
   have e2 : (B * 2) / 2 = B := by omega
   have o := @Nat.and_mod_two_eq_one a (B * 2)
   rw [e2, i] at e
   omega
theorem natCast_mul_pow (m k : Nat) : (m : Int) * 2 ^ k = ((m * 2 ^ k : Nat) : Int) := by
 rw [two_pow_cast]
 first
  | exact (Int.natCast_mul _ _).symm
  | simp
theorem bitOr_join {a b : Int} {k : Nat} (h0 : 0 ≤ a) (h1 : a < 2 ^ k) (hb : 0 ≤ b) : Builtin.bitOr a (b * 2 ^ k) = a + b * 2 ^ k := by
 obtain ⟨n, rfl⟩ := Int.eq_ofNat_of_zero_le h0
 obtain ⟨m, rfl⟩ := Int.eq_ofNat_of_zero_le hb
 have hn : n < 2 ^ k := by
  rw [two_pow_cast] at h1
  omega
 have e : Builtin.bitAnd (n : Int) ((m * 2 ^ k : Nat) : Int) = 0 := by
  rw [bitAnd_pp (by omega) (by omega), Int.toNat_natCast, Int.toNat_natCast, nat_and_mul_pow k n m hn] <;> rfl
 rw [natCast_mul_pow, bitOr_and, e]
 omega
theorem bitOr_join' {a b : Int} {k : Nat} (h0 : 0 ≤ a) (h1 : a < 2 ^ k) (hb : 0 ≤ b) : Builtin.bitOr (b * 2 ^ k) a = a + b * 2 ^ k := by
 rw [bitOr_comm]
 exact bitOr_join h0 h1 hb
theorem nat_xor_add_and (m : Nat) : ∀ n : Nat, (m ^^^ n) + 2 * (m &&& n) = m + n := by
 induction m using Nat.strongRecOn with
 | _ m ih =>
   intro n
   by_cases h0 : m = 0
   . subst h0
     simp
   . have ih' := ih (m / 2) (by omega) (n / 2)
     rw [← Nat.xor_div_two, ← Nat.and_div_two] at ih'
     have o1 := @Nat.xor_mod_two_eq_one m n
     have a1 := @Nat.and_mod_two_eq_one m n
     omega
theorem bitXor_pp {x y : Int} (hx : 0 ≤ x) (hy : 0 ≤ y) : Builtin.bitXor x y = ((x.toNat ^^^ y.toNat : Nat) : Int) := by
 have e := nat_xor_add_and x.toNat y.toNat
 rw [bitXor_and, bitAnd_pp hx hy]
 omega
theorem bitOr_pp {x y : Int} (hx : 0 ≤ x) (hy : 0 ≤ y) : Builtin.bitOr x y = ((x.toNat ||| y.toNat : Nat) : Int) := by
 have e := nat_or_add_and x.toNat y.toNat
 rw [bitOr_and, bitAnd_pp hx hy]
 omega
end Bits
end 
section 
namespace TL
open PySem PySem.Builtin PySem.Builtin.Str PySem.StrLaws
end TL
end 
namespace L2
open PySem PySem.Spec PyProof.Rows
end L2
namespace L2
open PySem PySem.Spec PyProof.Rows
end L2
namespace Att
open PySem PySem.W PySem.Calls PyProof.Rows
end Att
namespace L2
open PySem PySem.Spec PyProof.Rows
end L2
namespace L2
open PySem PySem.Spec PyProof.Rows
end L2
/- THE LAST THEOREM (shape; LID, My.* are yours):
 My.Adr: a structure of the addresses that your layer names (classes, functions); My.Txt K t: a structure (Prop) of the equations over K;
 My.txt_mk : {K} {implicit addresses ..} (e1 : nsIn K mainGlobals "law" = some (some (.ref f))) (e2 : K.lookup f = some ⟨oc, od, .func (fnOf "law" "law" params body scope dV kV doc pm an cdv ct), sl⟩) (e3 : codeIn K cdv "law" = true) .. : ∃ t, My.Txt K t
set_option maxRecDepth 100000 in
set_option maxHeartbeats 0 in
theorem PySem.Challenge.cw_LID_holds : PySem.Challenge.rw_LID.Holds := by
 w_on; o_law; k_head; (case hw => w_witness2)
 k_fill
 refine L2.walk_of (l := PySem.Challenge.rw_LID) (n := 63) (k := 40) (x := "script") (CX := fun w => ..) (sp := fun _ => My.sp_law) rfl (by decide) rfl ⟨rfl, by decide, by decide⟩ (fun w h Y => PySem.W.kIn_of Y) ?F ?S ?C
 case F =>
  intro w mg fa h KX G hmg
  have T : ∃ t, My.Txt (L2.KOf KX) t := by
   dsimp only [L2.KOf]                          -- K must stand as «<heap const> w.params» for k_is
   refine' My.txt_mk ?e1 ?e2 ?e3 ..
   (case e1 => PySem.W.k_is)                    -- in the order: a name -> its address -> its object -> its parts
   (case e2 => PySem.W.k_is)
   ..
  obtain ⟨t, T⟩ := T
  have e0 := hmg.symm.trans (PySem.W.mg_of KX G T.law)
  cases e0                                       -- fa is the law's own address
  exact ⟨_, fun s u => .of_eq rfl, fun base kb nb => My.law_fn T kb nb⟩     -- if «.of_eq rfl» comes too early: refine' ⟨_, ?b, fun base kb nb => My.law_fn T kb nb⟩; exact fun s u => .of_eq rfl
 case S => exact fun w H a ns hl hO hS => ..
 case C => exact ..
(the tactic k_is has no namespace: write k_is) -/
namespace L2
open PySem PySem.Spec PyProof.Rows
def inClass (s : Stmt) (j : Nat) : Stmt := match s with
 | .ClassDef _ _ _ body _ _ _ _ _ _ _ => body.getD j (.Pass ⟨0, 0, 0, 0⟩)
 | _ => .Pass ⟨0, 0, 0, 0⟩
def defArgs (s : Stmt) : Arguments := match s with
 | .FunctionDef _ a _ _ _ _ _ _ _ _ => a
 | _ => { posonlyargs := [], args := [], vararg := none, kwonlyargs := [], kw_defaults := [], kwarg := none, defaults := [] }
def defBody (s : Stmt) : List Stmt := match s with
 | .FunctionDef _ _ b _ _ _ _ _ _ _ => b
 | _ => []
def defScope (s : Stmt) : Scope := match s with
 | .FunctionDef _ _ _ _ _ _ sc _ _ _ => sc
 | _ => { kind := .function, names := [], isGenerator := false, isCoroutine := false }
abbrev CX0 : CXT := fun _ _ _ _ _ _ => False
abbrev E0 : XK := fun _ _ _ => False
theorem pass0 {X : Cx} : Passes CX0 X E0 := fun _ _ _ _ _ _ _ h => h.elim
structure Fun (K : PySem.W.Frag) (x qual : Str) (st : Stmt) (f : Addr) (fd : FuncData) : Prop where
 ex : ∃ (oc : Value) (od : Option Addr) (kV doc pm : Value) (an : Option Addr) (cdv ct : Value) (osl : Array (Option Value)),
  fd = PySem.W.fnOf x qual (defArgs st) (defBody st) (defScope st) .none kV doc pm an cdv ct ∧ K.lookup f = some ⟨oc, od, .func fd, osl⟩ ∧ PySem.W.codeIn K cdv qual = true
 kp : PySem.W.keepIn K (.ref f) = true
section
variable {P : Program} {w : World} {K : PySem.W.Frag} {mg : Str → Option Value} {base : Heap}
theorem Fun.ok {x qual : Str} {st : Stmt} {f : Addr} {fd : FuncData} {N ps : List Str} {k : Nat} {sp : Sp} (F : Fun K x qual st f fd) (S : FnScope N ps (defScope st)) (len : ∀ vs H Q E, sp vs H Q E -> vs.length = ps.length)
 (hbody : ∀ (cdv : Value) (A : Around) (outer : List Env) (s : Shared) (H : Hp) (vs : List V) (Q : VK) (E : XK), Room k (A.deeper (envOfC qual (defScope st) s.heap.objs.size f cdv)) → sp vs H Q E →
  ∃ t, PSs (cxOf CX0 P w K mg base N qual (defScope st) f cdv A outer s H E).nox (defBody st) t ∧ t { nx := fun _ H' => Q .non H', rt := Q } (start N vs) H) : FnOk P w K mg base CX0 (k + 1) f fd ps sp := by
 obtain ⟨oc, od, kV, doc, pm, an, cdv, ct, osl, rfl, lk, hcd⟩ := F.ex
 refine fn_of lk hcd S len fun A outer s H vs Q E hr hsp => ?_
 obtain ⟨t, h, q⟩ := hbody cdv A outer s H vs Q E hr hsp
 exact ⟨t, h.nox, q⟩
theorem Fun.binds {x qual : Str} {st : Stmt} {f : Addr} {fd : FuncData} {ps : List Str} (F : Fun K x qual st f fd)
 (h : ∀ (kV doc pm : Value) (an : Option Addr) (cdv ct : Value) (us : List Value), us.length = ps.length → bindArgs (PySem.W.fnOf x qual (defArgs st) (defBody st) (defScope st) .none kV doc pm an cdv ct) ⟨us, []⟩ = pure (ps.zip us)) : Binds K fd ps [] := by
 obtain ⟨oc, od, kV, doc, pm, an, cdv, ct, osl, rfl, lk, hcd⟩ := F.ex
 exact .all (h kV doc pm an cdv ct)
theorem fun_mk {x qual : Str} {st : Stmt} {f : Addr} {oc : Value} {od an : Option Addr} {osl : Array (Option Value)} {kV doc pm cdv ct : Value} (l : K.lookup f = some ⟨oc, od, .func (PySem.W.fnOf x qual (defArgs st) (defBody st) (defScope st) .none kV doc pm an cdv ct), osl⟩)
 (c : PySem.W.codeIn K cdv qual = true) (k : PySem.W.keepIn K (.ref f) = true) : Fun K x qual st f (PySem.W.fnOf x qual (defArgs st) (defBody st) (defScope st) .none kV doc pm an cdv ct) := ⟨⟨oc, od, kV, doc, pm, an, cdv, ct, osl, rfl, l, c⟩, k⟩
end
theorem hu_of {A : Around} {k : Nat} (hr : Room k A) : A.units + 1 < cLine := Nat.lt_of_le_of_lt (Nat.add_le_add_left (by decide : 1 ≤ 64) _) hr.units
theorem small1000 {n : Nat} (h : n ≤ 1000) : n < sizeLine := Nat.lt_of_le_of_lt h (by decide)
section
variable {X : Cx}
theorem pv (i : Nat) {x : Str} {pos : Pos} (hN : X.N[i]? = some x := by rfl) (hv : Vis X.env.scope x := by first | exact Or.inl rfl | exact Or.inr (Or.inl rfl) | exact Or.inr (Or.inr rfl)) (hd : (x == ("__debug__" : Str)) = false := by decide)
 (hcd : (x == ("__classdict__" : Str)) = false := by decide) : PE X (.Name x pos) (tVar i) := pe_var hN hv hd hcd
end
theorem ite2 {c A B : Prop} [Decidable c] (h1 : c -> A) (h2 : ¬ c -> B) : if c then A else B := by
 by_cases h : c
 . rw [if_pos h]
   exact h1 h
 . rw [if_neg h]
   exact h2 h
def Same (H H' : Hp) : Prop := ∀ b o, H b = some o -> H' b = some o
theorem Same.refl (H : Hp) : Same H H := fun _ _ h => h
theorem Same.trans {H H1 H2 : Hp} (a : Same H H1) (b : Same H1 H2) : Same H H2 := fun c o h => b c o (a c o h)
theorem Same.free {H H' : Hp} (e : Same H H') {l : Addr} (h : H' l = Option.none) : H l = Option.none := by
 cases q : H l with
 | none => rfl
 | some o =>
   rw [e l o q] at h
   cases h
theorem nd_ix {α : Type} {l : List α} (hN : l.Nodup) {i j : Nat} {x : α} (a : l[i]? = some x) (b : l[j]? = some x) : i = j := by
 obtain ⟨h1, e1⟩ := List.getElem?_eq_some_iff.mp a
 obtain ⟨h2, e2⟩ := List.getElem?_eq_some_iff.mp b
 exact (List.getElem_inj hN).mp (e1.trans e2.symm)
end L2
end
section
section
namespace L2
open PySem PySem.Spec PyProof.Rows
open PySem.W (WData Codec OpenSpec Well WellAll ReadsW ReadsAllW)
mutual
inductive Dw (K : PySem.W.Frag) (H : Hp) : V → WData → Prop
 | non : Dw K H .non .none
 | bl (b : Bool) : Dw K H (.bl b) (.bool b)
 | int (i : Int) : Dw K H (.int i) (.int i)
 | str (x : Str) : Dw K H (.str x) (.str x)
 | byt (b : Array UInt8) : Dw K H (.byt b) (.bytes b.toList)
 | lst {a : Addr} {xs : List V} {ds : List WData} : SqL K H a xs → DwAll K H xs ds → Dw K H (.ref a) (.list ds)
 | tup {a : Addr} {xs : List V} {ds : List WData} : SqT K H a xs → DwAll K H xs ds → Dw K H (.ref a) (.tuple ds)
inductive DwAll (K : PySem.W.Frag) (H : Hp) : List V → List WData → Prop
 | nil : DwAll K H [] []
 | cons {v : V} {vs : List V} {d : WData} {ds : List WData} : Dw K H v d → DwAll K H vs ds → DwAll K H (v :: vs) (d :: ds)
end
theorem dw_ints {K : PySem.W.Frag} {H : Hp} : ∀ ns : List Int, DwAll K H (ns.map V.int) (ns.map WData.int)
 | [] => .nil
 | n :: r => .cons (.int n) (dw_ints r)
theorem ints_dw {K : PySem.W.Frag} {H : Hp} : ∀ (ns : List Int) (xs : List V), DwAll K H xs (ns.map WData.int) -> xs = ns.map V.int
 | [], xs, h => by
   cases h
   rfl
 | n :: r, xs, h => by
   cases h with
   | cons h1 h2 =>
     cases h1
     rw [ints_dw r _ h2] <;> rfl
section
variable {P : Program} {w : World} {K : PySem.W.Frag} {H : Hp} {h : Heap} {R : PySem.W.WRecords} {cl : Str → Option Addr}
theorem sqL_at {a : Addr} {xs : List V} (hok : HOk P w H h) (KX : K.In h) (q : SqL K H a xs) : ∃ (its : List Value) (o : Obj) (n : Nat), Vals xs its /\ h.get? a = some o /\ o.cls = .type "list" /\ o.data = .seq its.toArray n := by
 rcases q with q | ⟨o, its, n, e, hc, _, hd, _, hv⟩
 . obtain ⟨_, its, n, hv, e⟩ := (show ObjOk P w H h a (.lst xs) from q.ok hok)
   exact ⟨its, _, n, hv, e, rfl, rfl⟩
 . exact ⟨its.toList, o, n, hv, KX _ _ e, hc, by simp [hd]⟩
theorem sqT_at {a : Addr} {xs : List V} (hok : HOk P w H h) (KX : K.In h) (q : SqT K H a xs) : ∃ (its : List Value) (o : Obj) (n : Nat), Vals xs its /\ h.get? a = some o /\ o.cls = .type "tuple" /\ o.data = .seq its.toArray n := by
 rcases q with q | ⟨o, its, n, e, hc, hd, _, hv⟩
 . obtain ⟨_, its, hv, o, e, hc, n, hd⟩ := (show ObjOk P w H h a (.tup xs) from q.ok hok)
   exact ⟨its, o, n, hv, e, hc, hd⟩
 . exact ⟨its.toList, o, n, hv, KX _ _ e, hc, by simp [hd]⟩
mutual
theorem Dw.reads (hok : HOk P w H h) (KX : K.In h) : ∀ (d : WData) (v : V) (u : Value), Dw K H v d -> RelV v u -> ∃ as, ReadsW R cl h u d as
 | .none, _, _, x, r => by
   cases x
   cases r
   exact ⟨_, ReadsW.none⟩
 | .bool b, _, _, x, r => by
   cases x
   cases r
   exact ⟨_, ReadsW.bool b⟩
 | .int i, _, _, x, r => by
   cases x
   obtain ⟨t, rfl⟩ := r
   exact ⟨_, ReadsW.int i t⟩
 | .str s, _, _, x, r => by
   cases x
   obtain ⟨t, rfl⟩ := r
   exact ⟨_, ReadsW.str s t⟩
 | .bytes b, _, _, x, r => by
   cases x
   obtain ⟨t, rfl⟩ := r
   exact ⟨_, ReadsW.bytes _ t⟩
 | .list ds, _, _, x, r => by
   cases x with
   | lst hs ha =>
     cases r
     obtain ⟨its, o, n, rv, ho, hc, hd⟩ := sqL_at hok KX hs
     obtain ⟨as, hr⟩ := Dw.readsAll hok KX ds _ its ha rv
     exact ⟨_, ReadsW.list ho hc hd hr⟩
 | .tuple ds, _, _, x, r => by
   cases x with
   | tup hs ha =>
     cases r
     obtain ⟨its, o, n, rv, ho, hc, hd⟩ := sqT_at hok KX hs
     obtain ⟨as, hr⟩ := Dw.readsAll hok KX ds _ its ha rv
     exact ⟨_, ReadsW.tuple ho hc hd hr⟩
 | .float _, _, _, x, _ => by cases x
 | .dict _, _, _, x, _ => by cases x
 | .bytearray _, _, _, x, _ => by cases x
 | .set _, _, _, x, _ => by cases x
 | .frozenset _, _, _, x, _ => by cases x
 | .obj _ _, _, _, x, _ => by cases x
theorem Dw.readsAll (hok : HOk P w H h) (KX : K.In h) : ∀ (ds : List WData) (vs : List V) (us : List Value), DwAll K H vs ds -> Vals vs us -> ∃ as, ReadsAllW R cl h us ds as
 | [], _, _, x, r => by
   cases x
   cases r
   exact ⟨_, ReadsAllW.nil⟩
 | d :: ds, _, _, x, r => by
   cases x with
   | cons h1 h2 =>
     cases r with
     | cons r1 r2 =>
       obtain ⟨as, q1⟩ := Dw.reads hok KX d _ _ h1 r1
       obtain ⟨bs, q2⟩ := Dw.readsAll hok KX ds _ _ h2 r2
       exact ⟨_, ReadsAllW.cons q1 q2⟩
end
end
mutual
def plW : WData -> Bool
 | .none => true
 | .bool _ => true
 | .int _ => true
 | .str _ => true
 | .bytes _ => true
 | .list xs => plWs xs
 | .tuple xs => plWs xs
 | _ => false
def plWs : List WData -> Bool
 | [] => true
 | x :: r => plW x && plWs r
end
theorem plWs_map {α : Type} {f : α -> WData} (h : ∀ a, plW (f a) = true) : ∀ l : List α, plWs (l.map f) = true
 | [] => rfl
 | x :: r => by
   show (plW (f x) && plWs (r.map f)) = true
   rw [h x, plWs_map h r] <;> rfl
theorem pl_enc : ∀ (c : Codec) (a : c.denote), plW (c.enc a) = true
 | .unit, _ => rfl
 | .bool, _ => rfl
 | .int _ _, _ => rfl
 | .nat _ _, _ => rfl
 | .u8, _ => rfl
 | .bytes _ _, _ => rfl
 | .text _ _ _ _, _ => rfl
 | .list _ _ c, a => plWs_map (fun x => pl_enc c x) a
 | .pair c d, a => by
   show (plW (c.enc a.1) && (plW (d.enc a.2) && true)) = true
   rw [pl_enc c a.1, pl_enc d a.2] <;> rfl
 | .triple c d e, a => by
   show (plW (c.enc a.1) && (plW (d.enc a.2.1) && (plW (e.enc a.2.2) && true))) = true
   rw [pl_enc c a.1, pl_enc d a.2.1, pl_enc e a.2.2] <;> rfl
 | .option c, none => rfl
 | .option c, some x => pl_enc c x
theorem pl_encAll : ∀ (cs : List Codec) (a : Codec.denoteAll cs), plWs (Codec.encAll cs a) = true
 | [], _ => rfl
 | c :: cs, a => by
   show (plW (c.enc a.1) && plWs (Codec.encAll cs a.2)) = true
   rw [pl_enc c a.1, pl_encAll cs a.2] <;> rfl
theorem weight_mem : ∀ {xs : List WData} {d : WData}, d ∈ xs -> d.weight ≤ WData.weightAll xs
 | [], d, h => absurd h (by simp)
 | x :: r, d, h => by
   show d.weight ≤ x.weight + 1 + WData.weightAll r
   rcases List.mem_cons.mp h with e | m
   . rw [e]
     omega
   . have z := weight_mem m
     omega
def toV : Value -> V
 | .none => .non
 | .bool b => .bl b
 | .int i _ => .int i
 | .str x _ => .str x
 | .bytes b _ => .byt b
 | .ref a => .ref a
 | _ => .non
def OkU (A : List Addr) : Value -> Prop
 | .none => True
 | .bool _ => True
 | .int _ _ => True
 | .str _ _ => True
 | .bytes _ _ => True
 | .ref a => a ∈ A
 | _ => False
theorem OkU.mono {A B : List Addr} (h : ∀ a ∈ A, a ∈ B) : ∀ {u : Value}, OkU A u -> OkU B u := fun {u} x => by
 cases u with
 | ref a => exact h a x
 | none => trivial
 | bool b => trivial
 | int i t => trivial
 | str s t => trivial
 | bytes b t => trivial
 | _ => exact False.elim x
theorem relV_toV {A : List Addr} {u : Value} (x : OkU A u) : RelV (toV u) u := by
 cases u with
 | ref a => rfl
 | none => rfl
 | bool b => rfl
 | int i t => exact ⟨t, rfl⟩
 | str s t => exact ⟨t, rfl⟩
 | bytes b t => exact ⟨t, rfl⟩
 | _ => exact False.elim x
theorem vals_toV {A : List Addr} : ∀ {vs : List Value}, (∀ u ∈ vs, OkU A u) -> Vals (vs.map toV) vs
 | [], _ => .nil
 | u :: r, h => .cons (relV_toV (h u (List.mem_cons_self ..))) (vals_toV fun x hx => h x (List.mem_cons_of_mem _ hx))
def ArgOb (h : Heap) (A : List Addr) (a : Addr) : Prop := ∃ vs : List Value, vs.length ≤ sizeLine /\ (∀ u ∈ vs, OkU A u) /\
 (h.get? a = some { cls := .type "list", data := .seq vs.toArray } ∨ h.get? a = some { cls := .type "tuple", data := .seq vs.toArray })
theorem ArgOb.mono {h : Heap} {A B : List Addr} {a : Addr} (k : ∀ a ∈ A, a ∈ B) (x : ArgOb h A a) : ArgOb h B a := by
 obtain ⟨vs, h1, h2, h3⟩ := x
 exact ⟨vs, h1, fun u hu => (h2 u hu).mono k, h3⟩
theorem wellAll_len {P : Params} {h : Heap} : ∀ {vs : List Value} {ds : List WData}, WellAll P h vs ds -> vs.length = ds.length
 | _, _, .nil => rfl
 | _, _, .cons _ b => by
   show _ + 1 = _ + 1
   rw [wellAll_len b]
theorem well_list {P : Params} {h : Heap} {v : Value} {ds : List WData} (x : Well P h v (.list ds)) : ∃ (a : Addr) (vs : List Value), v = .ref a /\ h.get? a = some { cls := .type "list", data := .seq vs.toArray } /\ WellAll P h vs ds := by
 cases x with
 | list ho hall => exact ⟨_, _, rfl, ho, hall⟩
theorem well_tuple {P : Params} {h : Heap} {v : Value} {ds : List WData} (x : Well P h v (.tuple ds)) : ∃ (a : Addr) (vs : List Value), v = .ref a /\ h.get? a = some { cls := .type "tuple", data := .seq vs.toArray } /\ WellAll P h vs ds := by
 cases x with
 | tuple ho hall => exact ⟨_, _, rfl, ho, hall⟩
theorem well_cons {P : Params} {h : Heap} {us : List Value} {d : WData} {ds : List WData} (x : WellAll P h us (d :: ds)) : ∃ (v : Value) (vs : List Value), us = v :: vs /\ Well P h v d /\ WellAll P h vs ds := by
 cases x with
 | cons a b => exact ⟨_, _, rfl, a, b⟩
theorem line_of {n : Nat} (h : n ≤ 1048576) : n ≤ sizeLine := Nat.le_trans h (by decide)
section
variable {P : Params} {h : Heap}
mutual
theorem area_one : ∀ (d : WData) (v : Value), Well P h v d -> plW d = true -> d.weight ≤ 1048576 -> ∃ A : List Addr, OkU A v /\ ∀ a ∈ A, ArgOb h A a
 | .none, _, x, _, _ => by
   cases x
   exact ⟨[], trivial, fun a m => absurd m (by simp)⟩
 | .bool b, _, x, _, _ => by
   cases x
   exact ⟨[], trivial, fun a m => absurd m (by simp)⟩
 | .int i, _, x, _, _ => by
   cases x
   exact ⟨[], trivial, fun a m => absurd m (by simp)⟩
 | .str s, _, x, _, _ => by
   cases x
   exact ⟨[], trivial, fun a m => absurd m (by simp)⟩
 | .bytes b, _, x, _, _ => by
   cases x
   exact ⟨[], trivial, fun a m => absurd m (by simp)⟩
 | .list ds, _, x, p, z => by
   obtain ⟨a, vs, rfl, ho, hall⟩ := well_list x
   have z2 : WData.weightAll ds ≤ 1048576 := z
   obtain ⟨A, h1, h2⟩ := area_all ds _ hall p fun d hd => Nat.le_trans (weight_mem hd) z2
   have k : ∀ b ∈ A, b ∈ a :: A := fun b hb => List.mem_cons_of_mem _ hb
   refine ⟨a :: A, List.mem_cons_self .., fun b hb => ?_⟩
   rcases List.mem_cons.mp hb with e | m
   . rw [e]
     exact ⟨vs, line_of (by rw [wellAll_len hall]; exact Nat.le_trans (PySem.W.length_le_weightAllW ds) z2), fun u hu => (h1 u hu).mono k, .inl ho⟩
   . exact (h2 b m).mono k
 | .tuple ds, _, x, p, z => by
   obtain ⟨a, vs, rfl, ho, hall⟩ := well_tuple x
   have z2 : WData.weightAll ds ≤ 1048576 := z
   obtain ⟨A, h1, h2⟩ := area_all ds _ hall p fun d hd => Nat.le_trans (weight_mem hd) z2
   have k : ∀ b ∈ A, b ∈ a :: A := fun b hb => List.mem_cons_of_mem _ hb
   refine ⟨a :: A, List.mem_cons_self .., fun b hb => ?_⟩
   rcases List.mem_cons.mp hb with e | m
   . rw [e]
     exact ⟨vs, line_of (by rw [wellAll_len hall]; exact Nat.le_trans (PySem.W.length_le_weightAllW ds) z2), fun u hu => (h1 u hu).mono k, .inr ho⟩
   . exact (h2 b m).mono k
 | .float _, _, _, p, _ => Bool.noConfusion (show false = true from p)
 | .dict _, _, _, p, _ => Bool.noConfusion (show false = true from p)
 | .bytearray _, _, _, p, _ => Bool.noConfusion (show false = true from p)
 | .set _, _, _, p, _ => Bool.noConfusion (show false = true from p)
 | .frozenset _, _, _, p, _ => Bool.noConfusion (show false = true from p)
 | .obj _ _, _, _, p, _ => Bool.noConfusion (show false = true from p)
theorem area_all : ∀ (ds : List WData) (vs : List Value), WellAll P h vs ds -> plWs ds = true -> (∀ d ∈ ds, d.weight ≤ 1048576) -> ∃ A : List Addr, (∀ u ∈ vs, OkU A u) /\ ∀ a ∈ A, ArgOb h A a
 | [], _, x, _, _ => by
   cases x
   exact ⟨[], fun u m => absurd m (by simp), fun a m => absurd m (by simp)⟩
 | d :: ds, _, x, p, z => by
   obtain ⟨v, vs, rfl, x1, x2⟩ := well_cons x
   have q : plW d = true ∧ plWs ds = true := Bool.and_eq_true_iff.mp p
   obtain ⟨A, a1, a2⟩ := area_one d v x1 q.1 (z d (List.mem_cons_self ..))
   obtain ⟨B, b1, b2⟩ := area_all ds vs x2 q.2 fun e he => z e (List.mem_cons_of_mem _ he)
   have kA : ∀ b ∈ A, b ∈ A ++ B := fun b hb => List.mem_append.mpr (.inl hb)
   have kB : ∀ b ∈ B, b ∈ A ++ B := fun b hb => List.mem_append.mpr (.inr hb)
   refine ⟨A ++ B, fun u hu => ?_, fun b hb => ?_⟩
   . rcases List.mem_cons.mp hu with e | m
     . rw [e]
       exact a1.mono kA
     . exact (b1 u m).mono kB
   . rcases List.mem_append.mp hb with m | m
     . exact (a2 b m).mono kA
     . exact (b2 b m).mono kB
end
end
def hoOf (o : Obj) : Option HO := match o.data with
 | .seq vs _ => if (o.cls == Value.type "list") = true then some (.frz o (.lst (vs.toList.map toV))) else some (.frz o (.tup (vs.toList.map toV)))
 | _ => none
def argH (K : PySem.W.Frag) (h : Heap) (A : List Addr) : Hp := fun b => if b ∈ A then (if (K.lookup b).isNone = true then (h.get? b).bind hoOf else none) else none
def OnlyF (H : Hp) : Prop := ∀ b, H b = none ∨ ∃ o u, H b = some (.frz o u)
theorem hoOf_lst (vs : List Value) : hoOf { cls := .type "list", data := .seq vs.toArray } = some (.frz { cls := .type "list", data := .seq vs.toArray } (.lst (vs.map toV))) := by
 show (if (Value.type "list" == Value.type "list") = true then some (HO.frz { cls := .type "list", data := .seq vs.toArray } (.lst (vs.toArray.toList.map toV))) else some (HO.frz { cls := .type "list", data := .seq vs.toArray } (.tup (vs.toArray.toList.map toV)))) = _
 rw [if_pos (beq_self_eq_true _)]
theorem hoOf_tup (vs : List Value) : hoOf { cls := .type "tuple", data := .seq vs.toArray } = some (.frz { cls := .type "tuple", data := .seq vs.toArray } (.tup (vs.map toV))) := by
 show (if (Value.type "tuple" == Value.type "list") = true then some (HO.frz { cls := .type "tuple", data := .seq vs.toArray } (.lst (vs.toArray.toList.map toV))) else some (HO.frz { cls := .type "tuple", data := .seq vs.toArray } (.tup (vs.toArray.toList.map toV)))) = _
 rw [if_neg (by decide)]
section
variable {P : Program} {w : World} {K : PySem.W.Frag} {h : Heap} {A : List Addr}
theorem argH_at {b : Addr} {o : Obj} (hb : b ∈ A) (hk : K.lookup b = none) (e : h.get? b = some o) : argH K h A b = hoOf o := by
 unfold argH
 rw [if_pos hb, hk, if_pos (show (none : Option Obj).isNone = true from rfl), e] <;> rfl
theorem of_argH {b : Addr} {u : HO} (q : argH K h A b = some u) : b ∈ A /\ K.lookup b = none := by
 unfold argH at q
 by_cases hb : b ∈ A
 . rw [if_pos hb] at q
   cases hk : K.lookup b with
   | none => exact ⟨hb, rfl⟩
   | some o =>
     rw [hk, if_neg (by simp)] at q
     cases q
 . rw [if_neg hb] at q
   cases q
theorem argH_is (ar : ∀ a ∈ A, ArgOb h A a) {b : Addr} {u : HO} (q : argH K h A b = some u) : K.lookup b = none /\ ∃ vs : List Value, vs.length ≤ sizeLine /\ (∀ u ∈ vs, OkU A u) /\
 ((h.get? b = some { cls := .type "list", data := .seq vs.toArray } ∧ u = .frz { cls := .type "list", data := .seq vs.toArray } (.lst (vs.map toV))) ∨
  (h.get? b = some { cls := .type "tuple", data := .seq vs.toArray } ∧ u = .frz { cls := .type "tuple", data := .seq vs.toArray } (.tup (vs.map toV)))) := by
 obtain ⟨hb, hk⟩ := of_argH q
 obtain ⟨vs, h1, h2, h3⟩ := ar b hb
 refine ⟨hk, vs, h1, h2, ?_⟩
 rcases h3 with e | e
 . rw [argH_at hb hk e, hoOf_lst] at q
   exact .inl ⟨e, (Option.some.inj q).symm⟩
 . rw [argH_at hb hk e, hoOf_tup] at q
   exact .inr ⟨e, (Option.some.inj q).symm⟩
theorem argH_only (ar : ∀ a ∈ A, ArgOb h A a) : OnlyF (argH K h A) := fun b => by
 cases q : argH K h A b with
 | none => exact .inl rfl
 | some u =>
   obtain ⟨_, vs, _, _, ⟨_, e⟩ | ⟨_, e⟩⟩ := argH_is ar q
   . exact .inr ⟨_, _, by rw [e]⟩
   . exact .inr ⟨_, _, by rw [e]⟩
theorem argH_ok (ar : ∀ a ∈ A, ArgOb h A a) : HOk P w (argH K h A) h := fun b u q => by
 obtain ⟨_, vs, h1, h2, ⟨e, rfl⟩ | ⟨e, rfl⟩⟩ := argH_is ar q
 . exact ⟨e, by rw [List.length_map]; exact h1, vs, _, vals_toV h2, e⟩
 . exact ⟨e, by rw [List.length_map]; exact h1, vs, vals_toV h2, _, e, rfl, _, rfl⟩
theorem seq_inj {c c' : Value} {vs us : List Value} (e : (some { cls := c, data := .seq vs.toArray } : Option Obj) = some { cls := c', data := .seq us.toArray }) : c = c' /\ vs = us := by
 have e1 := Option.some.inj e
 have e2 : c = c' := congrArg Obj.cls e1
 have e3 : Data.seq vs.toArray = Data.seq us.toArray := congrArg Obj.data e1
 injection e3 with e4
 refine ⟨e2, ?_⟩
 have e5 := congrArg Array.toList e4
 simpa using e5
theorem argL (KX : K.In h) (ar : ∀ a ∈ A, ArgOb h A a) {a : Addr} {vs : List Value} (ha : a ∈ A) (e : h.get? a = some { cls := .type "list", data := .seq vs.toArray }) : (∀ u ∈ vs, OkU A u) /\ SqL K (argH K h A) a (vs.map toV) := by
 obtain ⟨us, h1, h2, h3⟩ := ar a ha
 have hu : us = vs := by
  rcases h3 with q | q
  . rw [e] at q
    exact (seq_inj q).2.symm
  . rw [e] at q
    exact absurd (Value.type.inj (seq_inj q).1) (by decide)
 subst hu
 refine ⟨h2, ?_⟩
 cases hk : K.lookup a with
 | none => exact .inl (.inr ⟨_, by rw [argH_at ha hk e, hoOf_lst]⟩)
 | some o =>
   have e2 := KX a o hk
   rw [e] at e2
   obtain rfl := Option.some.inj e2
   exact .inr ⟨_, us.toArray, _, hk, rfl, rfl, rfl, by rw [List.size_toArray]; exact h1, by simpa using vals_toV h2⟩
theorem argT (KX : K.In h) (ar : ∀ a ∈ A, ArgOb h A a) {a : Addr} {vs : List Value} (ha : a ∈ A) (e : h.get? a = some { cls := .type "tuple", data := .seq vs.toArray }) : (∀ u ∈ vs, OkU A u) /\ SqT K (argH K h A) a (vs.map toV) := by
 obtain ⟨us, h1, h2, h3⟩ := ar a ha
 have hu : us = vs := by
  rcases h3 with q | q
  . rw [e] at q
    exact absurd (Value.type.inj (seq_inj q).1) (by decide)
  . rw [e] at q
    exact (seq_inj q).2.symm
 subst hu
 refine ⟨h2, ?_⟩
 cases hk : K.lookup a with
 | none => exact .inl (.inr ⟨_, by rw [argH_at ha hk e, hoOf_tup]⟩)
 | some o =>
   have e2 := KX a o hk
   rw [e] at e2
   obtain rfl := Option.some.inj e2
   exact .inr ⟨_, us.toArray, _, hk, rfl, rfl, by rw [List.size_toArray]; exact h1, by simpa using vals_toV h2⟩
mutual
theorem dw_one {Pm : Params} (KX : K.In h) (ar : ∀ a ∈ A, ArgOb h A a) : ∀ (d : WData) (v : Value), Well Pm h v d -> plW d = true -> OkU A v -> Dw K (argH K h A) (toV v) d
 | .none, _, x, _, _ => by
   cases x
   exact .non
 | .bool b, _, x, _, _ => by
   cases x
   exact .bl b
 | .int i, _, x, _, _ => by
   cases x
   exact .int i
 | .str s, _, x, _, _ => by
   cases x
   exact .str s
 | .bytes b, _, x, _, _ => by
   cases x
   have z := Dw.byt (K := K) (H := argH K h A) b.toArray
   exact z
 | .list ds, _, x, p, hu => by
   obtain ⟨a, vs, rfl, ho, hall⟩ := well_list x
   obtain ⟨h2, hs⟩ := argL KX ar hu ho
   exact .lst hs (dw_all KX ar ds _ hall p h2)
 | .tuple ds, _, x, p, hu => by
   obtain ⟨a, vs, rfl, ho, hall⟩ := well_tuple x
   obtain ⟨h2, hs⟩ := argT KX ar hu ho
   exact .tup hs (dw_all KX ar ds _ hall p h2)
 | .float _, _, _, p, _ => Bool.noConfusion (show false = true from p)
 | .dict _, _, _, p, _ => Bool.noConfusion (show false = true from p)
 | .bytearray _, _, _, p, _ => Bool.noConfusion (show false = true from p)
 | .set _, _, _, p, _ => Bool.noConfusion (show false = true from p)
 | .frozenset _, _, _, p, _ => Bool.noConfusion (show false = true from p)
 | .obj _ _, _, _, p, _ => Bool.noConfusion (show false = true from p)
theorem dw_all {Pm : Params} (KX : K.In h) (ar : ∀ a ∈ A, ArgOb h A a) : ∀ (ds : List WData) (vs : List Value), WellAll Pm h vs ds -> plWs ds = true -> (∀ u ∈ vs, OkU A u) -> DwAll K (argH K h A) (vs.map toV) ds
 | [], _, x, _, _ => by
   cases x
   exact .nil
 | d :: ds, _, x, p, hu => by
   obtain ⟨v, vs, rfl, x1, x2⟩ := well_cons x
   have q : plW d = true ∧ plWs ds = true := Bool.and_eq_true_iff.mp p
   exact .cons (dw_one KX ar d v x1 q.1 (hu _ (List.mem_cons_self ..))) (dw_all KX ar ds vs x2 q.2 fun u m => hu u (List.mem_cons_of_mem _ m))
end
end
theorem spec_call {P : Program} {w : World} {K : PySem.W.Frag} {mg mb : Str -> Option Value} {CX : CXT} {k : Nat} {fa : Addr} {fd : FuncData} {ps : List Str} {sp : Sp} {s₁ : Shared} {vals : List Value} {ds : List WData} {R : PySem.W.WRecords} {cl : Str -> Option Addr} {d0 : WData}
 (KX : K.In s₁.heap) (hns : s₁.heap.Ns mainGlobals mg) (hb : s₁.heap.Ns builtinsNs mb) (hbb : ∀ x : Str, x ≠ "__name__" → mb x = bootBuiltins x) (hlim : s₁.heap.NoLimit) (hg : s₁.gens = #[])
 (hwl : WellAll w.params s₁.heap vals ds) (hpl : plWs ds = true) (hwt : ∀ d ∈ ds, d.weight ≤ 1048576) (hr : Room k callerA)
 (F : ∀ base : Heap, K.In base → base.Ns mainGlobals mg → FnOk P w K mg base CX k fa fd ps sp) (hbind : ∀ (s : Shared) (us : List Value), us.length = ps.length → BindsTo s fd ⟨us, []⟩ (ps.zip us)) (hlen : ds.length = ps.length)
 (hsp : ∀ (H : Hp) (xs : List V), OnlyF H → DwAll K H xs ds → sp xs H (fun v H' => Dw K H' v d0) fun _ _ _ => False)
 (hCX : ∀ H e s', CX [] H s₁ (fun _ _ _ => False) e s' → False) :
 codeAny (model P w) callerA (.call (.ref fa) ⟨vals, []⟩) (fun r s' => ∃ u as, r = .ok (.ret u) ∧ ReadsW R cl s'.heap u d0 as ∧ OldK s₁.heap s'.heap ∧ s'.os = s₁.os ∧ AllBare s'.gens) s₁ := by
 obtain ⟨A, ho, ar⟩ := area_all ds vals hwl hpl hwt
 have hO : OnlyF (argH K s₁.heap A) := argH_only ar
 have hok : HOk P w (argH K s₁.heap A) s₁.heap := argH_ok ar
 have hS := dw_all KX ar ds vals hwl hpl ho
 have hV := vals_toV ho
 have hK : ∀ b u, argH K s₁.heap A b = some u → K.lookup b = none := fun b u q => (argH_is ar q).1
 have noA : ∀ {b : Addr} {o : Obj} {es : Array DictEntry} {ep : Nat}, s₁.heap.get? b = some o → o.data = .dict es ep → argH K s₁.heap A b = none := fun {b o es ep} e d => by
  cases q : argH K s₁.heap A b with
  | none => rfl
  | some u =>
    obtain ⟨_, vs, _, _, ⟨e2, _⟩ | ⟨e2, _⟩⟩ := argH_is ar q
    . rw [e2] at e
      cases e
      have d' : Data.seq vs.toArray _ = Data.dict es ep := d
      cases d'
    . rw [e2] at e
      cases e
      have d' : Data.seq vs.toArray _ = Data.dict es ep := d
      cases d'
 generalize argH K s₁.heap A = H at hO hok hS hK noA
 have base_of : ∀ {b : Addr} {o : Obj}, s₁.heap.get? b = some o → H b = none → (hidT s₁.heap H).get? b = some o := fun e n => hidT_get e n
 have nsK : ∀ {b : Addr} {m : Str → Option Value}, s₁.heap.Ns b m → (hidT s₁.heap H).Ns b m := fun {b m} ⟨o, es, ep, e, d, r⟩ => ⟨o, es, ep, base_of e (noA e d), d, r⟩
 have nK : ∀ b o, K.lookup b = some o → H b = none := fun b o e => by
  cases q : H b with
  | none => rfl
  | some u =>
    rw [hK b u q] at e
    cases e
 have hKb : K.In (hidT s₁.heap H) := fun b o e => base_of (KX b o e) (nK b o e)
 have hM : Mod K mg (hidT s₁.heap H) := ⟨hKb, nsK hns, ⟨mb, nsK hb, hbb⟩, let ⟨mc, h1, h2⟩ := hlim; ⟨mc, nsK h1, h2⟩⟩
 have e0 : Env0 P w K mg (hidT s₁.heap H) callerA [] s₁ H := ⟨rfl, hM, fun b o e => of_hidT e, Nat.le_of_eq (hidT_size _ _), trivial, fun b hb => absurd (show b ∈ ([] : List Addr) from hb) (by simp), hok, .of_eq hg⟩
 have hl : vals.length = ps.length := by rw [wellAll_len hwl]; exact hlen
 refine codeAny_mono ((F _ hKb (nsK hns)).run callerA [] s₁ H ⟨vals, []⟩ vals (vals.map toV) _ _ hr e0 (hbind s₁ vals hl) hV (hsp H _ hO hS)) fun r s' x => ?_
 cases r with
 | error e => exact (hCX H e s' x).elim
 | ok fl =>
   cases fl with
   | next => exact False.elim x
   | brk => exact False.elim x
   | cont => exact False.elim x
   | ret u =>
     obtain ⟨v, H', os, bare, un, hok', r', q⟩ := x
     have kept : ∀ b o, s₁.heap.get? b = some o → s'.heap.get? b = some o := fun b o e => by
      cases q2 : H b with
      | none => exact un.keep b o e q2 (by intro z; exact absurd (show b ∈ ([] : List Addr) from z) (by simp)) (by simp)
      | some u2 =>
        rcases hO b with z | ⟨ob, u3, z⟩
        . rw [q2] at z
          cases z
        . have z2 := un.frzs b ob _ z
          obtain ⟨e1, _⟩ := hok b _ z
          obtain ⟨e2, _⟩ := hok' b _ z2
          rw [e] at e1
          cases e1
          exact e2
     have KX' : K.In s'.heap := fun b o e => kept b o (KX b o e)
     obtain ⟨as, hrd⟩ := Dw.reads (R := R) (cl := cl) hok' KX' d0 v u q r'
     exact ⟨u, as, rfl, hrd, OldK.of_keep kept, os, bare⟩
theorem layable_weight {ds : List WData} (h : WData.layableAll ds = true) : ∀ d ∈ ds, d.weight ≤ 1048576 := fun d hd =>
 (PySem.W.layableW_iff.mp (List.all_eq_true.mp h d hd)).2.2
theorem encAll_len : ∀ (cs : List Codec) (a : Codec.denoteAll cs), (Codec.encAll cs a).length = cs.length
 | [], _ => rfl
 | c :: cs, a => by
   show (Codec.encAll cs a.2).length + 1 = cs.length + 1
   rw [encAll_len cs a.2]
theorem walk_spec {r : OpenSpec} {k : Nat} {q : Program} {loose : List Str} {XP : (Str -> Option Value) -> Heap -> Prop} {YP : World -> Heap -> Prop} {d : DefRec} {K : Params -> PySem.W.Frag} {CX : World -> CXT} {ps : List Str} {sp : World -> Sp}
 (hwell : r.wellSaid = true) (hdf : d.params.defaults = []) (hlen : r.args.length = ps.length) (hr : Room k callerA)
 (hY : ∀ (w : World) (h : Heap), YP w h → (K w.params).In h)
 (F : ∀ (w : World) (mg : Str → Option Value) (fa : Addr) (h : Heap), YP w h → (K w.params).In h → h.Ns mainGlobals mg → mg d.name = some (.ref fa) →
  ∃ fd : FuncData, (∀ (s : Shared) (us : List Value), us.length = ps.length → BindsTo s fd ⟨us, []⟩ (ps.zip us)) ∧
   ∀ base : Heap, (K w.params).In base → base.Ns mainGlobals mg → FnOk r.prog w (K w.params) mg base (CX w) k fa fd ps (sp w))
 (hsp : ∀ (w : World) (H : Hp) (xs : List V) (a : Codec.denoteAll r.args), OnlyF H → Codec.withinAll r.args a = true → Codec.app r.args r.asked a = true → DwAll (K w.params) H xs (Codec.encAll r.args a) →
  sp w xs H (fun v H' => Dw (K w.params) H' v (r.ret.enc (Codec.app r.args r.f a))) fun _ _ _ => False)
 (hCX : ∀ (w : World) (H : Hp) (s : Shared) (e : Value) (s' : Shared), CX w [] H s (fun _ _ _ => False) e s' → False) :
 PySem.W.WalkOS q loose XP YP r d [] (fun f vs => PySem.call f vs) := by
 intro w s_0 s₁ mg mb G Y fa o pm cd doc dV kV ho hd hcd hD hmg hg args vals as hpre hlay hrd hwl hlo
 obtain ⟨a, e1, e2⟩ := PySem.W.os_pre_some hpre
 obtain ⟨e3, hwi⟩ := Codec.encAll_of_decAll r.args args a e1
 subst e3
 have KX := hY w _ Y
 obtain ⟨fd, hb, hF⟩ := F w mg fa _ Y KX G.T.g hmg
 refine PySem.W.enter_call (codeAny_mono (spec_call (R := []) (cl := classAt s_0.heap) (d0 := r.ret.enc (Codec.app r.args r.f a)) KX G.T.g G.T.b G.T.builtins G.T.nolimit hg hwl (pl_encAll _ _) (layable_weight hlay) hr hF hb (by rw [encAll_len]; exact hlen)
  (fun H xs hO hS => hsp w H xs a hO hwi e2 hS) fun H e s' => hCX w H s₁ e s') fun r' s' hq => ?_)
 obtain ⟨u, as', rfl, h1, h2, h3, h4⟩ := hq
 exact ⟨.inl ⟨u, _, as', rfl, fun _ => rfl, h1, (OpenSpec.post_iff hwell hwi _ _).mpr rfl, fun z => Bool.noConfusion (show false = true from z)⟩, h2, h3, h4⟩
theorem walk_specK {r : OpenSpec} {k : Nat} {q : Program} {loose : List Str} {XP : (Str -> Option Value) -> Heap -> Prop} {YP : World -> Heap -> Prop} {d : DefRec} {K : Params -> PySem.W.Frag} {CX : CXT} {ps : List Str} {sp : PySem.W.Frag -> Sp}
 (hwell : r.wellSaid = true) (hdf : d.params.defaults = []) (hlen : r.args.length = ps.length) (hr : Room k callerA)
 (hY : ∀ (w : World) (h : Heap), YP w h → (K w.params).In h)
 (F : ∀ (w : World) (mg : Str → Option Value) (fa : Addr) (h : Heap), YP w h → (K w.params).In h → h.Ns mainGlobals mg → mg d.name = some (.ref fa) →
  ∃ fd : FuncData, (∀ (s : Shared) (us : List Value), us.length = ps.length → BindsTo s fd ⟨us, []⟩ (ps.zip us)) ∧
   ∀ base : Heap, (K w.params).In base → base.Ns mainGlobals mg → FnOk r.prog w (K w.params) mg base CX k fa fd ps (sp (K w.params)))
 (hsp : ∀ (K : PySem.W.Frag) (H : Hp) (xs : List V) (a : Codec.denoteAll r.args), OnlyF H → Codec.withinAll r.args a = true → Codec.app r.args r.asked a = true → DwAll K H xs (Codec.encAll r.args a) →
  sp K xs H (fun v H' => Dw K H' v (r.ret.enc (Codec.app r.args r.f a))) fun _ _ _ => False)
 (hCX : ∀ (H : Hp) (s : Shared) (e : Value) (s' : Shared), CX [] H s (fun _ _ _ => False) e s' → False) :
 PySem.W.WalkOS q loose XP YP r d [] (fun f vs => PySem.call f vs) :=
 walk_spec (K := K) (CX := fun _ => CX) (sp := fun w => sp (K w.params)) hwell hdf hlen hr hY F (fun w H xs a h1 h2 h3 h4 => hsp (K w.params) H xs a h1 h2 h3 h4) fun _ H s e s' => hCX H s e s'
end L2
end
end
section
namespace L2
open PySem PySem.Spec PyProof.Rows LLS
def SetO (w : World) (a : Addr) (ks : List Int) : HO := .ext fun h => SetG w h a ks
theorem setO_ok {P : Program} {w : World} {H : Hp} {h : Heap} {a : Addr} {ks : List Int} (g : SetG w h a ks) : ObjOk P w H h a (SetO w a ks) :=
 ⟨g, let ⟨o, es, ep, t, ho, _⟩ := g; ⟨o, ho⟩, fun h1 h2 g1 k => SetG.keep g1 k⟩
section
variable {X : Cx} {pins : List (Addr × Obj)} {σ : St} {H : Hp} {s : Shared}
theorem Inv.setG {a : Addr} {ks : List Int} (I : Inv X pins σ H s) (h : H a = some (SetO X.w a ks)) : SetG X.w s.heap a ks := (I.hok a _ h).1
theorem Inv.laidS {s' : Shared} {a : Addr} {o : HO} (I : Inv X pins σ H s) (ho : s'.os = s.os) (hg : s'.gens = s.gens) (k : ∀ b u, s.heap.get? b = some u -> s'.heap.get? b = some u) (hp : s.heap.objs.size ≤ a)
 (new : ObjOk X.prog X.w (upd H a o) s'.heap a o) : Inv X pins σ (upd H a o) s' :=
 I.call' (ch := []) ho (Un.laid k hp (I.hok.fresh hp)) (I.hok.laid k hp new) (by rw [hg]; exact I.bare) fun b z => absurd z (by simp)
theorem cr_set (hh : X.A.handled = none) : CallR X (.type "set") (fun vs H Q => ∃ (a : Addr) (ns : List Int), vs = [V.ref a] /\ SqL X.K H a (ns.map V.int) /\ ns.length < 1000 /\
 ∀ p ks, H p = none → (∀ x, x ∈ ks ↔ x ∈ ns) → ks.Nodup → ks.length ≤ ns.length → Q (.ref p) (upd H p (SetO X.w p ks))) := by
 intro pins s σ H vs us Q I r h
 obtain ⟨a, ns, rfl, hs, hl, q⟩ := h
 obtain ⟨its, rv, pl, _⟩ := I.list hs
 rw [Vals.ref1 r]
 have hi := rv.ints
 have el : its.length = ns.length := hi.length
 refine set_call_G (ns := ns) hh pl.isList (by simpa using hi) (by show its.toArray.size + 1 < 4096; simp; omega) fun h' tk ks g mem len kp => ?_
 exact ⟨.ref _, _, I.laid kp (Nat.le_refl _) (setO_ok g), rfl, q _ ks (I.hok.fresh (Nat.le_refl _)) mem g.nodup len⟩
theorem cr_sortedG (hh : X.A.handled = none) : CallR X (.builtin "sorted") (fun vs H Q => ∃ (a : Addr) (ks : List Int), vs = [V.ref a] /\ H a = some (SetO X.w a ks) /\ ks.length < 64 /\
 ∀ (p : Addr) (ns : List Int), H p = none → ns.Perm ks → ns.Pairwise (· ≤ ·) → Q (.ref p) (upd H p (.lst (ns.map V.int)))) := by
 intro pins s σ H vs us Q I r h
 obtain ⟨a, ks, rfl, ha, hl, q⟩ := h
 rw [Vals.ref1 r]
 refine sorted_G hh (I.setG ha) hl fun s' l out e ns L ia pm pw hsz kp hg hos => ?_
 have hlen : (ns.map V.int).length ≤ sizeLine := by rw [List.length_map, pm.length_eq]; exact small64 hl
 exact ⟨.ref _, _, I.laidS (o := .lst (ns.map V.int)) hos hg kp hsz ⟨hlen, out.toList, e, vals_of_ints ia, L⟩, rfl, q _ ns (I.hok.fresh hsz) pm pw⟩
theorem op_andG : OpR X (binaryOp .BitAnd) (fun x y H Q => ∃ (a b : Addr) (ka kb : List Int), x = .ref a /\ y = .ref b /\ H a = some (SetO X.w a ka) /\ H b = some (SetO X.w b kb) /\ a ≠ b /\ ka.length < 1000 /\ kb.length < 1000 /\
 ∀ p kr, H p = none → (∀ x, x ∈ kr ↔ x ∈ ka ∧ x ∈ kb) → kr.Nodup → Q (.ref p) (upd H p (SetO X.w p kr))) := by
 intro pins s σ H x y v u Q I rx ry h
 obtain ⟨a, b, ka, kb, rfl, rfl, ha, hb, ne, la, lb, q⟩ := h
 cases rx
 cases ry
 refine and_G (I.setG ha) (I.setG hb) ne (by show _ < 4096; omega) (by show _ < 4096; omega) fun s' r kr g mem hsz kp hg hos => ?_
 exact ⟨.ref _, _, I.laidS hos hg kp hsz (setO_ok g), rfl, q _ kr (I.hok.fresh hsz) mem g.nodup⟩
theorem call_lenG : CallR X (.builtin "len") (fun vs H Q => ∃ (a : Addr) (ks : List Int), vs = [V.ref a] /\ H a = some (SetO X.w a ks) /\ Q (.int ks.length) H) := by
 intro pins s σ H vs us Q I r h
 obtain ⟨a, ks, rfl, ha, q⟩ := h
 rw [Vals.ref1 r]
 exact len_G (I.setG ha) fun t tk => ⟨.int ks.length, H, I.tok _, ⟨_, rfl⟩, q⟩
theorem mt_bits : MtR X "int.bit_length" (fun x xs H Q => ∃ i, x = .int i /\ xs = [] /\ Q (.int (Builtin.Int.intBits i)) H) := by
 intro pins s σ H x xs v us Q I rx r h
 obtain ⟨i, rfl, rfl, q⟩ := h
 obtain ⟨t, rfl⟩ := rx
 cases r
 exact call_int_bit_length ⟨.int (Builtin.Int.intBits i), H, I.tok _, ⟨_, rfl⟩, q⟩
end
end L2
end
section
namespace L2
open PySem PySem.Spec PyProof.Rows LLS
section
variable {prog : Program} {w : World} {A : Around} {E : Value → Shared → Prop} {s : Shared}
theorem sign_next {it : Addr} {x : Str} {t : Tok} {i c : Nat} {Q : Value -> Shared -> Prop} (I : s.heap.IsStrIter it "str_ascii_iterator" x t i) (hx : x.cps[i]? = some c)
 (q : ∀ g, g.IsStrIter it "str_ascii_iterator" x t (i + 1) → Heap.SameBut it s.heap g → Q (.str ⟨#[c]⟩ s.toks) { s with heap := g, toks := s.toks + 1 }) : wpAny (model prog w) A (Builtin.SmallTypes.nextOf (.ref it)) Q E s := by
 obtain ⟨ob, e0, e1, e2⟩ := id I
 unfold Builtin.SmallTypes.nextOf
 refine wpAny_bind (wpAny_callSpecial?_slot (name := Str.ofString "__next__") I.typeIs F.slot_str_ascii_iterator_next (wpAny_call_entry F.slot_str_ascii_iterator_next I.typeIs F.entry_str_ascii_iterator_next ?_ (F.args_str_ascii_iterator_next_1 _)))
 show wpAny _ _ (field (.ref it) 0 >>= _) _ _ s
 refine wpAny_bind (wpAny_field e0 e2 (x := .str x t) rfl ?_)
 show wpAny _ _ (field (.ref it) 1 >>= _) _ _ s
 refine wpAny_bind (wpAny_field e0 e2 (x := .int i 0) rfl ?_)
 simp only [Int.toNat_natCast, hx]
 refine wpAny_bind (wpAny_setField e0 e2 (by simp) (wpAny_bind (wpAny_mkStr (wpAny_pure ⟨_, rfl, wpAny_pure (q _ ?_ (Heap.SameBut.update ..))⟩) (by show 1 ≤ sizeLine; decide))))
 exact ⟨_, Heap.get?_update_self _ e0 (Obj.isFreed_of_fields (Obj.data_mapFields e2 _)), (Obj.cls_mapFields ..).trans e1, by rw [Obj.data_mapFields e2]; simp [rawInt]⟩
theorem sign_none {it : Addr} {x : Str} {t : Tok} {i : Nat} {Q : Value -> Shared -> Prop} (hh : A.handled = none) (I : s.heap.IsStrIter it "str_ascii_iterator" x t i) (hx : x.cps[i]? = none)
 (q : ∀ g e, Heap.ExtBut it s.heap g → (∃ o, g.get? e = some o ∧ o.cls = .type "StopIteration") → E (.ref e) { s with heap := g }) : wpAny (model prog w) A (Builtin.SmallTypes.nextOf (.ref it)) Q E s := by
 obtain ⟨ob, e0, e1, e2⟩ := id I
 unfold Builtin.SmallTypes.nextOf
 refine wpAny_bind (wpAny_callSpecial?_slot (name := Str.ofString "__next__") I.typeIs F.slot_str_ascii_iterator_next (wpAny_call_entry F.slot_str_ascii_iterator_next I.typeIs F.entry_str_ascii_iterator_next ?_ (F.args_str_ascii_iterator_next_1 _)))
 show wpAny _ _ (field (.ref it) 0 >>= _) _ _ s
 refine wpAny_bind (wpAny_field e0 e2 (x := .str x t) rfl ?_)
 show wpAny _ _ (field (.ref it) 1 >>= _) _ _ s
 refine wpAny_bind (wpAny_field e0 e2 (x := .int i 0) rfl ?_)
 simp only [Int.toNat_natCast, hx]
 refine wpAny_bind (wpAny_rule (wpAny_bind (wpAny_setField e0 e2 (by simp) (wpAny_bind (wpAny_letGo ?_)))))
 show wpAny _ _ (newExc (.type "StopIteration") [] >>= _) _ _ _
 refine wpAny_bind ?_
 simp only [newExc, newTuple]
 refine wpAny_bind (wpAny_newObj_type ?_ (by size_fits))
 refine wpAny_bind (m := firstArgMember _ _) (wpAny_of_eq (a := Value.none) (by first | rfl | (simp only [firstArgMember]; rfl)) ?_)
 refine wpAny_newObj_type ?_ (by size_fits)
 simp only [raiseNew]
 refine wpAny_bind (wpAny_handled ?_)
 first | rw [show A.in1.handled = none from hh] | rw [hh]
 refine wpAny_bind (wpAny_pure (wpAny_throw ?_))
 exact q _ _ (((Heap.SameBut.update ..).extBut.push _).push _) ⟨_, Heap.get?_push_size _ rfl, rfl⟩
theorem zs_go {z TI TO i1 i2 b : Addr} {x : Str} {t : Tok} {k1 k2 c : Nat} {ys : Array Value} {y u v : Value} {Q : Value -> Shared -> Prop} (D : ZipApart z TI TO i1 i2 b b)
 (hz : IsZip s.heap z TI TO .none) (hI : IsPair s.heap TI (.ref i1) (.ref i2)) (hO : IsPair s.heap TO u v) (h1 : s.heap.IsStrIter i1 "str_ascii_iterator" x t k1) (h2 : s.heap.IsListIter i2 b k2) (hb : s.heap.IsList b ys) (hx : x.cps[k1]? = some c) (hy : ys[k2]? = some y)
 (q : ∀ g, IsZip g z TI TO (rawInt s.heap.objs.size) → IsPair g TO (.str ⟨#[c]⟩ s.toks) y → g.IsStrIter i1 "str_ascii_iterator" x t (k1 + 1) → g.IsListIter i2 b (k2 + 1) → IsPair g s.heap.objs.size (.str ⟨#[c]⟩ s.toks) y → g.objs.size = s.heap.objs.size + 1 →
  (∀ d o, d ≠ z → d ≠ TO → d ≠ i1 → d ≠ i2 → s.heap.get? d = some o → g.get? d = some o) → Q (.ref s.heap.objs.size) { s with heap := g, toks := s.toks + 1 }) :
 wpAny (model prog w) A (Builtin.«zip.__next__» ⟨[.ref z], []⟩) (fun fin s' => ∃ v, fin = .done (.ret v) ∧ Q v s') E s := by
 show wpAny _ _ (field (.ref z) 2 >>= _) _ _ _
 refine wpAny_bind (wpAny_field hz rfl (x := .bool false) rfl ?_)
 show wpAny _ _ (field (.ref z) 3 >>= _) _ _ _
 refine wpAny_bind (wpAny_field hz rfl (x := .ref TI) rfl ?_)
 refine wpAny_bind (wpAny_seqItems hI rfl ?_)
 show wpAny _ _ (Builtin.SmallTypes.ownedTupleIsFree (.ref z) >>= _) _ _ _
 refine wpAny_bind ?_
 unfold Builtin.SmallTypes.ownedTupleIsFree
 refine wpAny_bind (wpAny_field hz rfl (x := .none) rfl (wpAny_pure ?_))
 simp only [if_true]
 refine wpAny_bind (wpAny_rule ?_)
 refine wpAny_bind (wpAny_field hz rfl (x := .ref TO) rfl ?_)
 refine wpAny_bind (wpAny_setField_rec hz (by simp) fun g1 z1 m1 => ?_)
 replace z1 : IsZip g1 z TI TO .ellipsis := z1
 refine wpAny_bind ?_
 simp only [List.zipIdx_cons, List.zipIdx_nil, List.forIn_cons, List.forIn_nil]
 refine wpAny_bind (wpAny_bind (wpAny_onRaise ?_))
 show wpAny _ _ (Builtin.SmallTypes.nextOf (.ref i1) >>= _) _ _ _
 refine wpAny_bind (sign_next (h1.extBut m1.extBut D.i1z) hx fun g2 a2 m2 => wpAny_pure ?_)
 have O2 : IsPair g2 TO u v := m2.extBut _ _ D.TOi1 (m1.extBut _ _ D.TOz hO)
 refine wpAny_bind (wpAny_seqItems O2 rfl ?_)
 refine wpAny_bind (wpAny_updateSeq_pair O2 fun g3 O3 m3 => ?_)
 replace O3 : IsPair g3 TO (.str ⟨#[c]⟩ s.toks) v := O3
 refine wpAny_bind (wpAny_letGo (wpAny_pure ?_))
 refine wpAny_bind (wpAny_bind (wpAny_onRaise ?_))
 show wpAny _ _ (Builtin.SmallTypes.nextOf (.ref i2) >>= _) _ _ _
 refine wpAny_bind (wpAny_nextOf_list_item (((h2.extBut m1.extBut D.i2z).extBut m2.extBut D.i12.symm).extBut m3.extBut D.TOi2.symm) (((hb.extBut m1.extBut D.l2z).extBut m2.extBut D.l2i1).extBut m3.extBut D.l2TO) hy fun g4 b4 m4 => wpAny_pure ?_)
 have O4 : IsPair g4 TO (.str ⟨#[c]⟩ s.toks) v := m4.extBut _ _ D.TOi2 O3
 refine wpAny_bind (wpAny_seqItems O4 rfl ?_)
 refine wpAny_bind (wpAny_updateSeq_pair O4 fun g5 O5 m5 => ?_)
 replace O5 : IsPair g5 TO (.str ⟨#[c]⟩ s.toks) y := O5
 refine wpAny_bind (wpAny_letGo (wpAny_pure (wpAny_pure ?_)))
 refine wpAny_bind (wpAny_seqItems O5 rfl ?_)
 refine wpAny_bind (wpAny_newTuple ?_)
 have sz : g5.objs.size = s.heap.objs.size := by rw [m5.1, m4.1, m3.1, m2.1, m1.1]
 have z5 : IsZip g5 z TI TO .ellipsis := m5.extBut _ _ D.TOz.symm (m4.extBut _ _ D.i2z.symm (m3.extBut _ _ D.TOz.symm (m2.extBut _ _ D.i1z.symm z1)))
 have k5 : ∀ d o, d ≠ z → d ≠ TO → d ≠ i1 → d ≠ i2 → s.heap.get? d = some o → g5.get? d = some o := fun d o n1 n2 n3 n4 e => m5.extBut _ _ n2 (m4.extBut _ _ n4 (m3.extBut _ _ n2 (m2.extBut _ _ n3 (m1.extBut _ _ n1 e))))
 have a5 : g5.IsStrIter i1 "str_ascii_iterator" x t (k1 + 1) := ((a2.extBut m3.extBut D.TOi1.symm).extBut m4.extBut D.i12).extBut m5.extBut D.TOi1.symm
 have b5 : g5.IsListIter i2 b (k2 + 1) := b4.extBut m5.extBut D.TOi2.symm
 have ltz : z < g5.objs.size := Heap.lt_size z5
 show wpAny _ _ (Builtin.SmallTypes.ownedTupleHandOut (.ref z) (.ref g5.objs.size) >>= _) _ _ _
 refine wpAny_bind ?_
 unfold Builtin.SmallTypes.ownedTupleHandOut
 have z6 : IsZip (g5.push { cls := .type "tuple", data := .seq #[.str ⟨#[c]⟩ s.toks, y] }) z TI TO .ellipsis := Heap.get?_push_of_some _ z5
 refine wpAny_bind (wpAny_setField_rec z6 (by simp) fun g7 z7 m7 => ?_)
 replace z7 : IsZip g7 z TI TO (rawInt g5.objs.size) := z7
 refine wpAny_setField_rec z7 (by simp) fun g8 z8 m8 => ?_
 replace z8 : IsZip g8 z TI TO (rawInt g5.objs.size) := z8
 have up : ∀ d o, d ≠ z → g5.get? d = some o → g8.get? d = some o := fun d o n1 e => m8.extBut _ _ n1 (m7.extBut _ _ n1 (Heap.get?_push_of_some _ e))
 have T8 : IsPair g8 g5.objs.size (.str ⟨#[c]⟩ s.toks) y := m8.extBut _ _ (Nat.ne_of_gt ltz) (m7.extBut _ _ (Nat.ne_of_gt ltz) (Heap.get?_push_size _ rfl))
 have sz8 : g8.objs.size = g5.objs.size + 1 := by rw [m8.1, m7.1, Heap.size_push]
 rw [sz] at z8 T8 sz8
 refine wpAny_pure ⟨_, rfl, ?_⟩
 show Q (.ref g5.objs.size) _
 rw [sz]
 refine q g8 z8 (up _ _ D.TOz O5) ?_ (b5.at fun o e => up _ o D.i2z e) T8 sz8 fun d o n1 n2 n3 n4 e => up d o n1 (k5 d o n1 n2 n3 n4 e)
 obtain ⟨o, e, r⟩ := a5
 exact ⟨o, up _ o D.i1z e, r⟩
theorem zs_end {z TI TO i1 i2 b : Addr} {x : Str} {t : Tok} {k1 : Nat} {u v : Value} {Q : Fin -> Shared -> Prop} (hh : A.handled = none) (D : ZipApart z TI TO i1 i2 b b)
 (hz : IsZip s.heap z TI TO .none) (hI : IsPair s.heap TI (.ref i1) (.ref i2)) (hO : IsPair s.heap TO u v) (h1 : s.heap.IsStrIter i1 "str_ascii_iterator" x t k1) (hx : x.cps[k1]? = none)
 (q : ∀ g e, (∀ d o, d ≠ z → d ≠ TO → d ≠ i1 → d ≠ i2 → s.heap.get? d = some o → g.get? d = some o) → (∃ o, g.get? e = some o ∧ o.cls = .type "StopIteration") → E (.ref e) { s with heap := g }) :
 wpAny (model prog w) A (Builtin.«zip.__next__» ⟨[.ref z], []⟩) Q E s := by
 show wpAny _ _ (field (.ref z) 2 >>= _) _ _ _
 refine wpAny_bind (wpAny_field hz rfl (x := .bool false) rfl ?_)
 show wpAny _ _ (field (.ref z) 3 >>= _) _ _ _
 refine wpAny_bind (wpAny_field hz rfl (x := .ref TI) rfl ?_)
 refine wpAny_bind (wpAny_seqItems hI rfl ?_)
 show wpAny _ _ (Builtin.SmallTypes.ownedTupleIsFree (.ref z) >>= _) _ _ _
 refine wpAny_bind ?_
 unfold Builtin.SmallTypes.ownedTupleIsFree
 refine wpAny_bind (wpAny_field hz rfl (x := .none) rfl (wpAny_pure ?_))
 simp only [if_true]
 refine wpAny_bind (wpAny_rule ?_)
 refine wpAny_bind (wpAny_field hz rfl (x := .ref TO) rfl ?_)
 refine wpAny_bind (wpAny_setField_rec hz (by simp) fun g1 z1 m1 => ?_)
 replace z1 : IsZip g1 z TI TO .ellipsis := z1
 refine wpAny_bind ?_
 simp only [List.zipIdx_cons, List.zipIdx_nil, List.forIn_cons, List.forIn_nil]
 refine wpAny_bind (wpAny_bind (wpAny_onRaise ?_))
 show wpAny _ _ (Builtin.SmallTypes.nextOf (.ref i1) >>= _) _ _ _
 refine wpAny_bind (sign_none hh (h1.extBut m1.extBut D.i1z) hx fun g2 e m2 he => ?_)
 obtain ⟨oe, e1, e2⟩ := he
 have z2 : IsZip g2 z TI TO .ellipsis := m2 _ _ D.i1z.symm z1
 have ne : e ≠ z := fun k => by subst k; rw [z2] at e1; cases e1; simp at e2
 refine wpAny_setField_rec z2 (by simp) fun g3 _ m3 => q g3 e (fun d o n1 _ n3 _ k => m3.extBut _ _ n1 (m2 _ _ n3 (m1.extBut _ _ n1 k))) ⟨oe, m3.extBut _ _ ne e1, e2⟩
theorem zs_next {z TI TO i1 i2 b : Addr} {x : Str} {t : Tok} {k1 k2 c : Nat} {ys : Array Value} {y u v : Value} {Q : Option Value -> Shared -> Prop} (D : ZipApart z TI TO i1 i2 b b)
 (hz : IsZip s.heap z TI TO .none) (hI : IsPair s.heap TI (.ref i1) (.ref i2)) (hO : IsPair s.heap TO u v) (h1 : s.heap.IsStrIter i1 "str_ascii_iterator" x t k1) (h2 : s.heap.IsListIter i2 b k2) (hb : s.heap.IsList b ys) (hx : x.cps[k1]? = some c) (hy : ys[k2]? = some y)
 (q : ∀ g, IsZip g z TI TO (rawInt s.heap.objs.size) → IsPair g TO (.str ⟨#[c]⟩ s.toks) y → g.IsStrIter i1 "str_ascii_iterator" x t (k1 + 1) → g.IsListIter i2 b (k2 + 1) → IsPair g s.heap.objs.size (.str ⟨#[c]⟩ s.toks) y → g.objs.size = s.heap.objs.size + 1 →
  (∀ d o, d ≠ z → d ≠ TO → d ≠ i1 → d ≠ i2 → s.heap.get? d = some o → g.get? d = some o) → Q (some (.ref s.heap.objs.size)) { s with heap := g, toks := s.toks + 1 }) :
 wpAny (model prog w) A (pyNext (.ref z)) Q E s := by
 have T : s.TypeIs (.ref z) "zip" := ⟨_, hz, rfl⟩
 unfold pyNext
 exact wpAny_bind (wpAny_attempt (wpAny_callSpecial?_slot (name := Str.ofString "__next__") T F.slot_zip_next
  (wpAny_call_entry F.slot_zip_next T F.entry_zip_next (zs_go D hz hI hO h1 h2 hb hx hy fun g r1 r2 r3 r4 r5 r6 r7 => wpAny_pure (q g r1 r2 r3 r4 r5 r6 r7)) (F.args_zip_next_1 _))))
theorem zs_stop {z TI TO i1 i2 b : Addr} {x : Str} {t : Tok} {k1 : Nat} {u v : Value} {Q : Option Value -> Shared -> Prop} (hh : A.handled = none) (D : ZipApart z TI TO i1 i2 b b)
 (hz : IsZip s.heap z TI TO .none) (hI : IsPair s.heap TI (.ref i1) (.ref i2)) (hO : IsPair s.heap TO u v) (h1 : s.heap.IsStrIter i1 "str_ascii_iterator" x t k1) (hx : x.cps[k1]? = none)
 (q : ∀ g, (∀ d o, d ≠ z → d ≠ TO → d ≠ i1 → d ≠ i2 → s.heap.get? d = some o → g.get? d = some o) → Q none { s with heap := g }) : wpAny (model prog w) A (pyNext (.ref z)) Q E s := by
 have T : s.TypeIs (.ref z) "zip" := ⟨_, hz, rfl⟩
 unfold pyNext
 refine wpAny_bind (wpAny_attempt (wpAny_callSpecial?_slot (name := Str.ofString "__next__") T F.slot_zip_next
  (wpAny_call_entry F.slot_zip_next T F.entry_zip_next (zs_end hh D hz hI hO h1 hx fun g e k he => ?_) (F.args_zip_next_1 _))))
 obtain ⟨o, e1, e2⟩ := he
 refine wpAny_bind (wpAny_isInstance (T := "StopIteration") (b := true) ⟨o, e1, e2⟩ isSubtype_stop ?_)
 exact wpAny_pure (q _ k)
abbrev zs1 (h : Heap) (x : Str) (t : Tok) : Heap := h.push { cls := .type "str_ascii_iterator", data := .fields #[.str x t, .int 0 0] }
abbrev zs2 (h : Heap) (x : Str) (t : Tok) (b : Addr) : Heap := (zs1 h x t).push { cls := .type "list_iterator", data := .fields #[.ref b, .int 0 0] }
abbrev zs3 (h : Heap) (x : Str) (t : Tok) (b : Addr) : Heap := (zs2 h x t b).push { cls := .type "tuple", data := .seq #[.ref h.objs.size, .ref (zs1 h x t).objs.size] }
abbrev zs4 (h : Heap) (x : Str) (t : Tok) (b : Addr) : Heap := (zs3 h x t b).push { cls := .type "tuple", data := .seq #[.none, .none] }
abbrev zs5 (h : Heap) (x : Str) (t : Tok) (b : Addr) : Heap := (zs4 h x t b).push { cls := .type "zip", data := .fields #[.none, .bool false, .bool false, .ref (zs2 h x t b).objs.size, .ref (zs3 h x t b).objs.size] }
end
theorem zs_new (x : Str) (t : Tok) (b : Addr) (ys : Array Value) (ha : x.cps.all (· < 128) = true) :
 Meets (Builtin.«zip.__new__» ⟨[.type "zip", .str x t, .ref b], []⟩) (fun _ R s => s.heap.IsList b ys ∧ R (.ok (.ret (.ref (zs4 s.heap x t b).objs.size))) { s with heap := zs5 s.heap x t b }) :=
 .of_wp fun prog w A R s h => by
  obtain ⟨hp, g, d, tk, os⟩ := s
  obtain ⟨hl, h⟩ := h
  have hsub := sub_zip
  have hL : Heap.IsList (Shared.heap ⟨zs1 hp x t, g, d, tk, os⟩) b ys := Heap.IsList.push hl _
  wp_walk using wpAny_pyIter_ascii ha, wpAny_pyIter_list hL
  exact ⟨_, rfl, h⟩
section
variable {prog : Program} {w : World} {A : Around} {E : Value → Shared → Prop} {s : Shared}
theorem zs_call {x : Str} {t : Tok} {b : Addr} {ys : Array Value} {Q : Value -> Shared -> Prop} (ha : x.cps.all (· < 128) = true) (hl : s.heap.IsList b ys)
 (h : ∀ g, IsZip g (s.heap.objs.size + 4) (s.heap.objs.size + 2) (s.heap.objs.size + 3) .none → IsPair g (s.heap.objs.size + 2) (.ref s.heap.objs.size) (.ref (s.heap.objs.size + 1)) → IsPair g (s.heap.objs.size + 3) .none .none →
  g.IsStrIter s.heap.objs.size "str_ascii_iterator" x t 0 → g.IsListIter (s.heap.objs.size + 1) b 0 → (∀ d o, s.heap.get? d = some o → g.get? d = some o) → Q (.ref (s.heap.objs.size + 4)) { s with heap := g }) :
 wpAny (model prog w) A (call (.type "zip") [.str x t, .ref b]) Q E s := by
 refine callType_new F.called_zip (by decide) (F.typeCall_zip_2 _ _) (F.newCall_zip_2 _ _) (fun obj => F.args_object_init_3 obj _ _) F.entry_zip_new (zs_new x t b ys ha) ⟨hl, ?_⟩
 have n1 : (zs1 s.heap x t).objs.size = s.heap.objs.size + 1 := Heap.size_push ..
 have n2 : (zs2 s.heap x t b).objs.size = s.heap.objs.size + 2 := by rw [Heap.size_push, n1]
 have n3 : (zs3 s.heap x t b).objs.size = s.heap.objs.size + 3 := by rw [Heap.size_push, n2]
 have n4 : (zs4 s.heap x t b).objs.size = s.heap.objs.size + 4 := by rw [Heap.size_push, n3]
 have f5 : (zs5 s.heap x t b).get? (zs4 s.heap x t b).objs.size = some _ := Heap.get?_push_size _ rfl
 have f4 : (zs5 s.heap x t b).get? (zs3 s.heap x t b).objs.size = some _ := Heap.get?_push_of_some _ (Heap.get?_push_size _ rfl)
 have f3 : (zs5 s.heap x t b).get? (zs2 s.heap x t b).objs.size = some _ := Heap.get?_push_of_some _ (Heap.get?_push_of_some _ (Heap.get?_push_size _ rfl))
 have f2 : (zs5 s.heap x t b).get? (zs1 s.heap x t).objs.size = some _ := Heap.get?_push_of_some _ (Heap.get?_push_of_some _ (Heap.get?_push_of_some _ (Heap.get?_push_size _ rfl)))
 have f1 : (zs5 s.heap x t b).get? s.heap.objs.size = some _ := Heap.get?_push_of_some _ (Heap.get?_push_of_some _ (Heap.get?_push_of_some _ (Heap.get?_push_of_some _ (Heap.get?_push_size _ rfl))))
 show _ ∧ _
 rw [n2, n3, n4] at f5
 rw [n1, n2] at f3
 rw [n3] at f4
 rw [n1] at f2
 rw [n4]
 exact ⟨⟨_, f5, rfl⟩, h _ f5 f3 f4 ⟨_, f1, rfl, rfl⟩ ⟨_, f2, rfl, rfl⟩ fun d o k => Heap.get?_push_of_some _ (Heap.get?_push_of_some _ (Heap.get?_push_of_some _ (Heap.get?_push_of_some _ (Heap.get?_push_of_some _ k))))⟩
end
def Izs (K : PySem.W.Frag) (x : Str) (b : Addr) : It :=
 ⟨fun i H => ∃ (ys : List V) (c : Nat) (y : V), SqL K H b ys ∧ x.cps[i]? = some c ∧ ys[i]? = some y,
  fun i H v H' => ∃ T c y, v = .ref T ∧ H T = none ∧ H' = upd H T (.tup [.str ⟨#[c]⟩, y]) ∧ x.cps[i]? = some c ∧ ∀ ys, SqL K H b ys → ys[i]? = some y,
  fun i H => x.cps.size ≤ i⟩
theorem turn_zs {P : Program} {w : World} {K : PySem.W.Frag} {elts : List Expr} {kk : Nat} {tpos : Pos} {b z TI TO i1 i2 : Addr} {x : Str} {t : Tok} (D : ZipApart z TI TO i1 i2 b b) :
 Turn P w K (.Tuple elts kk tpos) (Izs K x b) [z, TI, TO, i1, i2] z (fun i h => IsZip h z TI TO .none ∧ IsPair h TI (.ref i1) (.ref i2) ∧ (∃ u v, IsPair h TO u v) ∧ h.IsStrIter i1 "str_ascii_iterator" x t i ∧ h.IsListIter i2 b i) where
 mem := by simp
 obj := fun i h st c hc => by
  obtain ⟨hz, hTI, ⟨u, v, hTO⟩, ⟨o1, e1, _, d1⟩, ⟨o2, e2, _, d2⟩⟩ := st
  have e' : c = z ∨ c = TI ∨ c = TO ∨ c = i1 ∨ c = i2 := by simpa using hc
  rcases e' with q | q | q | q | q
  . rw [q]; exact ⟨_, hz, fun v q => nomatch q⟩
  . rw [q]; exact ⟨_, hTI, fun v q => nomatch q⟩
  . rw [q]; exact ⟨_, hTO, fun v q => nomatch q⟩
  . rw [q]; exact ⟨o1, e1, fun v q => by rw [d1] at q; cases q⟩
  . rw [q]; exact ⟨o2, e2, fun v q => by rw [d2] at q; cases q⟩
 keep := fun i h h' st k => by
  obtain ⟨hz, hTI, ⟨u, v, hTO⟩, ⟨o1, e1, r1⟩, h2⟩ := st
  exact ⟨k z (by simp) _ hz, k TI (by simp) _ hTI, ⟨u, v, k TO (by simp) _ hTO⟩, ⟨o1, k i1 (by simp) o1 e1, r1⟩, h2.at fun o q => k i2 (by simp) o q⟩
 item := by
  intro X hP hw hK hc i pins s σ H E I hf st hg
  subst hP hw hK
  obtain ⟨hz, hTI, ⟨x0, y0, hTO⟩, h1, h2⟩ := st
  obtain ⟨ys, c, y, hqy, hx, hy⟩ := hg
  obtain ⟨its2, rv2, p2, _⟩ := I.list hqy
  obtain ⟨u2, hu2, ru2⟩ := rv2.get hy
  have hzl : z < s.heap.objs.size := Heap.lt_size hz
  refine zs_next D hz hTI hTO h1 h2 p2.isList (y := u2) hx (by simpa using hu2) fun h' z' TO' h1' h2' hT hsz hk => ?_
  refine ⟨_, rfl, wpAny_letOwnedTupleGo_zip (s := { s with heap := h', toks := s.toks + 1 }) z' fun h'' z'' sb => ?_⟩
  have hT2 : h''.get? s.heap.objs.size = some { cls := .type "tuple", data := .seq #[.str ⟨#[c]⟩ s.toks, u2] } := (sb.2 _ (Nat.ne_of_gt hzl)).trans hT
  have new : ObjOk X.prog X.w (upd H s.heap.objs.size (.tup [.str ⟨#[c]⟩, y])) h'' s.heap.objs.size (.tup [.str ⟨#[c]⟩, y]) :=
   ⟨by show 2 ≤ sizeLine; decide, [.str ⟨#[c]⟩ s.toks, u2], .cons ⟨_, rfl⟩ (.cons ru2 .nil), ⟨_, hT2, rfl, _, rfl⟩⟩
  have I1 : Inv X pins σ (upd H s.heap.objs.size (.tup [.str ⟨#[c]⟩, y])) { s with heap := h'', toks := s.toks + 1 } :=
   I.turnedNew (t' := s.toks + 1) (ch := [z, TI, TO, i1, i2]) (fun c o hb q => (sb.2 c (fun q' => hb (by simp [q']))).trans (hk c o (fun q' => hb (by simp [q'])) (fun q' => hb (by simp [q'])) (fun q' => hb (by simp [q'])) (fun q' => hb (by simp [q'])) q)) hf (Nat.le_refl _) new
  refine ⟨.ref s.heap.objs.size, _, I1, rfl, ⟨_, c, y, rfl, I.hok.fresh (Nat.le_refl _), rfl, hx, fun l hl => by rw [I.list_inj hl hqy]; exact hy⟩, ⟨z'', ?_, ⟨.str ⟨#[c]⟩ s.toks, u2, ?_⟩, ?_, ?_⟩, fun c hcm => ?_⟩
  . exact (sb.2 _ D.TIz).trans (hk _ _ D.TIz D.TITO D.TIi1 D.TIi2 hTI)
  . exact (sb.2 _ D.TOz).trans TO'
  . obtain ⟨o, e, r⟩ := h1'
    exact ⟨o, (sb.2 _ D.i1z).trans e, r⟩
  . exact h2'.at fun o q => (sb.2 _ D.i2z).trans q
  . have hlt : c < s.heap.objs.size := by
     have e' : c = z ∨ c = TI ∨ c = TO ∨ c = i1 ∨ c = i2 := by simpa using hcm
     rcases e' with q | q | q | q | q
     . rw [q]; exact hzl
     . rw [q]; exact Heap.lt_size hTI
     . rw [q]; exact Heap.lt_size hTO
     . rw [q]; obtain ⟨_, e1, _⟩ := h1; exact Heap.lt_size e1
     . rw [q]; obtain ⟨_, e2, _⟩ := h2; exact Heap.lt_size e2
    rw [q5z (Nat.ne_of_lt hlt)]
    exact (hf c hcm).1
 done := by
  intro X hP hw hK hc i pins s σ H E I hf st hg
  subst hP hw hK
  obtain ⟨hz, hTI, ⟨x0, y0, hTO⟩, h1, h2⟩ := st
  have hx : x.cps[i]? = none := Array.getElem?_eq_none hg
  exact zs_stop (I.ok.hd hc) D hz hTI hTO h1 hx fun h' hk => ⟨rfl, I.turnedL (t' := s.toks) (ch := [z, TI, TO, i1, i2]) (fun c o hb q =>
   hk c o (fun q' => hb (by simp [q'])) (fun q' => hb (by simp [q'])) (fun q' => hb (by simp [q'])) (fun q' => hb (by simp [q'])) q) hf⟩
 self := fun A i s Q E st h => wpAny_pyIter_zip st.1 h
def iZs (K : PySem.W.Frag) (ta : TA) : TI := fun σ H R => ta σ H fun vs H1 => ∃ x b ys, vs = [.str x, .ref b] /\ x.cps.all (· < 128) = true /\ SqL K H1 b ys /\ R (Izs K x b) H1
theorem pi_zs {X : Cx} {e e2 : Expr} {ta : TA} {p pos tpos : Pos} {elts : List Expr} {kk : Nat} (hg : Gl X "zip") (hm : X.mg "zip" = none) (ha : PA X [e, e2] ta)
 (hs : starEach [e, e2] X.env = (false, eval e X.env) :: starEach [e2] X.env := by rfl) (hpl : (backTo pos (starEach [e2] X.env)).any (·.1) = false := by rfl) :
 PI X (.Tuple elts kk tpos) (.Call (.Name "zip" p) [e, e2] [] pos) (iZs X.K ta) := by
 intro pins s σ H R I h
 refine Call_ (ld_blt I hg hm boot_zip5 (PyProof.Rows.callWith_type1 (thn (ha pos pins s σ H _ I h) fun us s1 ⟨vs, H1, I1, r1, q1⟩ => ?_) hs hpl))
 obtain ⟨x, b, ys, ex, hasc, hqy, q⟩ := q1
 subst ex
 cases r1 with
 | cons r rr =>
   cases rr with
   | cons r' rr =>
     cases rr
     obtain ⟨t, rfl⟩ := r
     cases r'
     obtain ⟨its2, rv2, p2, _⟩ := I1.list hqy
     have lb : b < s1.heap.objs.size := p2.lt
     refine zs_call hasc p2.isList fun h' hz hTI hTO h1 h2 hk => wpAny_pyIter_zip hz ?_
     have I2 : Inv X pins σ H1 { s1 with heap := h' } := I1.kept (t' := s1.toks) hk
     refine ⟨s1.heap.objs.size + 4, [s1.heap.objs.size + 4, s1.heap.objs.size + 2, s1.heap.objs.size + 3, s1.heap.objs.size, s1.heap.objs.size + 1], _, _, H1, rfl, I2, turn_zs (PySem.W.ktu_apart s1.heap.objs.size b b lb lb), ⟨hz, hTI, ⟨_, _, hTO⟩, h1, h2⟩, fun c hcm => ?_, q⟩
     have e' : c = s1.heap.objs.size + 4 ∨ c = s1.heap.objs.size + 2 ∨ c = s1.heap.objs.size + 3 ∨ c = s1.heap.objs.size ∨ c = s1.heap.objs.size + 1 := by simpa using hcm
     have hle : s1.heap.objs.size ≤ c := by
      rcases e' with z | z | z | z | z
      . rw [z]; exact Nat.le_add_right _ _
      . rw [z]; exact Nat.le_add_right _ _
      . rw [z]; exact Nat.le_add_right _ _
      . rw [z]; exact Nat.le_refl _
      . rw [z]; exact Nat.le_add_right _ _
     exact I1.fpOk hle (I1.hok.fresh hle)
theorem for_zs {K : PySem.W.Frag} {x : Str} {b : Addr} {ys : List V} {g : TG} {tb : TS} {D : Ends} {σ : St} {H : Hp} (hlen : x.cps.size ≤ ys.length) (Pv : Nat -> St -> Hp -> Prop) (h0 : Pv 0 σ H) (hl : ∀ i σ H, Pv i σ H -> SqL K H b ys)
 (hs : ∀ i c y T σ H, x.cps[i]? = some c → ys[i]? = some y → H T = none → Pv i σ H → g (.ref T) σ (upd H T (.tup [.str ⟨#[c]⟩, y])) fun σ2 H2 => tb { D with nx := Pv (i + 1), ct := Pv (i + 1), bk := D.nx } σ2 H2) (hd : ∀ σ H, Pv x.cps.size σ H → D.nx σ H) :
 ∃ W : Nat → Nat → St → Hp → Prop, (∃ m, W 0 m σ H) ∧ ∀ i m σ H, W i m σ H →
  ((Izs K x b).stop i H ∧ D.nx σ H) ∨ ((Izs K x b).go i H ∧ ∃ N : St → Hp → Prop, (∀ σ' H', N σ' H' → ∃ m', m' < m ∧ W (i + 1) m' σ' H') ∧ ∀ v H', (Izs K x b).yld i H v H' → g v σ H' fun σ2 H2 => tb { D with nx := N, ct := N, bk := D.nx } σ2 H2) := by
 refine ⟨fun i m σ H => m = x.cps.size - i ∧ i ≤ x.cps.size ∧ Pv i σ H, ⟨x.cps.size, by simp, Nat.zero_le _, h0⟩, ?_⟩
 rintro i m σ H ⟨rfl, hi, p⟩
 have q := hl i σ H p
 by_cases hlt : i < x.cps.size
 . have hy : i < ys.length := by omega
   refine .inr ⟨⟨ys, x.cps[i], ys[i], q, by simp [hlt], by simp [hy]⟩, Pv (i + 1), fun σ' H' p' => ⟨x.cps.size - (i + 1), by omega, rfl, hlt, p'⟩, fun v H' y => ?_⟩
   obtain ⟨T, c, y, rfl, hT, rfl, hc, hy⟩ := y
   exact hs i c y T σ H hc (hy ys q) hT p
 . have e : i = x.cps.size := by omega
   subst e
   exact .inl ⟨Nat.le_refl _, hd σ H p⟩
theorem for_keys {d : Addr} {o : Obj} {kvs : List (Key × V)} {g : TG} {tb : TS} {D : Ends} {σ : St} {H : Hp} (Pv : Nat -> St -> Hp -> Prop) (h0 : Pv 0 σ H) (hl : ∀ i σ H, Pv i σ H -> H d = some (.frz o (.dK kvs)))
 (hs : ∀ i k v σ H, kvs[i]? = some (k, v) → Pv i σ H → g (kV k) σ H fun σ2 H2 => tb { D with nx := Pv (i + 1), ct := Pv (i + 1), bk := D.nx } σ2 H2) (hd : ∀ σ H, Pv kvs.length σ H → D.nx σ H) :
 ∃ W : Nat → Nat → St → Hp → Prop, (∃ m, W 0 m σ H) ∧ ∀ i m σ H, W i m σ H →
  ((Itk d o kvs).stop i H ∧ D.nx σ H) ∨ ((Itk d o kvs).go i H ∧ ∃ N : St → Hp → Prop, (∀ σ' H', N σ' H' → ∃ m', m' < m ∧ W (i + 1) m' σ' H') ∧ ∀ v H', (Itk d o kvs).yld i H v H' → g v σ H' fun σ2 H2 => tb { D with nx := N, ct := N, bk := D.nx } σ2 H2) := by
 refine ⟨fun i m σ H => m = kvs.length - i ∧ i ≤ kvs.length ∧ Pv i σ H, ⟨kvs.length, by simp, Nat.zero_le _, h0⟩, ?_⟩
 rintro i m σ H ⟨rfl, hi, p⟩
 have q := hl i σ H p
 by_cases hlt : i < kvs.length
 . refine .inr ⟨⟨q, hlt⟩, Pv (i + 1), fun σ' H' p' => ⟨kvs.length - (i + 1), by omega, rfl, hlt, p'⟩, fun v H' y => ?_⟩
   obtain ⟨rfl, k, v', hk, rfl⟩ := y
   exact hs i k v' σ _ hk p
 . have e : i = kvs.length := by omega
   subst e
   exact .inl ⟨⟨q, Nat.le_refl _⟩, hd σ H p⟩
end L2
end
section
namespace L2
open PySem PySem.Spec PyProof.Rows LLS
def tabS (w : World) : List DictEntry -> List (Str × Int) -> Prop
 | [], [] => True
 | e :: es, (k, v) :: r => (∃ t, e.key = .str k t) ∧ e.hash = hashStr w k ∧ (∃ t, e.val = .int v t) ∧ tabS w es r
 | _, _ => False
structure TabS (w : World) (K : PySem.W.Frag) (a : Addr) (kvs : List (Str × Int)) : Prop where
 ex : ∃ es ep, K.lookup a = some ⟨.type "dict", none, .dict es ep, #[]⟩ ∧ tabS w es.toList kvs
 ns : (a == sysModules) = false
def lookS (kvs : List (Str × Int)) (k : Str) : Option Int := (kvs.find? fun p => decide (p.1 = k)).map (·.2)
theorem tabS_find {w : World} : ∀ {es : List DictEntry} {kvs : List (Str × Int)}, tabS w es kvs -> ∀ k : Str, (match lookS kvs k with | none => (es.find? fun e => Value.isStrOf k e.key).map (·.val) = none | some v => ∃ t, (es.find? fun e => Value.isStrOf k e.key).map (·.val) = some (.int v t))
 | [], [], _, _ => rfl
 | [], _ :: _, h, _ => h.elim
 | _ :: _, [], h, _ => h.elim
 | ⟨hs, ky, vl⟩ :: es, (k0, v0) :: r, h, k => by
   obtain ⟨⟨t, e1⟩, _, ⟨u, e2⟩, h4⟩ := h
   simp only at e1 e2
   subst e1 e2
   have ih := tabS_find h4 k
   by_cases e : k0 = k
   . subst e
     have z : lookS ((k0, v0) :: r) k0 = some v0 := by simp [lookS, List.find?_cons]
     rw [z]
     exact ⟨u, by simp [List.find?_cons, Value.isStrOf]⟩
   . have e1 : Value.isStrOf k (Value.str k0 t) = false := by simp [Value.isStrOf, e]
     have z : lookS ((k0, v0) :: r) k = lookS r k := by simp [lookS, List.find?_cons, e]
     rw [z]
     rw [List.find?_cons]
     simp only [e1]
     exact ih
theorem tabS_keys {w : World} : ∀ {es : List DictEntry} {kvs : List (Str × Int)}, tabS w es kvs -> ∀ e ∈ es, ∃ k, Value.isStrOf k e.key = true /\ e.hash = hashStr w k
 | [], _, _, e, he => by cases he
 | _ :: _, [], h, _, _ => h.elim
 | ⟨hs, ky, vl⟩ :: es, (k0, f) :: r, h, e, he => by
   obtain ⟨⟨t, e1⟩, h2, _, h4⟩ := h
   simp only at e1
   subst e1
   rcases List.mem_cons.mp he with rfl | he
   . exact ⟨k0, by simp [Value.isStrOf], h2⟩
   . exact tabS_keys h4 e he
theorem TabS.map {K : PySem.W.Frag} {h : Heap} {a : Addr} {kvs : List (Str × Int)} {P : Program} {w : World} (T : TabS w K a kvs) (KX : K.In h) : ∃ f, h.MapOf (PySem.strKind P w) a f /\ ∀ k, (match lookS kvs k with | none => f k = none | some v => ∃ t, f k = some (.int v t)) := by
 obtain ⟨es, ep, lk, tb⟩ := T.ex
 refine ⟨fun k => findBy Value.isStrOf es k, ⟨_, es, ep, KX a _ lk, ⟨rfl, rfl, rfl⟩, rfl, fun e he => ?_, fun k => rfl⟩, fun k => ?_⟩
 . exact tabS_keys tb e (by simpa using he)
 . have e := tabS_find tb k
   obtain ⟨l⟩ := es
   have z : findBy Value.isStrOf ⟨l⟩ k = (l.find? fun e => Value.isStrOf k e.key).map (·.val) := by
    unfold findBy
    rw [List.find?_toArray]
   cases g : lookS kvs k with
   | none => rw [g] at e; exact z.trans e
   | some v =>
     rw [g] at e
     obtain ⟨t, e⟩ := e
     exact ⟨t, z.trans e⟩
section
variable {X : Cx} {i : Expr} {ty : TE} {pos : Pos}
def tTabS (kvs : List (Str × Int)) (ty : TE) : TE := fun σ H Q => ty σ H fun y H1 => ∃ k v, y = .str k /\ lookS kvs k = some v /\ Q (.int v) H1
theorem pe_tabS {a : Addr} {kvs : List (Str × Int)} {x : Str} {p : Pos} (T : TabS X.w X.K a kvs) (hg : Gl X x) (hm : X.mg x = some (.ref a)) (hi : PE X i ty) (hs : NoSl i) (hd : (x == ("__debug__" : Str)) = false := by decide) : PE X (.Subscript (.Name x p) i pos) (tTabS kvs ty) := by
 intro pins s σ H Q I h
 refine subD_of PySem.F.slot_dict_getitem.lookup hs (thn (q14z (v := .ref a) hg hm rfl hd pins s σ H (fun v H1 => v = .ref a ∧ H1 = H) I ⟨rfl, rfl⟩) fun u s1 ⟨x', H1, I1, rx, e1, e2⟩ => ?_)
 subst e1
 subst e2
 cases rx
 refine thn (hi pins s1 σ H1 _ I1 h) fun iv s2 ⟨y, H2, I2, ry, k, v, ex, g, q2⟩ => ?_
 subst ex
 obtain ⟨tk, rfl⟩ := ry
 obtain ⟨f, mo, fl⟩ := T.map (P := X.prog) I2.kIn
 have fk := fl k
 rw [g] at fk
 obtain ⟨t, fk⟩ := fk
 obtain ⟨ob, es', ep, ho, hx, _⟩ := id mo
 refine ⟨⟨ob, ho, hx.1⟩, wpAny_getItem_of (k := k) (by simp [PySem.strKind, Value.isStrOf]) mo (v := .int v t) fk ⟨.int v, H2, I2.tok _, ⟨_, rfl⟩, q2⟩⟩
theorem pc_tabS {a : Addr} {kvs : List (Str × Int)} {x : Str} {p : Pos} (T : TabS X.w X.K a kvs) (hg : Gl X x) (hm : X.mg x = some (.ref a)) (hi : PE X i ty) (hd : (x == ("__debug__" : Str)) = false := by decide) :
 PC X .In i (.Name x p) (fun σ H Q => ty σ H fun y H1 => ∃ k, y = .str k ∧ Q (.bl (lookS kvs k).isSome) H1) := by
 intro pins s σ H Q I h
 refine thn (hi pins s σ H _ I h) fun iv s1 ⟨y, H1, I1, ry, k, ex, q1⟩ => ?_
 subst ex
 obtain ⟨tk, rfl⟩ := ry
 refine thn (q14z (v := .ref a) hg hm rfl hd pins s1 σ H1 (fun v H2 => v = .ref a ∧ H2 = H1) I1 ⟨rfl, rfl⟩) fun u s2 ⟨x', H2, I2, rx, e1, e2⟩ => ?_
 subst e1
 subst e2
 cases rx
 obtain ⟨f, mo, fl⟩ := T.map (P := X.prog) I2.kIn
 refine wpAny_in_of (k := k) (by simp [PySem.strKind, Value.isStrOf]) T.ns mo ?_
 have fk := fl k
 have e : (f k).isSome = (lookS kvs k).isSome := by
  cases g : lookS kvs k with
  | none => rw [g] at fk; rw [fk]; rfl
  | some v => rw [g] at fk; obtain ⟨t, fk⟩ := fk; rw [fk]; rfl
 rw [e]
 exact ⟨.bl _, H2, I2.tok _, rfl, q1⟩
end
end L2
end
section
namespace LLD
open PySem L2
def top (i : Nat) : Stmt := PySem.Challenge.pw_lostletter_s01_answers.main.body.getD i (.Pass ⟨0, 0, 0, 0⟩)
abbrev s_last_letters : Stmt := top 10
abbrev s_letter_at : Stmt := top 11
abbrev s_letters_of : Stmt := top 12
abbrev s_losing : Stmt := top 13
abbrev s_gaining : Stmt := top 14
abbrev s_lost : Stmt := top 15
abbrev s_gained : Stmt := top 16
abbrev s_runs : Stmt := top 17
abbrev s_common : Stmt := top 18
abbrev s_alike_by_losing : Stmt := top 19
abbrev s_alike_by_gaining : Stmt := top 20
abbrev s_weights : Stmt := top 21
abbrev s_told : Stmt := top 22
abbrev s_is_safe : Stmt := top 25
abbrev s_free_words : Stmt := top 26
abbrev s_mask_of : Stmt := top 27
abbrev s_near_masks : Stmt := top 28
abbrev s_most_within : Stmt := top 29
abbrev s_safe_with_most : Stmt := top 30
abbrev s_refusal_to_search : Stmt := top 31
abbrev s_changed_to : Stmt := top 34
abbrev s_alike_in_code : Stmt := top 35
abbrev s_with_word : Stmt := top 36
abbrev s_refusal_of : Stmt := top 37
abbrev s_add : Stmt := top 38
abbrev s_force : Stmt := top 39
abbrev s_drop : Stmt := top 40
abbrev s_take : Stmt := top 41
abbrev s_grow : Stmt := top 42
abbrev s_empty : Stmt := top 43
abbrev s_is_change : Stmt := top 45
abbrev s_answer_change : Stmt := top 46
abbrev s_tell_safe : Stmt := top 50
abbrev s_tell_most : Stmt := top 51
abbrev s_tell_may : Stmt := top 52
abbrev s_tell_code : Stmt := top 53
abbrev s_tell_write : Stmt := top 54
abbrev s_is_of_code : Stmt := top 56
abbrev s_answer_of_code : Stmt := top 57
abbrev s_tell_lost : Stmt := top 61
abbrev s_tell_gained : Stmt := top 62
abbrev s_tell_losing : Stmt := top 63
abbrev s_tell_gaining : Stmt := top 64
abbrev s_tell_runs : Stmt := top 65
abbrev s_tell_weight : Stmt := top 66
abbrev s_tell_class : Stmt := top 67
abbrev s_tell_largest : Stmt := top 68
abbrev s_tell_alike : Stmt := top 69
abbrev s_tell_common : Stmt := top 70
abbrev s_answer_look : Stmt := top 72
abbrev s_the_one_of : Stmt := top 74
abbrev s_before_losing : Stmt := top 75
abbrev s_before_gaining : Stmt := top 76
abbrev s_one_of_code : Stmt := top 77
abbrev s_one_of_class : Stmt := top 78
abbrev s_mend_lost : Stmt := top 79
abbrev s_mend_gained : Stmt := top 80
abbrev s_put_back : Stmt := top 81
abbrev s_take_out : Stmt := top 82
abbrev s_is_mend : Stmt := top 84
abbrev s_answer_mend : Stmt := top 85
abbrev s_History_init : Stmt := inClass (top 88) 0
abbrev s_History_change : Stmt := inClass (top 88) 1
abbrev s_History_take_back : Stmt := inClass (top 88) 2
abbrev s_History_do_again : Stmt := inClass (top 88) 3
abbrev s_can_start : Stmt := top 92
abbrev s_Session_init : Stmt := inClass (top 93) 0
abbrev s_Session_begin : Stmt := inClass (top 93) 1
abbrev s_Session_has_word : Stmt := inClass (top 93) 2
abbrev s_Session_has_class : Stmt := inClass (top 93) 3
abbrev s_Session_class_of : Stmt := inClass (top 93) 4
abbrev s_Session_words_of_class : Stmt := inClass (top 93) 5
abbrev s_undo : Stmt := top 95
abbrev s_again : Stmt := top 96
abbrev s_tell_state : Stmt := top 97
abbrev s_is_step : Stmt := top 99
abbrev s_answer_step : Stmt := top 100
abbrev s_start : Stmt := top 105
abbrev s_words_are_there : Stmt := top 106
abbrev s_answer_call : Stmt := top 107
abbrev s_answers : Stmt := top 108
end LLD
end
section
namespace LLD
open PySem PySem.Spec PyProof.Rows L2 LLS
open Km469 (rising lost gained alike alikeG act Desk weight safe)
theorem sc_by {N ps : List Str} {sc : Scope} (h1 : sc.kind = .function) (h : (!sc.isCoroutine && (!sc.isGenerator && (decide N.Nodup && (decide (N.take ps.length = ps) && ((ps.all fun x => decide (sc.names.lookup x = some .local) || decide (sc.names.lookup x = some .cell)) && sc.names.all fun y => decide (y.2 ≠ .free)))))) = true) : FnScope N ps sc := by
 simp only [Bool.and_eq_true, Bool.not_eq_true', decide_eq_true_eq, List.all_eq_true, Bool.or_eq_true] at h
 exact ⟨h1, h.1, h.2.1, h.2.2.1, h.2.2.2.1, h.2.2.2.2.1, h.2.2.2.2.2⟩
theorem sz1 : 1 ≤ sizeLine := by decide
variable {P : Program} {w : World} {K : PySem.W.Frag} {mg : Str → Option Value} {base : Heap}
def Def (P : Program) (w : World) (K : W.Frag) (mg : Str -> Option Value) (base : Heap) (x : Str) (k : Nat) (ps : List Str) (sp : Sp) : Prop :=
 ∃ f fd, FnOk P w K mg base CX0 k f fd ps sp ∧ mg x = some (.ref f) ∧ W.keepIn K (.ref f) = true ∧ Binds K fd ps []
def tCallD (sp : Sp) (t : TA) : TE := fun σ H Q => t σ H fun vs H1 => sp vs H1 Q E0
theorem q6z {X : Cx} {x : Str} {k : Nat} {ps : List Str} {sp : Sp} {e : Expr} {es : List Expr} {t : TA} {p pos : Pos} (D : Def X.prog X.w X.K X.mg X.base x k ps sp) (hr : Room k X.A) (hg : Gl X x) (ha : PA X (e :: es) t) (hx : Passes CX0 X E0 := pass0)
 (hdb : (x == ("__debug__" : Str)) = false := by decide) (he : starEach (e :: es) X.env = (false, eval e X.env) :: starEach es X.env := by rfl) (hpl : (backTo pos (starEach es X.env)).any (·.1) = false := by rfl) :
 PE X (.Call (.Name x p) (e :: es) [] pos) (tCallD sp t) := by
 obtain ⟨f, fd, F, hm, hk, hb⟩ := D
 have h := pe_call (E := E0) (dvs := []) (ds := []) (p := p) (pos := pos) F hr hg hm hk hb .nil hx ha hdb he hpl
 have e : tCallD sp t = tCall sp [] E0 t := by
  funext σ H Q
  unfold tCallD tCall
  simp only [List.append_nil]
 rw [e]
 exact h
structure Own (mg : Str -> Option Value) : Prop where
 len : mg "len" = none
 range : mg "range" = none
 sorted : mg "sorted" = none
 set : mg "set" = none
 tuple : mg "tuple" = none
 list : mg "list" = none
 all : mg "all" = none
 max : mg "max" = none
section
variable {P : Program} {w : World} {K : W.Frag} {mg : Str → Option Value} {base : Heap}
abbrev vi (n : Nat) : V := .int (n : Int)
theorem cast_pow (k : Nat) : ((2 : Int) ^ k) = ((2 ^ k : Nat) : Int) := by
 rw [Int.natCast_pow]
 rfl
theorem nat_div (x k : Nat) : ((x : Int) / 2 ^ k) = ((x / 2 ^ k : Nat) : Int) := by
 rw [cast_pow, ← Int.natCast_ediv]
theorem nat_mul (x k : Nat) : ((x : Int) * 2 ^ k) = ((x * 2 ^ k : Nat) : Int) := by
 rw [cast_pow, ← Int.natCast_mul]
def rN (C : Nat -> Nat -> Prop) (g : Nat -> Nat -> Nat) : R2 := fun x y H Q => ∃ a b, x = vi a /\ y = vi b /\ C a b /\ Q (vi (g a b)) H
section
variable {X : Cx}
theorem op_addN : OpR X (binaryOp .Add) (rN (fun _ _ => True) fun a b => a + b) := by
 rintro pins s σ H x y v u Q I rx ry ⟨a, b, rfl, rfl, _, q⟩
 exact op_add pins s σ H _ _ v u Q I rx ry ⟨_, _, rfl, rfl, by dsimp only; rw [← Int.natCast_add]; exact q⟩
theorem op_subN : OpR X (binaryOp .Sub) (rN (fun a b => b ≤ a) fun a b => a - b) := by
 rintro pins s σ H x y v u Q I rx ry ⟨a, b, rfl, rfl, h, q⟩
 have h' : b ≤ a := h
 exact op_sub pins s σ H _ _ v u Q I rx ry ⟨_, _, rfl, rfl, by dsimp only; rw [← Int.natCast_sub h']; exact q⟩
theorem op_modN' : OpR X (binaryOp .Mod) (rN (fun _ b => 0 < b) fun a b => a % b) := by
 rintro pins s σ H x y v u Q I rx ry ⟨a, b, rfl, rfl, h, q⟩
 have h' : 0 < b := h
 exact op_mod pins s σ H _ _ v u Q I rx ry ⟨_, _, rfl, rfl, by show (0 : Int) < b; omega, by dsimp only; rw [← Int.natCast_emod]; exact q⟩
theorem op_shlN : OpR X (binaryOp .LShift) (rN (fun a b => b ≤ 1000000 /\ a < 2 ^ 64) fun a b => a * 2 ^ b) := by
 rintro pins s σ H x y v u Q I rx ry ⟨a, b, rfl, rfl, ⟨h1, h2⟩, q⟩
 exact op_shl pins s σ H _ _ v u Q I rx ry ⟨_, _, rfl, rfl, ⟨by omega, by omega, by rw [Int.natAbs_natCast]; exact h2⟩, by dsimp only; rw [Int.toNat_natCast, nat_mul]; exact q⟩
theorem op_shrN : OpR X (binaryOp .RShift) (rN (fun _ _ => True) fun a b => a / 2 ^ b) := by
 rintro pins s σ H x y v u Q I rx ry ⟨a, b, rfl, rfl, _, q⟩
 exact op_shr pins s σ H _ _ v u Q I rx ry ⟨_, _, rfl, rfl, by show (0 : Int) ≤ b; omega, by dsimp only; rw [Int.toNat_natCast, nat_div]; exact q⟩
theorem op_andN : OpR X (binaryOp .BitAnd) (rN (fun _ _ => True) fun a b => a &&& b) := by
 rintro pins s σ H x y v u Q I rx ry ⟨a, b, rfl, rfl, _, q⟩
 exact op_and pins s σ H _ _ v u Q I rx ry ⟨_, _, rfl, rfl, by dsimp only; rw [bitAnd_pp (by omega) (by omega), Int.toNat_natCast, Int.toNat_natCast]; exact q⟩
theorem op_orN : OpR X (binaryOp .BitOr) (rN (fun _ _ => True) fun a b => a ||| b) := by
 rintro pins s σ H x y v u Q I rx ry ⟨a, b, rfl, rfl, _, q⟩
 exact op_or pins s σ H _ _ v u Q I rx ry ⟨_, _, rfl, rfl, by dsimp only; rw [Bits.bitOr_pp (by omega) (by omega), Int.toNat_natCast, Int.toNat_natCast]; exact q⟩
theorem op_xorN : OpR X (binaryOp .BitXor) (rN (fun _ _ => True) fun a b => a ^^^ b) := by
 rintro pins s σ H x y v u Q I rx ry ⟨a, b, rfl, rfl, _, q⟩
 exact op_xor pins s σ H _ _ v u Q I rx ry ⟨_, _, rfl, rfl, by dsimp only; rw [Bits.bitXor_pp (by omega) (by omega), Int.toNat_natCast, Int.toNat_natCast]; exact q⟩
theorem op_andNot : OpR X (binaryOp .BitAnd) (fun x y H Q => ∃ a b : Nat, x = vi a /\ y = .int (Builtin.bitNot b) /\ Q (vi (a - (a &&& b))) H) := by
 rintro pins s σ H x y v u Q I rx ry ⟨a, b, rfl, rfl, q⟩
 refine op_and pins s σ H _ _ v u Q I rx ry ⟨_, _, rfl, rfl, ?_⟩
 have e : Builtin.bitAnd (a : Int) (Builtin.bitNot b) = ((a - (a &&& b) : Nat) : Int) := by
  have h1 : Builtin.bitNot (Builtin.bitNot (b : Int)) = b := by unfold Builtin.bitNot; omega
  rw [bitAnd_pn (by omega) (by unfold Builtin.bitNot; omega), h1, Int.toNat_natCast, Int.toNat_natCast]
  have h2 : a &&& b ≤ a := Nat.and_le_left
  omega
 dsimp only
 rw [e]
 exact q
end
theorem or_nat {a c k : Nat} (h : c < 2 ^ k) : (a * 2 ^ k ||| c) = a * 2 ^ k + c := by
 have e := Bits.bitOr_join' (a := (c : Int)) (b := (a : Int)) (k := k) (by omega) (by rw [cast_pow]; omega) (by omega)
 rw [nat_mul, Bits.bitOr_pp (by omega) (by omega), Int.toNat_natCast, Int.toNat_natCast] at e
 omega
theorem and_mask (x k : Nat) : x &&& (1 * 2 ^ k - 1) = x % 2 ^ k := by rw [Nat.one_mul, Nat.and_two_pow_sub_one_eq_mod]
def sp_last : Sp := fun vs H Q _ => ∃ (x k : Nat), vs = [vi x, vi k] /\ k ≤ 1000 /\ Q (vi (x % 2 ^ k)) H
theorem sc_last : FnScope ["word", "many"] ["word", "many"] (defScope s_last_letters) := sc_by rfl (by decide +kernel)
theorem ok_last {f : Addr} {fd : FuncData} (F : Fun K "last_letters" "last_letters" s_last_letters f fd) : FnOk P w K mg base CX0 1 f fd ["word", "many"] sp_last := by
 refine F.ok sc_last (fun _ _ _ _ h => ?_) (fun _ _ _ _ H vs Q E hr h => ?_)
 . obtain ⟨x, k, rfl, _⟩ := h
   rfl
 . obtain ⟨x, k, rfl, hk, q⟩ := h
   refine ⟨_, q4z (q8z (pe_op op_andN (pv 0) (pe_op op_subN (pe_op op_shlN q10z (pv 1)) q10z))), ?_⟩
   refine ⟨_, rfl, _, rfl, 1, k, rfl, rfl, ⟨by omega, by decide⟩, _, 1, rfl, rfl, (by show 1 ≤ 1 * 2 ^ k; have := Nat.two_pow_pos k; omega), _, _, rfl, rfl, trivial, ?_⟩
   show Q (vi (x &&& (1 * 2 ^ k - 1))) H
   rw [and_mask]
   exact q
def sp_letter : Sp := fun vs H Q _ => ∃ (x n i : Nat), vs = [vi x, vi n, vi i] /\ i < n /\ Q (vi (LL.bitN x (n - 1 - i))) H
theorem sc_letter : FnScope ["word", "n", "place"] ["word", "n", "place"] (defScope s_letter_at) := sc_by rfl (by decide +kernel)
theorem ok_letter {f : Addr} {fd : FuncData} (F : Fun K "letter_at" "letter_at" s_letter_at f fd) : FnOk P w K mg base CX0 1 f fd ["word", "n", "place"] sp_letter := by
 refine F.ok sc_letter (fun _ _ _ _ h => ?_) (fun _ _ _ _ H vs Q E hr h => ?_)
 . obtain ⟨x, n, i, rfl, _⟩ := h
   rfl
 . obtain ⟨x, n, i, rfl, hi, q⟩ := h
   refine ⟨_, q4z (q8z (pe_op op_andN (pe_op op_shrN (pv 0) (pe_op op_subN (pe_op op_subN (pv 1) q10z) (pv 2))) q10z)), ?_⟩
   refine ⟨_, rfl, _, rfl, n, 1, rfl, rfl, (by show 1 ≤ n; omega), _, rfl, n - 1, i, rfl, rfl, (by show i ≤ n - 1; omega), x, n - 1 - i, rfl, rfl, trivial, _, 1, rfl, rfl, trivial, ?_⟩
   show Q (vi (x / 2 ^ (n - 1 - i) &&& 1)) H
   rw [Nat.and_one_is_mod]
   exact q
def sp_losing : Sp := fun vs H Q _ => ∃ (x n i : Nat), vs = [vi x, vi n, vi i] /\ i < n /\ n ≤ 20 /\ x < 2 ^ 60 /\ Q (vi (LL.losN n x i)) H
theorem sc_losing : FnScope ["word", "n", "place", "behind", "ahead"] ["word", "n", "place"] (defScope s_losing) := sc_by rfl (by decide +kernel)
theorem ok_losing {f : Addr} {fd : FuncData} (F : Fun K "losing" "losing" s_losing f fd) (DL : Def P w K mg base "last_letters" 1 ["word", "many"] sp_last) : FnOk P w K mg base CX0 2 f fd ["word", "n", "place"] sp_losing := by
 refine F.ok sc_losing (fun _ _ _ _ h => ?_) (fun _ _ _ _ H vs Q E hr h => ?_)
 . obtain ⟨x, n, i, rfl, _⟩ := h
   rfl
 . obtain ⟨x, n, i, rfl, hi, hn, hx, q⟩ := h
   refine ⟨_, q3z (q12z (i := 3) sc_losing.nd rfl (Or.inl rfl) (pe_op op_subN (pe_op op_subN (pv 1) q10z) (pv 2)))
    (q3z (q12z (i := 4) sc_losing.nd rfl (Or.inl rfl) (pe_op op_shrN (pv 0) (pe_op op_addN (pv 3) q10z)))
    (q4z (q8z (pe_op op_orN (pe_op op_shlN (pv 4) (pv 3)) (q6z DL hr rfl (q0z (pv 0) (q0z (pv 3) q2z))))))), ?_⟩
   have hd : x / 2 ^ (n - 1 - i + 1) < 2 ^ 64 := Nat.lt_of_le_of_lt (Nat.div_le_self _ _) (by omega)
   refine ⟨_, rfl, n, 1, rfl, rfl, (by show 1 ≤ n; omega), _, rfl, n - 1, i, rfl, rfl, (by show i ≤ n - 1; omega), ?_⟩
   refine ⟨_, rfl, _, rfl, n - 1 - i, 1, rfl, rfl, trivial, x, n - 1 - i + 1, rfl, rfl, trivial, ?_⟩
   refine ⟨_, rfl, _, rfl, x / 2 ^ (n - 1 - i + 1), n - 1 - i, rfl, rfl, ⟨by omega, hd⟩, _, rfl, _, rfl, x, n - 1 - i, rfl, by omega, _, _, rfl, rfl, trivial, ?_⟩
   show Q (vi (x / 2 ^ (n - 1 - i + 1) * 2 ^ (n - 1 - i) ||| x % 2 ^ (n - 1 - i))) H
   have e : n - 1 - i + 1 = n - i := by omega
   rw [or_nat (Nat.mod_lt _ (Nat.two_pow_pos _)), e]
   exact q
def sp_gaining : Sp := fun vs H Q _ => ∃ (x n i c : Nat), vs = [vi x, vi n, vi i, vi c] /\ i ≤ n /\ n ≤ 20 /\ x < 2 ^ 60 /\ c ≤ 1 /\ Q (vi (LL.gaiN n x i c)) H
theorem sc_gaining : FnScope ["word", "n", "place", "letter", "behind", "ahead"] ["word", "n", "place", "letter"] (defScope s_gaining) := sc_by rfl (by decide +kernel)
theorem ok_gaining {f : Addr} {fd : FuncData} (F : Fun K "gaining" "gaining" s_gaining f fd) (DL : Def P w K mg base "last_letters" 1 ["word", "many"] sp_last) : FnOk P w K mg base CX0 2 f fd ["word", "n", "place", "letter"] sp_gaining := by
 refine F.ok sc_gaining (fun _ _ _ _ h => ?_) (fun _ _ _ _ H vs Q E hr h => ?_)
 . obtain ⟨x, n, i, c, rfl, _⟩ := h
   rfl
 . obtain ⟨x, n, i, c, rfl, hi, hn, hx, hc, q⟩ := h
   refine ⟨_, q3z (q12z (i := 4) sc_gaining.nd rfl (Or.inl rfl) (pe_op op_subN (pv 1) (pv 2)))
    (q3z (q12z (i := 5) sc_gaining.nd rfl (Or.inl rfl) (pe_op op_shrN (pv 0) (pv 4)))
    (q4z (q8z (pe_op op_orN (pe_op op_shlN (pe_op op_orN (pe_op op_shlN (pv 5) q10z) (pv 3)) (pv 4)) (q6z DL hr rfl (q0z (pv 0) (q0z (pv 4) q2z))))))), ?_⟩
   have hd : x / 2 ^ (n - i) < 2 ^ 60 := Nat.lt_of_le_of_lt (Nat.div_le_self _ _) hx
   have e1 : (x / 2 ^ (n - i) * 2 ^ 1 ||| c) = x / 2 ^ (n - i) * 2 + c := or_nat (by omega)
   refine ⟨_, rfl, _, rfl, n, i, rfl, rfl, hi, ?_⟩
   refine ⟨_, rfl, _, rfl, x, n - i, rfl, rfl, trivial, ?_⟩
   refine ⟨_, rfl, x / 2 ^ (n - i), 1, rfl, rfl, ⟨by decide, by omega⟩, _, rfl, _, c, rfl, rfl, trivial, _, rfl, x / 2 ^ (n - i) * 2 ^ 1 ||| c, n - i, rfl, rfl, ⟨by omega, by rw [e1]; omega⟩, _, rfl, _, rfl, x, n - i, rfl, by omega, _, _, rfl, rfl, trivial, ?_⟩
   show Q (vi ((x / 2 ^ (n - i) * 2 ^ 1 ||| c) * 2 ^ (n - i) ||| x % 2 ^ (n - i))) H
   rw [or_nat (Nat.mod_lt _ (Nat.two_pow_pos _)), e1]
   exact q
end
theorem lc_range0 {n : Nat} {g : TG} {tt : TT} {te : TE} {vs : List Nat} {σ : L2.St} {H1 : Hp} {D : Addr} {Qd : Hp -> Prop} (Pv : Nat -> Hp -> Prop) (h0 : Pv 0 (upd H1 D (.lst [])))
 (hs : ∀ i H, i < n → Pv i H → g (vi i) (wipe σ vs) H fun σ2 H2 => wipe σ2 vs = wipe σ vs ∧ tt σ2 H2 fun b H3 =>
  if b = true then te σ2 H3 fun y H4 => ∃ acc, H4 D = some (.lst acc) ∧ acc.length < sizeLine ∧ Pv (i + 1) (upd H4 D (.lst (acc ++ [y]))) else Pv (i + 1) H3) (hd : ∀ H, Pv n H → Qd H) :
 ∃ W : Nat → Nat → Hp → Prop, (∃ m, W 0 m (upd H1 D (.lst []))) ∧ ∀ i m H, W i m H →
  ((Itr 0 n).stop i H ∧ Qd H) ∨ ((Itr 0 n).go i H ∧ ∃ Nx : Hp → Prop, (∀ H', Nx H' → ∃ m', m' < m ∧ W (i + 1) m' H') ∧ ∀ x H', (Itr 0 n).yld i H x H' → g x (wipe σ vs) H' fun σ2 H2 => wipe σ2 vs = wipe σ vs ∧ tt σ2 H2 fun b H3 =>
    if b = true then te σ2 H3 fun y H4 => ∃ acc, H4 D = some (.lst acc) ∧ acc.length < sizeLine ∧ Nx (upd H4 D (.lst (acc ++ [y]))) else Nx H3) :=
 lc_range (lo := 0) Pv h0 (fun i H hi hp => by rw [Int.zero_add]; exact hs i H hi hp) hd
abbrev up (l : List Nat) : List Int := l.map fun x : Nat => ((x : Nat) : Int)
theorem sorted_up {ns ks : List Int} {l r : List Nat} (pm : ns.Perm ks) (pw : ns.Pairwise (· ≤ ·)) (nd : ks.Nodup) (mem : ∀ z, z ∈ ks ↔ z ∈ up l) (hr : LL.Up r) (hm : ∀ x, x ∈ r ↔ x ∈ l) : ns = up r := by
 have nn : ∀ z ∈ ns, 0 ≤ z := fun z hz => by
  obtain ⟨x, _, e⟩ := List.mem_map.mp ((mem z).mp (pm.mem_iff.mp hz))
  omega
 have nd2 : ns.Nodup := pm.symm.nodup nd
 have lt : ns.Pairwise (· < ·) := by
  have h := List.Pairwise.and pw nd2
  exact h.imp fun {a b} hab => by obtain ⟨h1, h2⟩ := hab; omega
 have e1 : up (ns.map Int.toNat) = ns := by
  unfold up
  rw [List.map_map]
  conv => rhs; rw [← List.map_id ns]
  apply List.map_congr_left
  intro z hz
  have := nn z hz
  show ((z.toNat : Nat) : Int) = z
  omega
 have e2 : ns.map Int.toNat = r := by
  refine LL.up_ext ?_ hr fun x => ?_
  . rw [LL.Up, List.pairwise_map]
    refine List.Pairwise.imp_of_mem ?_ lt
    intro a b ha hb hab
    have := nn a ha
    omega
  . rw [hm, List.mem_map]
    constructor
    . rintro ⟨z, hz, e⟩
      obtain ⟨y, hy, e'⟩ := List.mem_map.mp ((mem z).mp (pm.mem_iff.mp hz))
      have : y = x := by omega
      rw [← this]
      exact hy
    . intro hx
      exact ⟨(x : Int), pm.mem_iff.mpr ((mem _).mpr (List.mem_map.mpr ⟨x, hx, rfl⟩)), by omega⟩
 rw [← e1, e2]
abbrev vis (l : List Nat) : List V := l.map vi
theorem vis_up (l : List Nat) : (up l).map V.int = vis l := by
 unfold up vis
 rw [List.map_map]
 rfl
theorem vis_snoc (l : List Nat) (x : Nat) : vis (l ++ [x]) = vis l ++ [vi x] := by
 unfold vis
 rw [List.map_append]
 rfl
theorem vis_range (f : Nat -> Nat) (i : Nat) : vis ((List.range (i + 1)).map f) = vis ((List.range i).map f) ++ [vi (f i)] := by
 rw [← vis_snoc, List.range_succ, List.map_append]
 rfl
theorem q9z (l : List Nat) : (vis l).length = l.length := by simp [vis]
theorem sU {H H' : Hp} {p : Addr} {o : HO} (h : Same H H') (hp : H' p = none) : Same H (upd H' p o) := fun b u e => by
 rw [q5z (q7z (h b u e) hp)]
 exact h b u e
variable {P : Program} {w : World} {K : W.Frag} {mg : Str → Option Value} {base : Heap}
def sp_lost : Sp := fun vs H Q _ => ∃ (x n : Nat), vs = [vi x, vi n] /\ 1 ≤ n /\ n ≤ 12 /\ x < 2 ^ n /\ ∀ H' p, Same H H' -> H p = none -> H' p = some (.lst (vis (rising (lost n x)))) -> Q (.ref p) H'
theorem sc_lost : FnScope ["word", "n", "place"] ["word", "n"] (defScope s_lost) := sc_by rfl (by decide +kernel)
theorem ok_lost {f : Addr} {fd : FuncData} (F : Fun K "lost" "lost" s_lost f fd) (O : Own mg) (DL : Def P w K mg base "losing" 2 ["word", "n", "place"] sp_losing) : FnOk P w K mg base CX0 3 f fd ["word", "n"] sp_lost := by
 refine F.ok sc_lost (fun _ _ _ _ h => ?_) (fun _ _ _ _ H vs Q E hr h => ?_)
 . obtain ⟨x, n, rfl, _⟩ := h
   rfl
 . obtain ⟨x, n, rfl, h1, h2, hx, q⟩ := h
   have hx60 : x < 2 ^ 60 := Nat.lt_of_lt_of_le hx (Nat.pow_le_pow_right (by decide) (by omega))
   refine ⟨_, q4z (q8z (q16z (cr_sortedG hr.hd) (by rfl) O.sorted (by rfl) (q0z (pe_callTy (cr_set hr.hd) (by rfl) O.set (by rfl) (q0z
    (pe_lc (own := [("place", 2)]) rfl sc_lost.nd (pi_range1 rfl O.range (q0z (pv 1) q2z)) (blkOk_by (by show blkC ["word", "n", "place"] (defScope s_lost) _ _ = true; decide +kernel)) (fun _ _ _ _ _ => pg_name (i := 2) sc_lost.nd rfl (Or.inl rfl)) (fun _ _ _ _ _ => pts_nil)
     (fun _ _ _ _ _ => q6z DL hr rfl (q0z (pv 0) (q0z (pv 1) (q0z (pv 2) q2z)))))
    q2z)) q2z))), ?_⟩
   refine ⟨_, rfl, (n : Int), rfl, by omega, by omega, fun D hD => lc_range0 (n := n) (fun i H' => H' = upd H D (.lst (vis ((List.range i).map fun k => LL.losN n x k)))) rfl ?_ ?_⟩
   . rintro i H' hi rfl
     refine ⟨rfl, _, rfl, _, rfl, _, rfl, x, n, i, rfl, hi, by omega, hx60, _, q1z, ?_, ?_⟩
     . rw [q9z, List.length_map, List.length_range]
       exact small1000 (by omega)
     . rw [upd_upd, vis_range]
   . rintro H' rfl
     refine ⟨D, up ((List.range n).map fun k => LL.losN n x k), rfl, by rw [vis_up]; exact SqL.of q1z, by simp; omega, fun p ks hp mem nd len => ?_⟩
     have lk : ks.length < 64 := by
      simp at len
      omega
     refine ⟨p, ks, rfl, q1z, lk, fun p2 ns hp2 pm pw => ?_⟩
     have e : ns = up (rising (lost n x)) := sorted_up pm pw nd mem (LL.up_rising _) fun z => by
      rw [LL.mem_rising, LL.mem_lost hx, List.mem_map]
      constructor
      . rintro ⟨i, a, b⟩; exact ⟨i, List.mem_range.mpr a, b⟩
      . rintro ⟨i, a, b⟩; exact ⟨i, List.mem_range.mp a, b⟩
     rw [e, vis_up]
     exact q _ p2 (sU (sU (sU (Same.refl H) hD) hp) hp2) (Same.free (sU (sU (Same.refl H) hD) hp) hp2) q1z
theorem for_range0 {lo : Int} {l0 : Nat} (hlo : lo = (l0 : Int)) {n : Nat} {g : TG} {tb : TS} {D : Ends} {σ : L2.St} {H : Hp} (Pv : Nat -> L2.St -> Hp -> Prop) (h0 : Pv 0 σ H)
 (hs : ∀ i σ H, i < n → Pv i σ H → g (vi (l0 + i)) σ H fun σ2 H2 => tb { D with nx := Pv (i + 1), ct := Pv (i + 1), bk := D.nx } σ2 H2) (hd : ∀ σ H, Pv n σ H → D.nx σ H) :
 ∃ W : Nat → Nat → L2.St → Hp → Prop, (∃ m, W 0 m σ H) ∧ ∀ i m σ H, W i m σ H →
  ((Itr lo n).stop i H ∧ D.nx σ H) ∨ ((Itr lo n).go i H ∧ ∃ N : L2.St → Hp → Prop, (∀ σ' H', N σ' H' → ∃ m', m' < m ∧ W (i + 1) m' σ' H') ∧ ∀ x H', (Itr lo n).yld i H x H' → g x σ H' fun σ2 H2 => tb { D with nx := N, ct := N, bk := D.nx } σ2 H2) :=
 for_range Pv h0 (fun i σ H hi hp => by rw [hlo, ← Int.natCast_add]; exact hs i σ H hi hp) hd
theorem lc_rangeG {lo : Int} {l0 c n : Nat} (hlo : lo = (l0 : Int)) (hc : c = n) {g : TG} {tt : TT} {te : TE} {vs : List Nat} {σ : L2.St} {H1 : Hp} {D : Addr} {Qd : Hp -> Prop} (Pv : Nat -> Hp -> Prop) (h0 : Pv 0 (upd H1 D (.lst [])))
 (hs : ∀ i H, i < n → Pv i H → g (vi (l0 + i)) (wipe σ vs) H fun σ2 H2 => wipe σ2 vs = wipe σ vs ∧ tt σ2 H2 fun b H3 =>
  if b = true then te σ2 H3 fun y H4 => ∃ acc, H4 D = some (.lst acc) ∧ acc.length < sizeLine ∧ Pv (i + 1) (upd H4 D (.lst (acc ++ [y]))) else Pv (i + 1) H3) (hd : ∀ H, Pv n H → Qd H) :
 ∃ W : Nat → Nat → Hp → Prop, (∃ m, W 0 m (upd H1 D (.lst []))) ∧ ∀ i m H, W i m H →
  ((Itr lo c).stop i H ∧ Qd H) ∨ ((Itr lo c).go i H ∧ ∃ Nx : Hp → Prop, (∀ H', Nx H' → ∃ m', m' < m ∧ W (i + 1) m' H') ∧ ∀ x H', (Itr lo c).yld i H x H' → g x (wipe σ vs) H' fun σ2 H2 => wipe σ2 vs = wipe σ vs ∧ tt σ2 H2 fun b H3 =>
    if b = true then te σ2 H3 fun y H4 => ∃ acc, H4 D = some (.lst acc) ∧ acc.length < sizeLine ∧ Nx (upd H4 D (.lst (acc ++ [y]))) else Nx H3) := by
 subst hc
 exact lc_range Pv h0 (fun i H hi hp => by rw [hlo, ← Int.natCast_add]; exact hs i H hi hp) hd
theorem range'_filter_snoc (p : Nat -> Bool) (s i : Nat) : (List.range' s (i + 1)).filter p = (List.range' s i).filter p ++ (if p (s + i) = true then [s + i] else []) := by
 rw [List.range'_concat, List.filter_append, Nat.one_mul, List.filter_cons, List.filter_nil]
theorem vi_ne (a b : Nat) : (!decide (vi a = vi b)) = decide (a ≠ b) := by
 by_cases h : a = b
 . subst h; simp
 . have : ¬ vi a = vi b := fun q => h (by injection q with e; omega)
   simp [h, this]
theorem vis_append (a b : List Nat) : vis (a ++ b) = vis a ++ vis b := by simp [vis]
variable {P : Program} {w : World} {K : W.Frag} {mg : Str → Option Value} {base : Heap}
def sp_gained : Sp := fun vs H Q _ => ∃ (x n : Nat), vs = [vi x, vi n] /\ n ≤ 12 /\ x < 2 ^ n /\ ∀ H' p, Same H H' -> H p = none -> H' p = some (.lst (vis (rising (gained n x)))) -> Q (.ref p) H'
theorem sc_gained : FnScope ["word", "n", "by_zero", "by_one", "place"] ["word", "n"] (defScope s_gained) := sc_by rfl (by decide +kernel)
theorem ok_gained {f : Addr} {fd : FuncData} (F : Fun K "gained" "gained" s_gained f fd) (O : Own mg) (DG : Def P w K mg base "gaining" 2 ["word", "n", "place", "letter"] sp_gaining) : FnOk P w K mg base CX0 3 f fd ["word", "n"] sp_gained := by
 refine F.ok sc_gained (fun _ _ _ _ h => ?_) (fun _ _ _ _ H vs Q E hr h => ?_)
 . obtain ⟨x, n, rfl, _⟩ := h
   rfl
 . obtain ⟨x, n, rfl, h2, hx, q⟩ := h
   have hx60 : x < 2 ^ 60 := Nat.lt_of_lt_of_le hx (Nat.pow_le_pow_right (by decide) (by omega))
   refine ⟨_, q3z (ps_setLc (i := 2) (own := [("place", 4)]) rfl sc_gained.nd rfl rfl (sw_true rfl rfl rfl rfl) (pi_range1 rfl O.range (q0z (pe_op op_addN (pv 1) q10z) q2z))
    (blkOk_by (by show blkC ["word", "n", "by_zero", "by_one", "place"] (defScope s_gained) _ _ = true; decide +kernel)) (fun _ _ _ _ _ => pg_name (i := 4) sc_gained.nd rfl (Or.inl rfl)) (fun _ _ _ _ _ => pts_nil)
    (fun _ _ _ _ _ => q6z DG hr rfl (q0z (pv 0) (q0z (pv 1) (q0z (pv 4) (q0z q10z q2z))))))
    (q3z (ps_setLc (i := 3) (own := [("place", 4)]) rfl sc_gained.nd rfl rfl (sw_true rfl rfl rfl rfl) (pi_range1 rfl O.range (q0z (pe_op op_addN (pv 1) q10z) q2z))
     (blkOk_by (by show blkC ["word", "n", "by_zero", "by_one", "place"] (defScope s_gained) _ _ = true; decide +kernel)) (fun _ _ _ _ _ => pg_name (i := 4) sc_gained.nd rfl (Or.inl rfl)) (fun _ _ _ _ _ => pts_nil)
     (fun _ _ _ _ _ => q6z DG hr rfl (q0z (pv 0) (q0z (pv 1) (q0z (pv 4) (q0z q10z q2z))))))
    (q4z (q8z (q16z (cr_sortedG hr.hd) (by rfl) O.sorted (by rfl) (q0z (pe_callTy (cr_set hr.hd) (by rfl) O.set (by rfl) (q0z (pe_op op_cat (pv 2) (pv 3)) q2z)) q2z))))), ?_⟩
   refine ⟨_, rfl, n, 1, rfl, rfl, trivial, ((n + 1 : Nat) : Int), rfl, by omega, by omega, fun D hD => lc_range0 (n := n + 1) (fun i H' => H' = upd H D (.lst (vis ((List.range i).map fun k => LL.gaiN n x k 0)))) rfl ?_ ?_⟩
   . rintro i H' hi rfl
     refine ⟨rfl, _, rfl, _, rfl, _, rfl, x, n, i, 0, rfl, by omega, by omega, hx60, by omega, _, q1z, ?_, ?_⟩
     . rw [q9z, List.length_map, List.length_range]
       exact small1000 (by omega)
     . rw [upd_upd, vis_range]
   . rintro H1 rfl
     have s1 : Same H (upd H D (.lst (vis ((List.range (n + 1)).map fun k => LL.gaiN n x k 0)))) := sU (Same.refl H) hD
     have hD1 : upd H D (.lst (vis ((List.range (n + 1)).map fun k => LL.gaiN n x k 0))) D = some (.lst (vis ((List.range (n + 1)).map fun k => LL.gaiN n x k 0))) := q1z
     generalize upd H D (.lst (vis ((List.range (n + 1)).map fun k => LL.gaiN n x k 0))) = H1 at s1 hD1 ⊢
     refine ⟨_, rfl, n, 1, rfl, rfl, trivial, ((n + 1 : Nat) : Int), rfl, by omega, by omega, fun D2 hD2 => lc_range0 (n := n + 1) (fun i H' => H' = upd H1 D2 (.lst (vis ((List.range i).map fun k => LL.gaiN n x k 1)))) rfl ?_ ?_⟩
     . rintro i H' hi rfl
       refine ⟨rfl, _, rfl, _, rfl, _, rfl, x, n, i, 1, rfl, by omega, by omega, hx60, by omega, _, q1z, ?_, ?_⟩
       . rw [q9z, List.length_map, List.length_range]
         exact small1000 (by omega)
       . rw [upd_upd, vis_range]
     . rintro H' rfl
       refine ⟨_, rfl, _, rfl, D, D2, _, _, rfl, rfl, (by rw [q5z (q7z hD1 hD2)]; exact hD1), q1z, ?_, fun p0 hp0 => ?_⟩
       . rw [q9z, q9z, List.length_map, List.length_map, List.length_range]
         exact Nat.le_of_lt (small1000 (by omega))
       refine ⟨p0, up ((List.range (n + 1)).map (fun k => LL.gaiN n x k 0) ++ (List.range (n + 1)).map fun k => LL.gaiN n x k 1), rfl, ?_, by simp; omega, fun p ks hp mem nd len => ?_⟩
       . rw [vis_up, vis_append]
         exact SqL.of q1z
       have lk : ks.length < 64 := by
        simp at len
        omega
       refine ⟨p, ks, rfl, q1z, lk, fun p2 ns hp2 pm pw => ?_⟩
       have e : ns = up (rising (gained n x)) := sorted_up pm pw nd mem (LL.up_rising _) fun z => by
        rw [LL.mem_rising, LL.mem_gained hx, List.mem_append, List.mem_map, List.mem_map]
        constructor
        . rintro ⟨i, a, b | b⟩
          . exact .inl ⟨i, List.mem_range.mpr (by omega), b⟩
          . exact .inr ⟨i, List.mem_range.mpr (by omega), b⟩
        . rintro (⟨i, a, b⟩ | ⟨i, a, b⟩)
          . exact ⟨i, by have := List.mem_range.mp a; omega, .inl b⟩
          . exact ⟨i, by have := List.mem_range.mp a; omega, .inr b⟩
       rw [e, vis_up]
       exact q _ p2 (sU (sU (sU (sU s1 hD2) hp0) hp) hp2) (Same.free (sU (sU (sU s1 hD2) hp0) hp) hp2) q1z
def sp_runs : Sp := fun vs H Q _ => ∃ (x n : Nat), vs = [vi x, vi n] /\ 1 ≤ n /\ n ≤ 12 /\ ∀ H', Same H H' -> Q (vi (Km469.runs (Km469.text n x))) H'
theorem sc_runs : FnScope ["word", "n", "turns", "place"] ["word", "n"] (defScope s_runs) := sc_by rfl (by decide +kernel)
theorem ok_runs {f : Addr} {fd : FuncData} (F : Fun K "runs" "runs" s_runs f fd) (O : Own mg) (DA : Def P w K mg base "letter_at" 1 ["word", "n", "place"] sp_letter) : FnOk P w K mg base CX0 2 f fd ["word", "n"] sp_runs := by
 refine F.ok sc_runs (fun _ _ _ _ h => ?_) (fun _ _ _ _ H vs Q E hr h => ?_)
 . obtain ⟨x, n, rfl, _⟩ := h
   rfl
 . obtain ⟨x, n, rfl, h1, h2, q⟩ := h
   refine ⟨_, q3z (ps_setLc (i := 2) (own := [("place", 3)]) rfl sc_runs.nd rfl rfl (sw_true rfl rfl rfl rfl) (pi_range2 rfl O.range (q0z q10z (q0z (pv 1) q2z)))
    (blkOk_by (by show blkC ["word", "n", "turns", "place"] (defScope s_runs) _ _ = true; decide +kernel)) (fun _ _ _ _ _ => pg_name (i := 3) sc_runs.nd rfl (Or.inl rfl))
    (fun _ _ _ _ _ => pts_one (pt_cmpR op_ne (q6z DA hr rfl (q0z (pv 0) (q0z (pv 1) (q0z (pv 3) q2z)))) (q6z DA hr rfl (q0z (pv 0) (q0z (pv 1) (q0z (pe_op op_subN (pv 3) q10z) q2z)))) (nomark _)))
    (fun _ _ _ _ _ => pv 3))
    (q4z (q8z (pe_op op_addN q10z (q16z q15z (by rfl) O.len boot_len (q0z (pv 2) q2z))))), ?_⟩
   refine ⟨_, rfl, 1, (n : Int), rfl, ⟨by omega, by omega, by omega, by omega⟩, fun D hD => lc_rangeG (l0 := 1) (n := n - 1) rfl (by omega) (fun i H' => H' = upd H D (.lst (vis ((List.range' 1 i).filter fun j => decide (LL.bitN x (n - 1 - j) ≠ LL.bitN x (n - 1 - (j - 1))))))) rfl ?_ ?_⟩
   . rintro i H' hi rfl
     refine ⟨rfl, _, rfl, _, rfl, _, rfl, x, n, 1 + i, rfl, by omega, _, rfl, _, rfl, _, rfl, 1 + i, 1, rfl, rfl, (by show 1 ≤ 1 + i; omega), x, n, 1 + i - 1, rfl, by omega, rfl, _, rfl, ?_⟩
     rw [vi_ne, range'_filter_snoc]
     refine ite2 (fun hc => ?_) (fun hc => ?_)
     . refine ⟨_, rfl, _, q1z, ?_, ?_⟩
       . rw [q9z]
         refine small1000 (Nat.le_trans (List.length_filter_le _ _) ?_)
         rw [List.length_range']
         omega
       . rw [upd_upd, if_pos hc, vis_snoc]
     . rw [if_neg hc, List.append_nil]
   . rintro H' rfl
     refine ⟨_, rfl, D, _, rfl, .inl (SqL.of q1z), 1, _, rfl, by rw [q9z], trivial, ?_⟩
     have e : 1 + ((List.range' 1 (n - 1)).filter fun j => decide (LL.bitN x (n - 1 - j) ≠ LL.bitN x (n - 1 - (j - 1)))).length = Km469.runs (Km469.text n x) := (LL.runs_text (by omega)).symm
     have q' := q _ (sU (o := .lst (vis ((List.range' 1 (n - 1)).filter fun j => decide (LL.bitN x (n - 1 - j) ≠ LL.bitN x (n - 1 - (j - 1)))))) (Same.refl H) hD)
     rw [← e] at q'
     exact q'
def sp_letters : Sp := fun vs H Q _ => ∃ (x n : Nat), vs = [vi x, vi n] /\ n ≤ 12 /\ ∀ H' p, Same H H' -> H p = none -> H' p = some (.lst (vis ((List.range n).map fun i => LL.bitN x (n - 1 - i)))) -> Q (.ref p) H'
theorem sc_letters : FnScope ["word", "n", "place"] ["word", "n"] (defScope s_letters_of) := sc_by rfl (by decide +kernel)
theorem ok_letters {f : Addr} {fd : FuncData} (F : Fun K "letters_of" "letters_of" s_letters_of f fd) (O : Own mg) (DA : Def P w K mg base "letter_at" 1 ["word", "n", "place"] sp_letter) : FnOk P w K mg base CX0 2 f fd ["word", "n"] sp_letters := by
 refine F.ok sc_letters (fun _ _ _ _ h => ?_) (fun _ _ _ _ H vs Q E hr h => ?_)
 . obtain ⟨x, n, rfl, _⟩ := h
   rfl
 . obtain ⟨x, n, rfl, h2, q⟩ := h
   refine ⟨_, q4z (q8z (pe_lc (own := [("place", 2)]) rfl sc_letters.nd (pi_range1 rfl O.range (q0z (pv 1) q2z)) (blkOk_by (by show blkC ["word", "n", "place"] (defScope s_letters_of) _ _ = true; decide +kernel)) (fun _ _ _ _ _ => pg_name (i := 2) sc_letters.nd rfl (Or.inl rfl)) (fun _ _ _ _ _ => pts_nil)
    (fun _ _ _ _ _ => q6z DA hr rfl (q0z (pv 0) (q0z (pv 1) (q0z (pv 2) q2z)))))), ?_⟩
   refine ⟨_, rfl, (n : Int), rfl, by omega, by omega, fun D hD => lc_range0 (n := n) (fun i H' => H' = upd H D (.lst (vis ((List.range i).map fun k => LL.bitN x (n - 1 - k))))) rfl ?_ ?_⟩
   . rintro i H' hi rfl
     refine ⟨rfl, _, rfl, _, rfl, _, rfl, x, n, i, rfl, hi, _, q1z, ?_, ?_⟩
     . rw [q9z, List.length_map, List.length_range]
       exact small1000 (by omega)
     . rw [upd_upd, vis_range]
   . rintro H' rfl
     exact q _ D (sU (Same.refl H) hD) hD q1z
abbrev com (n u v : Nat) : List Nat := rising ((lost n u).filter (lost n v).contains)
theorem mem_com {n u v x : Nat} : x ∈ com n u v ↔ x ∈ lost n u /\ x ∈ lost n v := by
 unfold com
 rw [LL.mem_rising, List.mem_filter, List.contains_iff_mem]
theorem both_len {ka kb kr : List Int} (na : ka.Nodup) (nr : kr.Nodup) (mr : ∀ x, x ∈ kr ↔ x ∈ ka /\ x ∈ kb) : kr.length ≤ ka.length := by
 have p : kr.Perm (ka.filter fun x => decide (x ∈ kb)) := (List.perm_ext_iff_of_nodup nr (na.sublist List.filter_sublist)).mpr fun x => by
  rw [mr x, List.mem_filter, decide_eq_true_eq]
 rw [p.length_eq]
 exact List.length_filter_le _ _
theorem com_len (n u v : Nat) : (com n u v).length ≤ n := by
 refine Nat.le_trans (LL.rising_len _) (Nat.le_trans (List.length_filter_le _ _) ?_)
 refine Nat.le_trans (LL.once_len _) ?_
 simp
def sp_common : Sp := fun vs H Q _ => ∃ (u v n : Nat), vs = [vi u, vi v, vi n] /\ 1 ≤ n /\ n ≤ 12 /\ u < 2 ^ n /\ v < 2 ^ n /\ ∀ H' p, Same H H' -> H p = none -> H' p = some (.lst (vis (com n u v))) -> Q (.ref p) H'
theorem sc_common : FnScope ["first", "second", "n"] ["first", "second", "n"] (defScope s_common) := sc_by rfl (by decide +kernel)
theorem ok_common {f : Addr} {fd : FuncData} (F : Fun K "common" "common" s_common f fd) (O : Own mg) (DL : Def P w K mg base "lost" 3 ["word", "n"] sp_lost) : FnOk P w K mg base CX0 4 f fd ["first", "second", "n"] sp_common := by
 refine F.ok sc_common (fun _ _ _ _ h => ?_) (fun _ _ _ _ H vs Q E hr h => ?_)
 . obtain ⟨u, v, n, rfl, _⟩ := h
   rfl
 . obtain ⟨u, v, n, rfl, h1, h2, hu, hv, q⟩ := h
   refine ⟨_, q4z (q8z (q16z (cr_sortedG hr.hd) (by rfl) O.sorted (by rfl) (q0z (pe_op op_andG
    (pe_callTy (cr_set hr.hd) (by rfl) O.set (by rfl) (q0z (q6z DL hr rfl (q0z (pv 0) (q0z (pv 2) q2z))) q2z))
    (pe_callTy (cr_set hr.hd) (by rfl) O.set (by rfl) (q0z (q6z DL hr rfl (q0z (pv 1) (q0z (pv 2) q2z))) q2z))) q2z))), ?_⟩
   have lu := LL.rising_lost_len n u
   have lv := LL.rising_lost_len n v
   refine ⟨_, rfl, _, rfl, u, n, rfl, h1, h2, hu, fun H1 p1 s1 f1 e1 => ?_⟩
   refine ⟨p1, up (rising (lost n u)), rfl, by rw [vis_up]; exact SqL.of e1, by simp; omega, fun a ka ha ma na la => ?_⟩
   have s2 := sU (o := SetO w a ka) s1 ha
   refine ⟨_, rfl, _, rfl, v, n, rfl, h1, h2, hv, fun H3 p3 s3 f3 e3 => ?_⟩
   refine ⟨p3, up (rising (lost n v)), rfl, by rw [vis_up]; exact SqL.of e3, by simp; omega, fun b kb hb mb nb lb => ?_⟩
   have s4 := sU (o := SetO w b kb) s3 hb
   have ea : upd H3 b (SetO w b kb) a = some (SetO w a ka) := s4 _ _ q1z
   have nab : a ≠ b := q7z (s3 _ _ q1z) hb
   simp at la lb
   refine ⟨a, b, ka, kb, rfl, rfl, ea, q1z, nab, by omega, by omega, fun r kr hr0 mr nr => ?_⟩
   have lk := both_len na nr mr
   have s5 := sU (o := SetO w r kr) ((s2.trans s3).trans (sU (o := SetO w b kb) (Same.refl H3) hb)) hr0
   refine ⟨r, kr, rfl, q1z, by omega, fun p6 ns hp6 pm pw => ?_⟩
   have e : ns = up (com n u v) := sorted_up (l := com n u v) pm pw nr (fun z => ?_) (LL.up_rising _) fun _ => Iff.rfl
   . rw [e, vis_up]
     exact q _ p6 (sU s5 hp6) (s5.free hp6) q1z
   . rw [mr z, ma z, mb z]
     constructor
     . rintro ⟨z1, z2⟩
       obtain ⟨x1, y1, e1⟩ := List.mem_map.mp z1
       obtain ⟨x2, y2, e2⟩ := List.mem_map.mp z2
       have : x1 = x2 := by omega
       subst this
       exact List.mem_map.mpr ⟨x1, mem_com.mpr ⟨(LL.mem_rising _).mp y1, (LL.mem_rising _).mp y2⟩, e1⟩
     . intro h
       obtain ⟨x, y, e⟩ := List.mem_map.mp h
       obtain ⟨y1, y2⟩ := mem_com.mp y
       exact ⟨List.mem_map.mpr ⟨x, (LL.mem_rising _).mpr y1, e⟩, List.mem_map.mpr ⟨x, (LL.mem_rising _).mpr y2, e⟩⟩
def sp_alike : Sp := fun vs H Q _ => ∃ (u v n : Nat), vs = [vi u, vi v, vi n] /\ 1 ≤ n /\ n ≤ 12 /\ u < 2 ^ n /\ v < 2 ^ n /\ ∀ H', Same H H' -> Q (.bl (alike n u v)) H'
theorem sc_alike : FnScope ["first", "second", "n"] ["first", "second", "n"] (defScope s_alike_by_losing) := sc_by rfl (by decide +kernel)
theorem ok_alike {f : Addr} {fd : FuncData} (F : Fun K "alike_by_losing" "alike_by_losing" s_alike_by_losing f fd) (O : Own mg) (DC : Def P w K mg base "common" 4 ["first", "second", "n"] sp_common) : FnOk P w K mg base CX0 5 f fd ["first", "second", "n"] sp_alike := by
 refine F.ok sc_alike (fun _ _ _ _ h => ?_) (fun _ _ _ _ H vs Q E hr h => ?_)
 . obtain ⟨u, v, n, rfl, _⟩ := h
   rfl
 . obtain ⟨u, v, n, rfl, h1, h2, hu, hv, q⟩ := h
   refine ⟨_, q4z (q8z (pe_cmpR op_gt (q16z q15z (by rfl) O.len boot_len (q0z (q6z DC hr rfl (q0z (pv 0) (q0z (pv 1) (q0z (pv 2) q2z)))) q2z)) q10z (nomark _))), ?_⟩
   refine ⟨_, rfl, _, rfl, _, rfl, u, v, n, rfl, h1, h2, hu, hv, fun H1 p1 s1 f1 e1 => ⟨p1, _, rfl, .inl (SqL.of e1), _, 0, rfl, rfl, ?_⟩⟩
   have e : decide ((0 : Int) < ((vis (com n u v)).length : Int)) = alike n u v := by
    rw [q9z, Bool.eq_iff_iff, decide_eq_true_eq, LL.alike_iff]
    constructor
    . intro hl
      obtain ⟨z, hz⟩ := List.exists_mem_of_length_pos (show 0 < (com n u v).length by omega)
      exact ⟨z, mem_com.mp hz⟩
    . rintro ⟨x, hx⟩
      have := List.length_pos_of_mem (mem_com.mpr hx)
      omega
   have q' := q _ s1
   rw [← e] at q'
   exact q'
def sp_alikeG : Sp := fun vs H Q _ => ∃ (u v n : Nat), vs = [vi u, vi v, vi n] /\ n ≤ 12 /\ u < 2 ^ n /\ v < 2 ^ n /\ ∀ H', Same H H' -> Q (.bl (alikeG n u v)) H'
theorem sc_alikeG : FnScope ["first", "second", "n"] ["first", "second", "n"] (defScope s_alike_by_gaining) := sc_by rfl (by decide +kernel)
theorem ok_alikeG {f : Addr} {fd : FuncData} (F : Fun K "alike_by_gaining" "alike_by_gaining" s_alike_by_gaining f fd) (O : Own mg) (DL : Def P w K mg base "gained" 3 ["word", "n"] sp_gained) : FnOk P w K mg base CX0 4 f fd ["first", "second", "n"] sp_alikeG := by
 refine F.ok sc_alikeG (fun _ _ _ _ h => ?_) (fun _ _ _ _ H vs Q E hr h => ?_)
 . obtain ⟨u, v, n, rfl, _⟩ := h
   rfl
 . obtain ⟨u, v, n, rfl, h2, hu, hv, q⟩ := h
   refine ⟨_, q4z (q8z (pe_cmpR op_gt (q16z call_lenG (by rfl) O.len boot_len (q0z (pe_op op_andG
    (pe_callTy (cr_set hr.hd) (by rfl) O.set (by rfl) (q0z (q6z DL hr rfl (q0z (pv 0) (q0z (pv 2) q2z))) q2z))
    (pe_callTy (cr_set hr.hd) (by rfl) O.set (by rfl) (q0z (q6z DL hr rfl (q0z (pv 1) (q0z (pv 2) q2z))) q2z))) q2z)) q10z (nomark _))), ?_⟩
   have lu := LL.rising_gained_len hu
   have lv := LL.rising_gained_len hv
   refine ⟨_, rfl, _, rfl, u, n, rfl, h2, hu, fun H1 p1 s1 f1 e1 => ?_⟩
   refine ⟨p1, up (rising (gained n u)), rfl, by rw [vis_up]; exact SqL.of e1, by simp; omega, fun a ka ha ma na la => ?_⟩
   have s2 := sU (o := SetO w a ka) s1 ha
   refine ⟨_, rfl, _, rfl, v, n, rfl, h2, hv, fun H3 p3 s3 f3 e3 => ?_⟩
   refine ⟨p3, up (rising (gained n v)), rfl, by rw [vis_up]; exact SqL.of e3, by simp; omega, fun b kb hb mb nb lb => ?_⟩
   have s4 := sU (o := SetO w b kb) s3 hb
   have ea : upd H3 b (SetO w b kb) a = some (SetO w a ka) := s4 _ _ q1z
   have nab : a ≠ b := q7z (s3 _ _ q1z) hb
   simp at la lb
   refine ⟨a, b, ka, kb, rfl, rfl, ea, q1z, nab, by omega, by omega, fun r kr hr0 mr nr => ?_⟩
   refine ⟨r, kr, rfl, q1z, (kr.length : Int), 0, rfl, rfl, ?_⟩
   have e : decide ((0 : Int) < (kr.length : Int)) = alikeG n u v := by
    rw [Bool.eq_iff_iff, decide_eq_true_eq, LL.alikeG_iff]
    constructor
    . intro hl
      obtain ⟨z, hz⟩ : ∃ z, z ∈ kr := by
       cases kr with
       | nil => simp at hl
       | cons z t => exact ⟨z, List.mem_cons_self⟩
      obtain ⟨z1, z2⟩ := (mr z).mp hz
      obtain ⟨x1, y1, e1⟩ := List.mem_map.mp ((ma z).mp z1)
      obtain ⟨x2, y2, e2⟩ := List.mem_map.mp ((mb z).mp z2)
      have : x1 = x2 := by omega
      subst this
      exact ⟨x1, (LL.mem_rising _).mp y1, (LL.mem_rising _).mp y2⟩
    . rintro ⟨x, y1, y2⟩
      have hz : (x : Int) ∈ kr := (mr _).mpr ⟨(ma _).mpr (List.mem_map.mpr ⟨x, (LL.mem_rising _).mpr y1, rfl⟩), (mb _).mpr (List.mem_map.mpr ⟨x, (LL.mem_rising _).mpr y2, rfl⟩)⟩
      have := List.length_pos_of_mem hz
      omega
   show Q (.bl _) _
   have q' := q _ (sU (o := SetO w r kr) ((s2.trans s3).trans (sU (o := SetO w b kb) (Same.refl H3) hb)) hr0)
   rw [← e] at q'
   exact q'
theorem same_upd' {H H' : Hp} {p : Addr} {o : HO} (h : Same H H') (hp : H p = none) : Same H (upd H' p o) := fun b u e => by
 rw [q5z (q7z e hp)]
 exact h b u e
theorem vis_get {l : List Nat} {i : Nat} {x : V} (h : (vis l)[i]? = some x) : ∃ a, l[i]? = some a /\ x = vi a := by
 unfold vis at h
 rw [List.getElem?_map] at h
 cases e : l[i]? with
 | none => rw [e] at h; cases h
 | some a => rw [e] at h; exact ⟨a, rfl, (Option.some.inj h).symm⟩
theorem take_snoc {α : Type} {l : List α} {i : Nat} {x : α} (h : l[i]? = some x) : l.take (i + 1) = l.take i ++ [x] := by
 rw [List.take_add_one, h]
 rfl
theorem wl_le : ∀ n, (LL.wl n).length ≤ 2 ^ n := fun n => Nat.le_of_eq (LL.wl_len n)
variable {P : Program} {w : World} {K : W.Frag} {mg : Str → Option Value} {base : Heap}
def sp_weights : Sp := fun vs H Q _ => ∃ (n : Nat), vs = [vi n] /\ n ≤ 12 /\ ∀ H' p, Same H H' -> H p = none -> H' p = some (.lst (vis (LL.wl n))) -> Q (.ref p) H'
theorem sc_weights : FnScope ["n", "known", "place", "longer", "weight"] ["n"] (defScope s_weights) := sc_by rfl (by decide +kernel)
theorem ok_weights {f : Addr} {fd : FuncData} (F : Fun K "weights" "weights" s_weights f fd) (O : Own mg) : FnOk P w K mg base CX0 1 f fd ["n"] sp_weights := by
 refine F.ok sc_weights (fun _ _ _ _ h => ?_) (fun _ _ _ _ H vs Q E hr h => ?_)
 . obtain ⟨n, rfl, _⟩ := h
   rfl
 . obtain ⟨n, rfl, h2, q⟩ := h
   refine ⟨_, q3z (q12z (i := 1) sc_weights.nd rfl (Or.inl rfl) (q13z (q0z q10z q2z)))
    (q3z (ps_for PassesOwn.never rfl (pi_range2 rfl O.range (q0z q10z (q0z (pe_op op_addN (pv 0) q10z) q2z))) (pg_name (i := 2) sc_weights.nd rfl (Or.inl rfl))
     (q3z (q12z (i := 3) sc_weights.nd rfl (Or.inl rfl) (q13z q2z))
     (q3z (ps_for PassesOwn.never rfl (pi_list (pv 1)) (pg_name (i := 4) sc_weights.nd rfl (Or.inl rfl))
      (q3z (ps_expr (pe_bm PySem.F.plainAttrs_list PySem.F.slot_list_append PySem.F.type_list_append mt_append (pv 3) (q0z (pv 4) q2z)))
      (q4z (ps_expr (pe_bm PySem.F.plainAttrs_list PySem.F.slot_list_append PySem.F.type_list_append mt_append (pv 3) (q0z (pe_op op_addN (pv 4) (pv 2)) q2z))))))
     (q4z (q12z (i := 1) sc_weights.nd rfl (Or.inl rfl) (pv 3))))))
    (q4z (q8z (pv 1)))), ?_⟩
   refine ⟨sz1, fun k0 hk0 => ?_⟩
   refine ⟨_, rfl, n, 1, rfl, rfl, trivial, 1, ((n + 1 : Nat) : Int), rfl, ⟨by omega, by omega, by omega, by omega⟩, ?_⟩
   have ec : ((n + 1 : Nat) : Int) - 1 = (n : Int) := by omega
   rw [ec, Int.toNat_natCast]
   refine for_range0 (l0 := 1) rfl (fun i σ H' => ∃ k pl lo we, σ = [some (vi n), some (.ref k), pl, lo, we] ∧ H' k = some (.lst (vis (LL.wl i))) ∧ H k = none ∧ Same H H')
    ⟨k0, none, none, none, rfl, q1z, hk0, sU (Same.refl H) hk0⟩ ?_ ?_
   . rintro i σ H' hi ⟨k, pl, lo, we, rfl, hk, fk, s1⟩
     refine ⟨Nat.zero_le _, fun l hl => ?_⟩
     have kl : k ≠ l := q7z hk hl
     have fl : H l = none := s1.free hl
     have big : (LL.wl i).length ≤ 4096 := Nat.le_trans (wl_le i) (by
      have : 2 ^ i ≤ 2 ^ 12 := Nat.pow_le_pow_right (by decide) (by omega)
      simpa using this)
     refine ⟨_, rfl, k, rfl, ⟨_, SqL.of (by rw [q5z kl]; exact hk)⟩, for_list (K := K) (a := k) (xs := vis (LL.wl i)) (fun j σ H'' => ∃ we, σ = [some (vi n), some (.ref k), some (vi (1 + i)), some (.ref l), we] ∧ H'' k = some (.lst (vis (LL.wl i))) ∧
      H'' l = some (.lst (vis (((LL.wl i).take j).flatMap fun x => [x, x + (i + 1)]))) ∧ Same H H'') ⟨we, rfl, by rw [q5z kl]; exact hk, q1z, sU s1 hl⟩ (fun j σ H'' _ ⟨_, _, e, _, _⟩ => SqL.of e) ?_ ?_⟩
     . rintro j y σ H'' hj ⟨we, rfl, e1, e2, s2⟩
       obtain ⟨a, ha, rfl⟩ := vis_get hj
       have len : (((LL.wl i).take j).flatMap fun x => [x, x + (i + 1)]).length ≤ 8192 := by
        rw [LL.flatMap_two_len, List.length_take]
        omega
       refine ⟨_, rfl, .inl ⟨rfl, _, SqL.of e2⟩, _, rfl, l, _, _, rfl, rfl, e2, ?_, ?_⟩
       . rw [q9z]
         exact Nat.lt_of_le_of_lt len (by decide)
       refine ⟨_, rfl, .inl ⟨rfl, _, SqL.of q1z⟩, _, rfl, _, rfl, a, 1 + i, rfl, rfl, trivial, l, _, _, rfl, rfl, q1z, ?_, ?_⟩
       . rw [List.length_append, q9z]
         exact Nat.lt_of_le_of_lt (Nat.add_le_add_right len 1) (by decide)
       refine ⟨_, rfl, ?_, ?_, same_upd' (same_upd' s2 fl) fl⟩
       . rw [q5z kl, q5z kl]
         exact e1
       . rw [q1z, take_snoc ha, List.flatMap_append, vis_append, List.append_assoc, List.flatMap_cons, List.flatMap_nil, List.append_nil, Nat.add_comm 1 i]
         rfl
     . rintro σ H'' ⟨we2, rfl, e1, e2, s2⟩
       rw [q9z, List.take_length] at e2
       exact ⟨_, rfl, l, _, _, _, rfl, e2, fl, s2⟩
   . rintro σ H' ⟨k, pl, lo, we, rfl, hk, fk, s1⟩
     exact ⟨_, rfl, q H' k s1 fk hk⟩
section
variable {prog : Program} {w : World} {A : Around} {E : Value → Shared → Prop} {s : Shared}
theorem collect_tup {l : Addr} {o : Obj} {vs : List Value} {n : Nat} {Q : List Value -> Shared -> Prop} (ho : s.heap.get? l = some o) (hc : o.cls = .type "tuple") (hd : o.data = .seq vs.toArray n) (hz : vs.length ≤ sizeLine)
 (h : ∀ h' : Heap, (∀ b u, s.heap.get? b = some u → h'.get? b = some u) → h'.objs.size = s.heap.objs.size + 1 → Q vs { s with heap := h' }) : wpAny (model prog w) A (collect (.ref l)) Q E s := by
 unfold collect
 refine wpAny_bind (wpAny_runValue (codeAny_builtin PySem.F.entry_proto_collect ?_))
 rw [Around.under_plainId PySem.F.plain_proto_collect _]
 refine wpAny_bind (m := newList []) (wpAny_newObj_type ?_)
 refine wpAny_pure ⟨plainId_quiet PySem.F.plain_list_iadd _, codeAny_builtin PySem.F.entry_list_iadd ?_⟩
 rw [Around.under_plainId PySem.F.plain_list_iadd _]
 show wpAny _ _ (Builtin.List.listExtendWith (.ref s.heap.objs.size) (.ref l) (.ref s.heap.objs.size)) _ _ _
 unfold Builtin.List.listExtendWith
 have o1 : (s.heap.push { cls := .type "list", data := .seq ([] : List Value).toArray }).get? l = some o := Heap.get?_push_of_some _ ho
 have o2 : (s.heap.push { cls := .type "list", data := .seq ([] : List Value).toArray }).get? s.heap.objs.size = some { cls := .type "list", data := .seq ([] : List Value).toArray } := Heap.get?_push_size _ rfl
 refine wpAny_bind (wpAny_typeOf (T := "tuple") ⟨o, o1, hc⟩ ?_)
 have ht : (Value.type "tuple" == Value.type "tuple") = true := by rfl
 rw [if_pos (by rw [ht]; simp)]
 refine wpAny_bind (listItems_at o1 hd ?_)
 refine wpAny_bind (listItems_at (xs := #[]) (n := 0) o2 rfl ?_)
 rw [if_neg (by simp)]
 refine wpAny_bind (listUpdate_at (xs := #[]) (n := 0) o2 rfl ?_ (Nat.zero_le _) (by show (#[] ++ vs.toArray).size ≤ sizeLine + 1; simp only [Array.size_append, List.size_toArray, List.length_nil]; omega))
 refine wpAny_pure ?_
 refine wpAny_bind (m := load s.heap.objs.size) (wpAny_load (get?_update_seq o2 _) ?_)
 have e : ((#[] : Array Value) ++ vs.toArray).toList = vs := by simp
 show wpAny _ _ (pure ((#[] : Array Value) ++ vs.toArray).toList) _ _ _
 rw [e]
 refine wpAny_pure (h _ (fun b u q => ?_) ?_)
 . rw [Heap.get?_update_ne _ _ _ _ (Nat.ne_of_lt (Heap.lt_size q))]
   exact Heap.get?_push_of_some _ q
 . rw [Heap.size_update, Heap.size_push]
set_option maxHeartbeats 1000000 in
theorem sorted_tup {l : Addr} {o : Obj} {vs : List Value} {ns : List Int} {n : Nat} {Q : Value -> Shared -> Prop} (ho : s.heap.get? l = some o) (hc : o.cls = .type "tuple") (hd : o.data = .seq vs.toArray n) (hI : IntsAre vs ns) (h64 : vs.length < 64)
 (h : ∀ (h' : Heap) (a : Addr) (out : Array Value) (e : Nat) (ns' : List Int), h'.get? a = some (seqObj "list" out e) → IntsAre out.toList ns' → ns'.Perm ns → ns'.Pairwise (· ≤ ·) → s.heap.objs.size ≤ a → (∀ b u, s.heap.get? b = some u → h'.get? b = some u) → Q (.ref a) { s with heap := h' }) :
 wpAny (model prog w) A (call (.builtin "sorted") [.ref l]) Q E s := by
 refine Calls.call_function_entry kind_sorted plain_sorted entry_sorted (args_sorted1 _) ?_
 unfold Builtin.«sorted»
 refine wpAny_bind (m := checkCount "sorted" 1 1 _) (wpAny_pure ?_)
 refine wpAny_bind (collect_tup ho hc hd (by exact small64 h64) fun h1 kp hsz => ?_)
 refine wpAny_bind (wpAny_newObj_type ?_ (by show vs.toArray.size ≤ sizeLine; rw [List.size_toArray]; exact small64 h64))
 have L1 : (h1.push { cls := .type "list", data := .seq vs.toArray }).get? h1.objs.size = some (seqObj "list" vs.toArray 0) := Heap.get?_push_size _ rfl
 refine wpAny_bind (wpAny_holding (wpAny_call_entry slot_list_sort ⟨_, L1, rfl⟩ entry_list_sort (list_sort_tree L1 hI h64 fun out ns' a1 a2 a3 => ⟨_, rfl, ?_⟩) (args_list_sort _)))
 obtain ⟨e, L2⟩ := sortedHeap_at (out := out) L1
 refine wpAny_pure ⟨_, rfl, h _ h1.objs.size out e ns' L2 a1 a2 a3 (by rw [hsz]; exact Nat.le_succ _) fun b u q => ?_⟩
 have q1 := kp b u q
 have q2 := Heap.lt_size q1
 show (sortedHeap (h1.push { cls := .type "list", data := .seq vs.toArray }) h1.objs.size vs out).get? b = some u
 rw [sortedHeap_old (Nat.ne_of_lt q2) (by rw [Heap.size_push]; exact Nat.lt_succ_of_lt q2)]
 exact Heap.get?_push_of_some _ q1
end
section
variable {X : Cx}
theorem cr_sortedT : CallR X (.builtin "sorted") (fun vs H Q => ∃ (a : Addr) (ns : List Int), vs = [V.ref a] /\ SqT X.K H a (ns.map V.int) /\ ns.length < 64 /\
 ∀ (ns' : List Int) (p : Addr), ns'.Perm ns → ns'.Pairwise (· ≤ ·) → H p = none → Q (.ref p) (upd H p (.lst (ns'.map V.int)))) := by
 intro pins s σ H vs us Q I r h
 obtain ⟨a, ns, rfl, hs, h64, q⟩ := h
 obtain ⟨its, rv, ⟨o, ho, hc, n, hd⟩, _⟩ := I.tuple hs
 rw [Vals.ref1 r]
 have hi := rv.ints
 refine sorted_tup ho hc hd hi (by rw [hi.length]; exact h64) fun h' l out e ns' L h1 h2 h3 hsz kp => ?_
 have hlen : (ns'.map V.int).length ≤ sizeLine := by rw [List.length_map, h2.length_eq]; exact small64 h64
 exact ⟨.ref _, upd H l (.lst (ns'.map V.int)), I.laid (t' := s.toks) kp hsz ⟨hlen, out.toList, e, vals_of_ints h1, L⟩, rfl, q ns' _ h2 h3 (I.hok.fresh hsz)⟩
end
theorem up_nd {l : List Nat} (h : LL.Up l) : (up l).Nodup := by
 unfold up
 rw [List.Nodup, List.pairwise_map]
 exact h.imp fun {a b} hab => by omega
theorem sorted_same {ns : List Int} {l : List Nat} (pm : ns.Perm (up l)) (pw : ns.Pairwise (· ≤ ·)) (h : LL.Up l) : ns = up l := sorted_up pm pw (up_nd h) (fun _ => Iff.rfl) h fun _ => Iff.rfl
theorem rep_eq (k : Nat) : (List.replicate k ([vi 0] : List V)).flatten = vis (List.replicate k 0) := by
 induction k with
 | zero => rfl
 | succ k ih => rw [List.replicate_succ, List.flatten_cons, ih, List.replicate_succ]; rfl
theorem cr_sortedQ {X : Cx} : CallR X (.builtin "sorted") (fun vs H Q => ∃ (a : Addr) (ns : List Int), vs = [V.ref a] /\ (SqL X.K H a (ns.map V.int) ∨ SqT X.K H a (ns.map V.int)) /\ ns.length < 64 /\
 ∀ (ns' : List Int) (p : Addr), ns'.Perm ns → ns'.Pairwise (· ≤ ·) → H p = none → Q (.ref p) (upd H p (.lst (ns'.map V.int)))) := by
 intro pins s σ H vs us Q I r h
 obtain ⟨a, ns, e, hs | hs, h64, q⟩ := h
 . exact cr_sorted pins s σ H vs us Q I r ⟨a, ns, e, hs, h64, q⟩
 . exact cr_sortedT pins s σ H vs us Q I r ⟨a, ns, e, hs, h64, q⟩
variable {P : Program} {w : World} {K : W.Frag} {mg : Str → Option Value} {base : Heap}
def sp_told (K : W.Frag) : Sp := fun vs H Q _ => ∃ (a : Addr) (l : List Nat) (m : Nat), vs = [.ref a, vi m] /\ (SqL K H a (vis l) ∨ SqT K H a (vis l)) /\ l.length < 64 /\ LL.Up l /\ l.length ≤ m /\ m ≤ 100 /\
 ∀ H' p, Same H H' → H p = none → H' p = some (.lst (vis (l.map (fun x => x + 1) ++ List.replicate (m - l.length) 0))) → Q (.ref p) H'
theorem sc_told : FnScope ["words", "many", "rising", "word"] ["words", "many"] (defScope s_told) := sc_by rfl (by decide +kernel)
theorem ok_told {f : Addr} {fd : FuncData} (F : Fun K "told" "told" s_told f fd) (O : Own mg) : FnOk P w K mg base CX0 1 f fd ["words", "many"] (sp_told K) := by
 refine F.ok sc_told (fun _ _ _ _ h => ?_) (fun _ _ _ _ H vs Q E hr h => ?_)
 . obtain ⟨a, l, m, rfl, _⟩ := h
   rfl
 . obtain ⟨a, l, m, rfl, hs, h64, hu, hm, h100, q⟩ := h
   refine ⟨_, q3z (ps_setLc (i := 2) (own := [("word", 3)]) rfl sc_told.nd rfl rfl (sw_true rfl rfl rfl rfl) (pi_list (q16z cr_sortedQ (by rfl) O.sorted (by rfl) (q0z (pv 0) q2z)))
    (blkOk_by (by show blkC ["words", "many", "rising", "word"] (defScope s_told) _ _ = true; decide +kernel)) (fun _ _ _ _ _ => pg_name (i := 3) sc_told.nd rfl (Or.inl rfl)) (fun _ _ _ _ _ => pts_nil)
    (fun _ _ _ _ _ => pe_op op_addN (pv 3) q10z))
    (q4z (q8z (pe_op op_cat (pv 2) (pe_op op_rep (q13z (q0z q10z q2z)) (pe_op op_subN (pv 1) (q16z q15z (by rfl) O.len boot_len (q0z (pv 2) q2z))))))), ?_⟩
   refine ⟨_, rfl, a, up l, rfl, by rw [vis_up]; exact hs, by simp [up]; exact h64, fun ns' p pm pw hp => ?_⟩
   have e0 := sorted_same pm pw hu
   subst e0
   rw [vis_up]
   have s1 := sU (o := .lst (vis l)) (Same.refl H) hp
   refine ⟨p, rfl, ⟨_, SqL.of q1z⟩, fun D hD => lc_list (K := K) (a := p) (xs := vis l) (fun i H' => H' = upd (upd H p (.lst (vis l))) D (.lst (vis ((l.take i).map fun x => x + 1)))) rfl (fun i H' _ e => ?_) ?_ ?_⟩
   . subst e
     refine SqL.of ?_
     rw [q5z (q7z q1z hD)]
     exact q1z
   . rintro i y H' hi rfl
     obtain ⟨z, hz, rfl⟩ := vis_get hi
     refine ⟨rfl, _, rfl, z, 1, rfl, rfl, trivial, _, q1z, ?_, ?_⟩
     . rw [q9z, List.length_map, List.length_take]
       exact small1000 (by omega)
     . rw [upd_upd, take_snoc hz, List.map_append, vis_append]
       rfl
   . rintro H' rfl
     rw [q9z, List.take_length]
     have s2 := sU (o := .lst (vis (l.map fun x => x + 1))) s1 hD
     refine ⟨_, rfl, by decide, fun z hz => ?_⟩
     have s3 := sU (o := .lst [V.int 0]) s2 hz
     have eD : upd (upd (upd H p (.lst (vis l))) D (.lst (vis (l.map fun x => x + 1)))) z (.lst [V.int 0]) D = some (.lst (vis (l.map fun x => x + 1))) := by
      rw [q5z (q7z q1z hz)]
      exact q1z
     refine ⟨_, rfl, _, rfl, D, _, rfl, .inl (SqL.of eD), m, l.length, rfl, by rw [q9z, List.length_map], hm, z, _, _, rfl, rfl, q1z, ?_, ?_, ?_, fun y hy => ?_⟩
     . show -(2 ^ 63) ≤ ((m - l.length : Nat) : Int)
       omega
     . show ((m - l.length : Nat) : Int) < 2 ^ 63
       omega
     . show 1 * (m - l.length) ≤ sizeLine
       exact Nat.le_of_lt (small1000 (by omega))
     have e1 : (List.replicate (((m - l.length : Nat) : Int)).toNat [V.int 0]).flatten = vis (List.replicate (m - l.length) 0) := by
      rw [Int.toNat_natCast]
      exact rep_eq _
     have eD2 := sU (o := .lst (List.replicate (((m - l.length : Nat) : Int)).toNat [V.int 0]).flatten) (Same.refl _) hy D _ eD
     refine ⟨D, y, _, _, rfl, rfl, eD2, q1z, ?_, fun r hr0 => ?_⟩
     . rw [e1, q9z, q9z, List.length_map, List.length_replicate]
       exact Nat.le_of_lt (small1000 (by omega))
     refine q _ r (sU (sU s3 hy) hr0) (Same.free (sU s3 hy) hr0) ?_
     rw [q1z, e1, vis_append]
theorem safe_left {n : Nat} : ∀ {a b : List Nat}, safe n (a ++ b) = true -> safe n a = true
 | [], _, _ => rfl
 | x :: a, b, h => by
   rw [List.cons_append, LL.safe_cons] at h
   rw [LL.safe_cons]
   exact ⟨fun v hv => h.1 v (List.mem_append_left _ hv), safe_left h.2⟩
theorem safe_bad {n : Nat} {c : List Nat} {i x v : Nat} (hi : c[i]? = some x) (hv : v ∈ c.take i) (ha : alike n v x = true) : safe n c = false := by
 cases hs : safe n c with
 | false => rfl
 | true =>
   have e : c = c.take (i + 1) ++ c.drop (i + 1) := (List.take_append_drop _ _).symm
   rw [e] at hs
   have h1 := safe_left hs
   rw [take_snoc hi, LL.safe_snoc] at h1
   rw [h1.2 v hv] at ha
   cases ha
variable {P : Program} {w : World} {K : W.Frag} {mg : Str → Option Value} {base : Heap}
def sp_is_safe (K : W.Frag) : Sp := fun vs H Q _ => ∃ (a : Addr) (c : List Nat) (n : Nat), vs = [.ref a, vi n] /\ SqT K H a (vis c) /\ c.length ≤ 100 /\ (∀ x ∈ c, x < 2 ^ n) /\ 1 ≤ n /\ n ≤ 12 /\ ∀ H', Same H H' -> Q (.bl (safe n c)) H'
theorem sc_is_safe : FnScope ["code", "n", "seen", "word", "shorter"] ["code", "n"] (defScope s_is_safe) := sc_by rfl (by decide +kernel)
def Seen (n : Nat) (kvs : List (Key × V)) (c : List Nat) (L : List Nat) : Prop := ∀ z : Nat, (valV kvs (Sum.inl (z : Int))).isSome = true ↔ (∃ v ∈ c, z ∈ lost n v) ∨ z ∈ L
theorem Same.tup {H H' : Hp} {a : Addr} {xs : List V} (e : Same H H') (h : SqT K H a xs) : SqT K H' a xs := by
 rcases h with (h | ⟨o, h⟩) | h
 . exact .inl (.inl (e _ _ h))
 . exact .inl (.inr ⟨o, e _ _ h⟩)
 . exact .inr h
theorem ok_is_safe {f : Addr} {fd : FuncData} (F : Fun K "is_safe" "is_safe" s_is_safe f fd) (O : Own mg) (DL : Def P w K mg base "lost" 3 ["word", "n"] sp_lost) : FnOk P w K mg base CX0 4 f fd ["code", "n"] (sp_is_safe K) := by
 refine F.ok sc_is_safe (fun _ _ _ _ h => ?_) (fun _ _ _ _ H vs Q E hr h => ?_)
 . obtain ⟨a, c, n, rfl, _⟩ := h
   rfl
 . obtain ⟨a, c, n, rfl, hs, hc, hx, h1, h2, q⟩ := h
   have hu := hu_of hr
   refine ⟨_, q3z (q12z (i := 2) sc_is_safe.nd rfl (Or.inl rfl) pe_dnewK)
    (q3z (ps_for PassesOwn.never rfl (pi_tup (pv 0)) (pg_name (i := 3) sc_is_safe.nd rfl (Or.inl rfl))
     (q4z (ps_for PassesOwn.never rfl (pi_list (q6z DL hr rfl (q0z (pv 3) (q0z (pv 1) q2z)))) (pg_name (i := 4) sc_is_safe.nd rfl (Or.inl rfl))
      (q3z (ps_if (pt_cmp (pc_din hu (pv 4) (pv 2))) (q4z (q8z pe_bl)) pss_nil)
      (q4z (ps_dput hu (pv 2) (pv 4) pe_bl rfl))))))
    (q4z (q8z pe_bl))), ?_⟩
   intro d hd
   have s0 := sU (o := .dK []) (Same.refl H) hd
   refine ⟨_, rfl, a, rfl, ⟨_, Same.tup s0 hs⟩, for_tup (K := K) (a := a) (xs := vis c) (fun i σ H' => ∃ wd sh kvs, σ = [some (.ref a), some (vi n), some (.ref d), wd, sh] ∧ H' d = some (.dK kvs) ∧ Same H H' ∧ Seen n kvs (c.take i) [] ∧ safe n (c.take i) = true ∧ kvs.length ≤ i * 12)
    ⟨none, none, [], rfl, q1z, s0, fun z => by simp [valV_nil], rfl, Nat.zero_le _⟩ (fun i σ H' _ ⟨_, _, _, _, _, s1, _⟩ => Same.tup s1 hs) ?_ ?_⟩
   . rintro i y σ H' hi ⟨wd, sh, kvs, rfl, ed, s1, seen, sf, kl⟩
     obtain ⟨x, hxi, rfl⟩ := vis_get hi
     have xlt : x < 2 ^ n := hx x (List.mem_of_getElem? hxi)
     have ilt : i < c.length := (List.getElem?_eq_some_iff.mp hxi).1
     have ll := LL.rising_lost_len n x
     refine ⟨_, rfl, _, rfl, x, n, rfl, h1, h2, xlt, fun H1 p s2 fp ep => ?_⟩
     have ed1 := s2 _ _ ed
     have pd : p ≠ d := fun z => by rw [z, ed] at fp; cases fp
     refine ⟨p, rfl, ⟨_, SqL.of ep⟩, for_list (K := K) (a := p) (xs := vis (rising (lost n x))) (fun j σ H'' => ∃ sh kvs, σ = [some (.ref a), some (vi n), some (.ref d), some (vi x), sh] ∧ H'' d = some (.dK kvs) ∧ H'' p = some (.lst (vis (rising (lost n x)))) ∧ Same H H'' ∧
      Seen n kvs (c.take i) ((rising (lost n x)).take j) ∧ (∀ z ∈ (rising (lost n x)).take j, ∀ v ∈ c.take i, z ∉ lost n v) ∧ kvs.length ≤ i * 12 + j)
      ⟨sh, kvs, rfl, ed1, ep, s1.trans s2, by simpa using seen, by simp, kl⟩ (fun j σ H'' _ ⟨_, _, _, _, e, _⟩ => SqL.of e) ?_ ?_⟩
     . rintro j y2 σ H'' hj ⟨sh2, kvs2, rfl, ed2, ep2, s3, seen2, free2, kl2⟩
       obtain ⟨z, hz, rfl⟩ := vis_get hj
       have jlt : j < (rising (lost n x)).length := (List.getElem?_eq_some_iff.mp hz).1
       refine ⟨_, rfl, _, rfl, d, _, rfl, DGet.k (k := Sum.inl (z : Int)) ed2, _, rfl, ?_⟩
       refine ite2 (fun hin => ?_) (fun hin => ?_)
       . have q2 : safe n c = false := by
          rcases (seen2 z).mp hin with ⟨v, hv, hzv⟩ | hzL
          . exact safe_bad hxi hv (LL.alike_iff.mpr ⟨z, hzv, (LL.mem_rising _).mp (List.mem_of_getElem? hz)⟩)
          . exfalso
            obtain ⟨k, hk⟩ := List.getElem?_of_mem hzL
            have klt : k < j := by
             have := (List.getElem?_eq_some_iff.mp hk).1
             rw [List.length_take] at this
             omega
            rw [List.getElem?_take_of_lt klt] at hk
            have := nd_ix (LL.up_nodup (LL.up_rising (lost n x))) hk hz
            omega
         have q' := q _ s3
         rw [q2] at q'
         exact q'
       . have hno : valV kvs2 (Sum.inl (z : Int)) = none := by
          cases e : valV kvs2 (Sum.inl (z : Int)) with
          | none => rfl
          | some o => rw [e] at hin; exact absurd rfl hin
         have fd0 : H d = none := hd
         refine ⟨_, rfl, _, rfl, d, _, rfl, DPut.k (k := Sum.inl (z : Int)) ed2 (Nat.lt_of_le_of_lt (show kvs2.length ≤ 2000 by omega) (by decide)), ?_⟩
         refine ⟨_, _, rfl, q1z, by rw [q5z pd]; exact ep2, same_upd' s3 fd0, fun y => ?_, fun y hy v hv => ?_, ?_⟩
         . rw [valV_put, take_snoc hz, List.mem_append, List.mem_singleton]
           by_cases e : y = z
           . subst e
             simp
           . have ne : ¬ (Sum.inl (y : Int) : Key) = Sum.inl (z : Int) := fun h => e (by injection h with h; omega)
             rw [if_neg ne, seen2 y]
             simp [e]
         . rw [take_snoc hz, List.mem_append, List.mem_singleton] at hy
           rcases hy with hy | hy
           . exact free2 y hy v hv
           . intro hyv
             subst hy
             have := (seen2 y).mpr (.inl ⟨v, hv, hyv⟩)
             rw [hno] at this
             cases this
         . have := length_putK kvs2 (Sum.inl (z : Int)) (V.bl true)
           omega
     . rintro σ H'' ⟨sh2, kvs2, rfl, ed2, ep2, s3, seen2, free2, kl2⟩
       rw [q9z, List.take_length] at seen2 free2
       rw [q9z] at kl2
       refine ⟨_, _, kvs2, rfl, ed2, s3, fun z => ?_, ?_, by omega⟩
       . rw [seen2 z, take_snoc hxi]
         constructor
         . rintro (⟨v, hv, hz⟩ | hz)
           . exact .inl ⟨v, List.mem_append_left _ hv, hz⟩
           . exact .inl ⟨x, List.mem_append_right _ (by simp), (LL.mem_rising _).mp hz⟩
         . rintro (⟨v, hv, hz⟩ | hz)
           . rcases List.mem_append.mp hv with hv | hv
             . exact .inl ⟨v, hv, hz⟩
             . rw [List.mem_singleton] at hv
               subst hv
               exact .inr ((LL.mem_rising _).mpr hz)
           . cases hz
       . rw [take_snoc hxi, LL.safe_snoc]
         refine ⟨sf, fun v hv => ?_⟩
         cases e : alike n v x with
         | false => rfl
         | true =>
           obtain ⟨z, z1, z2⟩ := LL.alike_iff.mp e
           exact absurd z1 (free2 z ((LL.mem_rising _).mpr z2) v hv)
   . rintro σ H' ⟨wd, sh, kvs, rfl, ed, s1, seen, sf, kl⟩
     rw [q9z, List.take_length] at sf
     have q' := q _ s1
     rw [sf] at q'
     exact q'
variable {P : Program} {w : World} {K : W.Frag} {mg : Str → Option Value} {base : Heap}
def sp_mask (K : W.Frag) : Sp := fun vs H Q _ => ∃ (a : Addr) (l : List Nat), vs = [.ref a] /\ SqL K H a (vis l) /\ (∀ x ∈ l, x ≤ 1000) /\ Q (vi (LL.maskN l)) H
theorem sc_mask : FnScope ["words", "mask", "word"] ["words"] (defScope s_mask_of) := sc_by rfl (by decide +kernel)
theorem ok_mask {f : Addr} {fd : FuncData} (F : Fun K "mask_of" "mask_of" s_mask_of f fd) : FnOk P w K mg base CX0 1 f fd ["words"] (sp_mask K) := by
 refine F.ok sc_mask (fun _ _ _ _ h => ?_) (fun _ _ _ _ H vs Q E hr h => ?_)
 . obtain ⟨a, l, rfl, _⟩ := h
   rfl
 . obtain ⟨a, l, rfl, hs, hx, q⟩ := h
   refine ⟨_, q3z (q12z (i := 1) sc_mask.nd rfl (Or.inl rfl) q10z)
    (q3z (ps_for PassesOwn.never rfl (pi_list (pv 0)) (pg_name (i := 2) sc_mask.nd rfl (Or.inl rfl))
     (q4z (q12z (i := 1) sc_mask.nd rfl (Or.inl rfl) (pe_op op_orN (pv 1) (pe_op op_shlN q10z (pv 2))))))
    (q4z (q8z (pv 1)))), ?_⟩
   refine ⟨_, rfl, a, rfl, ⟨_, hs⟩, for_list (K := K) (a := a) (xs := vis l) (fun i σ H' => ∃ wd, σ = [some (.ref a), some (vi (LL.maskN (l.take i))), wd] ∧ H' = H) ⟨none, rfl, rfl⟩ (fun i σ H' _ ⟨_, _, e⟩ => by rw [e]; exact hs) ?_ ?_⟩
   . rintro i y σ H' hi ⟨wd, rfl, rfl⟩
     obtain ⟨x, hxi, rfl⟩ := vis_get hi
     refine ⟨_, rfl, _, rfl, 1, x, rfl, rfl, ⟨Nat.le_trans (hx x (List.mem_of_getElem? hxi)) (by decide), by decide⟩, _, _, rfl, rfl, trivial, ?_⟩
     refine ⟨some (vi x), ?_, rfl⟩
     have e : LL.maskN (l.take (i + 1)) = LL.maskN (l.take i) ||| 1 * 2 ^ x := by
      rw [take_snoc hxi, Nat.one_mul]
      unfold LL.maskN
      rw [List.foldl_append]
      rfl
     rw [e]
     rfl
   . rintro σ H' ⟨wd, rfl, rfl⟩
     rw [q9z, List.take_length]
     exact ⟨_, rfl, q⟩
def nears (n : Nat) : List Nat := (List.range (2 ^ n)).map (LL.nearN n)
def sp_near : Sp := fun vs H Q _ => ∃ (n : Nat), vs = [vi n] /\ 1 ≤ n /\ n ≤ 6 /\ ∀ H' p, Same H H' -> H p = none -> H' p = some (.lst (vis (nears n))) -> Q (.ref p) H'
theorem sc_near : FnScope ["n", "longer", "masks", "word", "mask", "shorter"] ["n"] (defScope s_near_masks) := sc_by rfl (by decide +kernel)
theorem ok_near {f : Addr} {fd : FuncData} (F : Fun K "near_masks" "near_masks" s_near_masks f fd) (O : Own mg) (DL : Def P w K mg base "lost" 3 ["word", "n"] sp_lost) (DG : Def P w K mg base "gained" 3 ["word", "n"] sp_gained) (DM : Def P w K mg base "mask_of" 1 ["words"] (sp_mask K)) :
 FnOk P w K mg base CX0 4 f fd ["n"] sp_near := by
 refine F.ok sc_near (fun _ _ _ _ h => ?_) (fun _ _ _ _ H vs Q E hr h => ?_)
 . obtain ⟨n, rfl, _⟩ := h
   rfl
 . obtain ⟨n, rfl, h1, h2, q⟩ := h
   have hr1 : Room 1 _ := hr.mono (by decide)
   refine ⟨_, q3z (ps_setLc (i := 1) (own := [("shorter", 5)]) rfl sc_near.nd rfl rfl (sw_true rfl rfl rfl rfl) (pi_range1 rfl O.range (q0z (pe_op op_shlN q10z (pe_op op_subN (pv 0) q10z)) q2z))
    (blkOk_by (by show blkC ["n", "longer", "masks", "word", "mask", "shorter"] (defScope s_near_masks) _ _ = true; decide +kernel)) (fun _ _ _ _ _ => pg_name (i := 5) sc_near.nd rfl (Or.inl rfl)) (fun _ _ _ _ _ => pts_nil)
    (fun _ _ _ _ _ => q6z DM hr1 rfl (q0z (q6z DG hr rfl (q0z (pv 5) (q0z (pe_op op_subN (pv 0) q10z) q2z))) q2z)))
    (q3z (q12z (i := 2) sc_near.nd rfl (Or.inl rfl) (q13z q2z))
    (q3z (ps_for PassesOwn.never rfl (pi_range1 rfl O.range (q0z (pe_op op_shlN q10z (pv 0)) q2z)) (pg_name (i := 3) sc_near.nd rfl (Or.inl rfl))
     (q3z (q12z (i := 4) sc_near.nd rfl (Or.inl rfl) q10z)
     (q3z (ps_for PassesOwn.never rfl (pi_list (q6z DL hr rfl (q0z (pv 3) (q0z (pv 0) q2z)))) (pg_name (i := 5) sc_near.nd rfl (Or.inl rfl))
      (q4z (q12z (i := 4) sc_near.nd rfl (Or.inl rfl) (pe_op op_orN (pv 4) (pe_ix ix_list (pv 1) (pv 5) (fun _ _ => rfl))))))
     (q4z (ps_expr (pe_bm PySem.F.plainAttrs_list PySem.F.slot_list_append PySem.F.type_list_append mt_append (pv 2) (q0z (pv 4) q2z)))))))
    (q4z (q8z (pv 2))))), ?_⟩
   have hp1 : 2 ^ (n - 1) ≤ 2 ^ 6 := Nat.pow_le_pow_right (by decide) (by omega)
   have hp2 : 2 ^ n ≤ 2 ^ 6 := Nat.pow_le_pow_right (by decide) (by omega)
   have h64 : (2 : Nat) ^ 6 = 64 := by decide
   refine ⟨_, rfl, n, 1, rfl, rfl, h1, 1, n - 1, rfl, rfl, ⟨by omega, by decide⟩, ((1 * 2 ^ (n - 1) : Nat) : Int), rfl, by omega, by omega, fun D hD =>
    lc_rangeG (l0 := 0) (n := 2 ^ (n - 1)) rfl (by rw [Int.toNat_natCast, Nat.one_mul]) (fun i H' => H' D = some (.lst (vis ((List.range i).map fun s => LL.maskN (rising (gained (n - 1) s))))) ∧ Same H H') ⟨q1z, sU (Same.refl H) hD⟩ ?_ ?_⟩
   . rintro i H' hi ⟨eD, s1⟩
     refine ⟨rfl, _, rfl, _, rfl, n, 1, rfl, rfl, h1, i, n - 1, by simp, by omega, hi, fun H1 p s2 fp ep => ?_⟩
     refine ⟨p, _, rfl, SqL.of ep, fun x hx => ?_, _, s2 _ _ eD, ?_, ?_, same_upd' (s1.trans s2) hD⟩
     . have := LL.gained_lt hi ((LL.mem_rising _).mp hx)
       rw [Nat.sub_add_cancel h1] at this
       omega
     . rw [q9z, List.length_map, List.length_range]
       exact small1000 (by omega)
     . rw [q1z, vis_range]
   . rintro H1 ⟨eD, s1⟩
     refine ⟨Nat.zero_le _, fun m hm => ?_⟩
     have Dm : D ≠ m := q7z eD hm
     have fm : H m = none := s1.free hm
     refine ⟨_, rfl, 1, n, rfl, rfl, ⟨by omega, by decide⟩, ((1 * 2 ^ n : Nat) : Int), rfl, by omega, by omega, ?_⟩
     rw [Int.toNat_natCast, Nat.one_mul]
     refine for_range0 (l0 := 0) rfl (fun i σ H' => ∃ wd mk sh, σ = [some (vi n), some (.ref D), some (.ref m), wd, mk, sh] ∧ H' D = some (.lst (vis ((List.range (2 ^ (n - 1))).map fun s => LL.maskN (rising (gained (n - 1) s))))) ∧
      H' m = some (.lst (vis ((List.range i).map (LL.nearN n)))) ∧ Same H H') ⟨none, none, none, rfl, by rw [q5z Dm]; exact eD, q1z, sU s1 hm⟩ ?_ ?_
     . rintro i σ H2 hi ⟨wd, mk, sh, rfl, eD2, em2, s2⟩
       rw [Nat.zero_add]
       refine ⟨_, rfl, _, rfl, i, n, rfl, h1, by omega, hi, fun H3 p s3 fp ep => ?_⟩
       refine ⟨p, rfl, ⟨_, SqL.of ep⟩, for_list (K := K) (a := p) (xs := vis (rising (lost n i))) (fun j σ H' => ∃ sh, σ = [some (vi n), some (.ref D), some (.ref m), some (vi i), some (vi (((rising (lost n i)).take j).foldl (fun m s => m ||| LL.maskN (rising (gained (n - 1) s))) 0)), sh] ∧ H' = H3)
        ⟨sh, rfl, rfl⟩ (fun j σ H' _ ⟨_, _, e⟩ => by rw [e]; exact SqL.of ep) ?_ ?_⟩
       . rintro j y σ H' hj ⟨sh2, rfl, rfl⟩
         obtain ⟨z, hz, rfl⟩ := vis_get hj
         have zlt : z < 2 ^ (n - 1) := LL.lost_lt hi ((LL.mem_rising _).mp (List.mem_of_getElem? hz))
         refine ⟨_, rfl, _, rfl, _, rfl, D, _, _, _, rfl, rfl, SqL.of (s3 _ _ eD2), atI_nat (v := vi (LL.maskN (rising (gained (n - 1) z)))) ?_, _, _, rfl, rfl, trivial, some (vi z), ?_, rfl⟩
         . unfold vis
           rw [List.getElem?_map, List.getElem?_map, List.getElem?_range zlt]
           rfl
         . rw [take_snoc hz, List.foldl_append]
           rfl
       . rintro σ H' ⟨sh2, rfl, rfl⟩
         rw [q9z, List.take_length]
         have em3 := s3 _ _ em2
         refine ⟨_, rfl, .inl ⟨rfl, _, SqL.of em3⟩, _, rfl, m, _, _, rfl, rfl, em3, ?_, ?_⟩
         . rw [q9z, List.length_map, List.length_range]
           exact small1000 (by omega)
         refine ⟨_, _, _, rfl, by rw [q5z Dm]; exact s3 _ _ eD2, ?_, same_upd' (s2.trans s3) fm⟩
         rw [q1z, vis_range]
         rfl
     . rintro σ H2 ⟨wd, mk, sh, rfl, eD2, em2, s2⟩
       exact ⟨_, rfl, q H2 m s2 fm em2⟩
theorem sub_and_bit (f m j : Nat) : (f - (f &&& m)).testBit j = (f.testBit j && !m.testBit j) := by
 have h1 := Bits.nat_xor_add_and f (f &&& m)
 have h2 : f &&& (f &&& m) = f &&& m := by rw [← Nat.and_assoc, Nat.and_self]
 have h3 : f &&& m ≤ f := Nat.and_le_left
 have e : f - (f &&& m) = f ^^^ (f &&& m) := by omega
 rw [e, Nat.testBit_xor, Nat.testBit_and]
 cases f.testBit j <;> cases m.testBit j <;> rfl
theorem bits_pow (l : Nat) : Builtin.Int.intBits ((2 ^ l : Nat) : Int) = l + 1 := by
 unfold Builtin.Int.intBits
 have hp := Nat.two_pow_pos l
 rw [if_neg (fun h => by
  have h' : ((2 ^ l : Nat) : Int) = 0 := eq_of_beq h
  omega), Int.natAbs_natCast, Nat.log2_two_pow]
theorem bits_lt {N f j : Nat} (h : f < 2 ^ N) (hj : f.testBit j = true) : j < N := by
 apply Decidable.byContradiction
 intro hn
 have h1 : f < 2 ^ j := Nat.lt_of_lt_of_le h (Nat.pow_le_pow_right (by decide) (by omega))
 rw [Nat.testBit_lt_two_pow h1] at hj
 cases hj
abbrev B (n f : Nat) : List Nat := LL.bitsOf (2 ^ n) f
abbrev okN (n : Nat) : Nat -> Nat -> Bool := fun w v => !alike n w v
theorem step_down {n f : Nat} (hn : 1 ≤ n) (hf : f < 2 ^ (2 ^ n)) (h0 : f ≠ 0) : ∃ l, l < 2 ^ n /\ f ^^^ (f &&& (f - 1)) = 2 ^ l /\ B n f = l :: B n (f &&& (f - 1)) /\
 B n (f - (f &&& LL.nearN n l)) = (B n (f &&& (f - 1))).filter (okN n l) ∧ f &&& (f - 1) < 2 ^ (2 ^ n) ∧ f - (f &&& LL.nearN n l) < 2 ^ (2 ^ n) := by
 obtain ⟨l, h1, h2, h3, h4⟩ := LL.low_parts h0
 have hl : l < 2 ^ n := bits_lt hf h1
 refine ⟨l, hl, h4, LL.bits_low hl h1 h2 h3, ?_, Nat.lt_of_le_of_lt Nat.and_le_left hf, Nat.lt_of_le_of_lt (Nat.sub_le _ _) hf⟩
 refine LL.bits_filter fun j hj => ?_
 rw [sub_and_bit, LL.near_bit hn hl hj, h3 j]
 by_cases e : j = l
 . subst e
   rw [LL.alike_self (by omega) hj]
   simp
 . simp [e]
theorem catT_use {K : W.Frag} {H : Hp} {Q : VK} {t p : Addr} {xs ys : List V} (ht : H t = some (.tup xs)) (hp : H p = some (.tup ys)) (hx : xs ≠ []) (hz : xs.length + ys.length ≤ sizeLine)
 (h : ∀ r H2, H2 r = some (.tup (xs ++ ys)) → Same H H2 → Q (.ref r) H2) : rCatT K (.ref t) (.ref p) H Q :=
 ⟨t, p, xs, ys, rfl, rfl, SqT.of ht, SqT.of hp, hx, hz, fun e => h t H (by rw [e, List.append_nil]; exact ht) (Same.refl H), fun _ r hr => h r _ q1z (sU (Same.refl H) hr)⟩
def Valid (n : Nat) (H : Hp) (kvs : List (Key × V)) : Prop := ∀ (g : Nat) (v : V), valV kvs (Sum.inl (g : Int)) = some v -> ∃ p, v = .ref p /\ H p = some (.tup (vis (LL.bst n (B n g))))
variable {P : Program} {w : World} {K : W.Frag} {mg : Str → Option Value} {base : Heap}
def sp_mw (n d : Nat) : Sp := fun vs H Q _ => ∃ (f : Nat) (an k : Addr) (kvs : List (Key × V)), vs = [vi f, .ref an, .ref k] /\ f < 2 ^ (2 ^ n) /\ H an = some (.lst (vis (nears n))) /\ H k = some (.dK kvs) /\ Valid n H kvs /\ (B n f).length < d /\
 kvs.length + LL.cnt (okN n) (B n f) ≤ 1000000 ∧ ∀ H' p kvs', H' p = some (.tup (vis (LL.bst n (B n f)))) → H' k = some (.dK kvs') → Valid n H' kvs' → kvs'.length ≤ kvs.length + LL.cnt (okN n) (B n f) → (∀ b o, H b = some o → b ≠ k → H' b = some o) → Q (.ref p) H'
theorem sc_mw : FnScope ["free", "near", "known", "rest", "least", "taken", "left"] ["free", "near", "known"] (defScope s_most_within) := sc_by rfl (by decide +kernel)
theorem Valid.keep {n : Nat} {H H' : Hp} {kvs : List (Key × V)} (v : Valid n H kvs) (h : ∀ p xs, H p = some (.tup xs) -> H' p = some (.tup xs)) : Valid n H' kvs := fun g x e => by
 obtain ⟨p, e1, e2⟩ := v g x e
 exact ⟨p, e1, h p _ e2⟩
theorem ok_mw {n : Nat} (h1 : 1 ≤ n) (h5 : n ≤ 5) {f : Addr} {fd : FuncData} (F : Fun K "most_within" "most_within" s_most_within f fd) (O : Own mg) (hm : mg "most_within" = some (.ref f)) (bd : Binds K fd ["free", "near", "known"] []) :
 ∀ d, FnOk P w K mg base CX0 (d + 1) f fd ["free", "near", "known"] (sp_mw n d)
 | 0 => ⟨fun vs H Q E h => by obtain ⟨x, an, k, kvs, rfl, _⟩ := h; rfl, fun A outer s H args us vs Q E hr he hb hv h => by
  obtain ⟨x, an, k, kvs, _, _, _, _, _, hl, _⟩ := h
  exact absurd hl (Nat.not_lt_zero _)⟩
 | d + 1 => by
   have DM : Def P w K mg base "most_within" (d + 1) ["free", "near", "known"] (sp_mw n d) := ⟨f, fd, ok_mw h1 h5 F O hm bd d, hm, F.kp, bd⟩
   refine F.ok sc_mw (fun _ _ _ _ h => ?_) (fun _ _ _ _ H vs Q E hr h => ?_)
   . obtain ⟨x, an, k, kvs, rfl, _⟩ := h
     rfl
   . obtain ⟨x, an, k, kvs, rfl, hx, ean, ek, va, hl, hc, q⟩ := h
     have hu := hu_of hr
     refine ⟨_, q3z (ps_if (pt_cmpR op_eq (pv 0) q10z (nomark _)) (q4z (q8z (pe_tup q2z))) pss_nil)
      (q3z (ps_if (pt_cmp (pc_din hu (pv 0) (pv 2))) (q4z (q8z (pe_dget hu (pv 2) (pv 0) (fun _ _ => rfl)))) pss_nil)
      (q3z (q12z (i := 3) sc_mw.nd rfl (Or.inl rfl) (pe_op op_andN (pv 0) (pe_op op_subN (pv 0) q10z)))
      (q3z (q12z (i := 4) sc_mw.nd rfl (Or.inl rfl) (pe_op op_subN (pe_bm0 PySem.F.plainAttrs_int slot_int_bit_length type_int_bit_length mt_bits (pe_op op_xorN (pv 0) (pv 3))) q10z))
      (q3z (q12z (i := 5) sc_mw.nd rfl (Or.inl rfl) (pe_op op_catT (pe_tup (q0z (pv 4) q2z)) (q6z DM hr rfl (q0z (pe_op op_andNot (pv 0) (pe_un un_inv (pe_ix ix_list (pv 1) (pv 4) (fun _ _ => rfl)))) (q0z (pv 1) (q0z (pv 2) q2z))))))
      (q3z (q12z (i := 6) sc_mw.nd rfl (Or.inl rfl) (q6z DM hr rfl (q0z (pv 3) (q0z (pv 1) (q0z (pv 2) q2z)))))
      (q3z (ps_dput hu (pv 2) (pv 0) (pe_ifExp (pt_cmpR op_ge (q16z q15z (by rfl) O.len boot_len (q0z (pv 5) q2z)) (q16z q15z (by rfl) O.len boot_len (q0z (pv 6) q2z)) (nomark _)) (pv 5) (pv 6)) rfl)
      (q4z (q8z (pe_dget hu (pv 2) (pv 0) (fun _ _ => rfl)))))))))), ?_⟩
     refine ⟨_, rfl, rfl, _, rfl, ?_⟩
     refine ite2 (fun h0 => ?_) (fun h0 => ?_)
     . have x0 : x = 0 := by
        have h0' : vi x = V.int 0 := of_decide_eq_true h0
        injection h0' with e
        omega
       subst x0
       refine ⟨Nat.zero_le _, fun p hp => ?_⟩
       have kp : k ≠ p := q7z ek hp
       refine q _ p kvs ?_ (by rw [q5z kp]; exact ek) (va.keep fun c xs e => by rw [q5z (q7z e hp)]; exact e) (Nat.le_add_right _ _) fun b o e _ => by rw [q5z (q7z e hp)]; exact e
       show upd H p _ p = some (.tup (vis (LL.bst n (LL.bitsOf (2 ^ n) 0))))
       rw [q1z, LL.bits_zero, LL.bst_nil]
       rfl
     . have x0 : x ≠ 0 := fun e => h0 (by rw [e]; rfl)
       refine ⟨_, rfl, _, rfl, k, _, rfl, DGet.k (k := Sum.inl (x : Int)) ek, _, rfl, ?_⟩
       refine ite2 (fun hin => ?_) (fun hin => ?_)
       . cases e : valV kvs (Sum.inl (x : Int)) with
         | none => rw [e] at hin; cases hin
         | some v =>
           obtain ⟨p, rfl, hp⟩ := va x v e
           refine ⟨_, rfl, _, rfl, k, .ref p, rfl, ?_, q H p kvs hp ek va (Nat.le_add_right _ _) fun b o e _ => e⟩
           rw [← e]
           exact DGet.k (k := Sum.inl (x : Int)) ek
       . obtain ⟨l, ll, exor, eB, eG, hrest, hg⟩ := step_down h1 hx x0
         have x1 : 1 ≤ x := by omega
         have lenB : (B n x).length = (B n (x &&& (x - 1))).length + 1 := by rw [eB]; rfl
         have lenG : (B n (x - (x &&& LL.nearN n l))).length ≤ (B n (x &&& (x - 1))).length := by rw [eG]; exact List.length_filter_le _ _
         have ecnt : LL.cnt (okN n) (B n x) = 1 + LL.cnt (okN n) (B n (x - (x &&& LL.nearN n l))) + LL.cnt (okN n) (B n (x &&& (x - 1))) := by rw [eB, LL.cnt_cons, eG]
         refine ⟨_, rfl, _, rfl, x, 1, rfl, rfl, x1, x, x - 1, rfl, rfl, trivial, ?_⟩
         have ebl : V.int ((Builtin.Int.intBits ((x ^^^ (x &&& (x - 1)) : Nat) : Int) : Nat) : Int) = vi (l + 1) := by rw [exor, bits_pow]
         refine ⟨_, rfl, _, rfl, x, x &&& (x - 1), rfl, rfl, trivial, rfl, _, rfl, rfl, l + 1, 1, ebl, rfl, (by show 1 ≤ l + 1; omega), ?_⟩
         refine ⟨_, rfl, sz1, fun t ht => ?_⟩
         have tk : k ≠ t := q7z ek ht
         have ta : an ≠ t := q7z ean ht
         have enear : (vis (nears n))[l]? = some (vi (LL.nearN n l)) := by
          unfold nears vis
          rw [List.getElem?_map, List.getElem?_map, List.getElem?_range ll]
          rfl
         refine ⟨_, rfl, _, rfl, _, rfl, an, _, _, _, rfl, rfl, SqL.of (by rw [q5z ta]; exact ean), atI_nat enear, _, rfl, x, LL.nearN n l, rfl, rfl, _, rfl, _, rfl, ?_⟩
         have va1 : Valid n (upd H t (.tup [vi l])) kvs := va.keep fun c xs e => by rw [q5z (q7z e ht)]; exact e
         refine ⟨x - (x &&& LL.nearN n l), an, k, kvs, rfl, hg, by rw [q5z ta]; exact ean, by rw [q5z tk]; exact ek, va1, by omega, by omega, fun H1 p1 kvs1 e1 ek1 va2 len1 kp1 => ?_⟩
         have et1 : H1 t = some (.tup [vi l]) := kp1 t _ q1z (Ne.symm tk)
         have ean1 : H1 an = some (.lst (vis (nears n))) := kp1 an _ (by rw [q5z ta]; exact ean) (fun z => by rw [z, ek] at ean; cases ean)
         have kp1' : ∀ b o, H b = some o → b ≠ k → H1 b = some o := fun b o e nb => kp1 b o (by rw [q5z (q7z e ht)]; exact e) nb
         have lenA : (LL.bst n (B n (x - (x &&& LL.nearN n l)))).length ≤ 64 := by
          refine Nat.le_trans (LL.bst_len n _ _ (Nat.le_refl _)) (Nat.le_trans (List.length_filter_le _ _) ?_)
          rw [List.length_range]
          exact Nat.le_trans (Nat.pow_le_pow_right (by decide) h5) (by decide)
         refine catT_use et1 e1 (by simp) (by rw [q9z]; exact Nat.le_of_lt (small1000 (by simp; omega))) fun r H2 er s2 => ?_
         have ek2 := s2 _ _ ek1
         have va3 : Valid n H2 kvs1 := va2.keep fun c xs e => s2 _ _ e
         refine ⟨_, rfl, _, rfl, _, rfl, x &&& (x - 1), an, k, kvs1, rfl, hrest, s2 _ _ ean1, ek2, va3, by omega, by omega, fun H3 p3 kvs3 e3 ek3 va4 len3 kp3 => ?_⟩
         have er3 : H3 r = some (.tup (vis (l :: LL.bst n (B n (x - (x &&& LL.nearN n l)))))) := kp3 r _ er (fun z => by rw [z, ek2] at er; cases er)
         refine ⟨_, rfl, r, _, rfl, .inr (SqT.of er3), _, rfl, p3, _, rfl, .inr (SqT.of e3), _, _, rfl, rfl, _, rfl, ?_⟩
         have ebst := LL.bst_cons n l (B n (x &&& (x - 1)))
         rw [← eB, ← eG] at ebst
         have lk3 : kvs3.length < sizeLine := Nat.lt_of_le_of_lt (show kvs3.length ≤ 1000000 by omega) (by decide)
         have fin : ∀ (z : Addr), H3 z = some (.tup (vis (LL.bst n (B n x)))) → DGet (upd H3 k (.dK (putK kvs3 (Sum.inl (x : Int)) (.ref z)))) k (vi x) (some (.ref z)) ∧ Q (.ref z) (upd H3 k (.dK (putK kvs3 (Sum.inl (x : Int)) (.ref z)))) := fun z ez => by
          have zk : z ≠ k := fun e => by rw [e, ek3] at ez; cases ez
          have lput := length_putK kvs3 (Sum.inl (x : Int)) (V.ref z)
          refine ⟨?_, q _ z _ (by rw [q5z zk]; exact ez) q1z (fun g v e => ?_) (by omega) fun b o e nb => by rw [q5z nb]; exact kp3 b o (s2 b o (kp1' b o e nb)) nb⟩
          . have e := DGet.k (k := Sum.inl (x : Int)) (q1z (H := H3) (a := k) (o := .dK (putK kvs3 (Sum.inl (x : Int)) (.ref z))))
            rw [valV_put, if_pos rfl] at e
            exact e
          . rw [valV_put] at e
            by_cases ge : (Sum.inl (g : Int) : Key) = Sum.inl (x : Int)
            . rw [if_pos ge] at e
              have : g = x := by injection ge with ge; omega
              subst this
              exact ⟨z, (Option.some.inj e).symm, by rw [q5z zk]; exact ez⟩
            . rw [if_neg ge] at e
              obtain ⟨p, e1, e2⟩ := va4 g v e
              exact ⟨p, e1, by rw [q5z (fun z => by rw [z, ek3] at e2; cases e2)]; exact e2⟩
         refine ite2 (fun hle => ?_) (fun hle => ?_)
         . have hle' := of_decide_eq_true hle
           rw [q9z] at hle'
           have hb : (LL.bst n (B n (x &&& (x - 1)))).length ≤ (LL.bst n (B n (x - (x &&& LL.nearN n l)))).length + 1 := by simp at hle'; omega
           rw [if_pos hb] at ebst
           obtain ⟨g1, g2⟩ := fin r (by rw [ebst]; exact er3)
           exact ⟨_, rfl, _, rfl, _, rfl, k, _, rfl, DPut.k (k := Sum.inl (x : Int)) ek3 lk3, _, rfl, _, rfl, k, _, rfl, g1, g2⟩
         . have hb : ¬ (LL.bst n (B n (x &&& (x - 1)))).length ≤ (LL.bst n (B n (x - (x &&& LL.nearN n l)))).length + 1 := fun hb => hle (decide_eq_true (by
            rw [q9z]
            simp
            omega))
           rw [if_neg hb] at ebst
           obtain ⟨g1, g2⟩ := fin p3 (by rw [ebst]; exact e3)
           exact ⟨_, rfl, _, rfl, _, rfl, k, _, rfl, DPut.k (k := Sum.inl (x : Int)) ek3 lk3, _, rfl, _, rfl, k, _, rfl, g1, g2⟩
variable {P : Program} {w : World} {K : W.Frag} {mg : Str → Option Value} {base : Heap}
def sp_swm (K : W.Frag) : Sp := fun vs H Q _ => ∃ (a : Addr) (c : List Nat) (n : Nat), vs = [.ref a, vi n] /\ SqT K H a (vis c) /\ LL.Up c /\ c.length ≤ 24 /\ (∀ x ∈ c, x < 2 ^ n) /\ 1 ≤ n /\ n ≤ 5 /\
 ∀ H' p, Same H H' → H p = none → H' p = some (.tup (vis (rising (Km469.most n c)))) → Q (.ref p) H'
theorem sc_swm : FnScope ["code", "n", "near", "free", "word"] ["code", "n"] (defScope s_safe_with_most) := sc_by rfl (by decide +kernel)
theorem ok_swm {f : Addr} {fd : FuncData} (F : Fun K "safe_with_most" "safe_with_most" s_safe_with_most f fd) (O : Own mg) (DN : Def P w K mg base "near_masks" 4 ["n"] sp_near)
 (DM : ∀ n, 1 ≤ n → n ≤ 5 → Def P w K mg base "most_within" 34 ["free", "near", "known"] (sp_mw n 33)) : FnOk P w K mg base CX0 35 f fd ["code", "n"] (sp_swm K) := by
 refine F.ok sc_swm (fun _ _ _ _ h => ?_) (fun _ _ _ _ H vs Q E hr h => ?_)
 . obtain ⟨a, c, n, rfl, _⟩ := h
   rfl
 . obtain ⟨a, c, n, rfl, hs, hup, hc, hx, h1, h5, q⟩ := h
   have hr4 : Room 4 _ := hr.mono (by decide)
   have hN : 2 ^ n ≤ 32 := Nat.le_trans (Nat.pow_le_pow_right (by decide) h5) (by decide)
   refine ⟨_, q3z (q12z (i := 2) sc_swm.nd rfl (Or.inl rfl) (q6z DN hr4 rfl (q0z (pv 1) q2z)))
    (q3z (q12z (i := 3) sc_swm.nd rfl (Or.inl rfl) (pe_op op_subN (pe_op op_shlN q10z (pe_op op_shlN q10z (pv 1))) q10z))
    (q3z (ps_for PassesOwn.never rfl (pi_tup (pv 0)) (pg_name (i := 4) sc_swm.nd rfl (Or.inl rfl))
     (q4z (q12z (i := 3) sc_swm.nd rfl (Or.inl rfl) (pe_op op_andNot (pv 3) (pe_un un_inv (pe_ix ix_list (pv 2) (pv 4) (fun _ _ => rfl)))))))
    (q4z (q8z (pe_callTy call_tuple_of (by rfl) O.tuple (by rfl) (q0z (q16z cr_sorted (by rfl) O.sorted (by rfl) (q0z
     (pe_op op_cat (pe_callTy call_list_of (by rfl) O.list (by rfl) (q0z (pv 0) q2z)) (pe_callTy call_list_of (by rfl) O.list (by rfl) (q0z (q6z (DM n h1 h5) hr rfl (q0z (pv 3) (q0z (pv 2) (q0z pe_dnewK q2z)))) q2z))) q2z)) q2z)))))), ?_⟩
   refine ⟨_, rfl, n, rfl, h1, by omega, fun H1 an s1 fan ean => ?_⟩
   refine ⟨_, rfl, 1, n, rfl, rfl, ⟨by omega, by decide⟩, 1, 1 * 2 ^ n, rfl, rfl, ⟨by omega, by decide⟩, 1 * 2 ^ (1 * 2 ^ n), 1, rfl, rfl, (by show 1 ≤ 1 * 2 ^ (1 * 2 ^ n); have := Nat.two_pow_pos (1 * 2 ^ n); omega), ?_⟩
   refine ⟨_, rfl, a, rfl, ⟨_, Same.tup s1 hs⟩, for_tup (K := K) (a := a) (xs := vis c) (fun i σ H' => ∃ wd fr, σ = [some (.ref a), some (vi n), some (.ref an), some (vi fr), wd] ∧ H' = H1 ∧ fr < 2 ^ (2 ^ n) ∧ ∀ j, j < 2 ^ n → fr.testBit j = (c.take i).all fun v => !alike n j v)
    ⟨none, _, rfl, rfl, ?_, fun j hj => ?_⟩ (fun i σ H' _ ⟨_, _, _, e, _⟩ => by rw [e]; exact Same.tup s1 hs) ?_ ?_⟩
   . show 1 * 2 ^ (1 * 2 ^ n) - 1 < 2 ^ (2 ^ n)
     rw [Nat.one_mul, Nat.one_mul]
     have := Nat.two_pow_pos (2 ^ n)
     omega
   . show (1 * 2 ^ (1 * 2 ^ n) - 1).testBit j = _
     rw [Nat.one_mul, Nat.one_mul, Nat.testBit_two_pow_sub_one]
     simpa using hj
   . rintro i y σ H' hi ⟨wd, fr, rfl, rfl, hfr, hb⟩
     obtain ⟨x, hxi, rfl⟩ := vis_get hi
     have xl : x < 2 ^ n := hx x (List.mem_of_getElem? hxi)
     have enear : (vis (nears n))[x]? = some (vi (LL.nearN n x)) := by
      unfold nears vis
      rw [List.getElem?_map, List.getElem?_map, List.getElem?_range xl]
      rfl
     refine ⟨_, rfl, _, rfl, _, rfl, an, _, _, _, rfl, rfl, SqL.of ean, atI_nat enear, _, rfl, fr, LL.nearN n x, rfl, rfl, some (vi x), _, rfl, rfl, Nat.lt_of_le_of_lt (Nat.sub_le _ _) hfr, fun j hj => ?_⟩
     rw [sub_and_bit, hb j hj, LL.near_bit h1 xl hj, take_snoc hxi, List.all_append, LL.alike_comm n x j]
     simp
   . rintro σ H' ⟨wd, fr, rfl, rfl, hfr, hb⟩
     rw [q9z, List.take_length] at hb
     have eB : B n fr = (List.range (2 ^ n)).filter fun z => c.all fun v => !alike n z v := by
      unfold B LL.bitsOf
      exact List.filter_congr fun j hj => hb j (List.mem_range.mp hj)
     have sub : (LL.bst n (B n fr)).Sublist (B n fr) := LL.bst_sub n _ _ (Nat.le_refl _)
     have emost : Km469.most n c = c ++ LL.bst n (B n fr) := by rw [LL.most_eq, eB]
     have lenB : (B n fr).length ≤ 2 ^ n := by rw [eB]; exact Nat.le_trans (List.length_filter_le _ _) (by rw [List.length_range]; exact Nat.le_refl _)
     have lenb : (LL.bst n (B n fr)).length ≤ 32 := Nat.le_trans sub.length_le (Nat.le_trans lenB hN)
     have cntb : LL.cnt (okN n) (B n fr) ≤ 100000 := Nat.le_trans (LL.cnt_sub (okN n) _ _ _ (Nat.le_refl _) (by rw [eB]; exact List.filter_sublist)) (LL.cnt_most h5)
     have nd : (c ++ LL.bst n (B n fr)).Nodup := by
      rw [List.nodup_append]
      refine ⟨LL.up_nodup hup, (LL.up_nodup (LL.up_bits (2 ^ n) fr)).sublist sub, fun u hu v hv e => ?_⟩
      subst e
      have hm := sub.subset hv
      rw [eB, List.mem_filter] at hm
      have h2 := List.all_eq_true.mp hm.2 u hu
      rw [LL.alike_self (by omega) (List.mem_range.mp hm.1)] at h2
      cases h2
     refine ⟨_, rfl, a, _, rfl, .inr (Same.tup s1 hs), fun l1 hl1 => ?_⟩
     have t1 := sU (o := .lst (vis c)) s1 hl1
     have ean1 : upd H' l1 (.lst (vis c)) an = some (.lst (vis (nears n))) := by rw [q5z (q7z ean hl1)]; exact ean
     refine ⟨_, rfl, _, rfl, fun d hd => ?_⟩
     have t2 := sU (o := .dK []) t1 hd
     have ean2 : upd (upd H' l1 (.lst (vis c))) d (.dK []) an = some (.lst (vis (nears n))) := by rw [q5z (q7z ean1 hd)]; exact ean1
     have el1 : upd (upd H' l1 (.lst (vis c))) d (.dK []) l1 = some (.lst (vis c)) := by rw [q5z (q7z q1z hd)]; exact q1z
     have fd0 : H d = none := t1.free hd
     refine ⟨fr, an, d, [], rfl, hfr, ean2, q1z, (fun g v e => by cases e), by omega, (by show 0 + _ ≤ 1000000; omega), fun H2 p2 kvs2 e2 _ _ _ kp2 => ?_⟩
     have t3 : Same H H2 := fun b o e => kp2 b o (t2 b o e) (q7z e fd0)
     have el2 : H2 l1 = some (.lst (vis c)) := kp2 l1 _ el1 (q7z q1z hd)
     refine ⟨p2, _, rfl, .inr (SqT.of e2), fun l3 hl3 => ?_⟩
     have t4 := sU (o := .lst (vis (LL.bst n (B n fr)))) t3 hl3
     have el3 : upd H2 l3 (.lst (vis (LL.bst n (B n fr)))) l1 = some (.lst (vis c)) := by rw [q5z (q7z el2 hl3)]; exact el2
     refine ⟨l1, l3, _, _, rfl, rfl, el3, q1z, by rw [q9z, q9z]; exact Nat.le_of_lt (small1000 (by omega)), fun l4 hl4 => ?_⟩
     rw [← vis_append]
     have t5 := sU (o := .lst (vis (c ++ LL.bst n (B n fr)))) t4 hl4
     refine ⟨l4, up (c ++ LL.bst n (B n fr)), rfl, by rw [vis_up]; exact SqL.of q1z, by simp [up]; omega, fun ns p5 pm pw hp5 => ?_⟩
     have e5 : ns = up (rising (c ++ LL.bst n (B n fr))) := sorted_up pm pw (by
      unfold up
      rw [List.Nodup, List.pairwise_map]
      exact nd.imp fun {u v} huv => by omega) (fun _ => Iff.rfl) (LL.up_rising _) fun z => LL.mem_rising _
     rw [emost] at q
     rw [e5, vis_up]
     have t6 := sU (o := .lst (vis (rising (c ++ LL.bst n (B n fr))))) t5 hp5
     refine ⟨p5, _, rfl, .inl ⟨SqL.of q1z, fun p6 hp6 => ?_⟩⟩
     exact q _ p6 (sU t6 hp6) (t6.free hp6) q1z
def NatKeys (kvs : List (Key × V)) (S : Nat -> Prop) : Prop := ∀ p ∈ kvs, ∃ z : Nat, p.1 = Sum.inl (z : Int) /\ S z
theorem NatKeys.put {kvs : List (Key × V)} {S : Nat -> Prop} {z : Nat} {v : V} (h : NatKeys kvs S) (hz : S z) : NatKeys (putK kvs (Sum.inl (z : Int)) v) S := by
 intro p hp
 unfold putK at hp
 split at hp
 . obtain ⟨q, hq, e⟩ := List.mem_map.mp hp
   have e1 : p.1 = q.1 := by
    rw [← e]
    split <;> rfl
   rw [e1]
   exact h q hq
 . rcases List.mem_append.mp hp with hp | hp
   . exact h p hp
   . rw [List.mem_singleton] at hp
     rw [hp]
     exact ⟨z, rfl, hz⟩
def nk (kvs : List (Key × V)) : List Nat := kvs.map fun p => match p.1 with
 | .inl i => i.toNat
 | .inr _ => 0
theorem mem_nk {kvs : List (Key × V)} {S : Nat -> Prop} (h : NatKeys kvs S) (z : Nat) : z ∈ nk kvs ↔ (valV kvs (Sum.inl (z : Int))).isSome = true := by
 rw [← valV_any, List.any_eq_true]
 unfold nk
 rw [List.mem_map]
 constructor
 . rintro ⟨p, hp, e⟩
   obtain ⟨y, ey, _⟩ := h p hp
   refine ⟨p, hp, decide_eq_true ?_⟩
   rw [ey] at e ⊢
   have e' : (y : Int).toNat = z := e
   have : y = z := by omega
   rw [this]
 . rintro ⟨p, hp, e⟩
   have e' : p.1 = Sum.inl (z : Int) := of_decide_eq_true e
   refine ⟨p, hp, ?_⟩
   rw [e']
   show (z : Int).toNat = z
   omega
theorem nk_get {kvs : List (Key × V)} {i z : Nat} {k : Key} {v : V} (h : kvs[i]? = some (k, v)) (e : k = Sum.inl (z : Int)) : (nk kvs)[i]? = some z := by
 unfold nk
 rw [List.getElem?_map, h, e]
 show some ((z : Int).toNat) = some z
 rw [Int.toNat_natCast]
theorem nk_len (kvs : List (Key × V)) : (nk kvs).length = kvs.length := by unfold nk; rw [List.length_map]
theorem range_filter_snoc' (p : Nat -> Bool) (i : Nat) : (List.range (i + 1)).filter p = (List.range i).filter p ++ (if p i = true then [i] else []) := by
 rw [List.range_succ, List.filter_append, List.filter_cons, List.filter_nil]
abbrev mayL (n : Nat) (c : List Nat) : List Nat := (List.range (2 ^ n)).filter fun w => (lost n w).all fun x => !(c.flatMap (lost n)).contains x
variable {P : Program} {w : World} {K : W.Frag} {mg : Str → Option Value} {base : Heap}
def sp_free (K : W.Frag) : Sp := fun vs H Q _ => ∃ (a : Addr) (c : List Nat) (n : Nat), vs = [.ref a, vi n] /\ SqT K H a (vis c) /\ c.length ≤ 24 /\ (∀ x ∈ c, x < 2 ^ n) /\ 1 ≤ n /\ n ≤ 10 /\
 ∀ H' p, Same H H' → H p = none → H' p = some (.lst (vis (mayL n c))) → Q (.ref p) H'
theorem sc_free : FnScope ["code", "n", "shorter", "word", "left", "near"] ["code", "n"] (defScope s_free_words) := sc_by rfl (by decide +kernel)
theorem ok_free {f : Addr} {fd : FuncData} (F : Fun K "free_words" "free_words" s_free_words f fd) (O : Own mg) (DL : Def P w K mg base "lost" 3 ["word", "n"] sp_lost) (DG : Def P w K mg base "gained" 3 ["word", "n"] sp_gained) : FnOk P w K mg base CX0 4 f fd ["code", "n"] (sp_free K) := by
 refine F.ok sc_free (fun _ _ _ _ h => ?_) (fun _ _ _ _ H vs Q E hr h => ?_)
 . obtain ⟨a, c, n, rfl, _⟩ := h
   rfl
 . obtain ⟨a, c, n, rfl, hs, hc, hx, h1, h2, q⟩ := h
   have hu := hu_of hr
   have big : 2 ^ n ≤ 1024 := Nat.le_trans (Nat.pow_le_pow_right (by decide) h2) (by decide)
   refine ⟨_, q3z (q12z (i := 2) sc_free.nd rfl (Or.inl rfl) pe_dnewK)
    (q3z (ps_for PassesOwn.never rfl (pi_tup (pv 0)) (pg_name (i := 3) sc_free.nd rfl (Or.inl rfl))
     (q4z (ps_for PassesOwn.never rfl (pi_list (q6z DL hr rfl (q0z (pv 3) (q0z (pv 1) q2z)))) (pg_name (i := 4) sc_free.nd rfl (Or.inl rfl))
      (q4z (ps_dput hu (pv 2) (pv 4) pe_bl rfl)))))
    (q3z (q12z (i := 5) sc_free.nd rfl (Or.inr rfl) pe_dnewK)
    (q3z (ps_lock (ps_for PassesOwn.never rfl (pi_keys (pv 2)) (pg_name (i := 4) sc_free.nd rfl (Or.inl rfl))
     (q4z (ps_for PassesOwn.never rfl (pi_list (q6z DG hr rfl (q0z (pv 4) (q0z (pe_op op_subN (pv 1) q10z) q2z)))) (pg_name (i := 3) sc_free.nd rfl (Or.inl rfl))
      (q4z (ps_dput hu (pv 5) (pv 3) pe_bl rfl))))))
    (q4z (q8z (pe_lc (own := [("word", 3)]) rfl sc_free.nd (pi_range1 rfl O.range (q0z (pe_op op_shlN q10z (pv 1)) q2z))
     (blkOk_by (by show blkC ["code", "n", "shorter", "word", "left", "near"] (defScope s_free_words) _ _ = true; decide +kernel)) (fun _ _ _ _ _ => pg_name (i := 3) sc_free.nd rfl (Or.inl rfl))
     (fun _ _ _ _ _ => pts_one (pt_cmp (pc_dnotin hu (pv 3) (pv 5)))) (fun _ _ _ _ _ => pv 3))))))), ?_⟩
   intro d hd
   have s0 := sU (o := .dK []) (Same.refl H) hd
   refine ⟨_, rfl, a, rfl, ⟨_, Same.tup s0 hs⟩, for_tup (K := K) (a := a) (xs := vis c) (fun i σ H' => ∃ wd lf kvs, σ = [some (.ref a), some (vi n), some (.ref d), wd, lf, none] ∧ H' d = some (.dK kvs) ∧ Same H H' ∧ Seen n kvs (c.take i) [] ∧ NatKeys kvs (fun z => ∃ v ∈ c, z ∈ lost n v) ∧ kvs.length ≤ i * 12)
    ⟨none, none, [], rfl, q1z, s0, fun z => by simp [valV_nil], (fun p hp => by cases hp), Nat.zero_le _⟩ (fun i σ H' _ ⟨_, _, _, _, _, s1, _⟩ => Same.tup s1 hs) ?_ ?_⟩
   . rintro i y σ H' hi ⟨wd, lf, kvs, rfl, ed, s1, seen, nkv, kl⟩
     obtain ⟨x, hxi, rfl⟩ := vis_get hi
     have xlt : x < 2 ^ n := hx x (List.mem_of_getElem? hxi)
     have ilt : i < c.length := (List.getElem?_eq_some_iff.mp hxi).1
     have ll := LL.rising_lost_len n x
     refine ⟨_, rfl, _, rfl, x, n, rfl, h1, by omega, xlt, fun H1 p s2 fp ep => ?_⟩
     have ed1 := s2 _ _ ed
     have pd : p ≠ d := fun z => by rw [z, ed] at fp; cases fp
     refine ⟨p, rfl, ⟨_, SqL.of ep⟩, for_list (K := K) (a := p) (xs := vis (rising (lost n x))) (fun j σ H'' => ∃ lf kvs, σ = [some (.ref a), some (vi n), some (.ref d), some (vi x), lf, none] ∧ H'' d = some (.dK kvs) ∧ H'' p = some (.lst (vis (rising (lost n x)))) ∧ Same H H'' ∧
      Seen n kvs (c.take i) ((rising (lost n x)).take j) ∧ NatKeys kvs (fun z => ∃ v ∈ c, z ∈ lost n v) ∧ kvs.length ≤ i * 12 + j)
      ⟨lf, kvs, rfl, ed1, ep, s1.trans s2, by simpa using seen, nkv, kl⟩ (fun j σ H'' _ ⟨_, _, _, _, e, _⟩ => SqL.of e) ?_ ?_⟩
     . rintro j y2 σ H'' hj ⟨lf2, kvs2, rfl, ed2, ep2, s3, seen2, nkv2, kl2⟩
       obtain ⟨z, hz, rfl⟩ := vis_get hj
       have jlt : j < (rising (lost n x)).length := (List.getElem?_eq_some_iff.mp hz).1
       have zl : z ∈ lost n x := (LL.mem_rising _).mp (List.mem_of_getElem? hz)
       refine ⟨_, rfl, _, rfl, d, _, rfl, DPut.k (k := Sum.inl (z : Int)) ed2 (Nat.lt_of_le_of_lt (show kvs2.length ≤ 2000 by omega) (by decide)), ?_⟩
       refine ⟨_, _, rfl, q1z, by rw [q5z pd]; exact ep2, same_upd' s3 hd, fun y => ?_, nkv2.put ⟨x, List.mem_of_getElem? hxi, zl⟩, ?_⟩
       . rw [valV_put, take_snoc hz, List.mem_append, List.mem_singleton]
         by_cases e : y = z
         . subst e
           simp
         . have ne : ¬ (Sum.inl (y : Int) : Key) = Sum.inl (z : Int) := fun h => e (by injection h with h; omega)
           rw [if_neg ne, seen2 y]
           simp [e]
       . have := length_putK kvs2 (Sum.inl (z : Int)) (V.bl true)
         omega
     . rintro σ H'' ⟨lf2, kvs2, rfl, ed2, ep2, s3, seen2, nkv2, kl2⟩
       rw [q9z, List.take_length] at seen2
       rw [q9z] at kl2
       refine ⟨_, _, kvs2, rfl, ed2, s3, fun z => ?_, nkv2, by omega⟩
       rw [seen2 z, take_snoc hxi]
       constructor
       . rintro (⟨v, hv, hz⟩ | hz)
         . exact .inl ⟨v, List.mem_append_left _ hv, hz⟩
         . exact .inl ⟨x, List.mem_append_right _ (by simp), (LL.mem_rising _).mp hz⟩
       . rintro (⟨v, hv, hz⟩ | hz)
         . rcases List.mem_append.mp hv with hv | hv
           . exact .inl ⟨v, hv, hz⟩
           . rw [List.mem_singleton] at hv
             subst hv
             exact .inr ((LL.mem_rising _).mpr hz)
         . cases hz
   . rintro σ H' ⟨wd, lf, kvs, rfl, ed, s1, seen, nkv, kl⟩
     rw [q9z, List.take_length] at seen
     rw [q9z] at kl
     intro e he
     have de : d ≠ e := q7z ed he
     have fe : H e = none := s1.free he
     have s2 := sU (o := .dK []) s1 he
     have ed1 : upd H' e (.dK []) d = some (.dK kvs) := by rw [q5z de]; exact ed
     have hL : ∀ z, z ∈ nk kvs ↔ ∃ v ∈ c, z ∈ lost n v := fun z => by
      rw [mem_nk nkv, seen z]
      simp
     refine ⟨d, .dK kvs, ed1, trivial, fun od => ?_⟩
     refine ⟨_, rfl, d, od, rfl, .inl ⟨kvs, q1z, for_keys (d := d) (o := od) (kvs := kvs) (fun i σ H'' => ∃ wd lf nkvs, σ = [some (.ref a), some (vi n), some (.ref d), wd, lf, some (.ref e)] ∧ H'' d = some (.frz od (.dK kvs)) ∧ H'' e = some (.dK nkvs) ∧ Same H H'' ∧
      (∀ y : Nat, (valV nkvs (Sum.inl (y : Int))).isSome = true ↔ ∃ z ∈ (nk kvs).take i, y ∈ gained (n - 1) z) ∧ nkvs.length ≤ i * 14)
      ⟨_, _, [], rfl, q1z, by rw [q5z (Ne.symm de), q1z], same_upd' s2 hd, fun y => by simp [valV_nil], Nat.zero_le _⟩ (fun i σ H'' ⟨_, _, _, _, e1, _⟩ => e1) ?_ ?_⟩⟩
     . rintro i k v σ H2 hk ⟨wd2, lf2, nkvs, rfl, ed2, ee2, s3, near2, nl2⟩
       obtain ⟨z, ez, vz, hvz, hzv⟩ := nkv _ (List.mem_of_getElem? hk)
       have ez' : k = Sum.inl (z : Int) := ez
       have gz := nk_get hk ez'
       subst ez'
       have zlt : z < 2 ^ (n - 1) := LL.lost_lt (hx vz hvz) hzv
       have ilt : i < kvs.length := (List.getElem?_eq_some_iff.mp hk).1
       have gl := LL.rising_gained_len zlt
       refine ⟨_, rfl, _, rfl, n, 1, rfl, rfl, h1, z, n - 1, rfl, by omega, zlt, fun H3 p s4 fp ep => ?_⟩
       have pd : p ≠ d := fun y => by rw [y, ed2] at fp; cases fp
       have pe' : p ≠ e := fun y => by rw [y, ee2] at fp; cases fp
       refine ⟨p, rfl, ⟨_, SqL.of ep⟩, for_list (K := K) (a := p) (xs := vis (rising (gained (n - 1) z))) (fun j σ H'' => ∃ wd nkvs, σ = [some (.ref a), some (vi n), some (.ref d), wd, some (vi z), some (.ref e)] ∧ H'' d = some (.frz od (.dK kvs)) ∧ H'' e = some (.dK nkvs) ∧ H'' p = some (.lst (vis (rising (gained (n - 1) z)))) ∧ Same H H'' ∧
        (∀ y : Nat, (valV nkvs (Sum.inl (y : Int))).isSome = true ↔ (∃ z ∈ (nk kvs).take i, y ∈ gained (n - 1) z) ∨ y ∈ (rising (gained (n - 1) z)).take j) ∧ nkvs.length ≤ i * 14 + j)
        ⟨wd2, nkvs, rfl, s4 _ _ ed2, s4 _ _ ee2, ep, s3.trans s4, by simpa using near2, nl2⟩ (fun j σ H'' _ ⟨_, _, _, _, _, e1, _⟩ => SqL.of e1) ?_ ?_⟩
       . rintro j y2 σ H4 hj ⟨wd3, nkvs3, rfl, ed3, ee3, ep3, s5, near3, nl3⟩
         obtain ⟨y, hy, rfl⟩ := vis_get hj
         have jlt : j < (rising (gained (n - 1) z)).length := (List.getElem?_eq_some_iff.mp hy).1
         have lk : nkvs3.length ≤ 6000 := by omega
         refine ⟨_, rfl, _, rfl, e, _, rfl, DPut.k (k := Sum.inl (y : Int)) ee3 (Nat.lt_of_le_of_lt lk (by decide)), ?_⟩
         refine ⟨_, _, rfl, by rw [q5z de]; exact ed3, q1z, by rw [q5z pe']; exact ep3, same_upd' s5 fe, fun u => ?_, ?_⟩
         . rw [valV_put, take_snoc hy, List.mem_append, List.mem_singleton]
           by_cases e0 : u = y
           . subst e0
             simp
           . have ne : ¬ (Sum.inl (u : Int) : Key) = Sum.inl (y : Int) := fun h => e0 (by injection h with h; omega)
             rw [if_neg ne, near3 u]
             simp [e0]
         . have := length_putK nkvs3 (Sum.inl (y : Int)) (V.bl true)
           omega
       . rintro σ H4 ⟨wd3, nkvs3, rfl, ed3, ee3, ep3, s5, near3, nl3⟩
         rw [q9z, List.take_length] at near3
         rw [q9z] at nl3
         refine ⟨_, _, nkvs3, rfl, ed3, ee3, s5, fun u => ?_, by omega⟩
         rw [near3 u, take_snoc gz]
         constructor
         . rintro (⟨v, hv, hu'⟩ | hu')
           . exact ⟨v, List.mem_append_left _ hv, hu'⟩
           . exact ⟨z, List.mem_append_right _ (by simp), (LL.mem_rising _).mp hu'⟩
         . rintro ⟨v, hv, hu'⟩
           rcases List.mem_append.mp hv with hv | hv
           . exact .inl ⟨v, hv, hu'⟩
           . rw [List.mem_singleton] at hv
             subst hv
             exact .inr ((LL.mem_rising _).mpr hu')
     . rintro σ H2 ⟨wd2, lf2, nkvs, rfl, ed2, ee2, s3, near2, nl2⟩
       rw [← nk_len, List.take_length] at near2
       refine ⟨ed2, ?_⟩
       have s4 : Same H (upd H2 d (.dK kvs)) := same_upd' s3 hd
       have ee3 : upd H2 d (.dK kvs) e = some (.dK nkvs) := by rw [q5z (Ne.symm de)]; exact ee2
       generalize upd H2 d (.dK kvs) = H3 at s4 ee3 ⊢
       refine ⟨_, rfl, 1, n, rfl, rfl, ⟨by omega, by decide⟩, ((1 * 2 ^ n : Nat) : Int), rfl, by omega, by omega, fun D hD =>
        lc_rangeG (l0 := 0) (n := 2 ^ n) rfl (by rw [Int.toNat_natCast, Nat.one_mul]) (fun i H' => H' D = some (.lst (vis ((List.range i).filter fun w => (lost n w).all fun x => !(c.flatMap (lost n)).contains x))) ∧ Same H3 H') ⟨q1z, sU (Same.refl H3) hD⟩ ?_ ?_⟩
       . rintro i H4 hi ⟨eD, s5⟩
         have ei : ((lost n i).all fun x => !(c.flatMap (lost n)).contains x) = !(valV nkvs (Sum.inl (i : Int))).isSome := by
          rw [LL.may_mem h1 hi hx hL, Bool.eq_iff_iff, decide_eq_true_eq, ← near2 i]
          simp
         refine ⟨rfl, _, rfl, _, rfl, e, valV nkvs (Sum.inl (i : Int)), rfl, (by rw [Nat.zero_add]; exact DGet.k (k := Sum.inl (i : Int)) (s5 _ _ ee3)), _, rfl, ?_⟩
         rw [range_filter_snoc', ei]
         refine ite2 (fun hc2 => ?_) (fun hc2 => ?_)
         . refine ⟨_, rfl, _, eD, ?_, ?_, same_upd' s5 hD⟩
           . rw [q9z]
             refine Nat.lt_of_le_of_lt (Nat.le_trans (List.length_filter_le _ _) (by rw [List.length_range]; exact Nat.le_of_lt (Nat.lt_of_lt_of_le hi big))) (by decide)
           . rw [q1z, if_pos hc2, vis_snoc, Nat.zero_add]
         . rw [if_neg hc2, List.append_nil]
           exact ⟨eD, s5⟩
       . rintro H4 ⟨eD, s5⟩
         exact q H4 D (s4.trans s5) (s4.free hD) eD
def MDef (P : Program) (w : World) (K : W.Frag) (mg : Str -> Option Value) (base : Heap) (C : Addr) (m : Str) (k : Nat) (ps : List Str) (sp : Sp) : Prop :=
 ∃ f fd, FnOk P w K mg base CX0 k f fd ps sp ∧ Meth K C m f ∧ Binds K fd ps []
def tMethD (C : Addr) (m : Str) (sp : Sp) (ta : TE) (t : TA) : TE := fun σ H Q => ta σ H fun x H1 => ∃ a dx fs, x = .ref a /\ H1 a = some (.ins C dx fs) /\ fs.lookup m = none /\ t σ H1 fun vs H2 => sp (x :: vs) H2 Q E0
theorem pe_methD {X : Cx} {C : Addr} {m : Str} {k : Nat} {ps : List Str} {sp : Sp} {o e : Expr} {es : List Expr} {ta : TE} {t : TA} {apos pos : Pos} {pl : Sem Bool} (he : PE X o ta) (c : Cls X.K C) (D : MDef X.prog X.w X.K X.mg X.base C m k ps sp) (hr : Room k X.A)
 (ha : PA X (e :: es) t) (hx : Passes CX0 X E0 := pass0) (hst : starEach (e :: es) X.env = (false, eval e X.env) :: starEach es X.env := by rfl) (hpl : (backTo pos (starEach es X.env)).any (·.1) = false := by rfl)
 (ht : eval (.Call (.Attribute o m apos) (e :: es) [] pos) X.env = (do
  let ov ← eval o X.env
  standAt apos.atName
  let (f, first) ← holding [ov] (getMethod ov m pl)
  callWith pos f first (backTo pos (starEach (e :: es) X.env)) (backToKw pos (keywordEach [] X.env))) := by rfl) : PE X (.Call (.Attribute o m apos) (e :: es) [] pos) (tMethD C m sp ta t) := by
 obtain ⟨f, fd, F, hm, hb⟩ := D
 have h := pe_meth (E := E0) (dvs := []) (ds := []) he c hm F hr hb .nil hx ha hst hpl ht
 have e2 : tMethD C m sp ta t = tMeth C m sp [] E0 ta t := by
  funext σ H Q
  unfold tMethD tMeth
  simp only [List.append_nil]
 rw [e2]
 exact h
def tMakeD (C : Addr) (sp : Sp) : TE := fun σ H Q => ∀ x dx, H x = none -> H dx = none -> dx ≠ x -> sp [.ref x] (upd (upd H dx (.own x)) x (.ins C dx [])) (fun v H2 => v = .non /\ Q (.ref x) H2) E0
def KDef (P : Program) (w : World) (K : W.Frag) (mg : Str -> Option Value) (base : Heap) (x : Str) (C : Addr) (k : Nat) (sp : Sp) : Prop :=
 ∃ f fd, Mk K C f ∧ FnOk P w K mg base CX0 k f fd ["self"] sp ∧ mg x = some (.ref C) ∧ Binds K fd ["self"] []
theorem pe_makeD {X : Cx} {C : Addr} {x : Str} {k : Nat} {sp : Sp} {p pos : Pos} (D : KDef X.prog X.w X.K X.mg X.base x C k sp) (hr : Room (k + 1) X.A) (hg : Gl X x) (hx : Passes CX0 X E0 := pass0) (hdb : (x == ("__debug__" : Str)) = false := by decide) :
 PE X (.Call (.Name x p) [] [] pos) (tMakeD C sp) := by
 obtain ⟨f, fd, M, F, hm, hb⟩ := D
 have h := pe_make0 (E := E0) (dvs := []) (ds := []) (p := p) (pos := pos) M F hr hg hm hb .nil hx hdb
 exact h
def fsH (tc le ll : Addr) : List (Str × V) := [("code", .ref tc), ("earlier", .ref le), ("later", .ref ll)]
def fsS (n : Nat) (wa h : Addr) : List (Str × V) := [("n", vi n), ("weights", .ref wa), ("history", .ref h)]
theorem putF_same {f : Str} {v x : V} {r : List (Str × V)} : putF f v ((f, x) :: r) = (f, v) :: r := if_pos rfl
theorem putF_ne {f g : Str} {v x : V} {r : List (Str × V)} (h : ¬ g = f) : putF f v ((g, x) :: r) = (g, x) :: putF f v r := if_neg h
theorem putF_nil {f : Str} {v : V} : putF f v [] = [(f, v)] := rfl
theorem fsH_code {tc le ll : Addr} (v : Addr) : putF "code" (.ref v) (fsH tc le ll) = fsH v le ll := putF_same
theorem fsH_ear {tc le ll : Addr} (v : Addr) : putF "earlier" (.ref v) (fsH tc le ll) = fsH tc v ll := by
 unfold fsH
 rw [putF_ne (by decide +kernel), putF_same]
theorem fsH_lat {tc le ll : Addr} (v : Addr) : putF "later" (.ref v) (fsH tc le ll) = fsH tc le v := by
 unfold fsH
 rw [putF_ne (by decide +kernel), putF_ne (by decide +kernel), putF_same]
theorem fsS_n {n : Nat} {wa h : Addr} (m : Nat) : putF "n" (vi m) (fsS n wa h) = fsS m wa h := putF_same
theorem fsS_w {n : Nat} {wa h : Addr} (v : Addr) : putF "weights" (.ref v) (fsS n wa h) = fsS n v h := by
 unfold fsS
 rw [putF_ne (by decide +kernel), putF_same]
theorem fsS_h {n : Nat} {wa h : Addr} (v : Addr) : putF "history" (.ref v) (fsS n wa h) = fsS n wa v := by
 unfold fsS
 rw [putF_ne (by decide +kernel), putF_ne (by decide +kernel), putF_same]
theorem look_hit {f : Str} {v : V} {r : List (Str × V)} : List.lookup f ((f, v) :: r) = some v := by simp [List.lookup]
theorem look_miss {f g : Str} {v : V} {r : List (Str × V)} (h : (f == g) = false) : List.lookup f ((g, v) :: r) = List.lookup f r := by simp [List.lookup, h]
theorem fsH_gcode {tc le ll : Addr} : (fsH tc le ll).lookup ("code" : Str) = some (.ref tc) := look_hit
theorem fsH_gear {tc le ll : Addr} : (fsH tc le ll).lookup ("earlier" : Str) = some (.ref le) := by
 unfold fsH
 rw [look_miss (by decide +kernel), look_hit]
theorem fsH_glat {tc le ll : Addr} : (fsH tc le ll).lookup ("later" : Str) = some (.ref ll) := by
 unfold fsH
 rw [look_miss (by decide +kernel), look_miss (by decide +kernel), look_hit]
theorem fsS_gn {n : Nat} {wa h : Addr} : (fsS n wa h).lookup ("n" : Str) = some (vi n) := look_hit
theorem fsS_gw {n : Nat} {wa h : Addr} : (fsS n wa h).lookup ("weights" : Str) = some (.ref wa) := by
 unfold fsS
 rw [look_miss (by decide +kernel), look_hit]
theorem fsS_gh {n : Nat} {wa h : Addr} : (fsS n wa h).lookup ("history" : Str) = some (.ref h) := by
 unfold fsS
 rw [look_miss (by decide +kernel), look_miss (by decide +kernel), look_hit]
theorem fsH_no {tc le ll : Addr} {m : Str} (h : (m == ("code" : Str)) = false) (h2 : (m == ("earlier" : Str)) = false) (h3 : (m == ("later" : Str)) = false) : (fsH tc le ll).lookup m = none := by
 unfold fsH
 rw [look_miss h, look_miss h2, look_miss h3]
 rfl
theorem fsS_no {n : Nat} {wa h : Addr} {m : Str} (h1 : (m == ("n" : Str)) = false) (h2 : (m == ("weights" : Str)) = false) (h3 : (m == ("history" : Str)) = false) : (fsS n wa h).lookup m = none := by
 unfold fsS
 rw [look_miss h1, look_miss h2, look_miss h3]
 rfl
def Codes (H : Hp) : List Addr -> List (List Nat) -> Prop
 | [], [] => True
 | e :: es, c :: cs => H e = some (.tup (vis c)) ∧ Codes H es cs
 | _, _ => False
theorem Codes.keep {H H' : Hp} (h : ∀ p xs, H p = some (.tup xs) -> H' p = some (.tup xs)) : ∀ {es : List Addr} {cs : List (List Nat)}, Codes H es cs -> Codes H' es cs
 | [], [], _ => trivial
 | _ :: _, _ :: _, ⟨a, b⟩ => ⟨h _ _ a, Codes.keep h b⟩
 | [], _ :: _, x => x.elim
 | _ :: _, [], x => x.elim
theorem Codes.len {H : Hp} : ∀ {es : List Addr} {cs : List (List Nat)}, Codes H es cs -> es.length = cs.length
 | [], [], _ => rfl
 | _ :: _, _ :: _, ⟨_, b⟩ => congrArg (· + 1) (Codes.len b)
 | [], _ :: _, x => x.elim
 | _ :: _, [], x => x.elim
theorem Codes.snoc {H : Hp} {e : Addr} {c : List Nat} (h : H e = some (.tup (vis c))) : ∀ {es : List Addr} {cs : List (List Nat)}, Codes H es cs -> Codes H (es ++ [e]) (cs ++ [c])
 | [], [], _ => ⟨h, trivial⟩
 | _ :: _, _ :: _, ⟨a, b⟩ => ⟨a, Codes.snoc h b⟩
 | [], _ :: _, x => x.elim
 | _ :: _, [], x => x.elim
theorem Codes.drop {H : Hp} : ∀ (k : Nat) {es : List Addr} {cs : List (List Nat)}, Codes H es cs -> Codes H (es.drop k) (cs.drop k)
 | 0, _, _, x => x
 | _ + 1, [], [], _ => trivial
 | k + 1, _ :: _, _ :: _, ⟨_, b⟩ => Codes.drop k b
 | _ + 1, [], _ :: _, x => x.elim
 | _ + 1, _ :: _, [], x => x.elim
theorem Codes.unsnoc {H : Hp} : ∀ {es : List Addr} {cs : List (List Nat)} {c : List Nat}, Codes H es (cs ++ [c]) -> ∃ es' e, es = es' ++ [e] /\ Codes H es' cs /\ H e = some (.tup (vis c))
 | [], [], _, x => x.elim
 | [], _ :: _, _, x => x.elim
 | e :: [], [], c, ⟨a, _⟩ => ⟨[], e, rfl, trivial, a⟩
 | e :: e2 :: es, [], c, ⟨_, b⟩ => b.elim
 | e :: es, c0 :: cs, c, ⟨a, b⟩ => by
   obtain ⟨es', e', h1, h2, h3⟩ := Codes.unsnoc (cs := cs) b
   exact ⟨e :: es', e', by rw [h1]; rfl, ⟨a, h2⟩, h3⟩
structure Hist (CH : Addr) (H : Hp) (h dh tc le ll : Addr) (c : List Nat) (es ls : List (List Nat)) : Prop where
 obj : H h = some (.ins CH dh (fsH tc le ll))
 code : H tc = some (.tup (vis c))
 ear : ∃ as : List Addr, H le = some (.lst (as.map V.ref)) ∧ Codes H as es
 lat : ∃ as : List Addr, H ll = some (.lst (as.map V.ref)) ∧ Codes H as ls
 ne : le ≠ ll
theorem Hist.keep {CH : Addr} {H H' : Hp} {h dh tc le ll : Addr} {c : List Nat} {es ls : List (List Nat)} (x : Hist CH H h dh tc le ll c es ls) (s : Same H H') : Hist CH H' h dh tc le ll c es ls := by
 obtain ⟨a1, e1, k1⟩ := x.ear
 obtain ⟨a2, e2, k2⟩ := x.lat
 exact ⟨s _ _ x.obj, s _ _ x.code, ⟨a1, s _ _ e1, k1.keep fun p xs e => s _ _ e⟩, ⟨a2, s _ _ e2, k2.keep fun p xs e => s _ _ e⟩, x.ne⟩
structure TxtH (K : W.Frag) (mg : Str -> Option Value) (CH : Addr) : Prop where
 cl : Cls K CH
 nC : NoAttr K CH "code"
 nE : NoAttr K CH "earlier"
 nL : NoAttr K CH "later"
 back : ∃ t, mg "MOST_BACK" = some (.int 20 t)
variable {P : Program} {w : World} {K : W.Frag} {mg : Str → Option Value} {base : Heap}
def sp_hinit (CH : Addr) : Sp := fun vs H Q _ => ∃ (x dx : Addr), vs = [.ref x] /\ H x = some (.ins CH dx []) /\ ∀ H' tc le ll, Hist CH H' x dx tc le ll [] [] [] -> H tc = none -> H le = none -> H ll = none -> (∀ b o, H b = some o -> b ≠ x -> H' b = some o) -> Q .non H'
theorem sc_hinit : FnScope ["self"] ["self"] (defScope s_History_init) := sc_by rfl (by decide +kernel)
theorem ok_hinit {CH f : Addr} {fd : FuncData} (F : Fun K "__init__" "History.__init__" s_History_init f fd) (T : TxtH K mg CH) : FnOk P w K mg base CX0 1 f fd ["self"] (sp_hinit CH) := by
 refine F.ok sc_hinit (fun _ _ _ _ h => ?_) (fun _ _ _ _ H vs Q E hr h => ?_)
 . obtain ⟨x, dx, rfl, _⟩ := h
   rfl
 . obtain ⟨x, dx, rfl, hx, q⟩ := h
   refine ⟨_, q3z (ps_fld (pv 0) (pe_tup q2z) rfl) (q3z (ps_fld (pv 0) (q13z q2z) rfl) (q4z (ps_fld (pv 0) (q13z q2z) rfl))), ?_⟩
   refine ⟨Nat.zero_le _, fun tc htc => ?_⟩
   have n1 : x ≠ tc := q7z hx htc
   refine ⟨_, rfl, x, CH, dx, _, rfl, by rw [q5z n1]; exact hx, T.cl, T.nC, by decide, ?_⟩
   rw [putF_nil]
   refine ⟨Nat.zero_le _, fun le hle => ?_⟩
   have n2 : x ≠ le := q7z q1z hle
   have n3 : tc ≠ le := fun e => by rw [← e, q5z (Ne.symm n1), q1z] at hle; cases hle
   refine ⟨_, rfl, x, CH, dx, _, rfl, by rw [q5z n2, q1z], T.cl, T.nE, (by show 1 < 1000; decide), ?_⟩
   rw [putF_ne (by decide +kernel), putF_nil]
   refine ⟨Nat.zero_le _, fun ll hll => ?_⟩
   have n4 : x ≠ ll := q7z q1z hll
   have n5 : tc ≠ ll := fun e => by rw [← e, q5z (Ne.symm n1), q5z n3, q5z (Ne.symm n1), q1z] at hll; cases hll
   have n6 : le ≠ ll := fun e => by rw [← e, q5z (Ne.symm n2), q1z] at hll; cases hll
   refine ⟨_, rfl, x, CH, dx, _, rfl, by rw [q5z n4, q1z], T.cl, T.nL, (by show 2 < 1000; decide), ?_⟩
   rw [putF_ne (by decide +kernel), putF_ne (by decide +kernel), putF_nil]
   have ftc : H tc = none := htc
   have fle : H le = none := by rw [q5z (Ne.symm n2), q5z (Ne.symm n3)] at hle; exact hle
   have fll : H ll = none := by rw [q5z (Ne.symm n4), q5z (Ne.symm n6), q5z (Ne.symm n4), q5z (Ne.symm n5)] at hll; exact hll
   refine q _ tc le ll ⟨q1z, ?_, ⟨[], ?_, trivial⟩, ⟨[], ?_, trivial⟩, n6⟩ ftc fle fll fun b o e nb => ?_
   . rw [q5z (Ne.symm n1), q5z n5, q5z (Ne.symm n1), q5z n3, q5z (Ne.symm n1), q1z]
     rfl
   . rw [q5z (Ne.symm n2), q5z n6, q5z (Ne.symm n2), q1z]
     rfl
   . rw [q5z (Ne.symm n4), q1z]
     rfl
   . rw [q5z nb, q5z (q7z e fll), q5z nb, q5z (q7z e fle), q5z nb, q5z (q7z e ftc)]
     exact e
def last20 (l : List (List Nat)) : List (List Nat) := l.drop (l.length - 20)
def sp_change (CH : Addr) : Sp := fun vs H Q _ => ∃ (h dh tc le ll tn : Addr) (c cn : List Nat) (es ls : List (List Nat)), vs = [.ref h, .ref tn] /\ Hist CH H h dh tc le ll c es ls /\ H tn = some (.tup (vis cn)) /\ es.length ≤ 20 /\
 ∀ H' le' ll', Hist CH H' h dh tn le' ll' cn (last20 (es ++ [c])) [] → H le' = none → H ll' = none → (∀ b o, H b = some o → b ≠ h → H' b = some o) → Q .non H'
theorem sc_change : FnScope ["self", "code"] ["self", "code"] (defScope s_History_change) := sc_by rfl (by decide +kernel)
theorem cut_last {xs : List V} : cutV xs (some (-20)) none = xs.drop (xs.length - 20) := by
 have e : HT.sIx xs.length 0 (some (-20)) = xs.length - 20 := by
  show (if (-20 : Int) < 0 then ((-20 : Int) + (xs.length : Int)).toNat else min (-20 : Int).toNat xs.length) = _
  rw [if_pos (by decide)]
  omega
 unfold cutV
 rw [e, HT.sIx_none]
 exact List.take_of_length_le (by rw [List.length_drop]; exact Nat.le_refl _)
theorem ok_change {CH f : Addr} {fd : FuncData} (F : Fun K "change" "History.change" s_History_change f fd) (T : TxtH K mg CH) : FnOk P w K mg base CX0 1 f fd ["self", "code"] (sp_change CH) := by
 refine F.ok sc_change (fun _ _ _ _ h => ?_) (fun _ _ _ _ H vs Q E hr h => ?_)
 . obtain ⟨h, dh, tc, le, ll, tn, c, cn, es, ls, rfl, _⟩ := h
   rfl
 . obtain ⟨h, dh, tc, le, ll, tn, c, cn, es, ls, rfl, hi, htn, hes, q⟩ := h
   obtain ⟨tk, hback⟩ := T.back
   obtain ⟨as, eas, ces⟩ := hi.ear
   have hlen := ces.len
   refine ⟨_, q3z (ps_fld (pv 0) (pe_slice sl_list (pe_op op_cat (q11z (pv 0) rfl) (q13z (q0z (q11z (pv 0) rfl) q2z))) (po_some (pe_un un_neg (q14z (v := .int 20) rfl hback ⟨_, rfl⟩))) po_none) rfl)
    (q3z (ps_fld (pv 0) (q13z q2z) rfl) (q4z (ps_fld (pv 0) (pv 1) rfl))), ?_⟩
   refine ⟨_, rfl, h, CH, dh, _, _, rfl, hi.obj, T.cl, T.nE, fsH_gear, ?_⟩
   refine ⟨_, rfl, h, CH, dh, _, _, rfl, hi.obj, T.cl, T.nC, fsH_gcode, sz1, fun l1 hl1 => ?_⟩
   have t1 := sU (o := .lst [.ref tc]) (Same.refl H) hl1
   refine ⟨le, l1, _, _, rfl, rfl, t1 _ _ eas, q1z, by rw [List.length_map]; exact Nat.le_of_lt (small1000 (by simp; omega)), fun l2 hl2 => ?_⟩
   have e1 : as.map V.ref ++ [.ref tc] = (as ++ [tc]).map V.ref := by rw [List.map_append]; rfl
   rw [e1]
   have t2 := sU (o := .lst ((as ++ [tc]).map V.ref)) t1 hl2
   refine ⟨_, rfl, _, rfl, l2, _, rfl, SqL.of q1z, fun l3 hl3 => ?_⟩
   have e2 : cutV ((as ++ [tc]).map V.ref) (some (-20)) none = ((as ++ [tc]).drop ((as ++ [tc]).length - 20)).map V.ref := by rw [cut_last, List.length_map, List.map_drop]
   rw [e2]
   have t3 := sU (o := .lst (((as ++ [tc]).drop ((as ++ [tc]).length - 20)).map V.ref)) t2 hl3
   have f3 : H l3 = none := t2.free hl3
   refine ⟨_, rfl, h, CH, dh, _, rfl, t3 _ _ hi.obj, T.cl, T.nE, (by show 3 < 1000; decide), ?_⟩
   rw [fsH_ear]
   refine ⟨Nat.zero_le _, fun l4 hl4 => ?_⟩
   have hn3 : h ≠ l3 := q7z hi.obj f3
   have n4h : h ≠ l4 := q7z q1z hl4
   have n43 : l3 ≠ l4 := fun e => by rw [← e, q5z (Ne.symm hn3), q1z] at hl4; cases hl4
   have f4 : H l4 = none := by
    rw [q5z (Ne.symm n4h)] at hl4
    exact t3.free hl4
   refine ⟨_, rfl, h, CH, dh, _, rfl, by rw [q5z n4h, q1z], T.cl, T.nL, (by show 3 < 1000; decide), ?_⟩
   rw [fsH_lat]
   refine ⟨_, rfl, _, rfl, h, CH, dh, _, rfl, q1z, T.cl, T.nC, (by show 3 < 1000; decide), ?_⟩
   rw [fsH_code]
   have fr : ∀ b o, H b = some o → b ≠ h → upd (upd (upd (upd (upd (upd (upd H l1 (.lst [.ref tc])) l2 (.lst ((as ++ [tc]).map V.ref))) l3 (.lst (((as ++ [tc]).drop ((as ++ [tc]).length - 20)).map V.ref))) h (.ins CH dh (fsH tc l3 ll))) l4 (.lst [])) h (.ins CH dh (fsH tc l3 l4))) h (.ins CH dh (fsH tn l3 l4)) b = some o := fun b o e nb => by
    rw [q5z nb, q5z nb, q5z (q7z e f4), q5z nb]
    exact t3 b o e
   refine q _ l3 l4 ⟨q1z, fr _ _ htn (fun z => by rw [z, hi.obj] at htn; cases htn), ⟨(as ++ [tc]).drop ((as ++ [tc]).length - 20), ?_, ?_⟩, ⟨[], ?_, trivial⟩, n43⟩ f3 f4 fr
   . rw [q5z (Ne.symm hn3), q5z (Ne.symm hn3), q5z n43, q5z (Ne.symm hn3), q1z]
   . unfold last20
     have cc := Codes.snoc hi.code ces
     have el : (as ++ [tc]).length = (es ++ [c]).length := cc.len
     rw [← el]
     exact (cc.drop _).keep fun p xs e => fr p _ e (fun z => by rw [z, hi.obj] at e; cases e)
   . rw [q5z (Ne.symm n4h), q5z (Ne.symm n4h), q1z]
     rfl
structure TxtS (K : W.Frag) (mg : Str -> Option Value) (CS : Addr) : Prop where
 cl : Cls K CS
 nN : NoAttr K CS "n"
 nW : NoAttr K CS "weights"
 nH : NoAttr K CS "history"
 few : ∃ t, mg "FEWEST_LETTERS" = some (.int 2 t)
 most : ∃ t, mg "MOST_LETTERS" = some (.int 10 t)
def Fs0 (fs : List (Str × V)) : Prop := fs = [] ∨ ∃ n0 wa0 h0, fs = fsS n0 wa0 h0
theorem fs0_len {fs : List (Str × V)} (h : Fs0 fs) (n : Nat) (wa : Addr) : fs.length < 1000 /\ (putF "n" (vi n) fs).length < 1000 /\ (putF "weights" (.ref wa) (putF "n" (vi n) fs)).length < 1000 := by
 have h3 : fs.length ≤ 3 := by
  rcases h with rfl | ⟨_, _, _, rfl⟩
  . exact Nat.zero_le _
  . exact Nat.le_refl _
 have l1 := length_putF "n" (vi n) fs
 have l2 := length_putF "weights" (.ref wa) (putF "n" (vi n) fs)
 omega
theorem fs0_end {fs : List (Str × V)} (h : Fs0 fs) (n : Nat) (wa hi : Addr) : putF "history" (.ref hi) (putF "weights" (.ref wa) (putF "n" (vi n) fs)) = fsS n wa hi := by
 rcases h with rfl | ⟨n0, wa0, h0, rfl⟩
 . rw [putF_nil, putF_ne (by decide +kernel), putF_nil, putF_ne (by decide +kernel), putF_ne (by decide +kernel), putF_nil]
   rfl
 . rw [fsS_n, fsS_w, fsS_h]
variable {P : Program} {w : World} {K : W.Frag} {mg : Str → Option Value} {base : Heap}
def sp_begin (CH CS : Addr) : Sp := fun vs H Q _ => ∃ (p dx : Addr) (fs : List (Str × V)) (n : Nat), vs = [.ref p, vi n] /\ H p = some (.ins CS dx fs) /\ Fs0 fs /\ n ≤ 12 /\
 ∀ H' wa h dh tc le ll, H' p = some (.ins CS dx (fsS n wa h)) → H' wa = some (.lst (vis (LL.wl n))) → Hist CH H' h dh tc le ll [] [] [] → H wa = none → H h = none → H tc = none → H le = none → H ll = none → (∀ b o, H b = some o → b ≠ p → H' b = some o) → Q .non H'
theorem sc_begin : FnScope ["self", "n"] ["self", "n"] (defScope s_Session_begin) := sc_by rfl (by decide +kernel)
theorem ok_begin {CH CS f : Addr} {fd : FuncData} (F : Fun K "begin" "Session.begin" s_Session_begin f fd) (T : TxtS K mg CS) (DW : Def P w K mg base "weights" 1 ["n"] sp_weights) (DH : KDef P w K mg base "History" CH 1 (sp_hinit CH)) :
 FnOk P w K mg base CX0 3 f fd ["self", "n"] (sp_begin CH CS) := by
 refine F.ok sc_begin (fun _ _ _ _ h => ?_) (fun _ _ _ _ H vs Q E hr h => ?_)
 . obtain ⟨p, dx, fs, n, rfl, _⟩ := h
   rfl
 . obtain ⟨p, dx, fs, n, rfl, hp, hfs, hn, q⟩ := h
   have hr1 : Room 1 _ := hr.mono (by decide)
   refine ⟨_, q3z (ps_fld (pv 0) (pv 1) rfl) (q3z (ps_fld (pv 0) (q6z DW hr1 rfl (q0z (pv 1) q2z)) rfl) (q4z (ps_fld (pv 0) (pe_makeD DH hr rfl) rfl))), ?_⟩
   refine ⟨_, rfl, _, rfl, p, CS, dx, _, rfl, hp, T.cl, T.nN, (fs0_len hfs n p).1, ?_⟩
   refine ⟨_, rfl, n, rfl, hn, fun H1 wa s1 f1 e1 => ?_⟩
   have fwa : H wa = none := by
    by_cases e : wa = p
    . rw [e, q1z] at f1; cases f1
    . rw [q5z e] at f1; exact f1
   have nwp : wa ≠ p := fun e => by rw [e, hp] at fwa; cases fwa
   refine ⟨_, rfl, p, CS, dx, _, rfl, s1 _ _ q1z, T.cl, T.nW, (fs0_len hfs n p).2.1, ?_⟩
   intro h dh nh ndh neh
   have k1 : ∀ b o, H b = some o → b ≠ p → H1 b = some o := fun b o e nb => s1 b o (by rw [q5z nb]; exact e)
   have hnp : h ≠ p := fun e => by rw [e, q1z] at nh; cases nh
   have dnp : dh ≠ p := fun e => by rw [e, q1z] at ndh; cases ndh
   rw [q5z hnp] at nh
   rw [q5z dnp] at ndh
   have fh : ∀ x, x ≠ p → H1 x = none → H x = none := fun x nx e => by
    cases q : H x with
    | none => rfl
    | some o => rw [k1 x o q nx] at e; cases e
   have nwh : wa ≠ h := q7z e1 nh
   have nwd : wa ≠ dh := q7z e1 ndh
   refine ⟨h, dh, rfl, q1z, fun H3 tc le ll hi ftc fle fll k3 => ⟨rfl, ?_⟩⟩
   have k3' : ∀ b o, H1 b = some o → b ≠ p → H3 b = some o := fun b o e nb => k3 b o (by rw [q5z (q7z e nh), q5z (q7z e ndh), q5z nb]; exact e) (q7z e nh)
   have k3p : H3 p = some (.ins CS dx (putF "weights" (.ref wa) (putF "n" (vi n) fs))) := k3 p _ (by rw [q5z (Ne.symm hnp), q5z (Ne.symm dnp), q1z]) (Ne.symm hnp)
   refine ⟨_, rfl, p, CS, dx, _, rfl, k3p, T.cl, T.nH, (fs0_len hfs n wa).2.2, ?_⟩
   rw [fs0_end hfs]
   have free2 : ∀ x, upd (upd (upd H1 p (.ins CS dx (putF "weights" (.ref wa) (putF "n" (vi n) fs)))) dh (.own h)) h (.ins CH dh []) x = none → x ≠ p ∧ H1 x = none := fun x e => by
    have n1 : x ≠ h := fun z => by rw [z, q1z] at e; cases e
    rw [q5z n1] at e
    have n2 : x ≠ dh := fun z => by rw [z, q1z] at e; cases e
    rw [q5z n2] at e
    have n3 : x ≠ p := fun z => by rw [z, q1z] at e; cases e
    rw [q5z n3] at e
    exact ⟨n3, e⟩
   obtain ⟨ntc, gtc⟩ := free2 tc ftc
   obtain ⟨nle, gle⟩ := free2 le fle
   obtain ⟨nll, gll⟩ := free2 ll fll
   refine q _ wa h dh tc le ll q1z ?_ ?_ fwa (fh h hnp nh) (fh tc ntc gtc) (fh le nle gle) (fh ll nll gll) fun b o e nb => ?_
   . rw [q5z nwp]
     exact k3' wa _ e1 nwp
   . obtain ⟨a1, b1, c1⟩ := hi.ear
     obtain ⟨a2, b2, c2⟩ := hi.lat
     have up1 : ∀ b o, H3 b = some o → b ≠ p → upd H3 p (.ins CS dx (fsS n wa h)) b = some o := fun b o e nb => by rw [q5z nb]; exact e
     have kt : ∀ x xs, H3 x = some (.tup xs) → upd H3 p (.ins CS dx (fsS n wa h)) x = some (.tup xs) := fun x xs e => up1 x _ e (fun z => by rw [z, k3p] at e; cases e)
     exact ⟨up1 _ _ hi.obj hnp, kt _ _ hi.code, ⟨a1, up1 _ _ b1 nle, c1.keep kt⟩, ⟨a2, up1 _ _ b2 nll, c2.keep kt⟩, hi.ne⟩
   . rw [q5z nb]
     exact k3' b o (k1 b o e nb) nb
def SV (CS : Addr) (H : Hp) (p : Addr) (n : Nat) (h : Addr) : Prop := ∃ dx wa, H p = some (.ins CS dx (fsS n wa h)) /\ H wa = some (.lst (vis (LL.wl n)))
theorem SV.keep {CS : Addr} {H H' : Hp} {p h : Addr} {n : Nat} (v : SV CS H p n h) (s : Same H H') : SV CS H' p n h := by
 obtain ⟨dx, wa, a, b⟩ := v
 exact ⟨dx, wa, s _ _ a, s _ _ b⟩
theorem vi_eq (a b : Nat) : decide (vi a = vi b) = decide (a = b) := by
 by_cases h : a = b
 . subst h; simp
 . have : ¬ vi a = vi b := fun q => h (by injection q with e; omega)
   simp [h, this]
theorem range_filter_snoc (p : Nat -> Bool) (i : Nat) : (List.range (i + 1)).filter p = (List.range i).filter p ++ (if p i = true then [i] else []) := by
 rw [List.range_succ, List.filter_append, List.filter_cons, List.filter_nil]
variable {P : Program} {w : World} {K : W.Frag} {mg : Str → Option Value} {base : Heap}
def sp_sinit (CH CS : Addr) : Sp := fun vs H Q _ => ∃ (p dx : Addr), vs = [.ref p] /\ H p = some (.ins CS dx []) /\
 ∀ H' wa h dh tc le ll, H' p = some (.ins CS dx (fsS 2 wa h)) → H' wa = some (.lst (vis (LL.wl 2))) → Hist CH H' h dh tc le ll [] [] [] → H wa = none → H h = none → H tc = none → H le = none → H ll = none → (∀ b o, H b = some o → b ≠ p → H' b = some o) → Q .non H'
theorem sc_sinit : FnScope ["self"] ["self"] (defScope s_Session_init) := sc_by rfl (by decide +kernel)
theorem ok_sinit {CH CS f : Addr} {fd : FuncData} (F : Fun K "__init__" "Session.__init__" s_Session_init f fd) (T : TxtS K mg CS) (DB : MDef P w K mg base CS "begin" 3 ["self", "n"] (sp_begin CH CS)) : FnOk P w K mg base CX0 4 f fd ["self"] (sp_sinit CH CS) := by
 refine F.ok sc_sinit (fun _ _ _ _ h => ?_) (fun _ _ _ _ H vs Q E hr h => ?_)
 . obtain ⟨p, dx, rfl, _⟩ := h
   rfl
 . obtain ⟨p, dx, rfl, hp, q⟩ := h
   obtain ⟨tk, hfew⟩ := T.few
   refine ⟨_, q4z (ps_expr (pe_methD (pv 0) T.cl DB hr (q0z (q14z (v := .int 2) rfl hfew ⟨_, rfl⟩) q2z))), ?_⟩
   exact ⟨_, rfl, p, dx, _, rfl, hp, rfl, p, dx, _, 2, rfl, hp, .inl rfl, by decide, fun H' wa h dh tc le ll a1 a2 a3 a4 a5 a6 a7 a8 a9 => q H' wa h dh tc le ll a1 a2 a3 a4 a5 a6 a7 a8 a9⟩
def sp_has_word (CS : Addr) : Sp := fun vs H Q _ => ∃ (p h : Addr) (n x k : Nat) (m : Int), vs = [.ref p, vi x, .int m] /\ SV CS H p n h /\ (n : Int) + m = (k : Int) /\ k ≤ 100 /\ Q (.bl (decide (x < 2 ^ k))) H
theorem sc_has_word : FnScope ["self", "word", "more"] ["self", "word", "more"] (defScope s_Session_has_word) := sc_by rfl (by decide +kernel)
theorem ok_has_word {CS f : Addr} {fd : FuncData} (F : Fun K "has_word" "Session.has_word" s_Session_has_word f fd) (T : TxtS K mg CS) : FnOk P w K mg base CX0 1 f fd ["self", "word", "more"] (sp_has_word CS) := by
 refine F.ok sc_has_word (fun _ _ _ _ h => ?_) (fun _ _ _ _ H vs Q E hr h => ?_)
 . obtain ⟨p, h, n, x, k, m, rfl, _⟩ := h
   rfl
 . obtain ⟨p, h, n, x, k, m, rfl, ⟨dx, wa, e1, e2⟩, hk, h100, q⟩ := h
   refine ⟨_, q4z (q8z (pe_cmpR op_lt (pv 1) (pe_op op_shlN q10z (pe_op op_add (q11z (pv 0) rfl) (pv 2))) (nomark _))), ?_⟩
   refine ⟨_, rfl, _, rfl, p, CS, dx, _, _, rfl, e1, T.cl, T.nN, fsS_gn, _, rfl, _, _, rfl, rfl, 1, k, rfl, ?_, ⟨by omega, by decide⟩, _, _, rfl, rfl, ?_⟩
   . show V.int ((n : Int) + m) = vi k
     rw [hk]
   have e : decide ((x : Int) < ((1 * 2 ^ k : Nat) : Int)) = decide (x < 2 ^ k) := by
    rw [Nat.one_mul]
    simp only [decide_eq_decide]
    omega
   have q' := q
   rw [← e] at q'
   exact q'
def sp_has_class (CS : Addr) : Sp := fun vs H Q _ => ∃ (p h : Addr) (n x : Nat), vs = [.ref p, vi x] /\ SV CS H p n h /\ Q (.bl (decide (x ≤ n))) H
theorem sc_has_class : FnScope ["self", "a"] ["self", "a"] (defScope s_Session_has_class) := sc_by rfl (by decide +kernel)
theorem ok_has_class {CS f : Addr} {fd : FuncData} (F : Fun K "has_class" "Session.has_class" s_Session_has_class f fd) (T : TxtS K mg CS) : FnOk P w K mg base CX0 1 f fd ["self", "a"] (sp_has_class CS) := by
 refine F.ok sc_has_class (fun _ _ _ _ h => ?_) (fun _ _ _ _ H vs Q E hr h => ?_)
 . obtain ⟨p, h, n, x, rfl, _⟩ := h
   rfl
 . obtain ⟨p, h, n, x, rfl, ⟨dx, wa, e1, e2⟩, q⟩ := h
   refine ⟨_, q4z (q8z (pe_cmpR op_le (pv 1) (q11z (pv 0) rfl) (nomark _))), ?_⟩
   refine ⟨_, rfl, _, rfl, p, CS, dx, _, _, rfl, e1, T.cl, T.nN, fsS_gn, _, _, rfl, rfl, ?_⟩
   have e : decide ((x : Int) ≤ (n : Int)) = decide (x ≤ n) := by
    simp only [decide_eq_decide]
    omega
   have q' := q
   rw [← e] at q'
   exact q'
def sp_class_of (CS : Addr) : Sp := fun vs H Q _ => ∃ (p h : Addr) (n x : Nat), vs = [.ref p, vi x] /\ SV CS H p n h /\ x < 2 ^ n /\ Q (vi (weight n x % (n + 1))) H
theorem sc_class_of : FnScope ["self", "word"] ["self", "word"] (defScope s_Session_class_of) := sc_by rfl (by decide +kernel)
theorem wl_at {n x : Nat} (h : x < 2 ^ n) : (vis (LL.wl n))[x]? = some (vi (weight n x)) := by
 unfold vis
 rw [List.getElem?_map, LL.wl_get n x h]
 rfl
theorem ok_class_of {CS f : Addr} {fd : FuncData} (F : Fun K "class_of" "Session.class_of" s_Session_class_of f fd) (T : TxtS K mg CS) : FnOk P w K mg base CX0 1 f fd ["self", "word"] (sp_class_of CS) := by
 refine F.ok sc_class_of (fun _ _ _ _ h => ?_) (fun _ _ _ _ H vs Q E hr h => ?_)
 . obtain ⟨p, h, n, x, rfl, _⟩ := h
   rfl
 . obtain ⟨p, h, n, x, rfl, ⟨dx, wa, e1, e2⟩, hx, q⟩ := h
   refine ⟨_, q4z (q8z (pe_op op_modN' (pe_ix ix_list (q11z (pv 0) rfl) (pv 1) (fun _ _ => rfl)) (pe_op op_addN (q11z (pv 0) rfl) q10z))), ?_⟩
   exact ⟨_, rfl, p, CS, dx, _, _, rfl, e1, T.cl, T.nW, fsS_gw, _, rfl, wa, _, _, _, rfl, rfl, SqL.of e2, atI_nat (wl_at hx), _, rfl, p, CS, dx, _, _, rfl, e1, T.cl, T.nN, fsS_gn, n, 1, rfl, rfl, trivial, weight n x, n + 1, rfl, rfl, Nat.succ_pos _, q⟩
def sp_words_of_class (CS : Addr) : Sp := fun vs H Q _ => ∃ (p h : Addr) (n x : Nat), vs = [.ref p, vi x] /\ SV CS H p n h /\ n ≤ 12 /\ ∀ H' t, Same H H' -> H t = none -> H' t = some (.tup (vis (Km469.cls n x))) -> Q (.ref t) H'
theorem sc_words_of_class : FnScope ["self", "a", "word"] ["self", "a"] (defScope s_Session_words_of_class) := sc_by rfl (by decide +kernel)
theorem ok_words_of_class {CS f : Addr} {fd : FuncData} (F : Fun K "words_of_class" "Session.words_of_class" s_Session_words_of_class f fd) (O : Own mg) (T : TxtS K mg CS) (DC : MDef P w K mg base CS "class_of" 1 ["self", "word"] (sp_class_of CS)) :
 FnOk P w K mg base CX0 2 f fd ["self", "a"] (sp_words_of_class CS) := by
 refine F.ok sc_words_of_class (fun _ _ _ _ h => ?_) (fun _ _ _ _ H vs Q E hr h => ?_)
 . obtain ⟨p, h, n, x, rfl, _⟩ := h
   rfl
 . obtain ⟨p, h, n, x, rfl, sv, hn, q⟩ := h
   obtain ⟨dx, wa, e1, e2⟩ := id sv
   have big : 2 ^ n ≤ 4096 := Nat.le_trans (Nat.pow_le_pow_right (by decide) hn) (by decide)
   refine ⟨_, q4z (q8z (pe_callTy call_tuple_of (by rfl) O.tuple (by rfl) (q0z
    (pe_lc (own := [("word", 2)]) rfl sc_words_of_class.nd (pi_range1 rfl O.range (q0z (q16z q15z (by rfl) O.len boot_len (q0z (q11z (pv 0) rfl) q2z)) q2z))
     (blkOk_by (by show blkC ["self", "a", "word"] (defScope s_Session_words_of_class) _ _ = true; decide +kernel)) (fun _ _ _ _ _ => pg_name (i := 2) sc_words_of_class.nd rfl (Or.inl rfl))
     (fun _ _ _ _ _ => pts_one (pt_cmpR op_eq (pe_methD (pv 0) T.cl DC hr (q0z (pv 2) q2z)) (pv 1) (nomark _))) (fun _ _ _ _ _ => pv 2)) q2z))), ?_⟩
   refine ⟨_, rfl, p, CS, dx, _, _, rfl, e1, T.cl, T.nW, fsS_gw, wa, _, rfl, .inl (SqL.of e2), _, rfl, ?_, ?_, fun D hD => lc_rangeG (l0 := 0) (n := 2 ^ n) rfl ?_ (fun i H' => H' = upd H D (.lst (vis ((List.range i).filter fun z => weight n z % (n + 1) == x)))) rfl ?_ ?_⟩
   . omega
   . rw [q9z, LL.wl_len]; omega
   . rw [q9z, LL.wl_len, Int.toNat_natCast]
   . rintro i H' hi rfl
     have s1 := sU (o := .lst (vis ((List.range i).filter fun z => weight n z % (n + 1) == x))) (Same.refl H) hD
     refine ⟨rfl, _, rfl, p, dx, _, rfl, s1 _ _ e1, fsS_no (by decide +kernel) (by decide +kernel) (by decide +kernel), _, rfl, p, h, n, i, by rw [Nat.zero_add], sv.keep s1, hi, _, rfl, rfl, _, rfl, ?_⟩
     rw [vi_eq, range_filter_snoc]
     refine ite2 (fun hc => ?_) (fun hc => ?_)
     . have hc' : (weight n i % (n + 1) == x) = true := by simpa using hc
       refine ⟨_, rfl, _, q1z, ?_, ?_⟩
       . rw [q9z]
         refine Nat.lt_of_le_of_lt (Nat.le_trans (List.length_filter_le _ _) (by rw [List.length_range]; exact Nat.le_of_lt (Nat.lt_of_lt_of_le hi big))) (by decide)
       . rw [upd_upd, if_pos hc', vis_snoc, Nat.zero_add]
     . have hc' : ¬ (weight n i % (n + 1) == x) = true := fun z => hc (by simpa using z)
       rw [if_neg hc', List.append_nil]
   . rintro H' rfl
     refine ⟨D, _, rfl, .inl ⟨SqL.of q1z, fun t ht => ?_⟩⟩
     have s1 := sU (o := .lst (vis ((List.range (2 ^ n)).filter fun z => weight n z % (n + 1) == x))) (Same.refl H) hD
     exact q _ t (sU s1 ht) (s1.free ht) q1z
def sp_can_start : Sp := fun vs H Q _ => ∃ (n : Nat), vs = [vi n] /\ Q (.bl (decide (2 ≤ n /\ n ≤ 10))) H
theorem sc_can_start : FnScope ["n"] ["n"] (defScope s_can_start) := sc_by rfl (by decide +kernel)
theorem ok_can_start {CS f : Addr} {fd : FuncData} (F : Fun K "can_start" "can_start" s_can_start f fd) (T : TxtS K mg CS) : FnOk P w K mg base CX0 1 f fd ["n"] sp_can_start := by
 refine F.ok sc_can_start (fun _ _ _ _ h => ?_) (fun _ _ _ _ H vs Q E hr h => ?_)
 . obtain ⟨n, rfl, _⟩ := h
   rfl
 . obtain ⟨n, rfl, q⟩ := h
   obtain ⟨t1, hf⟩ := T.few
   obtain ⟨t2, hm⟩ := T.most
   refine ⟨_, q4z (q8z (pe_and (pe_cmpR op_le (q14z (v := .int 2) rfl hf ⟨_, rfl⟩) (pv 0) (nomark _)) (pe_one (pe_cmpR op_le (pv 0) (q14z (v := .int 10) rfl hm ⟨_, rfl⟩) (nomark _))))), ?_⟩
   refine ⟨_, rfl, _, _, rfl, rfl, _, rfl, ?_⟩
   refine ite2 (fun h1 => ?_) (fun h1 => ?_)
   . have h1' : (2 : Int) ≤ (n : Int) := of_decide_eq_true h1
     refine ⟨_, rfl, _, _, rfl, rfl, ?_⟩
     have e : decide ((n : Int) ≤ 10) = decide (2 ≤ n ∧ n ≤ 10) := by
      simp only [decide_eq_decide]
      omega
     have q' := q
     rw [← e] at q'
     exact q'
   . have h1' : ¬ (2 : Int) ≤ (n : Int) := fun z => h1 (decide_eq_true z)
     have e : false = decide (2 ≤ n ∧ n ≤ 10) := (decide_eq_false (by omega)).symm
     have q' := q
     rw [← e] at q'
     exact q'
theorem op_catQ {X : Cx} : OpR X (binaryOp .Add) (fun x y H Q => ∃ a b xs ys, x = .ref a /\ y = .ref b /\ H a = some (.tup xs) /\ H b = some (.tup ys) /\ xs.length + ys.length ≤ sizeLine /\
 ∀ r H2, H2 r = some (.tup (xs ++ ys)) → Same H H2 → Q (.ref r) H2) := by
 intro pins s σ H x y v u Q I rx ry h
 obtain ⟨a, b, xs, ys, rfl, rfl, ha, hb, hz, q⟩ := h
 by_cases hx : xs = []
 . subst hx
   cases rx
   cases ry
   obtain ⟨its, r1, p1, _⟩ := I.tuple (SqT.of ha)
   obtain ⟨its2, r2, p2, _⟩ := I.tuple (SqT.of hb)
   have e0 : its = [] := r1.nil_iff.mpr rfl
   subst e0
   obtain ⟨⟨cls, dd, data, sl⟩, ho, hc, n, hd⟩ := id p1
   obtain ⟨⟨cls2, dd2, data2, sl2⟩, ho2, hc2, n2, hd2⟩ := id p2
   simp only at hc hd hc2 hd2
   subst hc hd hc2 hd2
   exact concat_meets ⟨_, ho, rfl⟩ ⟨_, ho2, rfl⟩ noFill_tuple_add seq_tuple_add PySem.F.slot_tuple_add PySem.F.entry_tuple_add (PySem.F.args_tuple_add_2 _ _)
    (tuple_addW0 a b _ its2.toArray n n2 dd dd2 sl sl2 rfl) ⟨ho, ho2, ⟨.ref b, H, I, rfl, q b H hb (Same.refl H)⟩⟩
 . exact op_catT pins s σ H _ _ v u Q I rx ry (catT_use ha hb hx hz q)
structure GoodC (n : Nat) (c : List Nat) : Prop where
 up : LL.Up c
 lt : ∀ x ∈ c, x < 2 ^ n
 len : c.length ≤ 24
structure DeskOk (d : Desk) : Prop where
 n2 : 2 ≤ d.now.long
 n10 : d.now.long ≤ 10
 now : GoodC d.now.long d.now.code
 past : ∀ k ∈ d.past, k.long = d.now.long ∧ GoodC d.now.long k.code
 fut : ∀ k ∈ d.future, k.long = d.now.long ∧ GoodC d.now.long k.code
 tot : d.past.length + d.future.length ≤ 20
abbrev codes (l : List Km469.Code_) : List (List Nat) := l.reverse.map fun k => k.code
structure Sess (CH CS : Addr) (F : List Addr) (H : Hp) (p : Addr) (d : Desk) : Prop where
 ok : DeskOk d
 ex : ∃ dx wa h dh tc le ll, F = [p, h, le, ll, wa] ∧ H p = some (.ins CS dx (fsS d.now.long wa h)) ∧ H wa = some (.lst (vis (LL.wl d.now.long))) ∧ Hist CH H h dh tc le ll d.now.code (codes d.past) (codes d.future)
theorem Sess.keep {CH CS : Addr} {F : List Addr} {H H' : Hp} {p : Addr} {d : Desk} (x : Sess CH CS F H p d) (s : Same H H') : Sess CH CS F H' p d := by
 obtain ⟨dx, wa, h, dh, tc, le, ll, e, a, b, c⟩ := x.ex
 exact ⟨x.ok, dx, wa, h, dh, tc, le, ll, e, s _ _ a, s _ _ b, c.keep s⟩
theorem Codes.put {H : Hp} {n0 : Addr} {xs ys : List V} (e : H n0 = some (.lst xs)) {as : List Addr} {es : List (List Nat)} (k : Codes H as es) : Codes (upd H n0 (.lst ys)) as es := k.keep fun p zs ep => by
 rw [q5z (ne_of ep e (by intro z; cases z))]
 exact ep
theorem Sess.put {CH CS : Addr} {F : List Addr} {H : Hp} {p n0 : Addr} {d : Desk} {xs ys : List V} (x : Sess CH CS F H p d) (e : H n0 = some (.lst xs)) (hn : n0 ∉ F) : Sess CH CS F (upd H n0 (.lst ys)) p d := by
 obtain ⟨dx, wa, h, dh, tc, le, ll, eF, a, b, c⟩ := x.ex
 have m : ∀ q ∈ F, q ≠ n0 := fun q hq z => hn (z ▸ hq)
 rw [eF] at m
 simp only [List.mem_cons, List.not_mem_nil, or_false, forall_eq_or_imp, forall_eq] at m
 obtain ⟨m1, m2, m3, m4, m5⟩ := m
 obtain ⟨a1, e1, k1⟩ := c.ear
 obtain ⟨a2, e2, k2⟩ := c.lat
 refine ⟨x.ok, dx, wa, h, dh, tc, le, ll, eF, by rw [q5z m1]; exact a, by rw [q5z m5]; exact b, ⟨by rw [q5z m2]; exact c.obj, ?_, ⟨a1, by rw [q5z m3]; exact e1, k1.put e⟩, ⟨a2, by rw [q5z m4]; exact e2, k2.put e⟩, c.ne⟩⟩
 rw [q5z (ne_of c.code e (by intro z; cases z))]
 exact c.code
structure After (F F' : List Addr) (H H' : Hp) : Prop where
 new : ∀ b ∈ F', b ∈ F ∨ H b = none
 kp : ∀ b o, H b = some o → b ∉ F → H' b = some o
 al : ∀ b o, H b = some o → ∃ o', H' b = some o'
theorem After.free {F F' : List Addr} {H H' : Hp} (a : After F F' H H') {b : Addr} (h : H' b = none) : H b = none := by
 cases q : H b with
 | none => rfl
 | some o =>
   obtain ⟨o', e⟩ := a.al b o q
   rw [e] at h
   cases h
theorem After.same {F : List Addr} {H H' : Hp} (s : Same H H') : After F F H H' := ⟨fun b hb => .inl hb, fun b o e _ => s b o e, fun b o e => ⟨o, s b o e⟩⟩
theorem After.pre {F F' : List Addr} {H H1 H' : Hp} (s : Same H H1) (a : After F F' H1 H') : After F F' H H' :=
 ⟨fun b hb => (a.new b hb).imp id fun e => s.free e, fun b o e nb => a.kp b o (s b o e) nb, fun b o e => a.al b o (s b o e)⟩
theorem After.post {F F' : List Addr} {H H1 H' : Hp} (a : After F F' H H1) (s : Same H1 H') : After F F' H H' := ⟨a.new, fun b o e nb => s b o (a.kp b o e nb), fun b o e => let ⟨o', e'⟩ := a.al b o e; ⟨o', s b o' e'⟩⟩
theorem codes_become (d : Desk) : last20 (codes d.past ++ [d.now.code]) = codes ((d.now :: d.past).take 20) := by
 unfold last20 codes
 have e : (d.past.reverse.map fun k => k.code) ++ [d.now.code] = ((d.now :: d.past).map fun k => k.code).reverse := by
  rw [List.map_cons, List.reverse_cons, List.map_reverse]
 rw [e, List.map_reverse, List.map_take, List.length_reverse, List.reverse_take]
variable {P : Program} {w : World} {K : W.Frag} {mg : Str → Option Value} {base : Heap}
def sp_changed (CH CS : Addr) : Sp := fun vs H Q _ => ∃ (p tn : Addr) (F : List Addr) (d : Desk) (cn : List Nat), vs = [.ref p, .ref tn] /\ Sess CH CS F H p d /\ H tn = some (.tup (vis cn)) /\ GoodC d.now.long cn /\
 ∀ H' F', Sess CH CS F' H' p (d.become { d.now with code := cn }) → After F F' H H' → Q (vi cn.length) H'
theorem sc_changed : FnScope ["session", "code"] ["session", "code"] (defScope s_changed_to) := sc_by rfl (by decide +kernel)
theorem become_ok {d : Desk} (x : DeskOk d) {cn : List Nat} (g : GoodC d.now.long cn) : DeskOk (d.become { d.now with code := cn }) := by
 refine ⟨x.n2, x.n10, g, fun k hk => ?_, (fun k hk => by cases hk), ?_⟩
 . have hk' : k ∈ d.now :: d.past := List.mem_of_mem_take hk
   rcases List.mem_cons.mp hk' with rfl | hk'
   . exact ⟨rfl, x.now⟩
   . exact x.past k hk'
 . show ((d.now :: d.past).take 20).length + 0 ≤ 20
   rw [List.length_take]
   omega
theorem ok_changed {CH CS f : Addr} {fd : FuncData} (F : Fun K "changed_to" "changed_to" s_changed_to f fd) (O : Own mg) (TH : TxtH K mg CH) (T : TxtS K mg CS) (DC : MDef P w K mg base CH "change" 1 ["self", "code"] (sp_change CH)) :
 FnOk P w K mg base CX0 2 f fd ["session", "code"] (sp_changed CH CS) := by
 refine F.ok sc_changed (fun _ _ _ _ h => ?_) (fun _ _ _ _ H vs Q E hr h => ?_)
 . obtain ⟨p, tn, Fp, d, cn, rfl, _⟩ := h
   rfl
 . obtain ⟨p, tn, Fp, d, cn, rfl, se, htn, gc, q⟩ := h
   obtain ⟨dx, wa, h, dh, tc, le, ll, eF, ep, ew, hi⟩ := se.ex
   refine ⟨_, q3z (ps_expr (pe_methD (q11z (pv 0) rfl) TH.cl DC hr (q0z (pv 1) q2z))) (q4z (q8z (q16z q15z (by rfl) O.len boot_len (q0z (pv 1) q2z)))), ?_⟩
   have lp : (codes d.past).length ≤ 20 := by
    have := se.ok.tot
    simp [codes]
    omega
   refine ⟨_, rfl, p, CS, dx, _, _, rfl, ep, T.cl, T.nH, fsS_gh, h, dh, _, rfl, hi.obj, fsH_no (by decide +kernel) (by decide +kernel) (by decide +kernel), _, rfl, h, dh, tc, le, ll, tn, _, cn, _, _, rfl, hi, htn, lp, fun H1 le1 ll1 hi1 fle fll kp => ?_⟩
   have nph : p ≠ h := fun z => by
    have a1 := hi.obj
    rw [← z, ep] at a1
    have a2 := Option.some.inj a1
    injection a2 with _ _ a3
    have a4 := congrArg (fun l => List.lookup ("n" : Str) l) a3
    simp only [fsS_gn] at a4
    rw [fsH_no (by decide +kernel) (by decide +kernel) (by decide +kernel)] at a4
    cases a4
   have nwh : wa ≠ h := fun z => by rw [z, hi.obj] at ew; cases ew
   have nth : tn ≠ h := fun z => by rw [z, hi.obj] at htn; cases htn
   have e1 := kp _ _ htn nth
   refine ⟨_, rfl, tn, _, rfl, .inr (SqT.of e1), ?_⟩
   rw [codes_become] at hi1
   have q' := q H1 [p, h, le1, ll1, wa] ⟨become_ok se.ok gc, dx, wa, h, dh, tn, le1, ll1, rfl, kp _ _ ep nph, kp _ _ ew nwh, hi1⟩ ⟨fun b hb => ?_, fun b o e nb => kp b o e fun z => nb (by rw [eF, z]; simp), fun b o e => ?_⟩
   . rw [q9z]
     exact q'
   . simp only [List.mem_cons, List.not_mem_nil, or_false] at hb
     rcases hb with rfl | rfl | rfl | rfl | rfl
     . exact .inl (by rw [eF]; simp)
     . exact .inl (by rw [eF]; simp)
     . exact .inr fle
     . exact .inr fll
     . exact .inl (by rw [eF]; simp)
   . by_cases z : b = h
     . exact ⟨_, by rw [z]; exact hi1.obj⟩
     . exact ⟨o, kp b o e z⟩
def tabIs : List DictEntry -> List (Int × Addr) -> Bool
 | [], [] => true
 | e :: es, (k, f) :: r => (match e.key with | .int i _ => decide (i = k) | _ => false) && decide (e.hash = hashInt k) && (match e.val with | .ref g => decide (g = f) | _ => false) && tabIs es r
 | _, _ => false
structure Tab (K : W.Frag) (a : Addr) (kvs : List (Int × Addr)) : Prop where
 ex : ∃ es ep, K.lookup a = some ⟨.type "dict", none, .dict es ep, #[]⟩ ∧ tabIs es.toList kvs = true
 nd : (kvs.map (·.1)).Nodup
 ns : (a == sysModules) = false
def look (kvs : List (Int × Addr)) (k : Int) : Option Addr := (kvs.find? fun p => decide (p.1 = k)).map (·.2)
theorem tab_step {hs : Int} {ky vl : Value} {es : List DictEntry} {k : Int} {f : Addr} {r : List (Int × Addr)} (h : tabIs (⟨hs, ky, vl⟩ :: es) ((k, f) :: r) = true) : (∃ t, ky = .int k t) /\ hs = hashInt k /\ vl = .ref f /\ tabIs es r = true := by
 simp only [tabIs, Bool.and_eq_true, decide_eq_true_eq] at h
 obtain ⟨⟨⟨h1, h2⟩, h3⟩, h4⟩ := h
 refine ⟨?_, h2, ?_, h4⟩
 . split at h1
   . rename_i i t
     exact ⟨t, by rw [of_decide_eq_true h1]⟩
   . cases h1
 . split at h3
   . rw [of_decide_eq_true h3]
   . cases h3
theorem tab_find : ∀ {es : List DictEntry} {kvs : List (Int × Addr)}, tabIs es kvs = true -> ∀ k : Int, (es.find? fun e => Value.isInt k e.key).map (·.val) = (look kvs k).map Value.ref
 | [], [], _, _ => rfl
 | [], _ :: _, h, _ => by simp [tabIs] at h
 | _ :: _, [], h, _ => by simp [tabIs] at h
 | ⟨hs, ky, vl⟩ :: es, (k0, f) :: r, h, k => by
   obtain ⟨⟨t, rfl⟩, h2, rfl, h4⟩ := tab_step h
   have ih := tab_find h4 k
   by_cases e : k0 = k
   . subst e
     simp [look, List.find?_cons, Value.isInt]
   . have e' : ¬ k = k0 := fun z => e z.symm
     have e1 : Value.isInt k (Value.int k0 t) = false := by simp [Value.isInt, e, e']
     rw [List.find?_cons]
     simp only [e1]
     rw [ih]
     simp [look, List.find?_cons, e]
theorem tab_keys : ∀ {es : List DictEntry} {kvs : List (Int × Addr)}, tabIs es kvs = true -> ∀ e ∈ es, ∃ k, Value.isInt k e.key = true /\ e.hash = hashInt k
 | [], _, _, e, he => by cases he
 | _ :: _, [], h, _, _ => by simp [tabIs] at h
 | ⟨hs, ky, vl⟩ :: es, (k0, f) :: r, h, e, he => by
   obtain ⟨⟨t, rfl⟩, h2, rfl, h4⟩ := tab_step h
   rcases List.mem_cons.mp he with rfl | he
   . exact ⟨k0, by simp [Value.isInt], h2⟩
   . exact tab_keys h4 e he
variable {X : Cx} {pins : List (Addr × Obj)} {σ : L2.St} {H : Hp} {s : Shared}
theorem Tab.map {K : W.Frag} {h : Heap} {a : Addr} {kvs : List (Int × Addr)} {P : Program} {w : World} (T : Tab K a kvs) (KX : K.In h) : h.MapOf (intKind P w) a (fun k => (look kvs k).map Value.ref) := by
 obtain ⟨es, ep, lk, tb⟩ := T.ex
 refine ⟨_, es, ep, KX a _ lk, ⟨rfl, rfl, rfl⟩, rfl, fun e he => ?_, fun k => ?_⟩
 . exact tab_keys tb e (by simpa using he)
 . have e := tab_find tb k
   obtain ⟨l⟩ := es
   unfold findBy
   refine Eq.trans ?_ e
   rw [List.find?_toArray]
   rfl
variable {o i e : Expr} {es : List Expr} {pos : Pos} {ty : TE} {t : TA}
def tTab (kvs : List (Int × Addr)) (ty : TE) : TE := fun σ H Q => ty σ H fun y H1 => ∃ k f, y = .int k /\ look kvs k = some f /\ Q (.ref f) H1
theorem pe_tab {a : Addr} {kvs : List (Int × Addr)} {x : Str} {p : Pos} (T : Tab X.K a kvs) (hg : Gl X x) (hm : X.mg x = some (.ref a)) (hi : PE X i ty) (hs : NoSl i) (hd : (x == ("__debug__" : Str)) = false := by decide) : PE X (.Subscript (.Name x p) i pos) (tTab kvs ty) := by
 intro pins s σ H Q I h
 refine subD_of PySem.F.slot_dict_getitem.lookup hs (thn (q14z (v := .ref a) hg hm rfl hd pins s σ H (fun v H1 => v = .ref a ∧ H1 = H) I ⟨rfl, rfl⟩) fun u s1 ⟨x', H1, I1, rx, e1, e2⟩ => ?_)
 subst e1
 subst e2
 cases rx
 refine thn (hi pins s1 σ H1 _ I1 h) fun iv s2 ⟨y, H2, I2, ry, k, f, ex, g, q2⟩ => ?_
 subst ex
 obtain ⟨tk, rfl⟩ := ry
 have mo := T.map (P := X.prog) (w := X.w) I2.kIn
 obtain ⟨ob, es', ep, ho, hx, _⟩ := id mo
 refine ⟨⟨ob, ho, hx.1⟩, wpAny_getItem_of (k := k) (by simp [intKind, Value.isInt]) mo (v := .ref f) (by rw [g]; rfl) ⟨.ref f, H2, I2.tok _, rfl, q2⟩⟩
theorem pc_tab {a : Addr} {kvs : List (Int × Addr)} {x : Str} {p : Pos} (T : Tab X.K a kvs) (hg : Gl X x) (hm : X.mg x = some (.ref a)) (hi : PE X i ty) (hd : (x == ("__debug__" : Str)) = false := by decide) :
 PC X .In i (.Name x p) (fun σ H Q => ty σ H fun y H1 => ∃ k, y = .int k ∧ Q (.bl (look kvs k).isSome) H1) := by
 intro pins s σ H Q I h
 refine thn (hi pins s σ H _ I h) fun iv s1 ⟨y, H1, I1, ry, k, ex, q1⟩ => ?_
 subst ex
 obtain ⟨tk, rfl⟩ := ry
 refine thn (q14z (v := .ref a) hg hm rfl hd pins s1 σ H1 (fun v H2 => v = .ref a ∧ H2 = H1) I1 ⟨rfl, rfl⟩) fun u s2 ⟨x', H2, I2, rx, e1, e2⟩ => ?_
 subst e1
 subst e2
 cases rx
 have mo := T.map (P := X.prog) (w := X.w) I2.kIn
 refine wpAny_in_of (k := k) (by simp [intKind, Value.isInt]) T.ns mo ?_
 have e : ((look kvs k).map Value.ref).isSome = (look kvs k).isSome := by cases look kvs k <;> rfl
 rw [e]
 exact ⟨.bl _, H2, I2.tok _, rfl, q1⟩
def tCallT (X : Cx) (te : TE) (t : TA) : TE := fun σ H Q => te σ H fun v H1 => ∃ f fd ps sp k, v = .ref f /\ FnOk X.prog X.w X.K X.mg X.base CX0 k f fd ps sp /\ Room k X.A /\ W.keepIn X.K (.ref f) = true /\ Binds X.K fd ps [] /\ t σ H1 fun vs H2 => sp vs H2 Q E0
theorem pe_callT {te : TE} {f1 f2 : Expr} {fp : Pos} (hf : PE X (.Subscript f1 f2 fp) te) (ha : PA X (e :: es) t) (hx : Passes CX0 X E0 := pass0) (he : starEach (e :: es) X.env = (false, eval e X.env) :: starEach es X.env := by rfl) (hpl : (backTo pos (starEach es X.env)).any (·.1) = false := by rfl) :
 PE X (.Call (.Subscript f1 f2 fp) (e :: es) [] pos) (tCallT X te t) := by
 intro pins s σ H Q I h
 show wpAny _ _ (do callWith pos (← eval (.Subscript f1 f2 fp) X.env) [] (backTo pos (starEach (e :: es) X.env)) (backToKw pos (keywordEach [] X.env))) _ _ s
 refine wpAny_bind (thn (hf pins s σ H _ I h) fun u s1 ⟨v, H1, I1, rv, f, fd, ps, sp, k, ev, F, hr, hk, hb, q⟩ => ?_)
 subst ev
 cases rv
 refine W.callWith_K (h₀ := X.base) I.ok.mod.kin hk (thn (ha pos pins s1 σ H1 _ I1 q) fun us s2 ⟨vs, H2, I2, r, q2⟩ => ⟨I2.kIn, ?_⟩) he hpl
 exact run_fn (dvs := []) (ds := []) F hr hb .nil hx I2 r (by rw [List.append_nil]; exact q2)
theorem in_vis (x : Nat) (c : List Nat) : inV (vi x) (vis c) = decide (x ∈ c) := by
 unfold inV vis
 rw [List.any_map, Bool.eq_iff_iff, List.any_eq_true, decide_eq_true_eq]
 constructor
 . rintro ⟨y, hy, e⟩
   have : y = x := by simp [eqV] at e; omega
   rw [← this]
   exact hy
 . intro h
   exact ⟨x, h, by simp [eqV]⟩
theorem flat_vis (c : List Nat) : (vis c).all flatV = true := by
 unfold vis
 rw [List.all_map, List.all_eq_true]
 intro x _
 rfl
theorem pe_fldK {X : Cx} {e : Expr} {ta : TE} {f : Str} {pos : Pos} {K : W.Frag} (hK : X.K = K) (he : PE X e ta) (hb : attributeBase e f X.env (eval e X.env) = eval e X.env) : PE X (.Attribute e f pos) (tFld K ta f) := by
 subst hK
 exact q11z he hb
structure TxtC (mg : Str -> Option Value) : Prop where
 nt : ∃ t, mg "NOT_THERE" = some (.int (-2) t)
 nic : ∃ t, mg "NOT_IN_CODE" = some (.int (-6) t)
 so : ∃ t, mg "ALREADY_SO" = some (.int (-17) t)
 oor : ∃ t, mg "OUT_OF_RANGE" = some (.int (-22) t)
 many : ∃ t, mg "TOO_MANY" = some (.int (-28) t)
 alike : ∃ t, mg "ALIKE" = some (.int (-33) t)
 long : ∃ t, mg "TOO_LONG" = some (.int (-75) t)
 mic : ∃ t, mg "MOST_IN_CODE" = some (.int 24 t)
 mls : ∃ t, mg "MOST_LETTERS_SEARCHED" = some (.int 5 t)
variable {P : Program} {w : World} {K : W.Frag} {mg : Str → Option Value} {base : Heap}
def sp_aic (CH CS : Addr) : Sp := fun vs H Q _ => ∃ (p : Addr) (F : List Addr) (d : Desk) (x : Nat), vs = [.ref p, vi x] /\ Sess CH CS F H p d /\ x < 2 ^ d.now.long /\ ∀ H', Same H H' -> Q (vi (d.now.code.filter fun v => alike d.now.long x v).length) H'
theorem sc_aic : FnScope ["session", "word", "other"] ["session", "word"] (defScope s_alike_in_code) := sc_by rfl (by decide +kernel)
theorem ok_aic {CH CS f : Addr} {fd : FuncData} (F : Fun K "alike_in_code" "alike_in_code" s_alike_in_code f fd) (O : Own mg) (TH : TxtH K mg CH) (T : TxtS K mg CS) (DA : Def P w K mg base "alike_by_losing" 5 ["first", "second", "n"] sp_alike) :
 FnOk P w K mg base CX0 6 f fd ["session", "word"] (sp_aic CH CS) := by
 refine F.ok sc_aic (fun _ _ _ _ h => ?_) (fun _ _ _ _ H vs Q E hr h => ?_)
 . obtain ⟨p, Fp, d, x, rfl, _⟩ := h
   rfl
 . obtain ⟨p, Fp, d, x, rfl, se, hx, q⟩ := h
   obtain ⟨dx, wa, h, dh, tc, le, ll, eF, ep, ew, hi⟩ := se.ex
   have n2 := se.ok.n2
   have n10 := se.ok.n10
   refine ⟨_, q4z (q8z (q16z q15z (by rfl) O.len boot_len (q0z
    (pe_lc (own := [("other", 2)]) rfl sc_aic.nd (pi_tup (q11z (q11z (pv 0) rfl) rfl)) (blkOk_by (by show blkC ["session", "word", "other"] (defScope s_alike_in_code) _ _ = true; decide +kernel)) (fun _ _ _ _ _ => pg_name (i := 2) sc_aic.nd rfl (Or.inl rfl))
     (fun _ _ _ _ _ => pts_one (pt_val (q6z DA hr rfl (q0z (pv 1) (q0z (pv 2) (q0z (pe_fldK (K := K) rfl (pv 0) rfl) q2z)))))) (fun _ _ _ _ _ => pv 2)) q2z))), ?_⟩
   refine ⟨_, rfl, p, CS, dx, _, _, rfl, ep, T.cl, T.nH, fsS_gh, h, CH, dh, _, _, rfl, hi.obj, TH.cl, TH.nC, fsH_gcode, tc, rfl, ⟨_, SqT.of hi.code⟩, fun D hD =>
    lc_tup (K := K) (a := tc) (xs := vis d.now.code) (fun i H' => H' D = some (.lst (vis ((d.now.code.take i).filter fun v => alike d.now.long x v))) ∧ Same H H') ⟨q1z, sU (Same.refl H) hD⟩ (fun i H' _ e => SqT.of (e.2 _ _ hi.code)) ?_ ?_⟩
   . rintro i y H' hi2 ⟨eD, s1⟩
     obtain ⟨z, hz, rfl⟩ := vis_get hi2
     have zl : z < 2 ^ d.now.long := se.ok.now.lt z (List.mem_of_getElem? hz)
     refine ⟨rfl, _, rfl, _, rfl, _, rfl, p, CS, dx, _, _, rfl, s1 _ _ ep, T.cl, T.nN, fsS_gn, x, z, d.now.long, rfl, by omega, by omega, hx, zl, fun H2 s2 => ⟨_, rfl, ?_⟩⟩
     rw [take_snoc hz, List.filter_append, List.filter_cons, List.filter_nil]
     refine ite2 (fun hc => ?_) (fun hc => ?_)
     . refine ⟨_, rfl, _, s2 _ _ eD, ?_, ?_, same_upd' (s1.trans s2) hD⟩
       . rw [q9z]
         refine small1000 (Nat.le_trans (List.length_filter_le _ _) ?_)
         have := se.ok.now.len
         rw [List.length_take]
         omega
       . rw [q1z, if_pos hc, vis_append]
         rfl
     . rw [if_neg hc, List.append_nil]
       exact ⟨s2 _ _ eD, s1.trans s2⟩
   . rintro H' ⟨eD, s1⟩
     rw [q9z, List.take_length] at eD
     refine ⟨D, _, rfl, .inl (SqL.of eD), ?_⟩
     rw [q9z]
     exact q H' s1
def sp_ww (CH CS : Addr) : Sp := fun vs H Q _ => ∃ (p : Addr) (F : List Addr) (d : Desk) (x : Nat), vs = [.ref p, vi x] /\ Sess CH CS F H p d /\ x ∉ d.now.code /\ ∀ H' t, Same H H' -> H t = none -> H' t = some (.tup (vis (rising (d.now.code ++ [x])))) -> Q (.ref t) H'
theorem sc_ww : FnScope ["session", "word"] ["session", "word"] (defScope s_with_word) := sc_by rfl (by decide +kernel)
theorem ok_ww {CH CS f : Addr} {fd : FuncData} (F : Fun K "with_word" "with_word" s_with_word f fd) (O : Own mg) (TH : TxtH K mg CH) (T : TxtS K mg CS) : FnOk P w K mg base CX0 1 f fd ["session", "word"] (sp_ww CH CS) := by
 refine F.ok sc_ww (fun _ _ _ _ h => ?_) (fun _ _ _ _ H vs Q E hr h => ?_)
 . obtain ⟨p, Fp, d, x, rfl, _⟩ := h
   rfl
 . obtain ⟨p, Fp, d, x, rfl, se, hx, q⟩ := h
   obtain ⟨dx, wa, h, dh, tc, le, ll, eF, ep, ew, hi⟩ := se.ex
   refine ⟨_, q4z (q8z (pe_callTy call_tuple_of (by rfl) O.tuple (by rfl) (q0z (q16z cr_sortedQ (by rfl) O.sorted (by rfl) (q0z (pe_op op_catQ (q11z (q11z (pv 0) rfl) rfl) (pe_tup (q0z (pv 1) q2z))) q2z)) q2z))), ?_⟩
   have ln := se.ok.now.len
   refine ⟨_, rfl, p, CS, dx, _, _, rfl, ep, T.cl, T.nH, fsS_gh, h, CH, dh, _, _, rfl, hi.obj, TH.cl, TH.nC, fsH_gcode, _, rfl, sz1, fun t1 ht1 => ?_⟩
   have s1 := sU (o := .tup [vi x]) (Same.refl H) ht1
   refine ⟨tc, t1, _, _, rfl, rfl, s1 _ _ hi.code, q1z, by rw [q9z]; exact Nat.le_of_lt (small1000 (by simp; omega)), fun r H2 er s2 => ?_⟩
   have s3 := s1.trans s2
   refine ⟨r, up (d.now.code ++ [x]), rfl, .inr (by rw [vis_up, vis_append]; exact SqT.of er), by simp [up]; omega, fun ns p4 pm pw hp4 => ?_⟩
   have nd : (d.now.code ++ [x]).Nodup := by
    rw [List.nodup_append]
    refine ⟨LL.up_nodup se.ok.now.up, by simp, fun a ha b hb e => ?_⟩
    rw [List.mem_singleton] at hb
    subst e
    subst hb
    exact hx ha
   have e5 : ns = up (rising (d.now.code ++ [x])) := sorted_up pm pw (by
    unfold up
    rw [List.Nodup, List.pairwise_map]
    exact nd.imp fun {u v} huv => by omega) (fun _ => Iff.rfl) (LL.up_rising _) fun z => LL.mem_rising _
   rw [e5, vis_up]
   have s4 := sU (o := .lst (vis (rising (d.now.code ++ [x])))) s3 hp4
   exact ⟨p4, _, rfl, .inl ⟨SqL.of q1z, fun p5 hp5 => q _ p5 (sU s4 hp5) (s4.free hp5) q1z⟩⟩
def refu (c : List Nat) (x : Nat) : Int := if x ∈ c then -17 else if 24 ≤ c.length then -28 else 0
def sp_ref (CH CS : Addr) : Sp := fun vs H Q _ => ∃ (p : Addr) (F : List Addr) (d : Desk) (x : Nat), vs = [.ref p, vi x] /\ Sess CH CS F H p d /\ Q (.int (refu d.now.code x)) H
theorem sc_ref : FnScope ["session", "word", "code"] ["session", "word"] (defScope s_refusal_of) := sc_by rfl (by decide +kernel)
theorem ok_ref {CH CS f : Addr} {fd : FuncData} (F : Fun K "refusal_of" "refusal_of" s_refusal_of f fd) (O : Own mg) (TH : TxtH K mg CH) (T : TxtS K mg CS) (TC : TxtC mg) : FnOk P w K mg base CX0 1 f fd ["session", "word"] (sp_ref CH CS) := by
 refine F.ok sc_ref (fun _ _ _ _ h => ?_) (fun _ _ _ _ H vs Q E hr h => ?_)
 . obtain ⟨p, Fp, d, x, rfl, _⟩ := h
   rfl
 . obtain ⟨p, Fp, d, x, rfl, se, q⟩ := h
   obtain ⟨dx, wa, h, dh, tc, le, ll, eF, ep, ew, hi⟩ := se.ex
   obtain ⟨t1, h1⟩ := TC.so
   obtain ⟨t2, h2⟩ := TC.many
   obtain ⟨t3, h3⟩ := TC.mic
   refine ⟨_, q3z (q12z (i := 2) sc_ref.nd rfl (Or.inl rfl) (q11z (q11z (pv 0) rfl) rfl))
    (q3z (ps_if (pt_cmpR op_in_seq (pv 1) (pv 2) (by with_unfolding_all rfl)) (q4z (q8z (q14z (v := .int (-17)) rfl h1 ⟨_, rfl⟩))) pss_nil)
    (q3z (ps_if (pt_cmpR op_ge (q16z q15z (by rfl) O.len boot_len (q0z (pv 2) q2z)) (q14z (v := .int 24) rfl h3 ⟨_, rfl⟩) (nomark _)) (q4z (q8z (q14z (v := .int (-28)) rfl h2 ⟨_, rfl⟩))) pss_nil)
    (q4z (q8z q10z)))), ?_⟩
   refine ⟨_, rfl, p, CS, dx, _, _, rfl, ep, T.cl, T.nH, fsS_gh, h, CH, dh, _, _, rfl, hi.obj, TH.cl, TH.nC, fsH_gcode, ?_⟩
   refine ⟨_, rfl, _, rfl, tc, _, rfl, .inr (SqT.of hi.code), rfl, flat_vis _, _, rfl, ?_⟩
   unfold refu at q
   rw [in_vis]
   refine ite2 (fun hc => ?_) (fun hc => ?_)
   . rw [if_pos (of_decide_eq_true hc)] at q
     exact q
   . rw [if_neg (fun z => hc (decide_eq_true z))] at q
     refine ⟨_, rfl, tc, _, rfl, .inr (SqT.of hi.code), _, _, rfl, rfl, _, rfl, ?_⟩
     refine ite2 (fun hg => ?_) (fun hg => ?_)
     . have hg' := of_decide_eq_true hg
       rw [q9z] at hg'
       rw [if_pos (by omega)] at q
       exact q
     . rw [if_neg (fun z => hg (decide_eq_true (by rw [q9z]; omega)))] at q
       exact q
abbrev ansV (a : Km469.Ans) : List V := (Km469Neutral.told a).map V.int
def sp1 (CH CS : Addr) (K : W.Frag) (c : Nat -> Km469.Call) (pre : Nat -> Nat -> Prop) : Sp := fun vs H Q _ => ∃ (p g : Addr) (F : List Addr) (d : Desk) (x : Nat), vs = [.ref p, .ref g] /\ Sess CH CS F H p d /\ SqL K H g (vis [x]) /\ pre d.now.long x /\
 ∀ H' F' r, Sess CH CS F' H' p (act d (c x)).1 → After F F' H H' → H r = none → H' r = some (.lst (ansV (act d (c x)).2)) → Q (.ref r) H'
abbrev isWord : Nat -> Nat -> Prop := fun n x => x < 2 ^ n
theorem bad_no {n x : Nat} (h : x < 2 ^ n) : Km469.bad n x = false := decide_eq_false (by omega)
theorem act_refu {d : Desk} {x : Nat} (h : x < 2 ^ d.now.long) (hr : refu d.now.code x < 0) : act d (.add x) = (d, Km469.only (refu d.now.code x)) /\ act d (.force x) = (d, Km469.only (refu d.now.code x)) := by
 unfold refu at hr ⊢
 by_cases h1 : x ∈ d.now.code
 . have h1' : d.now.code.contains x = true := by simpa using h1
   simp only [act, bad_no h, h1', h1, if_true, Bool.false_eq_true, if_false, and_self]
 . have h1' : ¬ d.now.code.contains x = true := by simpa using h1
   rw [if_neg h1] at hr ⊢
   by_cases h2 : 24 ≤ d.now.code.length
   . have h2' : Km469.MANY ≤ d.now.code.length := h2
     simp only [act, bad_no h, h1', h2', h2, if_true, Bool.false_eq_true, if_false, and_self]
   . rw [if_neg h2] at hr
     omega
theorem refu_ok {c : List Nat} {x : Nat} (hr : ¬ refu c x < 0) : x ∉ c /\ c.length < 24 := by
 unfold refu at hr
 by_cases h1 : x ∈ c
 . rw [if_pos h1] at hr; omega
 . rw [if_neg h1] at hr
   by_cases h2 : 24 ≤ c.length
   . rw [if_pos h2] at hr; omega
   . exact ⟨h1, by omega⟩
theorem filter_any {p : Nat -> Bool} {l : List Nat} : (0 < (l.filter p).length) ↔ l.any p = true := by
 rw [List.any_eq_true]
 constructor
 . intro h
   obtain ⟨x, hx⟩ := List.exists_mem_of_length_pos h
   exact ⟨x, (List.mem_filter.mp hx).1, (List.mem_filter.mp hx).2⟩
 . rintro ⟨x, h1, h2⟩
   exact List.length_pos_of_mem (List.mem_filter.mpr ⟨h1, h2⟩)
theorem act_add {d : Desk} {x : Nat} (h : x < 2 ^ d.now.long) (hr : ¬ refu d.now.code x < 0) :
 act d (.add x) = if 0 < (d.now.code.filter fun v => alike d.now.long x v).length then (d, Km469.only (-33)) else (d.become { d.now with code := rising (d.now.code ++ [x]) }, Km469.only ((d.now.code.length + 1 : Nat) : Int)) := by
 obtain ⟨h1, h2⟩ := refu_ok hr
 have h1' : ¬ d.now.code.contains x = true := by simpa using h1
 have h2' : ¬ Km469.MANY ≤ d.now.code.length := by show ¬ 24 ≤ _; omega
 simp only [act, bad_no h, h1', h2', Bool.false_eq_true, if_false, filter_any]
theorem act_force {d : Desk} {x : Nat} (h : x < 2 ^ d.now.long) (hr : ¬ refu d.now.code x < 0) :
 act d (.force x) = (d.become { d.now with code := rising (d.now.code ++ [x]) }, ⟨((d.now.code.length + 1 : Nat) : Int), [(d.now.code.filter fun v => alike d.now.long x v).length]⟩) := by
 obtain ⟨h1, h2⟩ := refu_ok hr
 have h1' : ¬ d.now.code.contains x = true := by simpa using h1
 have h2' : ¬ Km469.MANY ≤ d.now.code.length := by show ¬ 24 ≤ _; omega
 simp only [act, bad_no h, h1', h2', Bool.false_eq_true, if_false]
theorem good_more {n : Nat} {c : List Nat} {x : Nat} (g : GoodC n c) (hx : x < 2 ^ n) (hr : ¬ refu c x < 0) : GoodC n (rising (c ++ [x])) /\ (rising (c ++ [x])).length = c.length + 1 := by
 obtain ⟨h1, h2⟩ := refu_ok hr
 have nd : (c ++ [x]).Nodup := by
  rw [List.nodup_append]
  refine ⟨LL.up_nodup g.up, by simp, fun a ha b hb e => ?_⟩
  rw [List.mem_singleton] at hb
  subst e
  subst hb
  exact h1 ha
 have e : (rising (c ++ [x])).length = c.length + 1 := by rw [LL.rising_len_nodup nd]; simp
 refine ⟨⟨LL.up_rising _, fun y hy => ?_, by omega⟩, e⟩
 rw [LL.mem_rising, List.mem_append, List.mem_singleton] at hy
 rcases hy with hy | hy
 . exact g.lt y hy
 . rw [hy]; exact hx
variable {P : Program} {w : World} {K : W.Frag} {mg : Str → Option Value} {base : Heap}
theorem sc_add : FnScope ["session", "given", "word", "refusal"] ["session", "given"] (defScope s_add) := sc_by rfl (by decide +kernel)
theorem ok_add {CH CS f : Addr} {fd : FuncData} (F : Fun K "add" "add" s_add f fd) (TC : TxtC mg) (DR : Def P w K mg base "refusal_of" 1 ["session", "word"] (sp_ref CH CS)) (DA : Def P w K mg base "alike_in_code" 6 ["session", "word"] (sp_aic CH CS))
 (DC : Def P w K mg base "changed_to" 2 ["session", "code"] (sp_changed CH CS)) (DW : Def P w K mg base "with_word" 1 ["session", "word"] (sp_ww CH CS)) : FnOk P w K mg base CX0 7 f fd ["session", "given"] (sp1 CH CS K .add isWord) := by
 refine F.ok sc_add (fun _ _ _ _ h => ?_) (fun _ _ _ _ H vs Q E hr h => ?_)
 . obtain ⟨p, g, Fp, d, x, rfl, _⟩ := h
   rfl
 . obtain ⟨p, g, Fp, d, x, rfl, se, hg, hx, q⟩ := h
   obtain ⟨t1, h1⟩ := TC.alike
   have hr1 : Room 1 _ := hr.mono (by decide)
   have hr2 : Room 2 _ := hr.mono (by decide)
   refine ⟨_, q3z (q12z (i := 2) sc_add.nd rfl (Or.inl rfl) (pe_ix ix_list (pv 1) q10z (fun _ _ => rfl)))
    (q3z (q12z (i := 3) sc_add.nd rfl (Or.inl rfl) (q6z DR hr1 rfl (q0z (pv 0) (q0z (pv 2) q2z))))
    (q3z (ps_if (pt_cmpR op_lt (pv 3) q10z (nomark _)) (q4z (q8z (q13z (q0z (pv 3) q2z)))) pss_nil)
    (q3z (ps_if (pt_cmpR op_gt (q6z DA hr rfl (q0z (pv 0) (q0z (pv 2) q2z))) q10z (nomark _)) (q4z (q8z (q13z (q0z (q14z (v := .int (-33)) rfl h1 ⟨_, rfl⟩) q2z)))) pss_nil)
    (q4z (q8z (q13z (q0z (q6z DC hr2 rfl (q0z (pv 0) (q0z (q6z DW hr1 rfl (q0z (pv 0) (q0z (pv 2) q2z))) q2z))) q2z))))))), ?_⟩
   refine ⟨_, rfl, g, _, _, _, rfl, rfl, hg, atI_nat (j := 0) (xs := vis [x]) (v := vi x) rfl, ?_⟩
   refine ⟨_, rfl, _, rfl, p, Fp, d, x, rfl, se, ?_⟩
   refine ⟨_, rfl, _, _, rfl, rfl, _, rfl, ?_⟩
   refine ite2 (fun hc => ?_) (fun hc => ?_)
   . have hc' : refu d.now.code x < 0 := of_decide_eq_true hc
     refine ⟨_, rfl, sz1, fun r hr0 => ?_⟩
     rw [(act_refu hx hc').1] at q
     exact q _ Fp r (se.keep (sU (Same.refl H) hr0)) (After.same (sU (Same.refl H) hr0)) hr0 q1z
   . have hc' : ¬ refu d.now.code x < 0 := fun z => hc (decide_eq_true z)
     rw [act_add hx hc'] at q
     refine ⟨_, rfl, _, rfl, p, Fp, d, x, rfl, se, hx, fun H1 s1 => ?_⟩
     refine ⟨_, _, rfl, rfl, _, rfl, ?_⟩
     refine ite2 (fun ha => ?_) (fun ha => ?_)
     . have ha' : 0 < (d.now.code.filter fun v => alike d.now.long x v).length := by have := of_decide_eq_true ha; omega
       rw [if_pos ha'] at q
       refine ⟨sz1, fun r hr0 => ?_⟩
       have s2 := sU (o := .lst [V.int (-33)]) s1 hr0
       exact q _ Fp r (se.keep s2) (After.same s2) (s1.free hr0) q1z
     . have ha' : ¬ 0 < (d.now.code.filter fun v => alike d.now.long x v).length := fun z => ha (decide_eq_true (by omega))
       rw [if_neg ha'] at q
       obtain ⟨gm, glen⟩ := good_more se.ok.now hx hc'
       refine ⟨_, rfl, _, rfl, _, rfl, p, Fp, d, x, rfl, se.keep s1, (refu_ok hc').1, fun H2 t s2 ft et => ?_⟩
       refine ⟨p, t, Fp, d, _, rfl, se.keep (s1.trans s2), et, gm, fun H3 F3 se3 af3 => ?_⟩
       refine ⟨sz1, fun r hr0 => ?_⟩
       have s4 := sU (o := .lst [vi (rising (d.now.code ++ [x])).length]) (Same.refl H3) hr0
       have af := (After.pre (s1.trans s2) af3).post s4
       refine q _ F3 r (se3.keep s4) af ((After.pre (s1.trans s2) af3).free hr0) ?_
       rw [q1z, glen]
       rfl
theorem sc_force : FnScope ["session", "given", "word", "refusal", "alike"] ["session", "given"] (defScope s_force) := sc_by rfl (by decide +kernel)
theorem ok_force {CH CS f : Addr} {fd : FuncData} (F : Fun K "force" "force" s_force f fd) (DR : Def P w K mg base "refusal_of" 1 ["session", "word"] (sp_ref CH CS)) (DA : Def P w K mg base "alike_in_code" 6 ["session", "word"] (sp_aic CH CS))
 (DC : Def P w K mg base "changed_to" 2 ["session", "code"] (sp_changed CH CS)) (DW : Def P w K mg base "with_word" 1 ["session", "word"] (sp_ww CH CS)) : FnOk P w K mg base CX0 7 f fd ["session", "given"] (sp1 CH CS K .force isWord) := by
 refine F.ok sc_force (fun _ _ _ _ h => ?_) (fun _ _ _ _ H vs Q E hr h => ?_)
 . obtain ⟨p, g, Fp, d, x, rfl, _⟩ := h
   rfl
 . obtain ⟨p, g, Fp, d, x, rfl, se, hg, hx, q⟩ := h
   have hr1 : Room 1 _ := hr.mono (by decide)
   have hr2 : Room 2 _ := hr.mono (by decide)
   refine ⟨_, q3z (q12z (i := 2) sc_force.nd rfl (Or.inl rfl) (pe_ix ix_list (pv 1) q10z (fun _ _ => rfl)))
    (q3z (q12z (i := 3) sc_force.nd rfl (Or.inl rfl) (q6z DR hr1 rfl (q0z (pv 0) (q0z (pv 2) q2z))))
    (q3z (ps_if (pt_cmpR op_lt (pv 3) q10z (nomark _)) (q4z (q8z (q13z (q0z (pv 3) q2z)))) pss_nil)
    (q3z (q12z (i := 4) sc_force.nd rfl (Or.inl rfl) (q6z DA hr rfl (q0z (pv 0) (q0z (pv 2) q2z))))
    (q4z (q8z (q13z (q0z (q6z DC hr2 rfl (q0z (pv 0) (q0z (q6z DW hr1 rfl (q0z (pv 0) (q0z (pv 2) q2z))) q2z))) (q0z (pv 4) q2z)))))))), ?_⟩
   refine ⟨_, rfl, g, _, _, _, rfl, rfl, hg, atI_nat (j := 0) (xs := vis [x]) (v := vi x) rfl, ?_⟩
   refine ⟨_, rfl, _, rfl, p, Fp, d, x, rfl, se, ?_⟩
   refine ⟨_, rfl, _, _, rfl, rfl, _, rfl, ?_⟩
   refine ite2 (fun hc => ?_) (fun hc => ?_)
   . have hc' : refu d.now.code x < 0 := of_decide_eq_true hc
     refine ⟨_, rfl, sz1, fun r hr0 => ?_⟩
     rw [(act_refu hx hc').2] at q
     exact q _ Fp r (se.keep (sU (Same.refl H) hr0)) (After.same (sU (Same.refl H) hr0)) hr0 q1z
   . have hc' : ¬ refu d.now.code x < 0 := fun z => hc (decide_eq_true z)
     rw [act_force hx hc'] at q
     refine ⟨_, rfl, _, rfl, p, Fp, d, x, rfl, se, hx, fun H1 s1 => ?_⟩
     obtain ⟨gm, glen⟩ := good_more se.ok.now hx hc'
     refine ⟨_, rfl, _, rfl, _, rfl, p, Fp, d, x, rfl, se.keep s1, (refu_ok hc').1, fun H2 t s2 ft et => ?_⟩
     refine ⟨p, t, Fp, d, _, rfl, se.keep (s1.trans s2), et, gm, fun H3 F3 se3 af3 => ?_⟩
     refine ⟨_, rfl, (by show 2 ≤ sizeLine; decide), fun r hr0 => ?_⟩
     have s4 := sU (o := .lst [vi (rising (d.now.code ++ [x])).length, vi (d.now.code.filter fun v => alike d.now.long x v).length]) (Same.refl H3) hr0
     have af := (After.pre (s1.trans s2) af3).post s4
     refine q _ F3 r (se3.keep s4) af ((After.pre (s1.trans s2) af3).free hr0) ?_
     rw [q1z, glen]
     rfl
abbrev dat (l : List Nat) : List PyData := l.map fun x : Nat => PyData.int (x : Int)
theorem dp_vis {K : W.Frag} {H : Hp} : ∀ l : List Nat, DpAll K H (vis l) (dat l)
 | [] => .nil
 | x :: l => .cons (.int _) (dp_vis l)
theorem lay_dat : ∀ l : List Nat, PyData.canLayAll0 (dat l) = true /\ PyData.depthAll (dat l) = 0
 | [] => ⟨rfl, rfl⟩
 | x :: l => by
   obtain ⟨a, b⟩ := lay_dat l
   constructor
   . show (PyData.canLay0 (.int x) && PyData.canLayAll0 (dat l)) = true
     rw [a]
     rfl
   . show max (PyData.depth (.int x)) (PyData.depthAll (dat l)) = 0
     rw [b]
     rfl
theorem shaped_dat (l : List Nat) : SeqAt.shaped (.tuple (dat l)) = true := by
 obtain ⟨a, b⟩ := lay_dat l
 show (PyData.canLayAll0 (dat l) && decide (PyData.depthAll (dat l) + 1 ≤ 64)) = true
 rw [a, b]
 rfl
theorem eqv_dat : ∀ l m : List Nat, PyData.eqvAll (dat l) (dat m) = decide (l = m)
 | [], [] => by simp [dat, PyData.eqvAll]
 | [], y :: m => by simp [dat, PyData.eqvAll]
 | x :: l, [] => by simp [dat, PyData.eqvAll]
 | x :: l, y :: m => by
   show PyData.eqvAll (PyData.int (x : Int) :: dat l) (PyData.int (y : Int) :: dat m) = _
   rw [PyData.eqvAll, eqv_dat l m]
   by_cases h : x = y
   . subst h
     simp [PyData.eqv]
   . have h' : ¬ (x : Int) = (y : Int) := by omega
     simp [PyData.eqv, h, h']
theorem op_eqT {X : Cx} (hu : X.A.units + 64 < cLine) : OpR X (compareOp .Eq) (fun x y H Q => ∃ (a b : Addr) (l m : List Nat), x = .ref a /\ y = .ref b /\ SqT X.K H a (vis l) /\ SqT X.K H b (vis m) /\ Q (.bl (decide (l = m))) H) := by
 intro pins s σ H x y v u Q I rx ry h
 obtain ⟨a, b, l, m, rfl, rfl, ha, hb, q⟩ := h
 refine op_eqD hu pins s σ H _ _ v u Q I rx ry ⟨.tuple (dat l), .tuple (dat m), .tup ha (dp_vis l), .tup hb (dp_vis m), shaped_dat l, shaped_dat m, ?_⟩
 have e : PyData.eqv (.tuple (dat l)) (.tuple (dat m)) = decide (l = m) := by rw [PyData.eqv]; exact eqv_dat l m
 rw [e]
 exact q
def sp0 (CH CS : Addr) (K : W.Frag) (c : Km469.Call) : Sp := fun vs H Q _ => ∃ (p : Addr) (gv : V) (F : List Addr) (d : Desk), vs = [.ref p, gv] /\ Sess CH CS F H p d /\
 ∀ H' F' r, Sess CH CS F' H' p (act d c).1 → After F F' H H' → H r = none → H' r = some (.lst (ansV (act d c).2)) → Q (.ref r) H'
variable {P : Program} {w : World} {K : W.Frag} {mg : Str → Option Value} {base : Heap}
theorem sc_empty : FnScope ["session", "given", "many"] ["session", "given"] (defScope s_empty) := sc_by rfl (by decide +kernel)
theorem ok_empty {CH CS f : Addr} {fd : FuncData} (F : Fun K "empty" "empty" s_empty f fd) (O : Own mg) (TH : TxtH K mg CH) (T : TxtS K mg CS) (TC : TxtC mg) (DC : Def P w K mg base "changed_to" 2 ["session", "code"] (sp_changed CH CS)) : FnOk P w K mg base CX0 3 f fd ["session", "given"] (sp0 CH CS K .clear) := by
 refine F.ok sc_empty (fun _ _ _ _ h => ?_) (fun _ _ _ _ H vs Q E hr h => ?_)
 . obtain ⟨p, gv, Fp, d, rfl, _⟩ := h
   rfl
 . obtain ⟨p, gv, Fp, d, rfl, se, q⟩ := h
   obtain ⟨dx, wa, h, dh, tc, le, ll, eF, ep, ew, hi⟩ := se.ex
   obtain ⟨t1, h1⟩ := TC.so
   refine ⟨_, q3z (q12z (i := 2) sc_empty.nd rfl (Or.inl rfl) (q16z q15z (by rfl) O.len boot_len (q0z (q11z (q11z (pv 0) rfl) rfl) q2z)))
    (q3z (ps_if (pt_cmpR op_eq (pv 2) q10z (nomark _)) (q4z (q8z (q13z (q0z (q14z (v := .int (-17)) rfl h1 ⟨_, rfl⟩) q2z)))) pss_nil)
    (q3z (ps_expr (q6z DC hr rfl (q0z (pv 0) (q0z (pe_tup q2z) q2z))))
    (q4z (q8z (q13z (q0z (pv 2) q2z)))))), ?_⟩
   refine ⟨_, rfl, p, CS, dx, _, _, rfl, ep, T.cl, T.nH, fsS_gh, h, CH, dh, _, _, rfl, hi.obj, TH.cl, TH.nC, fsH_gcode, tc, _, rfl, .inr (SqT.of hi.code), ?_⟩
   refine ⟨_, rfl, rfl, _, rfl, ?_⟩
   have e : decide (V.int ((vis d.now.code).length : Int) = V.int 0) = decide (d.now.code = []) := by
    rw [q9z]
    by_cases z : d.now.code = []
    . rw [z]; simp
    . have : ¬ V.int (d.now.code.length : Int) = V.int 0 := fun y => z (List.eq_nil_of_length_eq_zero (by injection y with y; omega))
      simp [z, this]
   rw [e]
   refine ite2 (fun hc => ?_) (fun hc => ?_)
   . have hc' : d.now.code = [] := of_decide_eq_true hc
     have ea : act d .clear = (d, Km469.only (-17)) := by simp only [act, hc', if_true]
     rw [ea] at q
     refine ⟨sz1, fun r hr0 => ?_⟩
     exact q _ Fp r (se.keep (sU (Same.refl H) hr0)) (After.same (sU (Same.refl H) hr0)) hr0 q1z
   . have hc' : ¬ d.now.code = [] := fun z => hc (decide_eq_true z)
     have ea : act d .clear = (d.become { d.now with code := [] }, Km469.only (d.now.code.length : Int)) := by simp only [act, hc', if_false]
     rw [ea] at q
     refine ⟨_, rfl, Nat.zero_le _, fun t ht => ?_⟩
     have s1 := sU (o := .tup []) (Same.refl H) ht
     refine ⟨p, t, Fp, d, [], rfl, se.keep s1, q1z, ⟨List.Pairwise.nil, (fun x hx => by cases hx), Nat.zero_le _⟩, fun H3 F3 se3 af3 => ?_⟩
     refine ⟨_, rfl, sz1, fun r hr0 => ?_⟩
     have s4 := sU (o := .lst [V.int ((vis d.now.code).length : Int)]) (Same.refl H3) hr0
     refine q _ F3 r (se3.keep s4) ((After.pre s1 af3).post s4) ((After.pre s1 af3).free hr0) ?_
     rw [q1z, q9z]
     rfl
theorem act_drop_no {d : Desk} {x : Nat} (h : x < 2 ^ d.now.long) (hx : x ∉ d.now.code) : act d (.drop x) = (d, Km469.only (-6)) := by
 have h1 : d.now.code.contains x = false := by simpa using hx
 simp only [act, bad_no h, h1, if_true, Bool.false_eq_true, if_false]
theorem act_drop {d : Desk} {x : Nat} (h : x < 2 ^ d.now.long) (hx : x ∈ d.now.code) : act d (.drop x) = (d.become { d.now with code := d.now.code.filter fun y => y != x }, Km469.only ((d.now.code.length - 1 : Nat) : Int)) := by
 have h1 : ¬ d.now.code.contains x = false := by simpa using hx
 simp only [act, bad_no h, h1, Bool.false_eq_true, Bool.true_eq_false, if_false]
theorem good_less {n : Nat} {c : List Nat} {x : Nat} (g : GoodC n c) (hx : x ∈ c) : GoodC n (c.filter fun y => y != x) /\ (c.filter fun y => y != x).length = c.length - 1 := by
 have e : (c.filter fun y => y != x) = c.erase x := ((LL.up_nodup g.up).erase_eq_filter x).symm
 refine ⟨⟨g.up.sublist List.filter_sublist, fun y hy => g.lt y (List.mem_filter.mp hy).1, Nat.le_trans (List.length_filter_le _ _) g.len⟩, ?_⟩
 rw [e, List.length_erase_of_mem hx]
theorem act_take {d : Desk} {a : Nat} : act d (.take a) = if a ≤ d.now.long then (if 24 < (Km469.cls d.now.long a).length then (d, Km469.only (-28)) else if Km469.cls d.now.long a = d.now.code then (d, Km469.only (-17)) else (d.become { d.now with code := Km469.cls d.now.long a }, Km469.only ((Km469.cls d.now.long a).length : Int))) else (d, Km469.only (-22)) := by
 by_cases h : a ≤ d.now.long
 . rw [if_pos h]
   have h' : ¬ d.now.long < a := by omega
   simp only [act, h', if_false]
   rfl
 . rw [if_neg h]
   have h' : d.now.long < a := by omega
   simp only [act, h', if_true]
theorem good_cls {n a : Nat} (h : (Km469.cls n a).length ≤ 24) : GoodC n (Km469.cls n a) := by
 refine ⟨?_, fun x hx => List.mem_range.mp (List.mem_filter.mp hx).1, h⟩
 exact (List.pairwise_lt_range).sublist List.filter_sublist
theorem act_grow {d : Desk} (h : d.now.long ≤ 5) : act d .grow = if safe d.now.long d.now.code = true then (if rising (Km469.most d.now.long d.now.code) = d.now.code then (d, Km469.only (-17)) else (d.become { d.now with code := rising (Km469.most d.now.long d.now.code) }, Km469.only ((rising (Km469.most d.now.long d.now.code)).length : Int))) else (d, Km469.only (-33)) := by
 have h' : ¬ Km469.SMALL < d.now.long := by show ¬ 5 < _; omega
 by_cases s : safe d.now.long d.now.code = true
 . rw [if_pos s]
   simp only [act, h', s, if_false, Bool.true_eq_false]
 . rw [if_neg s]
   have s' : safe d.now.long d.now.code = false := by simpa using s
   simp only [act, h', s', if_false, if_true]
theorem good_most {n : Nat} {c : List Nat} (n2 : 2 ≤ n) (n5 : n ≤ 5) (g : GoodC n c) (hs : safe n c = true) : GoodC n (rising (Km469.most n c)) :=
 ⟨LL.up_rising _, fun x hx => LL.most_lt g.lt x ((LL.mem_rising _).mp hx), Nat.le_trans (LL.most_few n2 n5 g.up g.lt hs) (by decide)⟩
theorem nin_vis (x : Nat) (c : List Nat) : (!inV (vi x) (vis c)) = decide (x ∉ c) := by
 rw [in_vis]
 simp
variable {P : Program} {w : World} {K : W.Frag} {mg : Str → Option Value} {base : Heap}
theorem sc_drop : FnScope ["session", "given", "word", "code", "other"] ["session", "given"] (defScope s_drop) := sc_by rfl (by decide +kernel)
theorem ok_drop {CH CS f : Addr} {fd : FuncData} (F : Fun K "drop" "drop" s_drop f fd) (O : Own mg) (TH : TxtH K mg CH) (T : TxtS K mg CS) (TC : TxtC mg) (DC : Def P w K mg base "changed_to" 2 ["session", "code"] (sp_changed CH CS)) : FnOk P w K mg base CX0 3 f fd ["session", "given"] (sp1 CH CS K .drop isWord) := by
 refine F.ok sc_drop (fun _ _ _ _ h => ?_) (fun _ _ _ _ H vs Q E hr h => ?_)
 . obtain ⟨p, g, Fp, d, x, rfl, _⟩ := h
   rfl
 . obtain ⟨p, g, Fp, d, x, rfl, se, hg, hx, q⟩ := h
   obtain ⟨dx, wa, h, dh, tc, le, ll, eF, ep, ew, hi⟩ := se.ex
   obtain ⟨t1, h1⟩ := TC.nic
   refine ⟨_, q3z (q12z (i := 2) sc_drop.nd rfl (Or.inr rfl) (pe_ix ix_list (pv 1) q10z (fun _ _ => rfl)))
    (q3z (q12z (i := 3) sc_drop.nd rfl (Or.inl rfl) (q11z (q11z (pv 0) rfl) rfl))
    (q3z (ps_if (pt_cmpR op_notIn_seq (pv 2) (pv 3) (by with_unfolding_all rfl)) (q4z (q8z (q13z (q0z (q14z (v := .int (-6)) rfl h1 ⟨_, rfl⟩) q2z)))) pss_nil)
    (q4z (q8z (q13z (q0z (q6z DC hr rfl (q0z (pv 0) (q0z (pe_callTy call_tuple_of (by rfl) O.tuple (by rfl) (q0z
     (pe_lc (own := [("other", 4)]) rfl sc_drop.nd (pi_tup (pv 3)) (blkOk_by (by show blkC ["session", "given", "word", "code", "other"] (defScope s_drop) _ _ = true; decide +kernel)) (fun _ _ _ _ _ => pg_name (i := 4) sc_drop.nd rfl (Or.inl rfl))
      (fun _ _ _ _ _ => pts_one (pt_cmpR op_ne (pv 4) (pv 2) (nomark _))) (fun _ _ _ _ _ => pv 4)) q2z)) q2z))) q2z)))))), ?_⟩
   refine ⟨_, rfl, g, _, _, _, rfl, rfl, hg, atI_nat (j := 0) (xs := vis [x]) (v := vi x) rfl, ?_⟩
   refine ⟨_, rfl, p, CS, dx, _, _, rfl, ep, T.cl, T.nH, fsS_gh, h, CH, dh, _, _, rfl, hi.obj, TH.cl, TH.nC, fsH_gcode, ?_⟩
   refine ⟨_, rfl, _, rfl, tc, _, rfl, .inr (SqT.of hi.code), rfl, flat_vis _, _, rfl, ?_⟩
   show if (!inV (vi x) (vis d.now.code)) = true then _ else _
   rw [nin_vis]
   refine ite2 (fun hc => ?_) (fun hc => ?_)
   . have hc' : x ∉ d.now.code := of_decide_eq_true hc
     rw [act_drop_no hx hc'] at q
     refine ⟨sz1, fun r hr0 => ?_⟩
     exact q _ Fp r (se.keep (sU (Same.refl H) hr0)) (After.same (sU (Same.refl H) hr0)) hr0 q1z
   . have hc' : x ∈ d.now.code := Decidable.byContradiction fun z => hc (decide_eq_true z)
     rw [act_drop hx hc'] at q
     obtain ⟨gm, glen⟩ := good_less se.ok.now hc'
     refine ⟨_, rfl, _, rfl, tc, rfl, ⟨_, SqT.of hi.code⟩, fun D hD =>
      lc_tup (K := K) (a := tc) (xs := vis d.now.code) (fun i H' => H' D = some (.lst (vis ((d.now.code.take i).filter fun y => y != x))) ∧ Same H H') ⟨q1z, sU (Same.refl H) hD⟩ (fun i H' _ e => SqT.of (e.2 _ _ hi.code)) ?_ ?_⟩
     . rintro i y H' hi2 ⟨eD, s1⟩
       obtain ⟨z, hz, rfl⟩ := vis_get hi2
       refine ⟨rfl, _, rfl, _, rfl, rfl, _, rfl, ?_⟩
       rw [take_snoc hz, List.filter_append, List.filter_cons, List.filter_nil, vi_eq]
       refine ite2 (fun hc2 => ?_) (fun hc2 => ?_)
       . have hne : (z != x) = true := by simpa using hc2
         refine ⟨_, rfl, _, eD, ?_, ?_, same_upd' s1 hD⟩
         . rw [q9z]
           refine small1000 (Nat.le_trans (List.length_filter_le _ _) ?_)
           have := se.ok.now.len
           rw [List.length_take]
           omega
         . rw [q1z, if_pos hne, vis_append]
           rfl
       . have hne : ¬ (z != x) = true := by simpa using hc2
         rw [if_neg hne, List.append_nil]
         exact ⟨eD, s1⟩
     . rintro H1 ⟨eD, s1⟩
       rw [q9z, List.take_length] at eD
       refine ⟨D, _, rfl, .inl ⟨SqL.of eD, fun t ht => ?_⟩⟩
       have s2 := sU (o := .tup (vis (d.now.code.filter fun y => y != x))) s1 ht
       refine ⟨p, t, Fp, d, _, rfl, se.keep s2, q1z, gm, fun H3 F3 se3 af3 => ?_⟩
       refine ⟨sz1, fun r hr0 => ?_⟩
       have s4 := sU (o := .lst [vi (d.now.code.filter fun y => y != x).length]) (Same.refl H3) hr0
       refine q _ F3 r (se3.keep s4) ((After.pre s2 af3).post s4) ((After.pre s2 af3).free hr0) ?_
       rw [q1z, glen]
       rfl
theorem sc_take : FnScope ["session", "given", "words"] ["session", "given"] (defScope s_take) := sc_by rfl (by decide +kernel)
theorem ok_take {CH CS f : Addr} {fd : FuncData} (F : Fun K "take" "take" s_take f fd) (O : Own mg) (TH : TxtH K mg CH) (T : TxtS K mg CS) (TC : TxtC mg) (DH : MDef P w K mg base CS "has_class" 1 ["self", "a"] (sp_has_class CS)) (DW : MDef P w K mg base CS "words_of_class" 2 ["self", "a"] (sp_words_of_class CS))
 (DC : Def P w K mg base "changed_to" 2 ["session", "code"] (sp_changed CH CS)) : FnOk P w K mg base CX0 3 f fd ["session", "given"] (sp1 CH CS K .take fun _ _ => True) := by
 refine F.ok sc_take (fun _ _ _ _ h => ?_) (fun _ _ _ _ H vs Q E hr h => ?_)
 . obtain ⟨p, g, Fp, d, x, rfl, _⟩ := h
   rfl
 . obtain ⟨p, g, Fp, d, x, rfl, se, hg, _, q⟩ := h
   obtain ⟨dx, wa, h, dh, tc, le, ll, eF, ep, ew, hi⟩ := se.ex
   obtain ⟨t1, h1⟩ := TC.oor
   obtain ⟨t2, h2⟩ := TC.many
   obtain ⟨t3, h3⟩ := TC.mic
   obtain ⟨t4, h4⟩ := TC.so
   have n10 := se.ok.n10
   have hr1 : Room 1 _ := hr.mono (by decide)
   have sv : SV CS H p d.now.long h := ⟨dx, wa, ep, ew⟩
   refine ⟨_, q3z (ps_if (pt_not (pt_val (pe_methD (pv 0) T.cl DH hr1 (q0z (pe_ix ix_list (pv 1) q10z (fun _ _ => rfl)) q2z)))) (q4z (q8z (q13z (q0z (q14z (v := .int (-22)) rfl h1 ⟨_, rfl⟩) q2z)))) pss_nil)
    (q3z (q12z (i := 2) sc_take.nd rfl (Or.inl rfl) (pe_methD (pv 0) T.cl DW hr (q0z (pe_ix ix_list (pv 1) q10z (fun _ _ => rfl)) q2z)))
    (q3z (ps_if (pt_cmpR op_gt (q16z q15z (by rfl) O.len boot_len (q0z (pv 2) q2z)) (q14z (v := .int 24) rfl h3 ⟨_, rfl⟩) (nomark _)) (q4z (q8z (q13z (q0z (q14z (v := .int (-28)) rfl h2 ⟨_, rfl⟩) q2z)))) pss_nil)
    (q3z (ps_if (pt_cmpR (op_eqT hr.units) (pv 2) (q11z (q11z (pv 0) rfl) rfl) (nomark _)) (q4z (q8z (q13z (q0z (q14z (v := .int (-17)) rfl h4 ⟨_, rfl⟩) q2z)))) pss_nil)
    (q4z (q8z (q13z (q0z (q6z DC hr rfl (q0z (pv 0) (q0z (pv 2) q2z))) q2z))))))), ?_⟩
   rw [act_take] at q
   refine ⟨_, rfl, p, dx, _, rfl, ep, fsS_no (by decide +kernel) (by decide +kernel) (by decide +kernel), _, rfl, g, _, _, _, rfl, rfl, hg, atI_nat (j := 0) (xs := vis [x]) (v := vi x) rfl, p, h, d.now.long, x, rfl, sv, _, rfl, ?_⟩
   show if (!decide (x ≤ d.now.long)) = true then _ else _
   refine ite2 (fun hc => ?_) (fun hc => ?_)
   . have hc' : ¬ x ≤ d.now.long := by simpa using hc
     rw [if_neg hc'] at q
     refine ⟨sz1, fun r hr0 => ?_⟩
     exact q _ Fp r (se.keep (sU (Same.refl H) hr0)) (After.same (sU (Same.refl H) hr0)) hr0 q1z
   . have hc' : x ≤ d.now.long := by simpa using hc
     rw [if_pos hc'] at q
     refine ⟨_, rfl, p, dx, _, rfl, ep, fsS_no (by decide +kernel) (by decide +kernel) (by decide +kernel), _, rfl, g, _, _, _, rfl, rfl, hg, atI_nat (j := 0) (xs := vis [x]) (v := vi x) rfl, p, h, d.now.long, x, rfl, sv, by omega, fun H1 t s1 ft et => ?_⟩
     refine ⟨_, rfl, t, _, rfl, .inr (SqT.of et), _, _, rfl, rfl, _, rfl, ?_⟩
     rw [q9z]
     refine ite2 (fun hm => ?_) (fun hm => ?_)
     . have hm' : 24 < (Km469.cls d.now.long x).length := by have := of_decide_eq_true hm; omega
       rw [if_pos hm'] at q
       refine ⟨sz1, fun r hr0 => ?_⟩
       have s2 := sU (o := .lst [V.int (-28)]) s1 hr0
       exact q _ Fp r (se.keep s2) (After.same s2) (s1.free hr0) q1z
     . have hm' : ¬ 24 < (Km469.cls d.now.long x).length := fun z => hm (decide_eq_true (by omega))
       rw [if_neg hm'] at q
       refine ⟨_, rfl, _, rfl, p, CS, dx, _, _, rfl, s1 _ _ ep, T.cl, T.nH, fsS_gh, h, CH, dh, _, _, rfl, s1 _ _ hi.obj, TH.cl, TH.nC, fsH_gcode, t, tc, _, _, rfl, rfl, SqT.of et, SqT.of (s1 _ _ hi.code), _, rfl, ?_⟩
       refine ite2 (fun he => ?_) (fun he => ?_)
       . rw [if_pos (of_decide_eq_true he)] at q
         refine ⟨sz1, fun r hr0 => ?_⟩
         have s2 := sU (o := .lst [V.int (-17)]) s1 hr0
         exact q _ Fp r (se.keep s2) (After.same s2) (s1.free hr0) q1z
       . rw [if_neg (fun z => he (decide_eq_true z))] at q
         refine ⟨_, rfl, _, rfl, p, t, Fp, d, _, rfl, se.keep s1, et, good_cls (by omega), fun H3 F3 se3 af3 => ?_⟩
         refine ⟨sz1, fun r hr0 => ?_⟩
         have s4 := sU (o := .lst [vi (Km469.cls d.now.long x).length]) (Same.refl H3) hr0
         refine q _ F3 r (se3.keep s4) ((After.pre s1 af3).post s4) ((After.pre s1 af3).free hr0) ?_
         rw [q1z]
         rfl
def rts (n : Nat) (c : List Nat) : Int := if 5 < n then -75 else if safe n c = true then 0 else -33
def sp_rts (K : W.Frag) : Sp := fun vs H Q _ => ∃ (a : Addr) (c : List Nat) (n : Nat), vs = [.ref a, vi n] /\ SqT K H a (vis c) /\ c.length ≤ 100 /\ (∀ x ∈ c, x < 2 ^ n) /\ 1 ≤ n /\ n ≤ 12 /\ ∀ H', Same H H' -> Q (.int (rts n c)) H'
theorem sc_rts : FnScope ["code", "n"] ["code", "n"] (defScope s_refusal_to_search) := sc_by rfl (by decide +kernel)
theorem ok_rts {f : Addr} {fd : FuncData} (F : Fun K "refusal_to_search" "refusal_to_search" s_refusal_to_search f fd) (TC : TxtC mg) (DS : Def P w K mg base "is_safe" 4 ["code", "n"] (sp_is_safe K)) : FnOk P w K mg base CX0 5 f fd ["code", "n"] (sp_rts K) := by
 refine F.ok sc_rts (fun _ _ _ _ h => ?_) (fun _ _ _ _ H vs Q E hr h => ?_)
 . obtain ⟨a, c, n, rfl, _⟩ := h
   rfl
 . obtain ⟨a, c, n, rfl, hs, hc, hx, n1, n12, q⟩ := h
   obtain ⟨t1, h1⟩ := TC.long
   obtain ⟨t2, h2⟩ := TC.alike
   obtain ⟨t3, h3⟩ := TC.mls
   refine ⟨_, q3z (ps_if (pt_cmpR op_gt (pv 1) (q14z (v := .int 5) rfl h3 ⟨_, rfl⟩) (nomark _)) (q4z (q8z (q14z (v := .int (-75)) rfl h1 ⟨_, rfl⟩))) pss_nil)
    (q3z (ps_if (pt_not (pt_val (q6z DS hr rfl (q0z (pv 0) (q0z (pv 1) q2z))))) (q4z (q8z (q14z (v := .int (-33)) rfl h2 ⟨_, rfl⟩))) pss_nil)
    (q4z (q8z q10z))), ?_⟩
   unfold rts at q
   refine ⟨_, rfl, _, _, rfl, rfl, _, rfl, ?_⟩
   refine ite2 (fun hg => ?_) (fun hg => ?_)
   . have hg' : 5 < n := by have := of_decide_eq_true hg; omega
     rw [if_pos hg'] at q
     exact q H (Same.refl H)
   . have hg' : ¬ 5 < n := fun z => hg (decide_eq_true (by omega))
     rw [if_neg hg'] at q
     refine ⟨_, rfl, _, rfl, a, c, n, rfl, hs, hc, hx, n1, n12, fun H1 s1 => ?_⟩
     refine ⟨_, rfl, ?_⟩
     show if (!safe n c) = true then _ else _
     refine ite2 (fun hs => ?_) (fun hs => ?_)
     . have hs' : ¬ safe n c = true := by simpa using hs
       rw [if_neg hs'] at q
       exact q H1 s1
     . have hs' : safe n c = true := by simpa using hs
       rw [if_pos hs'] at q
       exact q H1 s1
theorem rts_no {n : Nat} {c : List Nat} (h : ¬ rts n c < 0) : n ≤ 5 /\ safe n c = true := by
 unfold rts at h
 by_cases h1 : 5 < n
 . rw [if_pos h1] at h; exact absurd (by decide) h
 . rw [if_neg h1] at h
   by_cases h2 : safe n c = true
   . exact ⟨by omega, h2⟩
   . rw [if_neg h2] at h; exact absurd (by decide) h
theorem act_rts {d : Desk} (h : rts d.now.long d.now.code < 0) : act d .grow = (d, Km469.only (rts d.now.long d.now.code)) /\ act d .most = (d, Km469.only (rts d.now.long d.now.code)) := by
 unfold rts at h ⊢
 by_cases h1 : 5 < d.now.long
 . have h1' : Km469.SMALL < d.now.long := h1
   rw [if_pos h1]
   constructor
   . simp only [act, h1', if_true]
   . simp only [act, h1', if_true]
 . have h1' : ¬ Km469.SMALL < d.now.long := h1
   rw [if_neg h1] at h ⊢
   by_cases h2 : safe d.now.long d.now.code = true
   . rw [if_pos h2] at h; exact absurd h (by decide)
   . have h2' : safe d.now.long d.now.code = false := by simpa using h2
     rw [if_neg h2]
     constructor
     . simp only [act, h1', h2', if_false, if_true]
     . simp only [act, h1', h2', if_false, if_true]
theorem sc_grow : FnScope ["session", "given", "code", "refusal", "most"] ["session", "given"] (defScope s_grow) := sc_by rfl (by decide +kernel)
theorem ok_grow {CH CS f : Addr} {fd : FuncData} (F : Fun K "grow" "grow" s_grow f fd) (TH : TxtH K mg CH) (T : TxtS K mg CS) (TC : TxtC mg) (DR : Def P w K mg base "refusal_to_search" 5 ["code", "n"] (sp_rts K)) (DM : Def P w K mg base "safe_with_most" 35 ["code", "n"] (sp_swm K))
 (DC : Def P w K mg base "changed_to" 2 ["session", "code"] (sp_changed CH CS)) : FnOk P w K mg base CX0 36 f fd ["session", "given"] (sp0 CH CS K .grow) := by
 refine F.ok sc_grow (fun _ _ _ _ h => ?_) (fun _ _ _ _ H vs Q E hr h => ?_)
 . obtain ⟨p, gv, Fp, d, rfl, _⟩ := h
   rfl
 . obtain ⟨p, gv, Fp, d, rfl, se, q⟩ := h
   obtain ⟨dx, wa, h, dh, tc, le, ll, eF, ep, ew, hi⟩ := se.ex
   obtain ⟨t4, h4⟩ := TC.so
   have n2 := se.ok.n2
   have n10 := se.ok.n10
   have hr5 : Room 5 _ := hr.mono (by decide)
   have hr2 : Room 2 _ := hr.mono (by decide)
   refine ⟨_, q3z (q12z (i := 2) sc_grow.nd rfl (Or.inl rfl) (q11z (q11z (pv 0) rfl) rfl))
    (q3z (q12z (i := 3) sc_grow.nd rfl (Or.inl rfl) (q6z DR hr5 rfl (q0z (pv 2) (q0z (q11z (pv 0) rfl) q2z))))
    (q3z (ps_if (pt_cmpR op_lt (pv 3) q10z (nomark _)) (q4z (q8z (q13z (q0z (pv 3) q2z)))) pss_nil)
    (q3z (q12z (i := 4) sc_grow.nd rfl (Or.inl rfl) (q6z DM hr rfl (q0z (pv 2) (q0z (q11z (pv 0) rfl) q2z))))
    (q3z (ps_if (pt_cmpR (op_eqT hr.units) (pv 4) (pv 2) (nomark _)) (q4z (q8z (q13z (q0z (q14z (v := .int (-17)) rfl h4 ⟨_, rfl⟩) q2z)))) pss_nil)
    (q4z (q8z (q13z (q0z (q6z DC hr2 rfl (q0z (pv 0) (q0z (pv 4) q2z))) q2z)))))))), ?_⟩
   refine ⟨_, rfl, p, CS, dx, _, _, rfl, ep, T.cl, T.nH, fsS_gh, h, CH, dh, _, _, rfl, hi.obj, TH.cl, TH.nC, fsH_gcode, ?_⟩
   refine ⟨_, rfl, _, rfl, p, CS, dx, _, _, rfl, ep, T.cl, T.nN, fsS_gn, tc, d.now.code, d.now.long, rfl, SqT.of hi.code, by have := se.ok.now.len; omega, se.ok.now.lt, by omega, by omega, fun H1 s1 => ?_⟩
   refine ⟨_, rfl, _, _, rfl, rfl, _, rfl, ?_⟩
   refine ite2 (fun hc => ?_) (fun hc => ?_)
   . have hc' : rts d.now.long d.now.code < 0 := of_decide_eq_true hc
     rw [(act_rts hc').1] at q
     refine ⟨_, rfl, sz1, fun r hr0 => ?_⟩
     have s2 := sU (o := .lst [V.int (rts d.now.long d.now.code)]) s1 hr0
     exact q _ Fp r (se.keep s2) (After.same s2) (s1.free hr0) q1z
   . have hc' : ¬ rts d.now.long d.now.code < 0 := fun z => hc (decide_eq_true z)
     obtain ⟨n5, hs'⟩ := rts_no hc'
     rw [act_grow n5, if_pos hs'] at q
     refine ⟨_, rfl, _, rfl, p, CS, dx, _, _, rfl, s1 _ _ ep, T.cl, T.nN, fsS_gn, tc, d.now.code, d.now.long, rfl, SqT.of (s1 _ _ hi.code), se.ok.now.up, se.ok.now.len, se.ok.now.lt, by omega, by omega, fun H2 t s2 ft et => ?_⟩
     have s3 := s1.trans s2
     refine ⟨_, rfl, _, rfl, t, tc, _, _, rfl, rfl, SqT.of et, SqT.of (s3 _ _ hi.code), _, rfl, ?_⟩
     refine ite2 (fun he => ?_) (fun he => ?_)
     . rw [if_pos (of_decide_eq_true he)] at q
       refine ⟨sz1, fun r hr0 => ?_⟩
       have s4 := sU (o := .lst [V.int (-17)]) s3 hr0
       exact q _ Fp r (se.keep s4) (After.same s4) (s3.free hr0) q1z
     . rw [if_neg (fun z => he (decide_eq_true z))] at q
       refine ⟨_, rfl, _, rfl, p, t, Fp, d, _, rfl, se.keep s3, et, good_most n2 (by omega) se.ok.now hs', fun H3 F3 se3 af3 => ?_⟩
       refine ⟨sz1, fun r hr0 => ?_⟩
       have s4 := sU (o := .lst [vi (rising (Km469.most d.now.long d.now.code)).length]) (Same.refl H3) hr0
       refine q _ F3 r (se3.keep s4) ((After.pre s3 af3).post s4) ((After.pre s3 af3).free hr0) ?_
       rw [q1z]
       rfl
structure TxtL (mg : Str -> Option Value) : Prop where
 lt : ∃ t, mg "LOST_TOLD" = some (.int 10 t)
 gt : ∃ t, mg "GAINED_TOLD" = some (.int 12 t)
def sp2 (CH CS : Addr) (K : W.Frag) (c : Nat -> Nat -> Km469.Call) (pre : Nat -> Nat -> Nat -> Prop) : Sp := fun vs H Q _ => ∃ (p g : Addr) (F : List Addr) (d : Desk) (x y : Nat), vs = [.ref p, .ref g] /\ Sess CH CS F H p d /\ SqL K H g (vis [x, y]) /\ pre d.now.long x y /\
 ∀ H' F' r, Sess CH CS F' H' p (act d (c x y)).1 → After F F' H H' → H r = none → H' r = some (.lst (ansV (act d (c x y)).2)) → Q (.ref r) H'
def sp3 (CH CS : Addr) (K : W.Frag) (c : Nat -> Nat -> Nat -> Km469.Call) (pre : Nat -> Nat -> Nat -> Nat -> Prop) : Sp := fun vs H Q _ => ∃ (p g : Addr) (F : List Addr) (d : Desk) (x y z : Nat), vs = [.ref p, .ref g] /\ Sess CH CS F H p d /\ SqL K H g (vis [x, y, z]) /\ pre d.now.long x y z /\
 ∀ H' F' r, Sess CH CS F' H' p (act d (c x y z)).1 → After F F' H H' → H r = none → H' r = some (.lst (ansV (act d (c x y z)).2)) → Q (.ref r) H'
theorem ans_cons (v : Int) (l : List Nat) : ansV ⟨v, l⟩ = V.int v :: vis l := by
 show V.int v :: List.map V.int (List.map _ l) = _
 rw [List.map_map]
 rfl
theorem fill_eq {m : Nat} {l : List Nat} (h : l.length ≤ m) : Km469.fill m (l.map fun x => x + 1) = l.map (fun x => x + 1) ++ List.replicate (m - l.length) 0 := by
 unfold Km469.fill
 rw [List.take_of_length_le (by rw [List.length_map]; exact h), List.length_map]
theorem sq_keep {K : W.Frag} {H H' : Hp} {p : Addr} {xs : List V} (h : SqL K H p xs) (s : Same H H') : SqL K H' p xs := by
 rcases h with (h | ⟨y, h⟩) | h
 . exact .inl (.inl (s _ _ h))
 . exact .inl (.inr ⟨y, s _ _ h⟩)
 . exact .inr h
variable {P : Program} {w : World} {K : W.Frag} {mg : Str → Option Value} {base : Heap}
theorem sc_tlost : FnScope ["session", "given", "shorter"] ["session", "given"] (defScope s_tell_lost) := sc_by rfl (by decide +kernel)
theorem ok_tlost {CH CS f : Addr} {fd : FuncData} (F : Fun K "tell_lost" "tell_lost" s_tell_lost f fd) (O : Own mg) (T : TxtS K mg CS) (TL : TxtL mg) (DL : Def P w K mg base "lost" 3 ["word", "n"] sp_lost) (DT : Def P w K mg base "told" 1 ["words", "many"] (sp_told K)) :
 FnOk P w K mg base CX0 4 f fd ["session", "given"] (sp1 CH CS K .lost isWord) := by
 refine F.ok sc_tlost (fun _ _ _ _ h => ?_) (fun _ _ _ _ H vs Q E hr h => ?_)
 . obtain ⟨p, g, Fp, d, x, rfl, _⟩ := h
   rfl
 . obtain ⟨p, g, Fp, d, x, rfl, se, hg, hx, q⟩ := h
   obtain ⟨dx, wa, h, dh, tc, le, ll, eF, ep, ew, hi⟩ := se.ex
   obtain ⟨t1, h1⟩ := TL.lt
   have n2 := se.ok.n2
   have n10 := se.ok.n10
   have hr1 : Room 1 _ := hr.mono (by decide)
   have ln : (rising (lost d.now.long x)).length ≤ 10 := Nat.le_trans (LL.rising_lost_len _ _) n10
   refine ⟨_, q3z (q12z (i := 2) sc_tlost.nd rfl (Or.inl rfl) (q6z DL hr rfl (q0z (pe_ix ix_list (pv 1) q10z (fun _ _ => rfl)) (q0z (q11z (pv 0) rfl) q2z))))
    (q4z (q8z (pe_op op_cat (q13z (q0z (q16z q15z (by rfl) O.len boot_len (q0z (pv 2) q2z)) q2z)) (q6z DT hr1 rfl (q0z (pv 2) (q0z (q14z (v := .int 10) rfl h1 ⟨_, rfl⟩) q2z)))))), ?_⟩
   refine ⟨_, rfl, g, _, _, _, rfl, rfl, hg, atI_nat (j := 0) (xs := vis [x]) (v := vi x) rfl, _, rfl, p, CS, dx, _, _, rfl, ep, T.cl, T.nN, fsS_gn, x, d.now.long, rfl, by omega, by omega, hx, fun H1 t s1 ft et => ?_⟩
   refine ⟨_, rfl, t, _, rfl, .inl (SqL.of et), sz1, fun l hl => ?_⟩
   have s2 := sU (o := .lst [V.int ((vis (rising (lost d.now.long x))).length : Int)]) (Same.refl H1) hl
   refine ⟨_, rfl, t, _, 10, rfl, .inl (SqL.of (s2 _ _ et)), by omega, LL.up_rising _, ln, by decide, fun H3 u s3 fu eu => ?_⟩
   refine ⟨l, u, _, _, rfl, rfl, s3 _ _ q1z, eu, ?_, fun r hr0 => ?_⟩
   . rw [q9z]
     exact Nat.le_of_lt (small1000 (by simp; omega))
   have s4 := sU (o := .lst ([V.int ((vis (rising (lost d.now.long x))).length : Int)] ++ vis (List.map (fun x => x + 1) (rising (lost d.now.long x)) ++ List.replicate (10 - (rising (lost d.now.long x)).length) 0))) (s1.trans (s2.trans s3)) hr0
   refine q _ Fp r (se.keep s4) (After.same s4) ((s1.trans (s2.trans s3)).free hr0) ?_
   rw [q1z, q9z, ← fill_eq ln]
   have ea : (act d (.lost x)).2 = ⟨((rising (lost d.now.long x)).length : Int), Km469.fill 10 ((rising (lost d.now.long x)).map fun x => x + 1)⟩ := by
    simp only [act, bad_no hx, Bool.false_eq_true, if_false]
    rfl
   rw [ea, ans_cons]
   rfl
theorem sc_tgained : FnScope ["session", "given", "longer"] ["session", "given"] (defScope s_tell_gained) := sc_by rfl (by decide +kernel)
theorem ok_tgained {CH CS f : Addr} {fd : FuncData} (F : Fun K "tell_gained" "tell_gained" s_tell_gained f fd) (O : Own mg) (T : TxtS K mg CS) (TL : TxtL mg) (DL : Def P w K mg base "gained" 3 ["word", "n"] sp_gained) (DT : Def P w K mg base "told" 1 ["words", "many"] (sp_told K)) :
 FnOk P w K mg base CX0 4 f fd ["session", "given"] (sp1 CH CS K .gained isWord) := by
 refine F.ok sc_tgained (fun _ _ _ _ h => ?_) (fun _ _ _ _ H vs Q E hr h => ?_)
 . obtain ⟨p, g, Fp, d, x, rfl, _⟩ := h
   rfl
 . obtain ⟨p, g, Fp, d, x, rfl, se, hg, hx, q⟩ := h
   obtain ⟨dx, wa, h, dh, tc, le, ll, eF, ep, ew, hi⟩ := se.ex
   obtain ⟨t1, h1⟩ := TL.gt
   have n2 := se.ok.n2
   have n10 := se.ok.n10
   have hr1 : Room 1 _ := hr.mono (by decide)
   have ln : (rising (gained d.now.long x)).length ≤ 12 := Nat.le_trans (LL.rising_gained_len hx) (by omega)
   refine ⟨_, q3z (q12z (i := 2) sc_tgained.nd rfl (Or.inl rfl) (q6z DL hr rfl (q0z (pe_ix ix_list (pv 1) q10z (fun _ _ => rfl)) (q0z (q11z (pv 0) rfl) q2z))))
    (q4z (q8z (pe_op op_cat (q13z (q0z (q16z q15z (by rfl) O.len boot_len (q0z (pv 2) q2z)) q2z)) (q6z DT hr1 rfl (q0z (pv 2) (q0z (q14z (v := .int 12) rfl h1 ⟨_, rfl⟩) q2z)))))), ?_⟩
   refine ⟨_, rfl, g, _, _, _, rfl, rfl, hg, atI_nat (j := 0) (xs := vis [x]) (v := vi x) rfl, _, rfl, p, CS, dx, _, _, rfl, ep, T.cl, T.nN, fsS_gn, x, d.now.long, rfl, by omega, hx, fun H1 t s1 ft et => ?_⟩
   refine ⟨_, rfl, t, _, rfl, .inl (SqL.of et), sz1, fun l hl => ?_⟩
   have s2 := sU (o := .lst [V.int ((vis (rising (gained d.now.long x))).length : Int)]) (Same.refl H1) hl
   refine ⟨_, rfl, t, _, 12, rfl, .inl (SqL.of (s2 _ _ et)), by omega, LL.up_rising _, ln, by decide, fun H3 u s3 fu eu => ?_⟩
   refine ⟨l, u, _, _, rfl, rfl, s3 _ _ q1z, eu, ?_, fun r hr0 => ?_⟩
   . rw [q9z]
     exact Nat.le_of_lt (small1000 (by simp; omega))
   have s4 := sU (o := .lst ([V.int ((vis (rising (gained d.now.long x))).length : Int)] ++ vis (List.map (fun x => x + 1) (rising (gained d.now.long x)) ++ List.replicate (12 - (rising (gained d.now.long x)).length) 0))) (s1.trans (s2.trans s3)) hr0
   refine q _ Fp r (se.keep s4) (After.same s4) ((s1.trans (s2.trans s3)).free hr0) ?_
   rw [q1z, q9z, ← fill_eq ln]
   have ea : (act d (.gained x)).2 = ⟨((rising (gained d.now.long x)).length : Int), Km469.fill 12 ((rising (gained d.now.long x)).map fun x => x + 1)⟩ := by
    simp only [act, bad_no hx, Bool.false_eq_true, if_false]
   rw [ea, ans_cons]
   rfl
theorem sc_tlosing : FnScope ["session", "given", "place"] ["session", "given"] (defScope s_tell_losing) := sc_by rfl (by decide +kernel)
theorem ok_tlosing {CH CS f : Addr} {fd : FuncData} (F : Fun K "tell_losing" "tell_losing" s_tell_losing f fd) (T : TxtS K mg CS) (TC : TxtC mg) (DL : Def P w K mg base "losing" 2 ["word", "n", "place"] sp_losing) :
 FnOk P w K mg base CX0 3 f fd ["session", "given"] (sp2 CH CS K .losing fun n x _ => x < 2 ^ n) := by
 refine F.ok sc_tlosing (fun _ _ _ _ h => ?_) (fun _ _ _ _ H vs Q E hr h => ?_)
 . obtain ⟨p, g, Fp, d, x, y, rfl, _⟩ := h
   rfl
 . obtain ⟨p, g, Fp, d, x, y, rfl, se, hg, hx, q⟩ := h
   obtain ⟨dx, wa, h, dh, tc, le, ll, eF, ep, ew, hi⟩ := se.ex
   obtain ⟨t1, h1⟩ := TC.oor
   have n2 := se.ok.n2
   have n10 := se.ok.n10
   have x60 : x < 2 ^ 60 := Nat.lt_of_lt_of_le hx (Nat.pow_le_pow_right (by decide) (by omega))
   refine ⟨_, q3z (q12z (i := 2) sc_tlosing.nd rfl (Or.inl rfl) (pe_ix ix_list (pv 1) q10z (fun _ _ => rfl)))
    (q3z (ps_if (pt_cmpR op_ge (pv 2) (q11z (pv 0) rfl) (nomark _)) (q4z (q8z (q13z (q0z (q14z (v := .int (-22)) rfl h1 ⟨_, rfl⟩) q2z)))) pss_nil)
    (q4z (q8z (q13z (q0z (q6z DL hr rfl (q0z (pe_ix ix_list (pv 1) q10z (fun _ _ => rfl)) (q0z (q11z (pv 0) rfl) (q0z (pv 2) q2z)))) q2z))))), ?_⟩
   refine ⟨_, rfl, g, _, _, _, rfl, rfl, hg, atI_nat (j := 1) (xs := vis [x, y]) (v := vi y) rfl, ?_⟩
   refine ⟨_, rfl, _, rfl, p, CS, dx, _, _, rfl, ep, T.cl, T.nN, fsS_gn, _, _, rfl, rfl, _, rfl, ?_⟩
   refine ite2 (fun hc => ?_) (fun hc => ?_)
   . have hc' : d.now.long ≤ y := by have := of_decide_eq_true hc; omega
     have ea : act d (.losing x y) = (d, Km469.only (-22)) := by simp only [act, bad_no hx, hc', Bool.false_eq_true, if_false, if_true]
     rw [ea] at q
     refine ⟨sz1, fun r hr0 => ?_⟩
     exact q _ Fp r (se.keep (sU (Same.refl H) hr0)) (After.same (sU (Same.refl H) hr0)) hr0 q1z
   . have hc' : ¬ d.now.long ≤ y := fun z => hc (decide_eq_true (by omega))
     have ea : act d (.losing x y) = (d, Km469.only (LL.losN d.now.long x y : Int)) := by
      simp only [act, bad_no hx, hc', Bool.false_eq_true, if_false]
      rw [LL.without_eq hx (by omega)]
     rw [ea] at q
     refine ⟨_, rfl, g, _, _, _, rfl, rfl, hg, atI_nat (j := 0) (xs := vis [x, y]) (v := vi x) rfl, _, rfl, p, CS, dx, _, _, rfl, ep, T.cl, T.nN, fsS_gn, _, rfl, x, d.now.long, y, rfl, by omega, by omega, x60, ?_⟩
     refine ⟨sz1, fun r hr0 => ?_⟩
     exact q _ Fp r (se.keep (sU (Same.refl H) hr0)) (After.same (sU (Same.refl H) hr0)) hr0 q1z
theorem sc_tgaining : FnScope ["session", "given", "place", "letter"] ["session", "given"] (defScope s_tell_gaining) := sc_by rfl (by decide +kernel)
theorem ok_tgaining {CH CS f : Addr} {fd : FuncData} (F : Fun K "tell_gaining" "tell_gaining" s_tell_gaining f fd) (T : TxtS K mg CS) (TC : TxtC mg) (DL : Def P w K mg base "gaining" 2 ["word", "n", "place", "letter"] sp_gaining) :
 FnOk P w K mg base CX0 3 f fd ["session", "given"] (sp3 CH CS K .gaining fun n x _ _ => x < 2 ^ n) := by
 refine F.ok sc_tgaining (fun _ _ _ _ h => ?_) (fun _ _ _ _ H vs Q E hr h => ?_)
 . obtain ⟨p, g, Fp, d, x, y, z, rfl, _⟩ := h
   rfl
 . obtain ⟨p, g, Fp, d, x, y, z, rfl, se, hg, hx, q⟩ := h
   obtain ⟨dx, wa, h, dh, tc, le, ll, eF, ep, ew, hi⟩ := se.ex
   obtain ⟨t1, h1⟩ := TC.oor
   have n2 := se.ok.n2
   have n10 := se.ok.n10
   have x60 : x < 2 ^ 60 := Nat.lt_of_lt_of_le hx (Nat.pow_le_pow_right (by decide) (by omega))
   refine ⟨_, q3z (q12z (i := 2) sc_tgaining.nd rfl (Or.inl rfl) (pe_ix ix_list (pv 1) q10z (fun _ _ => rfl)))
    (q3z (q12z (i := 3) sc_tgaining.nd rfl (Or.inl rfl) (pe_ix ix_list (pv 1) q10z (fun _ _ => rfl)))
    (q3z (ps_if (PW.pt (pw_or (pt_cmpR op_gt (pv 2) (q11z (pv 0) rfl) (nomark _)) (pw_or1 (pt_cmpR op_gt (pv 3) q10z (nomark _))))) (q4z (q8z (q13z (q0z (q14z (v := .int (-22)) rfl h1 ⟨_, rfl⟩) q2z)))) pss_nil)
    (q4z (q8z (q13z (q0z (q6z DL hr rfl (q0z (pe_ix ix_list (pv 1) q10z (fun _ _ => rfl)) (q0z (q11z (pv 0) rfl) (q0z (pv 2) (q0z (pv 3) q2z))))) q2z)))))), ?_⟩
   refine ⟨_, rfl, g, _, _, _, rfl, rfl, hg, atI_nat (j := 1) (xs := vis [x, y, z]) (v := vi y) rfl, ?_⟩
   refine ⟨_, rfl, g, _, _, _, rfl, rfl, hg, atI_nat (j := 2) (xs := vis [x, y, z]) (v := vi z) rfl, ?_⟩
   refine ⟨_, rfl, _, rfl, p, CS, dx, _, _, rfl, ep, T.cl, T.nN, fsS_gn, _, _, rfl, rfl, _, rfl, ?_⟩
   refine ite2 (fun hc => ?_) (fun hc => ?_)
   . have hc' : d.now.long < y ∨ 1 < z := by have := of_decide_eq_true hc; omega
     have ea : act d (.gaining x y z) = (d, Km469.only (-22)) := by simp only [act, bad_no hx, hc', Bool.false_eq_true, if_false, if_true]
     rw [ea] at q
     refine ⟨sz1, fun r hr0 => ?_⟩
     exact q _ Fp r (se.keep (sU (Same.refl H) hr0)) (After.same (sU (Same.refl H) hr0)) hr0 q1z
   . have hc1 : ¬ d.now.long < y := fun z => hc (decide_eq_true (by omega))
     refine ⟨_, rfl, _, _, rfl, rfl, _, rfl, ?_⟩
     refine ite2 (fun hd => ?_) (fun hd => ?_)
     . have hc' : d.now.long < y ∨ 1 < z := by have := of_decide_eq_true hd; omega
       have ea : act d (.gaining x y z) = (d, Km469.only (-22)) := by simp only [act, bad_no hx, hc', Bool.false_eq_true, if_false, if_true]
       rw [ea] at q
       refine ⟨sz1, fun r hr0 => ?_⟩
       exact q _ Fp r (se.keep (sU (Same.refl H) hr0)) (After.same (sU (Same.refl H) hr0)) hr0 q1z
     . have hc2 : ¬ 1 < z := fun z => hd (decide_eq_true (by omega))
       have hc' : ¬ (d.now.long < y ∨ 1 < z) := by omega
       have ea : act d (.gaining x y z) = (d, Km469.only (LL.gaiN d.now.long x y z : Int)) := by
        simp only [act, bad_no hx, hc', Bool.false_eq_true, if_false]
        rw [LL.with_eq hx (by omega)]
        have ez : (if (z == 1) = true then 1 else 0) = z := by
         by_cases e : z = 1
         . subst e; rfl
         . have : z = 0 := by omega
           subst this; rfl
        rw [ez]
       rw [ea] at q
       refine ⟨_, rfl, g, _, _, _, rfl, rfl, hg, atI_nat (j := 0) (xs := vis [x, y, z]) (v := vi x) rfl, _, rfl, p, CS, dx, _, _, rfl, ep, T.cl, T.nN, fsS_gn, _, rfl, _, rfl, x, d.now.long, y, z, rfl, by omega, by omega, x60, by omega, ?_⟩
       refine ⟨sz1, fun r hr0 => ?_⟩
       exact q _ Fp r (se.keep (sU (Same.refl H) hr0)) (After.same (sU (Same.refl H) hr0)) hr0 q1z
theorem sc_truns : FnScope ["session", "given"] ["session", "given"] (defScope s_tell_runs) := sc_by rfl (by decide +kernel)
theorem ok_truns {CH CS f : Addr} {fd : FuncData} (F : Fun K "tell_runs" "tell_runs" s_tell_runs f fd) (T : TxtS K mg CS) (DR : Def P w K mg base "runs" 2 ["word", "n"] sp_runs) :
 FnOk P w K mg base CX0 3 f fd ["session", "given"] (sp1 CH CS K .runs isWord) := by
 refine F.ok sc_truns (fun _ _ _ _ h => ?_) (fun _ _ _ _ H vs Q E hr h => ?_)
 . obtain ⟨p, g, Fp, d, x, rfl, _⟩ := h
   rfl
 . obtain ⟨p, g, Fp, d, x, rfl, se, hg, hx, q⟩ := h
   obtain ⟨dx, wa, h, dh, tc, le, ll, eF, ep, ew, hi⟩ := se.ex
   have n2 := se.ok.n2
   have n10 := se.ok.n10
   have ea : act d (.runs x) = (d, Km469.only (Km469.runs (Km469.text d.now.long x) : Int)) := by simp only [act, bad_no hx, Bool.false_eq_true, if_false]
   rw [ea] at q
   refine ⟨_, q4z (q8z (q13z (q0z (q6z DR hr rfl (q0z (pe_ix ix_list (pv 1) q10z (fun _ _ => rfl)) (q0z (q11z (pv 0) rfl) q2z))) q2z))), ?_⟩
   refine ⟨_, rfl, g, _, _, _, rfl, rfl, hg, atI_nat (j := 0) (xs := vis [x]) (v := vi x) rfl, _, rfl, p, CS, dx, _, _, rfl, ep, T.cl, T.nN, fsS_gn, x, d.now.long, rfl, by omega, by omega, fun H1 s1 => ?_⟩
   refine ⟨sz1, fun r hr0 => ?_⟩
   have s2 := sU (o := .lst [vi (Km469.runs (Km469.text d.now.long x))]) s1 hr0
   exact q _ Fp r (se.keep s2) (After.same s2) (s1.free hr0) q1z
theorem sc_tweight : FnScope ["session", "given"] ["session", "given"] (defScope s_tell_weight) := sc_by rfl (by decide +kernel)
theorem ok_tweight {CH CS f : Addr} {fd : FuncData} (F : Fun K "tell_weight" "tell_weight" s_tell_weight f fd) (T : TxtS K mg CS) (DC : MDef P w K mg base CS "class_of" 1 ["self", "word"] (sp_class_of CS)) :
 FnOk P w K mg base CX0 2 f fd ["session", "given"] (sp1 CH CS K .weight isWord) := by
 refine F.ok sc_tweight (fun _ _ _ _ h => ?_) (fun _ _ _ _ H vs Q E hr h => ?_)
 . obtain ⟨p, g, Fp, d, x, rfl, _⟩ := h
   rfl
 . obtain ⟨p, g, Fp, d, x, rfl, se, hg, hx, q⟩ := h
   obtain ⟨dx, wa, h, dh, tc, le, ll, eF, ep, ew, hi⟩ := se.ex
   have ea : act d (.weight x) = (d, ⟨(weight d.now.long x : Int), [weight d.now.long x % (d.now.long + 1)]⟩) := by simp only [act, bad_no hx, Bool.false_eq_true, if_false]
   rw [ea] at q
   refine ⟨_, q4z (q8z (q13z (q0z (pe_ix ix_list (q11z (pv 0) rfl) (pe_ix ix_list (pv 1) q10z (fun _ _ => rfl)) (fun _ _ => rfl)) (q0z (pe_methD (pv 0) T.cl DC hr (q0z (pe_ix ix_list (pv 1) q10z (fun _ _ => rfl)) q2z)) q2z)))), ?_⟩
   refine ⟨_, rfl, p, CS, dx, _, _, rfl, ep, T.cl, T.nW, fsS_gw, _, rfl, g, _, _, _, rfl, rfl, hg, atI_nat (j := 0) (xs := vis [x]) (v := vi x) rfl, wa, _, _, _, rfl, rfl, SqL.of ew, atI_nat (wl_at hx), ?_⟩
   refine ⟨_, rfl, p, dx, _, rfl, ep, fsS_no (by decide +kernel) (by decide +kernel) (by decide +kernel), _, rfl, g, _, _, _, rfl, rfl, hg, atI_nat (j := 0) (xs := vis [x]) (v := vi x) rfl, p, h, d.now.long, x, rfl, ⟨dx, wa, ep, ew⟩, hx, ?_⟩
   refine ⟨(by show 2 ≤ sizeLine; decide), fun r hr0 => ?_⟩
   exact q _ Fp r (se.keep (sU (Same.refl H) hr0)) (After.same (sU (Same.refl H) hr0)) hr0 q1z
theorem cls_word : ∀ n < 11, 2 ≤ n -> ∀ a < n + 1, (if a = 0 then 0 else 2 ^ (n - a)) < 2 ^ n /\ (weight n (if a = 0 then 0 else 2 ^ (n - a)) % (n + 1) == a) = true := by decide +kernel
theorem cls_ne {n a : Nat} (n2 : 2 ≤ n) (n10 : n ≤ 10) (h : a ≤ n) : Km469.cls n a ≠ [] := by
 obtain ⟨h1, h2⟩ := cls_word n (by omega) n2 a (by omega)
 intro e
 have : (if a = 0 then 0 else 2 ^ (n - a)) ∈ Km469.cls n a := List.mem_filter.mpr ⟨List.mem_range.mpr h1, h2⟩
 rw [e] at this
 cases this
theorem ixN_nat {n j : Nat} (h : j < n) : ixN n (j : Int) = some j := by
 unfold ixN
 simp
 omega
def cntC (n i a : Nat) : Nat := ((List.range i).filter fun w => weight n w % (n + 1) == a).length
def sizesC (n i : Nat) : List Nat := (List.range (n + 1)).map (cntC n i)
theorem sizes_len (n i : Nat) : (sizesC n i).length = n + 1 := by unfold sizesC; rw [List.length_map, List.length_range]
theorem sizes_get {n i a : Nat} (h : a < n + 1) : (sizesC n i)[a]? = some (cntC n i a) := by
 unfold sizesC
 rw [List.getElem?_map, List.getElem?_range h]
 rfl
theorem cnt_step (n i a : Nat) : cntC n (i + 1) a = if a = weight n i % (n + 1) then cntC n i a + 1 else cntC n i a := by
 unfold cntC
 rw [range_filter_snoc, List.length_append]
 by_cases h : a = weight n i % (n + 1)
 . have h' : (weight n i % (n + 1) == a) = true := by simpa using h.symm
   rw [if_pos h, if_pos h']
   rfl
 . have h' : ¬ (weight n i % (n + 1) == a) = true := by
    intro e
    exact h (by simpa using e : _ = a).symm
   rw [if_neg h, if_neg h']
   rfl
theorem sizes_step (n i : Nat) : (vis (sizesC n i)).set (weight n i % (n + 1)) (vi (cntC n i (weight n i % (n + 1)) + 1)) = vis (sizesC n (i + 1)) := by
 have e : (sizesC n i).set (weight n i % (n + 1)) (cntC n i (weight n i % (n + 1)) + 1) = sizesC n (i + 1) := by
  apply List.ext_getElem?
  intro a
  rw [List.getElem?_set]
  by_cases h : a < n + 1
  . rw [sizes_get h, sizes_get h, cnt_step]
    by_cases q : weight n i % (n + 1) = a
    . rw [if_pos q, sizes_len, if_pos (by omega), if_pos q.symm, q]
    . rw [if_neg q, if_neg (fun z => q z.symm)]
  . have : a ≠ weight n i % (n + 1) := by
     have : weight n i % (n + 1) < n + 1 := Nat.mod_lt _ (Nat.succ_pos n)
     omega
    rw [if_neg (fun z => this z.symm), List.getElem?_eq_none (by rw [sizes_len]; omega), List.getElem?_eq_none (by rw [sizes_len]; omega)]
 rw [← e]
 unfold vis
 rw [List.map_set]
theorem cnt_cls (n a : Nat) : cntC n (2 ^ n) a = (Km469.cls n a).length := rfl
theorem sizes_zero (n : Nat) : sizesC n 0 = List.replicate (n + 1) 0 := by
 unfold sizesC
 apply List.ext_getElem?
 intro a
 by_cases h : a < n + 1
 . rw [List.getElem?_map, List.getElem?_range h, List.getElem?_replicate, if_pos h]
   rfl
 . rw [List.getElem?_eq_none (by simp; omega), List.getElem?_eq_none (by simp; omega)]
theorem fold_first (f : Nat -> Nat) : ∀ k, let r := (List.range (k + 1)).foldl (fun r x => if f r < f x then x else r) 0; r ≤ k /\ (∀ x ≤ k, f x ≤ f r) /\ ∀ x < r, f x < f r
 | 0 => by
   intro r
   have er : r = 0 := by
    show (if f 0 < f 0 then 0 else 0) = 0
    split <;> rfl
   rw [er]
   refine ⟨Nat.le_refl _, fun x hx => ?_, fun x hx => by omega⟩
   have : x = 0 := by omega
   subst this
   exact Nat.le_refl _
 | k + 1 => by
   obtain ⟨h1, h2, h3⟩ := fold_first f k
   intro r
   have er : r = if f ((List.range (k + 1)).foldl (fun r x => if f r < f x then x else r) 0) < f (k + 1) then k + 1 else (List.range (k + 1)).foldl (fun r x => if f r < f x then x else r) 0 := by
    show (List.range (k + 1 + 1)).foldl _ 0 = _
    rw [List.range_succ, List.foldl_append]
    rfl
   rw [er]
   split
   . rename_i hlt
     refine ⟨Nat.le_refl _, fun x hx => ?_, fun x hx => ?_⟩
     . by_cases e : x = k + 1
       . subst e; exact Nat.le_refl _
       . have := h2 x (by omega)
         omega
     . have := h2 x (by omega)
       omega
   . rename_i hlt
     refine ⟨by omega, fun x hx => ?_, h3⟩
     by_cases e : x = k + 1
     . subst e; omega
     . exact h2 x (by omega)
variable {P : Program} {w : World} {K : W.Frag} {mg : Str → Option Value} {base : Heap}
theorem sc_tclass : FnScope ["session", "given", "words"] ["session", "given"] (defScope s_tell_class) := sc_by rfl (by decide +kernel)
theorem ok_tclass {CH CS f : Addr} {fd : FuncData} (F : Fun K "tell_class" "tell_class" s_tell_class f fd) (O : Own mg) (T : TxtS K mg CS) (TC : TxtC mg) (DH : MDef P w K mg base CS "has_class" 1 ["self", "a"] (sp_has_class CS)) (DW : MDef P w K mg base CS "words_of_class" 2 ["self", "a"] (sp_words_of_class CS)) :
 FnOk P w K mg base CX0 3 f fd ["session", "given"] (sp1 CH CS K .cls fun _ _ => True) := by
 refine F.ok sc_tclass (fun _ _ _ _ h => ?_) (fun _ _ _ _ H vs Q E hr h => ?_)
 . obtain ⟨p, g, Fp, d, x, rfl, _⟩ := h
   rfl
 . obtain ⟨p, g, Fp, d, x, rfl, se, hg, _, q⟩ := h
   obtain ⟨dx, wa, h, dh, tc, le, ll, eF, ep, ew, hi⟩ := se.ex
   obtain ⟨t1, h1⟩ := TC.oor
   have n2 := se.ok.n2
   have n10 := se.ok.n10
   have hr1 : Room 1 _ := hr.mono (by decide)
   have sv : SV CS H p d.now.long h := ⟨dx, wa, ep, ew⟩
   refine ⟨_, q3z (ps_if (pt_not (pt_val (pe_methD (pv 0) T.cl DH hr1 (q0z (pe_ix ix_list (pv 1) q10z (fun _ _ => rfl)) q2z)))) (q4z (q8z (q13z (q0z (q14z (v := .int (-22)) rfl h1 ⟨_, rfl⟩) q2z)))) pss_nil)
    (q3z (q12z (i := 2) sc_tclass.nd rfl (Or.inl rfl) (pe_methD (pv 0) T.cl DW hr (q0z (pe_ix ix_list (pv 1) q10z (fun _ _ => rfl)) q2z)))
    (q4z (q8z (q13z (q0z (q16z q15z (by rfl) O.len boot_len (q0z (pv 2) q2z)) (q0z (pe_ix ix_tup (pv 2) q10z (fun _ _ => rfl)) (q0z (pe_ix ix_tup (pv 2) (pe_un un_neg q10z) (fun _ _ => rfl)) q2z))))))), ?_⟩
   refine ⟨_, rfl, p, dx, _, rfl, ep, fsS_no (by decide +kernel) (by decide +kernel) (by decide +kernel), _, rfl, g, _, _, _, rfl, rfl, hg, atI_nat (j := 0) (xs := vis [x]) (v := vi x) rfl, p, h, d.now.long, x, rfl, sv, _, rfl, ?_⟩
   show if (!decide (x ≤ d.now.long)) = true then _ else _
   refine ite2 (fun hc => ?_) (fun hc => ?_)
   . have hc' : ¬ x ≤ d.now.long := by simpa using hc
     have hl : d.now.long < x := by omega
     have ea : act d (.cls x) = (d, Km469.only (-22)) := by simp only [act, hl, if_true]
     rw [ea] at q
     refine ⟨sz1, fun r hr0 => ?_⟩
     exact q _ Fp r (se.keep (sU (Same.refl H) hr0)) (After.same (sU (Same.refl H) hr0)) hr0 q1z
   . have hc' : x ≤ d.now.long := by simpa using hc
     have hl : ¬ d.now.long < x := by omega
     have ne := cls_ne n2 n10 hc'
     have ea : act d (.cls x) = (d, ⟨((Km469.cls d.now.long x).length : Int), [(Km469.cls d.now.long x).headD 0, (Km469.cls d.now.long x).getLastD 0]⟩) := by simp only [act, hl, if_false]
     rw [ea] at q
     refine ⟨_, rfl, p, dx, _, rfl, ep, fsS_no (by decide +kernel) (by decide +kernel) (by decide +kernel), _, rfl, g, _, _, _, rfl, rfl, hg, atI_nat (j := 0) (xs := vis [x]) (v := vi x) rfl, p, h, d.now.long, x, rfl, sv, by omega, fun H1 t s1 ft et => ?_⟩
     have e0 : (vis (Km469.cls d.now.long x))[0]? = some (vi ((Km469.cls d.now.long x).headD 0)) := by
      cases e : Km469.cls d.now.long x with
      | nil => exact absurd e ne
      | cons y l => rfl
     have el : atI (vis (Km469.cls d.now.long x)) (-1) = some (vi ((Km469.cls d.now.long x).getLastD 0)) := by
      have e1 : Km469.cls d.now.long x = (Km469.cls d.now.long x).dropLast ++ [(Km469.cls d.now.long x).getLastD 0] := by
       rw [List.getLastD_eq_getLast?, List.getLast?_eq_some_getLast ne, Option.getD_some, List.dropLast_concat_getLast]
      have e2 : vis (Km469.cls d.now.long x) = vis (Km469.cls d.now.long x).dropLast ++ [vi ((Km469.cls d.now.long x).getLastD 0)] := by
       conv => lhs; rw [e1]
       rw [vis_append]
       rfl
      rw [e2]
      exact atI_last _ _
     refine ⟨_, rfl, t, _, rfl, .inr (SqT.of et), _, rfl, t, _, _, _, rfl, rfl, SqT.of et, atI_nat e0, _, rfl, _, rfl, t, _, _, _, rfl, rfl, SqT.of et, el, ?_⟩
     refine ⟨(by show 3 ≤ sizeLine; decide), fun r hr0 => ?_⟩
     have s2 := sU (o := .lst [V.int ((vis (Km469.cls d.now.long x)).length : Int), vi ((Km469.cls d.now.long x).headD 0), vi ((Km469.cls d.now.long x).getLastD 0)]) s1 hr0
     refine q _ Fp r (se.keep s2) (After.same s2) (s1.free hr0) ?_
     rw [q1z, q9z]
     rfl
theorem sc_tlargest : FnScope ["session", "given", "sizes", "weight", "a", "most"] ["session", "given"] (defScope s_tell_largest) := sc_by rfl (by decide +kernel)
theorem ok_tlargest {CH CS f : Addr} {fd : FuncData} (F : Fun K "tell_largest" "tell_largest" s_tell_largest f fd) (O : Own mg) (T : TxtS K mg CS) : FnOk P w K mg base CX0 1 f fd ["session", "given"] (sp0 CH CS K .largest) := by
 refine F.ok sc_tlargest (fun _ _ _ _ h => ?_) (fun _ _ _ _ H vs Q E hr h => ?_)
 . obtain ⟨p, gv, Fp, d, rfl, _⟩ := h
   rfl
 . obtain ⟨p, gv, Fp, d, rfl, se, q⟩ := h
   obtain ⟨dx, wa, h, dh, tc, le, ll, eF, ep, ew, hi⟩ := se.ex
   have n2 := se.ok.n2
   have n10 := se.ok.n10
   refine ⟨_, q3z (q12z (i := 2) sc_tlargest.nd rfl (Or.inl rfl) (pe_op op_rep (q13z (q0z q10z q2z)) (pe_op op_addN (q11z (pv 0) rfl) q10z)))
    (q3z (ps_for PassesOwn.never rfl (pi_list (q11z (pv 0) rfl)) (pg_name (i := 3) sc_tlargest.nd rfl (Or.inl rfl))
     (q3z (q12z (i := 4) sc_tlargest.nd rfl (Or.inl rfl) (pe_op op_modN' (pv 3) (pe_op op_addN (q11z (pv 0) rfl) q10z)))
     (q4z (ps_asg (pe_op op_addN (pe_ix ix_list (pv 2) (pv 4) (fun _ _ => rfl)) q10z) (pg_sub (pv 2) (pv 4) set_list)))))
    (q3z (q12z (i := 5) sc_tlargest.nd rfl (Or.inl rfl) (q16z (cr_max rfl) (by rfl) O.max (by rfl) (q0z (pv 2) q2z)))
    (q4z (q8z (q13z (q0z (pe_bm PySem.F.plainAttrs_list PySem.F.slot_list_index PySem.F.type_list_index mt_index (pv 2) (q0z (pv 5) q2z)) (q0z (pv 5) q2z))))))), ?_⟩
   refine ⟨sz1, fun z hz => ?_⟩
   have s1 := sU (o := .lst [V.int 0]) (Same.refl H) hz
   have fz := hz
   refine ⟨_, rfl, p, CS, dx, _, _, rfl, s1 _ _ ep, T.cl, T.nN, fsS_gn, d.now.long, 1, rfl, rfl, trivial, z, _, _, rfl, rfl, q1z, ?_, ?_, ?_, fun y hy => ?_⟩
   . show -(2 ^ 63) ≤ ((d.now.long + 1 : Nat) : Int)
     omega
   . show ((d.now.long + 1 : Nat) : Int) < 2 ^ 63
     omega
   . show 1 * (d.now.long + 1) ≤ sizeLine
     exact Nat.le_of_lt (small1000 (by omega))
   have e1 : (List.replicate (((d.now.long + 1 : Nat) : Int)).toNat [V.int 0]).flatten = vis (sizesC d.now.long 0) := by
    rw [Int.toNat_natCast, sizes_zero]
    exact rep_eq _
   have fy : H y = none := s1.free hy
   have s2 := sU (o := .lst (List.replicate (((d.now.long + 1 : Nat) : Int)).toNat [V.int 0]).flatten) s1 hy
   refine ⟨_, rfl, p, CS, dx, _, _, rfl, s2 _ _ ep, T.cl, T.nW, fsS_gw, wa, rfl, ⟨_, SqL.of (s2 _ _ ew)⟩, for_list (K := K) (a := wa) (xs := vis (LL.wl d.now.long)) (fun i σ H' => ∃ u v, σ = [some (.ref p), some gv, some (.ref y), u, v, none] ∧ H' y = some (.lst (vis (sizesC d.now.long i))) ∧ Same H H')
    ⟨none, none, rfl, by rw [q1z, e1], s2⟩ (fun i σ H' _ ⟨_, _, _, _, e⟩ => SqL.of (e _ _ ew)) ?_ ?_⟩
   . rintro i y' σ H' hi' ⟨u, v, rfl, ey, s3⟩
     have hlt : i < 2 ^ d.now.long := by
      have := (List.getElem?_eq_some_iff.mp hi').1
      rw [q9z, LL.wl_len] at this
      exact this
     have ew' : y' = vi (weight d.now.long i) := by
      rw [wl_at hlt] at hi'
      exact (Option.some.inj hi').symm
     subst ew'
     have al : weight d.now.long i % (d.now.long + 1) < d.now.long + 1 := Nat.mod_lt _ (Nat.succ_pos _)
     have eg : (vis (sizesC d.now.long i))[weight d.now.long i % (d.now.long + 1)]? = some (vi (cntC d.now.long i (weight d.now.long i % (d.now.long + 1)))) := by
      unfold vis
      rw [List.getElem?_map, sizes_get al]
      rfl
     refine ⟨_, rfl, _, rfl, p, CS, dx, _, _, rfl, s3 _ _ ep, T.cl, T.nN, fsS_gn, d.now.long, 1, rfl, rfl, trivial, _, d.now.long + 1, rfl, rfl, Nat.succ_pos _, ?_⟩
     refine ⟨_, rfl, _, rfl, y, _, _, _, rfl, rfl, SqL.of ey, atI_nat eg, _, 1, rfl, rfl, trivial, ?_⟩
     refine ⟨_, rfl, _, rfl, y, _, _, weight d.now.long i % (d.now.long + 1), rfl, rfl, ey, ?_, ?_⟩
     . rw [q9z, sizes_len]
       exact ixN_nat al
     . refine ⟨_, _, rfl, ?_, same_upd' s3 fy⟩
       rw [q1z, sizes_step]
   . rintro σ H' ⟨u, v, rfl, ey, s3⟩
     rw [q9z, LL.wl_len] at ey
     refine ⟨_, rfl, y, up (sizesC d.now.long (2 ^ d.now.long)), rfl, by rw [vis_up]; exact SqL.of ey, by rw [List.length_map, sizes_len]; exact Nat.succ_pos _, fun m hm hmx => ?_⟩
     obtain ⟨f1, f2, f3⟩ := fold_first (fun a => (Km469.cls d.now.long a).length) d.now.long
     have em : m = (((Km469.cls d.now.long ((List.range (d.now.long + 1)).foldl (fun r x => if (Km469.cls d.now.long r).length < (Km469.cls d.now.long x).length then x else r) 0)).length : Nat) : Int) := by
      obtain ⟨c, hc, rfl⟩ := List.mem_map.mp hm
      obtain ⟨a, ha, rfl⟩ := List.mem_map.mp hc
      have g1 := f2 a (by have := List.mem_range.mp ha; omega)
      have g2 := hmx _ (List.mem_map.mpr ⟨_, List.mem_map.mpr ⟨_, List.mem_range.mpr (Nat.lt_succ_of_le f1), rfl⟩, rfl⟩)
      rw [cnt_cls] at g2 ⊢
      rw [cnt_cls] at g2
      omega
     have ea : act d .largest = (d, ⟨(((List.range (d.now.long + 1)).foldl (fun r x => if (Km469.cls d.now.long r).length < (Km469.cls d.now.long x).length then x else r) 0 : Nat) : Int), [(Km469.cls d.now.long ((List.range (d.now.long + 1)).foldl (fun r x => if (Km469.cls d.now.long r).length < (Km469.cls d.now.long x).length then x else r) 0)).length]⟩) := rfl
     rw [ea] at q
     generalize (List.range (d.now.long + 1)).foldl (fun r x => if (Km469.cls d.now.long r).length < (Km469.cls d.now.long x).length then x else r) 0 = r0 at *
     subst em
     have gt : ∀ a, a < d.now.long + 1 → (vis (sizesC d.now.long (2 ^ d.now.long)))[a]? = some (vi (Km469.cls d.now.long a).length) := fun a ha => by
      unfold vis
      rw [List.getElem?_map, sizes_get ha, cnt_cls]
      rfl
     refine ⟨_, rfl, .inl ⟨rfl, _, SqL.of ey⟩, _, rfl, y, _, _, r0, _, rfl, rfl, SqL.of ey, rfl, flat_vis _, gt r0 (by omega), by simp [eqV], fun m z' hm hz' => ?_, ?_⟩
     . rw [gt m (by omega)] at hz'
       have := Option.some.inj hz'
       subst this
       have := f3 m hm
       simp [eqV]
       omega
     refine ⟨_, rfl, (by show 2 ≤ sizeLine; decide), fun r hr0 => ?_⟩
     have s4 := sU (o := .lst [vi r0, vi (Km469.cls d.now.long r0).length]) s3 hr0
     exact q _ Fp r (se.keep s4) (After.same s4) (s3.free hr0) q1z
def sp_back (CH : Addr) : Sp := fun vs H Q _ => ∃ (h dh tc le ll : Addr) (c : List Nat) (es ls : List (List Nat)), vs = [.ref h] /\ Hist CH H h dh tc le ll c es ls /\ es.length ≤ 20 /\ ls.length ≤ 20 /\
 (es = [] → Q (.bl false) H) ∧ ∀ es' c', es = es' ++ [c'] → ∀ H' tc', Hist CH H' h dh tc' le ll c' es' (ls ++ [c]) → (∀ b o, H b = some o → b ≠ h → b ≠ le → b ≠ ll → H' b = some o) → Q (.bl true) H'
def sp_again (CH : Addr) : Sp := fun vs H Q _ => ∃ (h dh tc le ll : Addr) (c : List Nat) (es ls : List (List Nat)), vs = [.ref h] /\ Hist CH H h dh tc le ll c es ls /\ es.length ≤ 20 /\ ls.length ≤ 20 /\
 (ls = [] → Q (.bl false) H) ∧ ∀ ls' c', ls = ls' ++ [c'] → ∀ H' tc', Hist CH H' h dh tc' le ll c' (es ++ [c]) ls' → (∀ b o, H b = some o → b ≠ h → b ≠ le → b ≠ ll → H' b = some o) → Q (.bl true) H'
theorem last_or {α : Type} (l : List α) : l = [] ∨ ∃ l' x, l = l' ++ [x] := by
 rcases List.eq_nil_or_concat l with h | ⟨l', x, h⟩
 . exact .inl h
 . exact .inr ⟨l', x, by rw [h, List.concat_eq_append]⟩
theorem len_zero {α : Type} (l : List α) : decide (V.int (l.length : Int) = V.int 0) = decide (l.length = 0) := by
 by_cases z : l.length = 0
 . rw [z]; simp
 . have : ¬ V.int (l.length : Int) = V.int 0 := fun y => z (by injection y with y; omega)
   simp [z, this]
variable {P : Program} {w : World} {K : W.Frag} {mg : Str → Option Value} {base : Heap}
theorem sc_back : FnScope ["self"] ["self"] (defScope s_History_take_back) := sc_by rfl (by decide +kernel)
theorem ok_back {CH f : Addr} {fd : FuncData} (F : Fun K "take_back" "History.take_back" s_History_take_back f fd) (O : Own mg) (T : TxtH K mg CH) : FnOk P w K mg base CX0 1 f fd ["self"] (sp_back CH) := by
 refine F.ok sc_back (fun _ _ _ _ h => ?_) (fun _ _ _ _ H vs Q E hr h => ?_)
 . obtain ⟨h, dh, tc, le, ll, c, es, ls, rfl, _⟩ := h
   rfl
 . obtain ⟨h, dh, tc, le, ll, c, es, ls, rfl, hi, h20, l20, q0, q1⟩ := h
   obtain ⟨as, eas, ces⟩ := hi.ear
   obtain ⟨bs, ebs, cls⟩ := hi.lat
   have na : as.length = es.length := ces.len
   have nb : bs.length = ls.length := cls.len
   refine ⟨_, q3z (ps_if (pt_cmpR op_eq (q16z q15z (by rfl) O.len boot_len (q0z (q11z (pv 0) rfl) q2z)) q10z (nomark _)) (q4z (q8z pe_bl)) pss_nil)
    (q3z (ps_expr (pe_bm PySem.F.plainAttrs_list PySem.F.slot_list_append PySem.F.type_list_append mt_append (q11z (pv 0) rfl) (q0z (q11z (pv 0) rfl) q2z)))
    (q3z (ps_fld (pv 0) (pe_bm0 PySem.F.plainAttrs_list PySem.F.slot_list_pop PySem.F.type_list_pop mt_pop (q11z (pv 0) rfl)) rfl)
    (q4z (q8z pe_bl)))), ?_⟩
   refine ⟨_, rfl, h, CH, dh, _, _, rfl, hi.obj, T.cl, T.nE, fsH_gear, le, _, rfl, .inl (SqL.of eas), rfl, _, rfl, ?_⟩
   rw [len_zero, List.length_map, na]
   rcases last_or es with e0 | ⟨es', c', e0⟩
   . have z : decide (es.length = 0) = true := by rw [e0]; rfl
     rw [z]
     exact q0 e0
   . have z : decide (es.length = 0) = false := by rw [e0]; simp
     rw [z]
     rw [e0] at ces
     obtain ⟨as', tc', ea, cas, etc⟩ := Codes.unsnoc ces
     have nhl : h ≠ ll := fun z => by rw [← z, hi.obj] at ebs; cases ebs
     have nhe : h ≠ le := fun z => by rw [← z, hi.obj] at eas; cases eas
     have H1e : upd H ll (.lst (bs.map V.ref ++ [.ref tc])) le = some (.lst (as.map V.ref)) := by rw [q5z hi.ne]; exact eas
     refine ⟨_, rfl, h, CH, dh, _, _, rfl, hi.obj, T.cl, T.nL, fsH_glat, .inl ⟨rfl, _, SqL.of ebs⟩, _, rfl, h, CH, dh, _, _, rfl, hi.obj, T.cl, T.nC, fsH_gcode, ll, _, _, rfl, rfl, ebs, ?_, ?_⟩
     . rw [List.length_map]
       exact small1000 (by omega)
     have H1h : upd H ll (.lst (bs.map V.ref ++ [.ref tc])) h = some (.ins CH dh (fsH tc le ll)) := by rw [q5z nhl]; exact hi.obj
     refine ⟨_, rfl, h, CH, dh, _, _, rfl, H1h, T.cl, T.nE, fsH_gear, .inl ⟨rfl, _, SqL.of H1e⟩, le, _, V.ref tc', rfl, rfl, H1e, ?_, ?_⟩
     . rw [ea, List.map_append, List.length_append]
       simp
     refine ⟨_, rfl, h, CH, dh, _, rfl, by rw [q5z nhe]; exact H1h, T.cl, T.nC, (by show 3 < 1000; decide), ?_⟩
     rw [fsH_code]
     have fr : ∀ b o, H b = some o → b ≠ h → b ≠ le → b ≠ ll → upd (upd (upd H ll (.lst (bs.map V.ref ++ [.ref tc]))) le (.lst (as.map V.ref).dropLast)) h (.ins CH dh (fsH tc' le ll)) b = some o := fun b o e n1 n2 n3 => by
      rw [q5z n1, q5z n2, q5z n3]; exact e
     have frt : ∀ b xs, H b = some (.tup xs) → upd (upd (upd H ll (.lst (bs.map V.ref ++ [.ref tc]))) le (.lst (as.map V.ref).dropLast)) h (.ins CH dh (fsH tc' le ll)) b = some (.tup xs) := fun b xs e =>
      fr b _ e (ne_of e hi.obj (by intro z; cases z)) (ne_of e eas (by intro z; cases z)) (ne_of e ebs (by intro z; cases z))
     refine q1 es' c' e0 _ tc' ⟨q1z, frt _ _ etc, ⟨as', ?_, cas.keep frt⟩, ⟨bs ++ [tc], ?_, (Codes.snoc hi.code cls).keep frt⟩, hi.ne⟩ fr
     . rw [q5z (Ne.symm nhe), q1z, ea, List.map_append]
       simp
     . rw [q5z (Ne.symm nhl), q5z (Ne.symm hi.ne), q1z, List.map_append]
       rfl
theorem sc_again : FnScope ["self"] ["self"] (defScope s_History_do_again) := sc_by rfl (by decide +kernel)
theorem ok_again {CH f : Addr} {fd : FuncData} (F : Fun K "do_again" "History.do_again" s_History_do_again f fd) (O : Own mg) (T : TxtH K mg CH) : FnOk P w K mg base CX0 1 f fd ["self"] (sp_again CH) := by
 refine F.ok sc_again (fun _ _ _ _ h => ?_) (fun _ _ _ _ H vs Q E hr h => ?_)
 . obtain ⟨h, dh, tc, le, ll, c, es, ls, rfl, _⟩ := h
   rfl
 . obtain ⟨h, dh, tc, le, ll, c, es, ls, rfl, hi, h20, l20, q0, q1⟩ := h
   obtain ⟨as, eas, ces⟩ := hi.ear
   obtain ⟨bs, ebs, cls⟩ := hi.lat
   have na : as.length = es.length := ces.len
   have nb : bs.length = ls.length := cls.len
   refine ⟨_, q3z (ps_if (pt_cmpR op_eq (q16z q15z (by rfl) O.len boot_len (q0z (q11z (pv 0) rfl) q2z)) q10z (nomark _)) (q4z (q8z pe_bl)) pss_nil)
    (q3z (ps_expr (pe_bm PySem.F.plainAttrs_list PySem.F.slot_list_append PySem.F.type_list_append mt_append (q11z (pv 0) rfl) (q0z (q11z (pv 0) rfl) q2z)))
    (q3z (ps_fld (pv 0) (pe_bm0 PySem.F.plainAttrs_list PySem.F.slot_list_pop PySem.F.type_list_pop mt_pop (q11z (pv 0) rfl)) rfl)
    (q4z (q8z pe_bl)))), ?_⟩
   refine ⟨_, rfl, h, CH, dh, _, _, rfl, hi.obj, T.cl, T.nL, fsH_glat, ll, _, rfl, .inl (SqL.of ebs), rfl, _, rfl, ?_⟩
   rw [len_zero, List.length_map, nb]
   rcases last_or ls with e0 | ⟨ls', c', e0⟩
   . have z : decide (ls.length = 0) = true := by rw [e0]; rfl
     rw [z]
     exact q0 e0
   . have z : decide (ls.length = 0) = false := by rw [e0]; simp
     rw [z]
     rw [e0] at cls
     obtain ⟨bs', tc', eb, cbs, etc⟩ := Codes.unsnoc cls
     have nhl : h ≠ ll := fun z => by rw [← z, hi.obj] at ebs; cases ebs
     have nhe : h ≠ le := fun z => by rw [← z, hi.obj] at eas; cases eas
     have H1l : upd H le (.lst (as.map V.ref ++ [.ref tc])) ll = some (.lst (bs.map V.ref)) := by rw [q5z (Ne.symm hi.ne)]; exact ebs
     refine ⟨_, rfl, h, CH, dh, _, _, rfl, hi.obj, T.cl, T.nE, fsH_gear, .inl ⟨rfl, _, SqL.of eas⟩, _, rfl, h, CH, dh, _, _, rfl, hi.obj, T.cl, T.nC, fsH_gcode, le, _, _, rfl, rfl, eas, ?_, ?_⟩
     . rw [List.length_map]
       exact small1000 (by omega)
     have H1h : upd H le (.lst (as.map V.ref ++ [.ref tc])) h = some (.ins CH dh (fsH tc le ll)) := by rw [q5z nhe]; exact hi.obj
     refine ⟨_, rfl, h, CH, dh, _, _, rfl, H1h, T.cl, T.nL, fsH_glat, .inl ⟨rfl, _, SqL.of H1l⟩, ll, _, V.ref tc', rfl, rfl, H1l, ?_, ?_⟩
     . rw [eb, List.map_append, List.length_append]
       simp
     refine ⟨_, rfl, h, CH, dh, _, rfl, by rw [q5z nhl]; exact H1h, T.cl, T.nC, (by show 3 < 1000; decide), ?_⟩
     rw [fsH_code]
     have fr : ∀ b o, H b = some o → b ≠ h → b ≠ le → b ≠ ll → upd (upd (upd H le (.lst (as.map V.ref ++ [.ref tc]))) ll (.lst (bs.map V.ref).dropLast)) h (.ins CH dh (fsH tc' le ll)) b = some o := fun b o e n1 n2 n3 => by
      rw [q5z n1, q5z n3, q5z n2]; exact e
     have frt : ∀ b xs, H b = some (.tup xs) → upd (upd (upd H le (.lst (as.map V.ref ++ [.ref tc]))) ll (.lst (bs.map V.ref).dropLast)) h (.ins CH dh (fsH tc' le ll)) b = some (.tup xs) := fun b xs e =>
      fr b _ e (ne_of e hi.obj (by intro z; cases z)) (ne_of e eas (by intro z; cases z)) (ne_of e ebs (by intro z; cases z))
     refine q1 ls' c' e0 _ tc' ⟨q1z, frt _ _ etc, ⟨as ++ [tc], ?_, (Codes.snoc hi.code ces).keep frt⟩, ⟨bs', ?_, cbs.keep frt⟩, hi.ne⟩ fr
     . rw [q5z (Ne.symm nhe), q5z hi.ne, q1z, List.map_append]
       rfl
     . rw [q5z (Ne.symm nhl), q1z, eb, List.map_append]
       simp
def rowsC : List (List Nat) := [[110], [119], [119], [119], [97], [], [], [119], [119], [119, 105], [119, 105, 120], [119], [119], [97], [], [119, 119], [], [], [], [115], [103], [97, 115], [97, 103], [119, 119], [], [107], [], [], []]
def rowS (l : List Nat) : Str := ⟨l.toArray⟩
def kS (n c : Nat) : Option Nat := if c = 119 then some n else if c = 115 then some (n - 1) else if c = 103 then some (n + 1) else none
def okS (n c y : Nat) : Bool := match kS n c with
 | none => true
 | some k => decide (y < 2 ^ k)
def okB (n : Nat) : Km469.Call -> Bool
 | .add w => decide (w < 2 ^ n)
 | .force w => decide (w < 2 ^ n)
 | .drop w => decide (w < 2 ^ n)
 | .lost w => decide (w < 2 ^ n)
 | .gained w => decide (w < 2 ^ n)
 | .losing w _ => decide (w < 2 ^ n)
 | .gaining w _ _ => decide (w < 2 ^ n)
 | .runs w => decide (w < 2 ^ n)
 | .weight w => decide (w < 2 ^ n)
 | .alike u v => decide (u < 2 ^ n) && decide (v < 2 ^ n)
 | .common u v => decide (u < 2 ^ n) && decide (v < 2 ^ n)
 | .mend s => decide (s < 2 ^ (n - 1))
 | .mendG s => decide (s < 2 ^ (n + 1))
 | .back_ _ s => decide (s < 2 ^ (n - 1))
 | .out_ _ s => decide (s < 2 ^ (n + 1))
 | _ => true
theorem is_row {nr : Nat} {xs : List Nat} {x : Km469.Call} (h : LLF.Is nr xs x) (n : Nat) : ∃ l : List Nat, rowsC[nr]? = some l /\ l.length = xs.length /\ l.all (· < 128) = true /\ okB n x = ((l.zip xs).all fun p => okS n p.1 p.2) := by
 cases h <;> exact ⟨_, rfl, rfl, rfl, by simp [okB, okS, kS]⟩
theorem bad_yes {n x : Nat} (h : ¬ x < 2 ^ n) : Km469.bad n x = true := decide_eq_true (by omega)
theorem act_bad {d : Desk} {x : Km469.Call} (h : okB d.now.long x = false) : act d x = (d, Km469.only (-2)) := by
 cases x
 case alike u v =>
  have h' : Km469.bad d.now.long u = true ∨ Km469.bad d.now.long v = true := by
   simp only [okB, Bool.and_eq_false_iff, decide_eq_false_iff_not] at h
   rcases h with h | h
   . exact .inl (bad_yes h)
   . exact .inr (bad_yes h)
  simp only [act, h', if_true]
 case common u v =>
  have h' : Km469.bad d.now.long u = true ∨ Km469.bad d.now.long v = true := by
   simp only [okB, Bool.and_eq_false_iff, decide_eq_false_iff_not] at h
   rcases h with h | h
   . exact .inl (bad_yes h)
   . exact .inr (bad_yes h)
  simp only [act, h', if_true]
 all_goals first
  | (exfalso; simp [okB] at h; done)
  | (have h' := bad_yes (of_decide_eq_false h)
     simp only [act, h', if_true])
def tabM : List (Str × Int) := [(rowS [119], 0), (rowS [115], -1), (rowS [103], 1)]
theorem one_sign {a b : Nat} : decide (rowS [a] = (⟨#[b]⟩ : Str)) = decide (b = a) := by
 by_cases h : b = a
 . subst h
   simp [rowS]
 . have : ¬ rowS [a] = (⟨#[b]⟩ : Str) := fun z => h (by
    simp [rowS] at z
    exact z.symm)
   simp [h, this]
theorem look_sign (c : Nat) : lookS tabM (⟨#[c]⟩ : Str) = if c = 119 then some 0 else if c = 115 then some (-1) else if c = 103 then some 1 else none := by
 unfold lookS tabM
 rw [List.find?_cons, List.find?_cons, List.find?_cons, List.find?_nil]
 simp only [one_sign]
 by_cases h1 : c = 119
 . simp [h1]
 . by_cases h2 : c = 115
   . simp [h2]
   . by_cases h3 : c = 103
     . simp [h3]
     . simp [h1, h2, h3]
def sp_start (CH CS : Addr) : Sp := fun vs H Q _ => ∃ (p : Addr) (F : List Addr) (d : Desk) (n : Nat), vs = [.ref p, vi n] /\ Sess CH CS F H p d /\
 ∀ H' F' r, Sess CH CS F' H' p (act d (.start n)).1 → After F F' H H' → H r = none → H' r = some (.lst (ansV (act d (.start n)).2)) → Q (.ref r) H'
theorem act_start (d : Desk) (n : Nat) : act d (.start n) = if 2 ≤ n /\ n ≤ 10 then (Km469.fresh n, Km469.only 0) else (d, Km469.only (-22)) := by
 by_cases h : 2 ≤ n ∧ n ≤ 10
 . rw [if_pos h]
   have h' : ¬ (n < 2 ∨ Km469.LONG < n) := by
    show ¬ (n < 2 ∨ 10 < n)
    omega
   simp only [act, h', if_false]
   rfl
 . rw [if_neg h]
   have h' : n < 2 ∨ Km469.LONG < n := by
    show n < 2 ∨ 10 < n
    omega
   simp only [act, h', if_true]
theorem fresh_ok' {n : Nat} (h : 2 ≤ n /\ n ≤ 10) : DeskOk (Km469.fresh n) := ⟨h.1, h.2, ⟨List.Pairwise.nil, (fun x hx => by cases hx), Nat.zero_le _⟩, (fun k hk => by cases hk), (fun k hk => by cases hk), by show 0 ≤ 20; decide⟩
variable {P : Program} {w : World} {K : W.Frag} {mg : Str → Option Value} {base : Heap}
theorem sc_start : FnScope ["session", "n"] ["session", "n"] (defScope s_start) := sc_by rfl (by decide +kernel)
theorem ok_start {CH CS f : Addr} {fd : FuncData} (F : Fun K "start" "start" s_start f fd) (T : TxtS K mg CS) (TC : TxtC mg) (DS : Def P w K mg base "can_start" 1 ["n"] sp_can_start) (DB : MDef P w K mg base CS "begin" 3 ["self", "n"] (sp_begin CH CS)) :
 FnOk P w K mg base CX0 4 f fd ["session", "n"] (sp_start CH CS) := by
 refine F.ok sc_start (fun _ _ _ _ h => ?_) (fun _ _ _ _ H vs Q E hr h => ?_)
 . obtain ⟨p, Fp, d, n, rfl, _⟩ := h
   rfl
 . obtain ⟨p, Fp, d, n, rfl, se, q⟩ := h
   obtain ⟨dx, wa, h, dh, tc, le, ll, eF, ep, ew, hi⟩ := se.ex
   obtain ⟨t1, h1⟩ := TC.oor
   have hr1 : Room 1 _ := hr.mono (by decide)
   refine ⟨_, q3z (ps_if (pt_not (pt_val (q6z DS hr1 rfl (q0z (pv 1) q2z)))) (q4z (q8z (q13z (q0z (q14z (v := .int (-22)) rfl h1 ⟨_, rfl⟩) q2z)))) pss_nil)
    (q3z (ps_expr (pe_methD (pv 0) T.cl DB hr (q0z (pv 1) q2z)))
    (q4z (q8z (q13z (q0z q10z q2z))))), ?_⟩
   rw [act_start] at q
   refine ⟨_, rfl, n, rfl, _, rfl, ?_⟩
   show if (!decide (2 ≤ n ∧ n ≤ 10)) = true then _ else _
   refine ite2 (fun hc => ?_) (fun hc => ?_)
   . have hc' : ¬ (2 ≤ n ∧ n ≤ 10) := fun z => by rw [decide_eq_true z] at hc; cases hc
     rw [if_neg hc'] at q
     refine ⟨sz1, fun r hr0 => ?_⟩
     exact q _ Fp r (se.keep (sU (Same.refl H) hr0)) (After.same (sU (Same.refl H) hr0)) hr0 q1z
   . have hc' : 2 ≤ n ∧ n ≤ 10 := Decidable.byContradiction fun z => hc (by rw [decide_eq_false z]; rfl)
     rw [if_pos hc'] at q
     refine ⟨_, rfl, p, dx, _, rfl, ep, fsS_no (by decide +kernel) (by decide +kernel) (by decide +kernel), _, rfl, p, dx, _, n, rfl, ep, .inr ⟨_, _, _, rfl⟩, by omega, fun H1 wa1 h1' dh1 tc1 le1 ll1 e1 e2 e3 f1 f2 f3 f4 f5 kp => ?_⟩
     refine ⟨sz1, fun r hr0 => ?_⟩
     have se1 : Sess CH CS [p, h1', le1, ll1, wa1] H1 p (Km469.fresh n) := ⟨fresh_ok' hc', dx, wa1, h1', dh1, tc1, le1, ll1, rfl, e1, e2, e3⟩
     have af : After Fp [p, h1', le1, ll1, wa1] H H1 := by
      refine ⟨fun b hb => ?_, fun b o e nb => kp b o e fun z => nb (by rw [eF, z]; simp), fun b o e => ?_⟩
      . simp only [List.mem_cons, List.not_mem_nil, or_false] at hb
        rcases hb with rfl | rfl | rfl | rfl | rfl
        . exact .inl (by rw [eF]; simp)
        . exact .inr f2
        . exact .inr f4
        . exact .inr f5
        . exact .inr f1
      . by_cases z : b = p
        . exact ⟨_, by rw [z]; exact e1⟩
        . exact ⟨o, kp b o e z⟩
     have s1 := sU (o := .lst [V.int 0]) (Same.refl H1) hr0
     exact q _ _ r (se1.keep s1) (af.post s1) (af.free hr0) q1z
structure TxtO (mg : Str -> Option Value) : Prop where
 mt : ∃ t, mg "MOST_TOLD" = some (.int 10 t)
 lt : ∃ t, mg "LETTERS_TOLD" = some (.int 10 t)
theorem act_most {d : Desk} (h : d.now.long ≤ 5) (hs : safe d.now.long d.now.code = true) :
 act d .most = (d, ⟨((rising (Km469.most d.now.long d.now.code)).length : Int), Km469.fill 10 ((rising (Km469.most d.now.long d.now.code)).map fun x => x + 1)⟩) := by
 have h' : ¬ Km469.SMALL < d.now.long := by show ¬ 5 < _; omega
 simp only [act, h', hs, if_false, Bool.true_eq_false]
variable {P : Program} {w : World} {K : W.Frag} {mg : Str → Option Value} {base : Heap}
theorem sc_tsafe : FnScope ["session", "given"] ["session", "given"] (defScope s_tell_safe) := sc_by rfl (by decide +kernel)
theorem ok_tsafe {CH CS f : Addr} {fd : FuncData} (F : Fun K "tell_safe" "tell_safe" s_tell_safe f fd) (TH : TxtH K mg CH) (T : TxtS K mg CS) (DS : Def P w K mg base "is_safe" 4 ["code", "n"] (sp_is_safe K)) : FnOk P w K mg base CX0 5 f fd ["session", "given"] (sp0 CH CS K .safe) := by
 refine F.ok sc_tsafe (fun _ _ _ _ h => ?_) (fun _ _ _ _ H vs Q E hr h => ?_)
 . obtain ⟨p, gv, Fp, d, rfl, _⟩ := h
   rfl
 . obtain ⟨p, gv, Fp, d, rfl, se, q⟩ := h
   obtain ⟨dx, wa, h, dh, tc, le, ll, eF, ep, ew, hi⟩ := se.ex
   have n2 := se.ok.n2
   have n10 := se.ok.n10
   refine ⟨_, q4z (q8z (q13z (q0z (pe_ifExp (pt_val (q6z DS hr rfl (q0z (q11z (q11z (pv 0) rfl) rfl) (q0z (q11z (pv 0) rfl) q2z)))) q10z q10z) q2z))), ?_⟩
   have ea : act d .safe = (d, Km469.only ((Km469.bit (safe d.now.long d.now.code) : Nat) : Int)) := rfl
   rw [ea] at q
   refine ⟨_, rfl, p, CS, dx, _, _, rfl, ep, T.cl, T.nH, fsS_gh, h, CH, dh, _, _, rfl, hi.obj, TH.cl, TH.nC, fsH_gcode, _, rfl, p, CS, dx, _, _, rfl, ep, T.cl, T.nN, fsS_gn, tc, d.now.code, d.now.long, rfl, SqT.of hi.code, by have := se.ok.now.len; omega, se.ok.now.lt, by omega, by omega, fun H1 s1 => ?_⟩
   refine ⟨_, rfl, ?_⟩
   refine ite2 (fun hs => ?_) (fun hs => ?_)
   . have hs' : safe d.now.long d.now.code = true := hs
     rw [hs'] at q
     refine ⟨sz1, fun r hr0 => ?_⟩
     have s2 := sU (o := .lst [V.int 1]) s1 hr0
     exact q _ Fp r (se.keep s2) (After.same s2) (s1.free hr0) q1z
   . have hs' : safe d.now.long d.now.code = false := by simpa using hs
     rw [hs'] at q
     refine ⟨sz1, fun r hr0 => ?_⟩
     have s2 := sU (o := .lst [V.int 0]) s1 hr0
     exact q _ Fp r (se.keep s2) (After.same s2) (s1.free hr0) q1z
theorem sc_tmost : FnScope ["session", "given", "code", "refusal", "most"] ["session", "given"] (defScope s_tell_most) := sc_by rfl (by decide +kernel)
theorem ok_tmost {CH CS f : Addr} {fd : FuncData} (F : Fun K "tell_most" "tell_most" s_tell_most f fd) (O : Own mg) (TH : TxtH K mg CH) (T : TxtS K mg CS) (TO : TxtO mg) (DR : Def P w K mg base "refusal_to_search" 5 ["code", "n"] (sp_rts K)) (DM : Def P w K mg base "safe_with_most" 35 ["code", "n"] (sp_swm K))
 (DT : Def P w K mg base "told" 1 ["words", "many"] (sp_told K)) : FnOk P w K mg base CX0 36 f fd ["session", "given"] (sp0 CH CS K .most) := by
 refine F.ok sc_tmost (fun _ _ _ _ h => ?_) (fun _ _ _ _ H vs Q E hr h => ?_)
 . obtain ⟨p, gv, Fp, d, rfl, _⟩ := h
   rfl
 . obtain ⟨p, gv, Fp, d, rfl, se, q⟩ := h
   obtain ⟨dx, wa, h, dh, tc, le, ll, eF, ep, ew, hi⟩ := se.ex
   obtain ⟨t4, h4⟩ := TO.mt
   have n2 := se.ok.n2
   have n10 := se.ok.n10
   have hr5 : Room 5 _ := hr.mono (by decide)
   have hr1 : Room 1 _ := hr.mono (by decide)
   refine ⟨_, q3z (q12z (i := 2) sc_tmost.nd rfl (Or.inl rfl) (q11z (q11z (pv 0) rfl) rfl))
    (q3z (q12z (i := 3) sc_tmost.nd rfl (Or.inl rfl) (q6z DR hr5 rfl (q0z (pv 2) (q0z (q11z (pv 0) rfl) q2z))))
    (q3z (ps_if (pt_cmpR op_lt (pv 3) q10z (nomark _)) (q4z (q8z (q13z (q0z (pv 3) q2z)))) pss_nil)
    (q3z (q12z (i := 4) sc_tmost.nd rfl (Or.inl rfl) (q6z DM hr rfl (q0z (pv 2) (q0z (q11z (pv 0) rfl) q2z))))
    (q4z (q8z (pe_op op_cat (q13z (q0z (q16z q15z (by rfl) O.len boot_len (q0z (pv 4) q2z)) q2z)) (q6z DT hr1 rfl (q0z (pv 4) (q0z (q14z (v := .int 10) rfl h4 ⟨_, rfl⟩) q2z))))))))), ?_⟩
   refine ⟨_, rfl, p, CS, dx, _, _, rfl, ep, T.cl, T.nH, fsS_gh, h, CH, dh, _, _, rfl, hi.obj, TH.cl, TH.nC, fsH_gcode, ?_⟩
   refine ⟨_, rfl, _, rfl, p, CS, dx, _, _, rfl, ep, T.cl, T.nN, fsS_gn, tc, d.now.code, d.now.long, rfl, SqT.of hi.code, by have := se.ok.now.len; omega, se.ok.now.lt, by omega, by omega, fun H1 s1 => ?_⟩
   refine ⟨_, rfl, _, _, rfl, rfl, _, rfl, ?_⟩
   refine ite2 (fun hc => ?_) (fun hc => ?_)
   . have hc' : rts d.now.long d.now.code < 0 := of_decide_eq_true hc
     rw [(act_rts hc').2] at q
     refine ⟨_, rfl, sz1, fun r hr0 => ?_⟩
     have s2 := sU (o := .lst [V.int (rts d.now.long d.now.code)]) s1 hr0
     exact q _ Fp r (se.keep s2) (After.same s2) (s1.free hr0) q1z
   . have hc' : ¬ rts d.now.long d.now.code < 0 := fun z => hc (decide_eq_true z)
     obtain ⟨n5, hs'⟩ := rts_no hc'
     rw [act_most n5 hs'] at q
     have ln : (rising (Km469.most d.now.long d.now.code)).length ≤ 6 := LL.most_few n2 n5 se.ok.now.up se.ok.now.lt hs'
     refine ⟨_, rfl, _, rfl, p, CS, dx, _, _, rfl, s1 _ _ ep, T.cl, T.nN, fsS_gn, tc, d.now.code, d.now.long, rfl, SqT.of (s1 _ _ hi.code), se.ok.now.up, se.ok.now.len, se.ok.now.lt, by omega, by omega, fun H2 t s2 ft et => ?_⟩
     have s3 := s1.trans s2
     have upL := LL.up_rising (Km469.most d.now.long d.now.code)
     generalize rising (Km469.most d.now.long d.now.code) = L at *
     refine ⟨_, rfl, t, _, rfl, .inr (SqT.of et), sz1, fun l hl => ?_⟩
     have s4 := sU (o := .lst [V.int ((vis L).length : Int)]) (Same.refl H2) hl
     refine ⟨_, rfl, t, L, 10, rfl, .inr (SqT.of (s4 _ _ et)), by omega, upL, by omega, by decide, fun H3 u s5 fu eu => ?_⟩
     refine ⟨l, u, _, _, rfl, rfl, s5 _ _ q1z, eu, ?_, fun r hr0 => ?_⟩
     . rw [q9z]
       exact Nat.le_of_lt (small1000 (by simp; omega))
     have s6 := sU (o := .lst ([V.int ((vis L).length : Int)] ++ vis (List.map (fun x => x + 1) L ++ List.replicate (10 - L.length) 0))) (s3.trans (s4.trans s5)) hr0
     refine q _ Fp r (se.keep s6) (After.same s6) ((s3.trans (s4.trans s5)).free hr0) ?_
     rw [q1z, q9z, ← fill_eq (show L.length ≤ 10 by omega), ans_cons]
     rfl
theorem sc_tmay : FnScope ["session", "given", "words"] ["session", "given"] (defScope s_tell_may) := sc_by rfl (by decide +kernel)
theorem cut_take (l : List Nat) (k : Nat) : cutV (vis l) none (some ((k : Nat) : Int)) = vis (l.take k) := by
 unfold cutV
 rw [HT.sIx_none, HT.sIx_nat, List.drop_zero, Nat.sub_zero, q9z, ← List.map_take]
 exact congrArg (List.map vi) (by rw [List.take_eq_take_iff]; omega)
theorem ok_tmay {CH CS f : Addr} {fd : FuncData} (F : Fun K "tell_may" "tell_may" s_tell_may f fd) (O : Own mg) (TH : TxtH K mg CH) (T : TxtS K mg CS) (DF : Def P w K mg base "free_words" 4 ["code", "n"] (sp_free K))
 (DT : Def P w K mg base "told" 1 ["words", "many"] (sp_told K)) : FnOk P w K mg base CX0 5 f fd ["session", "given"] (sp0 CH CS K .may) := by
 refine F.ok sc_tmay (fun _ _ _ _ h => ?_) (fun _ _ _ _ H vs Q E hr h => ?_)
 . obtain ⟨p, gv, Fp, d, rfl, _⟩ := h
   rfl
 . obtain ⟨p, gv, Fp, d, rfl, se, q⟩ := h
   obtain ⟨dx, wa, h, dh, tc, le, ll, eF, ep, ew, hi⟩ := se.ex
   have n2 := se.ok.n2
   have n10 := se.ok.n10
   have hr1 : Room 1 _ := hr.mono (by decide)
   refine ⟨_, q3z (q12z (i := 2) sc_tmay.nd rfl (Or.inl rfl) (q6z DF hr rfl (q0z (q11z (q11z (pv 0) rfl) rfl) (q0z (q11z (pv 0) rfl) q2z))))
    (q4z (q8z (pe_op op_cat (q13z (q0z (q16z q15z (by rfl) O.len boot_len (q0z (pv 2) q2z)) q2z)) (q6z DT hr1 rfl (q0z (pe_slice sl_list (pv 2) po_none (po_some q10z)) (q0z q10z q2z)))))), ?_⟩
   refine ⟨_, rfl, p, CS, dx, _, _, rfl, ep, T.cl, T.nH, fsS_gh, h, CH, dh, _, _, rfl, hi.obj, TH.cl, TH.nC, fsH_gcode, _, rfl, p, CS, dx, _, _, rfl, ep, T.cl, T.nN, fsS_gn, tc, d.now.code, d.now.long, rfl, SqT.of hi.code, se.ok.now.len, se.ok.now.lt, by omega, n10, fun H1 t s1 ft et => ?_⟩
   have ea : act d .may = (d, ⟨((mayL d.now.long d.now.code).length : Int), [match mayL d.now.long d.now.code with
    | [] => 0
    | w :: _ => w + 1]⟩) := rfl
   rw [ea] at q
   have upL : LL.Up (mayL d.now.long d.now.code) := (List.pairwise_lt_range).sublist List.filter_sublist
   generalize mayL d.now.long d.now.code = L at *
   refine ⟨_, rfl, t, _, rfl, .inl (SqL.of et), sz1, fun l hl => ?_⟩
   have s4 := sU (o := .lst [V.int ((vis L).length : Int)]) (Same.refl H1) hl
   refine ⟨_, rfl, _, rfl, t, _, rfl, SqL.of (s4 _ _ et), fun t2 ht2 => ?_⟩
   have ec : cutV (vis L) none (some (1 : Int)) = vis (L.take 1) := cut_take L 1
   rw [ec]
   have s5 := sU (o := .lst (vis (L.take 1))) s4 ht2
   have l1 : (L.take 1).length ≤ 1 := by rw [List.length_take]; omega
   refine ⟨t2, L.take 1, 1, rfl, .inl (SqL.of q1z), by omega, upL.sublist (List.take_sublist _ _), l1, by decide, fun H3 u s6 fu eu => ?_⟩
   have el : H3 l = some (.lst [V.int ((vis L).length : Int)]) := s6 _ _ (sU (Same.refl _) ht2 _ _ q1z)
   refine ⟨l, u, _, _, rfl, rfl, el, eu, ?_, fun r hr0 => ?_⟩
   . rw [q9z]
     exact Nat.le_of_lt (small1000 (by simp; omega))
   have s7 := sU (o := .lst ([V.int ((vis L).length : Int)] ++ vis (List.map (fun x => x + 1) (L.take 1) ++ List.replicate (1 - (L.take 1).length) 0))) (s1.trans (s5.trans s6)) hr0
   refine q _ Fp r (se.keep s7) (After.same s7) ((s1.trans (s5.trans s6)).free hr0) ?_
   rw [q1z, q9z, ans_cons]
   cases L with
   | nil => rfl
   | cons y L => rfl
theorem sc_tcode : FnScope ["session", "given", "code"] ["session", "given"] (defScope s_tell_code) := sc_by rfl (by decide +kernel)
theorem ok_tcode {CH CS f : Addr} {fd : FuncData} (F : Fun K "tell_code" "tell_code" s_tell_code f fd) (O : Own mg) (TH : TxtH K mg CH) (T : TxtS K mg CS) (TC : TxtC mg) (DT : Def P w K mg base "told" 1 ["words", "many"] (sp_told K)) : FnOk P w K mg base CX0 2 f fd ["session", "given"] (sp0 CH CS K .code) := by
 refine F.ok sc_tcode (fun _ _ _ _ h => ?_) (fun _ _ _ _ H vs Q E hr h => ?_)
 . obtain ⟨p, gv, Fp, d, rfl, _⟩ := h
   rfl
 . obtain ⟨p, gv, Fp, d, rfl, se, q⟩ := h
   obtain ⟨dx, wa, h, dh, tc, le, ll, eF, ep, ew, hi⟩ := se.ex
   obtain ⟨t4, h4⟩ := TC.mic
   have ln := se.ok.now.len
   refine ⟨_, q3z (q12z (i := 2) sc_tcode.nd rfl (Or.inl rfl) (q11z (q11z (pv 0) rfl) rfl))
    (q4z (q8z (pe_op op_cat (q13z (q0z (q16z q15z (by rfl) O.len boot_len (q0z (pv 2) q2z)) q2z)) (q6z DT hr rfl (q0z (pv 2) (q0z (q14z (v := .int 24) rfl h4 ⟨_, rfl⟩) q2z)))))), ?_⟩
   refine ⟨_, rfl, p, CS, dx, _, _, rfl, ep, T.cl, T.nH, fsS_gh, h, CH, dh, _, _, rfl, hi.obj, TH.cl, TH.nC, fsH_gcode, ?_⟩
   have ea : act d .code = (d, ⟨(d.now.code.length : Int), Km469.fill 24 (d.now.code.map fun x => x + 1)⟩) := rfl
   rw [ea] at q
   refine ⟨_, rfl, tc, _, rfl, .inr (SqT.of hi.code), sz1, fun l hl => ?_⟩
   have s4 := sU (o := .lst [V.int ((vis d.now.code).length : Int)]) (Same.refl H) hl
   refine ⟨_, rfl, tc, d.now.code, 24, rfl, .inr (SqT.of (s4 _ _ hi.code)), by omega, se.ok.now.up, ln, by decide, fun H3 u s5 fu eu => ?_⟩
   refine ⟨l, u, _, _, rfl, rfl, s5 _ _ q1z, eu, ?_, fun r hr0 => ?_⟩
   . rw [q9z]
     exact Nat.le_of_lt (small1000 (by simp; omega))
   have s6 := sU (o := .lst ([V.int ((vis d.now.code).length : Int)] ++ vis (List.map (fun x => x + 1) d.now.code ++ List.replicate (24 - d.now.code.length) 0))) (s4.trans s5) hr0
   refine q _ Fp r (se.keep s6) (After.same s6) ((s4.trans s5).free hr0) ?_
   rw [q1z, q9z, ← fill_eq ln, ans_cons]
   rfl
theorem sc_twrite : FnScope ["session", "given", "code", "word"] ["session", "given"] (defScope s_tell_write) := sc_by rfl (by decide +kernel)
theorem ok_twrite {CH CS f : Addr} {fd : FuncData} (F : Fun K "tell_write" "tell_write" s_tell_write f fd) (O : Own mg) (TH : TxtH K mg CH) (T : TxtS K mg CS) (TC : TxtC mg) (TO : TxtO mg) (DL : Def P w K mg base "letters_of" 2 ["word", "n"] sp_letters) : FnOk P w K mg base CX0 3 f fd ["session", "given"] (sp1 CH CS K .write fun _ _ => True) := by
 refine F.ok sc_twrite (fun _ _ _ _ h => ?_) (fun _ _ _ _ H vs Q E hr h => ?_)
 . obtain ⟨p, g, Fp, d, x, rfl, _⟩ := h
   rfl
 . obtain ⟨p, g, Fp, d, x, rfl, se, hg, _, q⟩ := h
   obtain ⟨dx, wa, h, dh, tc, le, ll, eF, ep, ew, hi⟩ := se.ex
   obtain ⟨t1, h1⟩ := TC.nt
   obtain ⟨t2, h2⟩ := TO.lt
   have n10 := se.ok.n10
   refine ⟨_, q3z (q12z (i := 2) sc_twrite.nd rfl (Or.inl rfl) (q11z (q11z (pv 0) rfl) rfl))
    (q3z (ps_if (pt_cmpR op_ge (pe_ix ix_list (pv 1) q10z (fun _ _ => rfl)) (q16z q15z (by rfl) O.len boot_len (q0z (pv 2) q2z)) (nomark _)) (q4z (q8z (q13z (q0z (q14z (v := .int (-2)) rfl h1 ⟨_, rfl⟩) q2z)))) pss_nil)
    (q3z (q12z (i := 3) sc_twrite.nd rfl (Or.inl rfl) (pe_ix ix_tup (pv 2) (pe_ix ix_list (pv 1) q10z (fun _ _ => rfl)) (fun _ _ => rfl)))
    (q4z (q8z (pe_op op_cat (pe_op op_cat (q13z (q0z (pv 3) q2z)) (q6z DL hr rfl (q0z (pv 3) (q0z (q11z (pv 0) rfl) q2z)))) (pe_op op_rep (q13z (q0z q10z q2z)) (pe_op op_subN (q14z (v := .int 10) rfl h2 ⟨_, rfl⟩) (q11z (pv 0) rfl)))))))), ?_⟩
   refine ⟨_, rfl, p, CS, dx, _, _, rfl, ep, T.cl, T.nH, fsS_gh, h, CH, dh, _, _, rfl, hi.obj, TH.cl, TH.nC, fsH_gcode, ?_⟩
   refine ⟨_, rfl, g, _, _, _, rfl, rfl, hg, atI_nat (j := 0) (xs := vis [x]) (v := vi x) rfl, _, rfl, tc, _, rfl, .inr (SqT.of hi.code), _, _, rfl, rfl, _, rfl, ?_⟩
   rw [q9z]
   refine ite2 (fun hc => ?_) (fun hc => ?_)
   . have hc' : d.now.code.length ≤ x := by have := of_decide_eq_true hc; omega
     have ea : act d (.write x) = (d, Km469.only (-2)) := by
      simp only [act, List.getElem?_eq_none hc']
     rw [ea] at q
     refine ⟨sz1, fun r hr0 => ?_⟩
     have s2 := sU (o := .lst [V.int (-2)]) (Same.refl H) hr0
     exact q _ Fp r (se.keep s2) (After.same s2) hr0 q1z
   . have hc' : x < d.now.code.length := Nat.lt_of_not_le fun z => hc (decide_eq_true (by omega))
     obtain ⟨y, hy⟩ : ∃ y, d.now.code[x]? = some y := ⟨_, List.getElem?_eq_getElem hc'⟩
     have ea : act d (.write x) = (d, ⟨(y : Int), Km469.fill 10 ((Km469.text d.now.long y).map Km469.bit)⟩) := by
      simp only [act, hy]
      rfl
     rw [ea] at q
     have gy : (vis d.now.code)[x]? = some (vi y) := by
      unfold vis
      rw [List.getElem?_map, hy]
      rfl
     refine ⟨_, rfl, _, rfl, g, _, _, _, rfl, rfl, hg, atI_nat (j := 0) (xs := vis [x]) (v := vi x) rfl, tc, _, _, _, rfl, rfl, SqT.of hi.code, atI_nat gy, ?_⟩
     refine ⟨_, rfl, sz1, fun l hl => ?_⟩
     have s1 := sU (o := .lst [vi y]) (Same.refl H) hl
     refine ⟨_, rfl, _, rfl, p, CS, dx, _, _, rfl, s1 _ _ ep, T.cl, T.nN, fsS_gn, y, d.now.long, rfl, by omega, fun H2 u s2 fu eu => ?_⟩
     refine ⟨l, u, _, _, rfl, rfl, s2 _ _ q1z, eu, ?_, fun l2 hl2 => ?_⟩
     . rw [q9z]
       exact Nat.le_of_lt (small1000 (by simp; omega))
     have s3 := sU (o := .lst ([vi y] ++ vis ((List.range d.now.long).map fun i => LL.bitN y (d.now.long - 1 - i)))) (s1.trans s2) hl2
     refine ⟨sz1, fun z hz => ?_⟩
     have s4 := sU (o := .lst [V.int 0]) s3 hz
     have el2 : upd (upd H2 l2 (.lst ([vi y] ++ vis ((List.range d.now.long).map fun i => LL.bitN y (d.now.long - 1 - i))))) z (.lst [V.int 0]) l2 = some (.lst ([vi y] ++ vis ((List.range d.now.long).map fun i => LL.bitN y (d.now.long - 1 - i)))) := by
      rw [q5z (q7z q1z hz)]
      exact q1z
     refine ⟨_, rfl, p, CS, dx, _, _, rfl, s4 _ _ ep, T.cl, T.nN, fsS_gn, 10, d.now.long, rfl, rfl, n10, z, _, _, rfl, rfl, q1z, ?_, ?_, ?_, fun y2 hy2 => ?_⟩
     . show -(2 ^ 63) ≤ ((10 - d.now.long : Nat) : Int)
       omega
     . show ((10 - d.now.long : Nat) : Int) < 2 ^ 63
       omega
     . show 1 * (10 - d.now.long) ≤ sizeLine
       exact Nat.le_of_lt (small1000 (by omega))
     have e1 : (List.replicate (((10 - d.now.long : Nat) : Int)).toNat [V.int 0]).flatten = vis (List.replicate (10 - d.now.long) 0) := by
      rw [Int.toNat_natCast]
      exact rep_eq _
     have s5 := sU (o := .lst (List.replicate (((10 - d.now.long : Nat) : Int)).toNat [V.int 0]).flatten) s4 hy2
     have el3 := sU (o := .lst (List.replicate (((10 - d.now.long : Nat) : Int)).toNat [V.int 0]).flatten) (Same.refl _) hy2 l2 _ el2
     refine ⟨l2, y2, _, _, rfl, rfl, el3, q1z, ?_, fun r hr0 => ?_⟩
     . rw [e1, List.length_append, q9z, q9z, List.length_replicate]
       exact Nat.le_of_lt (small1000 (by simp; omega))
     refine q _ Fp r (se.keep (sU s5 hr0)) (After.same (sU s5 hr0)) (s5.free hr0) ?_
     have lt : ((Km469.text d.now.long y).map Km469.bit).length = d.now.long := by rw [List.length_map, LL.text_length]
     rw [q1z, e1, ans_cons, LL.fill_eq (by rw [lt]; exact n10), lt, LL.text_bits, vis_append]
     rfl
structure TxtM (mg : Str -> Option Value) : Prop where
 no : ∃ t, mg "OF_NONE" = some (.int (-33) t)
 sev : ∃ t, mg "OF_SEVERAL" = some (.int (-16) t)
def one3 : List Nat -> Int
 | [] => -33
 | [x] => (x : Int)
 | _ => -16
theorem one3_many {l : List Nat} (h : 1 < l.length) : one3 l = -16 := by
 cases l with
 | nil => simp at h
 | cons x l => cases l with
   | nil => simp at h
   | cons y l => rfl
theorem one3_none {l : List Nat} (h : l.length = 0) : one3 l = -33 := by
 cases l with
 | nil => rfl
 | cons x l => simp at h
theorem act_mend {d : Desk} {s : Nat} (h : s < 2 ^ (d.now.long - 1)) : act d (.mend s) = (d, Km469.only (one3 (d.now.code.filter fun w => (lost d.now.long w).contains s))) := by
 simp only [act, bad_no h, Bool.false_eq_true, if_false]
 cases d.now.code.filter (fun w => (lost d.now.long w).contains s) with
 | nil => rfl
 | cons x r => cases r <;> rfl
theorem act_mendG {d : Desk} {s : Nat} (h : s < 2 ^ (d.now.long + 1)) : act d (.mendG s) = (d, Km469.only (one3 (d.now.code.filter fun w => (gained d.now.long w).contains s))) := by
 simp only [act, bad_no h, Bool.false_eq_true, if_false]
 cases d.now.code.filter (fun w => (gained d.now.long w).contains s) with
 | nil => rfl
 | cons x r => cases r <;> rfl
theorem act_back {d : Desk} {a s : Nat} (h : s < 2 ^ (d.now.long - 1)) : act d (.back_ a s) = (d, Km469.only (if a ≤ d.now.long then one3 (Km469.back_ d.now.long a s).toList else -22)) := by
 by_cases ha : a ≤ d.now.long
 . have ha' : ¬ d.now.long < a := by omega
   rw [if_pos ha]
   simp only [act, bad_no h, ha', Bool.false_eq_true, if_false]
   cases Km469.back_ d.now.long a s <;> rfl
 . have ha' : d.now.long < a := by omega
   rw [if_neg ha]
   simp only [act, bad_no h, ha', Bool.false_eq_true, if_false, if_true]
theorem act_out {d : Desk} {a s : Nat} (h : s < 2 ^ (d.now.long + 1)) : act d (.out_ a s) = (d, Km469.only (if a ≤ d.now.long then one3 (Km469.out_ d.now.long a s).toList else -22)) := by
 by_cases ha : a ≤ d.now.long
 . have ha' : ¬ d.now.long < a := by omega
   rw [if_pos ha]
   simp only [act, bad_no h, ha', Bool.false_eq_true, if_false]
   cases Km469.out_ d.now.long a s <;> rfl
 . have ha' : d.now.long < a := by omega
   rw [if_neg ha]
   simp only [act, bad_no h, ha', Bool.false_eq_true, if_false, if_true]
theorem op_in_seqK {X : Cx} {K : W.Frag} (hK : X.K = K) : OpR X (compareOp .In) (rIn K false) := by
 subst hK
 exact op_in_seq
variable {P : Program} {w : World} {K : W.Frag} {mg : Str → Option Value} {base : Heap}
def sp_one (K : W.Frag) : Sp := fun vs H Q _ => ∃ (a : Addr) (l : List Nat), vs = [.ref a] /\ SqL K H a (vis l) /\ ∀ H' r, Same H H' -> H r = none -> H' r = some (.lst [.int (one3 l)]) -> Q (.ref r) H'
theorem sc_one : FnScope ["words"] ["words"] (defScope s_the_one_of) := sc_by rfl (by decide +kernel)
theorem ok_one {f : Addr} {fd : FuncData} (F : Fun K "the_one_of" "the_one_of" s_the_one_of f fd) (O : Own mg) (TM : TxtM mg) : FnOk P w K mg base CX0 1 f fd ["words"] (sp_one K) := by
 refine F.ok sc_one (fun _ _ _ _ h => ?_) (fun _ _ _ _ H vs Q E hr h => ?_)
 . obtain ⟨a, l, rfl, _⟩ := h
   rfl
 . obtain ⟨a, l, rfl, hs, q⟩ := h
   obtain ⟨t1, h1⟩ := TM.no
   obtain ⟨t2, h2⟩ := TM.sev
   refine ⟨_, q3z (ps_if (pt_cmpR op_eq (q16z q15z (by rfl) O.len boot_len (q0z (pv 0) q2z)) q10z (nomark _)) (q4z (q8z (q13z (q0z (q14z (v := .int (-33)) rfl h1 ⟨_, rfl⟩) q2z)))) pss_nil)
    (q3z (ps_if (pt_cmpR op_gt (q16z q15z (by rfl) O.len boot_len (q0z (pv 0) q2z)) q10z (nomark _)) (q4z (q8z (q13z (q0z (q14z (v := .int (-16)) rfl h2 ⟨_, rfl⟩) q2z)))) pss_nil)
    (q4z (q8z (q13z (q0z (pe_ix ix_list (pv 0) q10z (fun _ _ => rfl)) q2z))))), ?_⟩
   refine ⟨_, rfl, a, _, rfl, .inl hs, rfl, _, rfl, ?_⟩
   have e : decide (V.int ((vis l).length : Int) = V.int 0) = decide (l.length = 0) := by
    rw [q9z]
    exact vi_eq l.length 0
   rw [e]
   refine ite2 (fun hc => ?_) (fun hc => ?_)
   . have e3 := one3_none (of_decide_eq_true hc)
     rw [e3] at q
     refine ⟨sz1, fun r hr0 => ?_⟩
     exact q _ r (sU (Same.refl H) hr0) hr0 q1z
   . have hc' : ¬ l.length = 0 := fun z => hc (decide_eq_true z)
     refine ⟨_, rfl, a, _, rfl, .inl hs, _, _, rfl, rfl, _, rfl, ?_⟩
     rw [q9z]
     refine ite2 (fun hg => ?_) (fun hg => ?_)
     . have hg' : 1 < l.length := by have := of_decide_eq_true hg; omega
       have e3 := one3_many hg'
       rw [e3] at q
       refine ⟨sz1, fun r hr0 => ?_⟩
       exact q _ r (sU (Same.refl H) hr0) hr0 q1z
     . have hg' : l.length = 1 := by
        have : ¬ 1 < l.length := fun z => hg (decide_eq_true (by omega))
        omega
       obtain ⟨x, rfl⟩ := List.length_eq_one_iff.mp hg'
       refine ⟨_, rfl, a, _, _, _, rfl, rfl, hs, atI_nat (j := 0) (xs := vis [x]) (v := vi x) rfl, sz1, fun r hr0 => ?_⟩
       exact q _ r (sU (Same.refl H) hr0) hr0 q1z
def sp_bl (CS : Addr) : Sp := fun vs H Q _ => ∃ (p h : Addr) (n s : Nat), vs = [.ref p, vi s] /\ SV CS H p n h /\ 1 ≤ n /\ n ≤ 10 /\ s < 2 ^ (n - 1) /\ ∀ H' r, Same H H' -> H r = none -> H' r = some (.lst (vis (rising (gained (n - 1) s)))) -> Q (.ref r) H'
def sp_bg (CS : Addr) : Sp := fun vs H Q _ => ∃ (p h : Addr) (n s : Nat), vs = [.ref p, vi s] /\ SV CS H p n h /\ 1 ≤ n /\ n ≤ 10 /\ s < 2 ^ (n + 1) /\ ∀ H' r, Same H H' -> H r = none -> H' r = some (.lst (vis (rising (lost (n + 1) s)))) -> Q (.ref r) H'
theorem sc_bl : FnScope ["session", "shorter"] ["session", "shorter"] (defScope s_before_losing) := sc_by rfl (by decide +kernel)
theorem ok_bl {CS f : Addr} {fd : FuncData} (F : Fun K "before_losing" "before_losing" s_before_losing f fd) (T : TxtS K mg CS) (DG : Def P w K mg base "gained" 3 ["word", "n"] sp_gained) : FnOk P w K mg base CX0 4 f fd ["session", "shorter"] (sp_bl CS) := by
 refine F.ok sc_bl (fun _ _ _ _ h => ?_) (fun _ _ _ _ H vs Q E hr h => ?_)
 . obtain ⟨p, h, n, s, rfl, _⟩ := h
   rfl
 . obtain ⟨p, h, n, s, rfl, ⟨dx, wa, ep, ew⟩, n1, n10, hs, q⟩ := h
   refine ⟨_, q4z (q8z (q6z DG hr rfl (q0z (pv 1) (q0z (pe_op op_subN (q11z (pv 0) rfl) q10z) q2z)))), ?_⟩
   exact ⟨_, rfl, _, rfl, p, CS, dx, _, _, rfl, ep, T.cl, T.nN, fsS_gn, n, 1, rfl, rfl, n1, s, n - 1, rfl, by omega, hs, fun H' r a b c => q H' r a b c⟩
theorem sc_bg : FnScope ["session", "longer"] ["session", "longer"] (defScope s_before_gaining) := sc_by rfl (by decide +kernel)
theorem ok_bg {CS f : Addr} {fd : FuncData} (F : Fun K "before_gaining" "before_gaining" s_before_gaining f fd) (T : TxtS K mg CS) (DL : Def P w K mg base "lost" 3 ["word", "n"] sp_lost) : FnOk P w K mg base CX0 4 f fd ["session", "longer"] (sp_bg CS) := by
 refine F.ok sc_bg (fun _ _ _ _ h => ?_) (fun _ _ _ _ H vs Q E hr h => ?_)
 . obtain ⟨p, h, n, s, rfl, _⟩ := h
   rfl
 . obtain ⟨p, h, n, s, rfl, ⟨dx, wa, ep, ew⟩, n1, n10, hs, q⟩ := h
   refine ⟨_, q4z (q8z (q6z DL hr rfl (q0z (pv 1) (q0z (pe_op op_addN (q11z (pv 0) rfl) q10z) q2z)))), ?_⟩
   exact ⟨_, rfl, _, rfl, p, CS, dx, _, _, rfl, ep, T.cl, T.nN, fsS_gn, n, 1, rfl, rfl, trivial, s, n + 1, rfl, by omega, by omega, hs, fun H' r a b c => q H' r a b c⟩
def sp_ooc (CH CS : Addr) (K : W.Frag) : Sp := fun vs H Q _ => ∃ (p a : Addr) (F : List Addr) (d : Desk) (l : List Nat), vs = [.ref p, .ref a] /\ Sess CH CS F H p d /\ SqL K H a (vis l) /\ l.length ≤ 100 /\
 ∀ H' r, Same H H' → H r = none → H' r = some (.lst [.int (one3 (l.filter fun w => decide (w ∈ d.now.code)))]) → Q (.ref r) H'
theorem sc_ooc : FnScope ["session", "words", "word"] ["session", "words"] (defScope s_one_of_code) := sc_by rfl (by decide +kernel)
theorem ok_ooc {CH CS f : Addr} {fd : FuncData} (F : Fun K "one_of_code" "one_of_code" s_one_of_code f fd) (TH : TxtH K mg CH) (T : TxtS K mg CS) (DO : Def P w K mg base "the_one_of" 1 ["words"] (sp_one K)) : FnOk P w K mg base CX0 2 f fd ["session", "words"] (sp_ooc CH CS K) := by
 refine F.ok sc_ooc (fun _ _ _ _ h => ?_) (fun _ _ _ _ H vs Q E hr h => ?_)
 . obtain ⟨p, a, Fp, d, l, rfl, _⟩ := h
   rfl
 . obtain ⟨p, a, Fp, d, l, rfl, se, hs, hl, q⟩ := h
   obtain ⟨dx, wa, h, dh, tc, le, ll, eF, ep, ew, hi⟩ := se.ex
   refine ⟨_, q4z (q8z (q6z DO hr rfl (q0z
    (pe_lc (own := [("word", 2)]) rfl sc_ooc.nd (pi_list (pv 1)) (blkOk_by (by show blkC ["session", "words", "word"] (defScope s_one_of_code) _ _ = true; decide +kernel)) (fun _ _ _ _ _ => pg_name (i := 2) sc_ooc.nd rfl (Or.inl rfl))
     (fun _ _ _ _ _ => pts_one (pt_cmpR (op_in_seqK (K := K) rfl) (pv 2) (pe_fldK (K := K) rfl (pe_fldK (K := K) rfl (pv 0) rfl) rfl) (by with_unfolding_all rfl))) (fun _ _ _ _ _ => pv 2)) q2z))), ?_⟩
   refine ⟨_, rfl, a, rfl, ⟨_, hs⟩, fun D hD =>
    lc_list (K := K) (a := a) (xs := vis l) (fun i H' => H' D = some (.lst (vis ((l.take i).filter fun w => decide (w ∈ d.now.code)))) ∧ Same H H') ⟨q1z, sU (Same.refl H) hD⟩ (fun i H' _ e => sq_keep hs e.2) ?_ ?_⟩
   . rintro i y H' hi2 ⟨eD, s1⟩
     obtain ⟨z, hz, rfl⟩ := vis_get hi2
     refine ⟨rfl, _, rfl, _, rfl, p, CS, dx, _, _, rfl, s1 _ _ ep, T.cl, T.nH, fsS_gh, h, CH, dh, _, _, rfl, s1 _ _ hi.obj, TH.cl, TH.nC, fsH_gcode, tc, _, rfl, .inr (SqT.of (s1 _ _ hi.code)), rfl, flat_vis _, _, rfl, ?_⟩
     rw [in_vis, take_snoc hz, List.filter_append, List.filter_cons, List.filter_nil]
     refine ite2 (fun hc => ?_) (fun hc => ?_)
     . have hc' : decide (z ∈ d.now.code) = true := hc
       refine ⟨_, rfl, _, eD, ?_, ?_, same_upd' s1 hD⟩
       . rw [q9z]
         refine small1000 (Nat.le_trans (List.length_filter_le _ _) ?_)
         rw [List.length_take]
         omega
       . rw [q1z, if_pos hc', vis_append]
         rfl
     . have hc' : ¬ decide (z ∈ d.now.code) = true := hc
       rw [if_neg hc', List.append_nil]
       exact ⟨eD, s1⟩
   . rintro H' ⟨eD, s1⟩
     rw [q9z, List.take_length] at eD
     exact ⟨D, _, rfl, SqL.of eD, fun H2 r s2 fr er => q H2 r (s1.trans s2) (s1.free fr) er⟩
def sp_ocl (CH CS : Addr) (K : W.Frag) : Sp := fun vs H Q _ => ∃ (p b : Addr) (F : List Addr) (d : Desk) (a : Nat) (l : List Nat), vs = [.ref p, vi a, .ref b] /\ Sess CH CS F H p d /\ SqL K H b (vis l) /\ l.length ≤ 100 /\ (∀ x ∈ l, x < 2 ^ d.now.long) /\
 ∀ H' r, Same H H' → H r = none → H' r = some (.lst [.int (if a ≤ d.now.long then one3 (l.filter fun w => weight d.now.long w % (d.now.long + 1) == a) else -22)]) → Q (.ref r) H'
theorem sc_ocl : FnScope ["session", "a", "words", "word"] ["session", "a", "words"] (defScope s_one_of_class) := sc_by rfl (by decide +kernel)
theorem ok_ocl {CH CS f : Addr} {fd : FuncData} (F : Fun K "one_of_class" "one_of_class" s_one_of_class f fd) (T : TxtS K mg CS) (TC : TxtC mg) (DO : Def P w K mg base "the_one_of" 1 ["words"] (sp_one K)) (DH : MDef P w K mg base CS "has_class" 1 ["self", "a"] (sp_has_class CS)) (DC : MDef P w K mg base CS "class_of" 1 ["self", "word"] (sp_class_of CS)) :
 FnOk P w K mg base CX0 2 f fd ["session", "a", "words"] (sp_ocl CH CS K) := by
 refine F.ok sc_ocl (fun _ _ _ _ h => ?_) (fun _ _ _ _ H vs Q E hr h => ?_)
 . obtain ⟨p, b, Fp, d, a, l, rfl, _⟩ := h
   rfl
 . obtain ⟨p, b, Fp, d, a, l, rfl, se, hs, hl, hlt, q⟩ := h
   obtain ⟨dx, wa, h, dh, tc, le, ll, eF, ep, ew, hi⟩ := se.ex
   obtain ⟨t1, h1⟩ := TC.oor
   have sv : SV CS H p d.now.long h := ⟨dx, wa, ep, ew⟩
   refine ⟨_, q3z (ps_if (pt_not (pt_val (pe_methD (pv 0) T.cl DH hr (q0z (pv 1) q2z)))) (q4z (q8z (q13z (q0z (q14z (v := .int (-22)) rfl h1 ⟨_, rfl⟩) q2z)))) pss_nil)
    (q4z (q8z (q6z DO hr rfl (q0z
    (pe_lc (own := [("word", 3)]) rfl sc_ocl.nd (pi_list (pv 2)) (blkOk_by (by show blkC ["session", "a", "words", "word"] (defScope s_one_of_class) _ _ = true; decide +kernel)) (fun _ _ _ _ _ => pg_name (i := 3) sc_ocl.nd rfl (Or.inl rfl))
     (fun _ _ _ _ _ => pts_one (pt_cmpR op_eq (pe_methD (pv 0) T.cl DC hr (q0z (pv 3) q2z)) (pv 1) (nomark _))) (fun _ _ _ _ _ => pv 3)) q2z)))), ?_⟩
   refine ⟨_, rfl, p, dx, _, rfl, ep, fsS_no (by decide +kernel) (by decide +kernel) (by decide +kernel), _, rfl, p, h, d.now.long, a, rfl, sv, _, rfl, ?_⟩
   show if (!decide (a ≤ d.now.long)) = true then _ else _
   refine ite2 (fun hc => ?_) (fun hc => ?_)
   . have hc' : ¬ a ≤ d.now.long := by simpa using hc
     rw [if_neg hc'] at q
     refine ⟨sz1, fun r hr0 => ?_⟩
     exact q _ r (sU (Same.refl H) hr0) hr0 q1z
   . have hc' : a ≤ d.now.long := by simpa using hc
     rw [if_pos hc'] at q
     refine ⟨_, rfl, b, rfl, ⟨_, hs⟩, fun D hD =>
      lc_list (K := K) (a := b) (xs := vis l) (fun i H' => H' D = some (.lst (vis ((l.take i).filter fun w => weight d.now.long w % (d.now.long + 1) == a))) ∧ Same H H') ⟨q1z, sU (Same.refl H) hD⟩ (fun i H' _ e => sq_keep hs e.2) ?_ ?_⟩
     . rintro i y H' hi2 ⟨eD, s1⟩
       obtain ⟨z, hz, rfl⟩ := vis_get hi2
       refine ⟨rfl, _, rfl, p, dx, _, rfl, s1 _ _ ep, fsS_no (by decide +kernel) (by decide +kernel) (by decide +kernel), _, rfl, p, h, d.now.long, z, rfl, sv.keep s1, hlt z (List.mem_of_getElem? hz), _, rfl, rfl, _, rfl, ?_⟩
       rw [vi_eq, take_snoc hz, List.filter_append, List.filter_cons, List.filter_nil]
       refine ite2 (fun hg => ?_) (fun hg => ?_)
       . have hg' : (weight d.now.long z % (d.now.long + 1) == a) = true := by simpa using hg
         refine ⟨_, rfl, _, eD, ?_, ?_, same_upd' s1 hD⟩
         . rw [q9z]
           refine small1000 (Nat.le_trans (List.length_filter_le _ _) ?_)
           rw [List.length_take]
           omega
         . rw [q1z, if_pos hg', vis_append]
           rfl
       . have hg' : ¬ (weight d.now.long z % (d.now.long + 1) == a) = true := fun y => hg (by simpa using y)
         rw [if_neg hg', List.append_nil]
         exact ⟨eD, s1⟩
     . rintro H' ⟨eD, s1⟩
       rw [q9z, List.take_length] at eD
       exact ⟨D, _, rfl, SqL.of eD, fun H2 r s2 fr er => q H2 r (s1.trans s2) (s1.free fr) er⟩
theorem sc_mlost : FnScope ["session", "given"] ["session", "given"] (defScope s_mend_lost) := sc_by rfl (by decide +kernel)
theorem ok_mlost {CH CS f : Addr} {fd : FuncData} (F : Fun K "mend_lost" "mend_lost" s_mend_lost f fd) (DO : Def P w K mg base "one_of_code" 2 ["session", "words"] (sp_ooc CH CS K)) (DB : Def P w K mg base "before_losing" 4 ["session", "shorter"] (sp_bl CS)) :
 FnOk P w K mg base CX0 5 f fd ["session", "given"] (sp1 CH CS K .mend fun n x => x < 2 ^ (n - 1)) := by
 refine F.ok sc_mlost (fun _ _ _ _ h => ?_) (fun _ _ _ _ H vs Q E hr h => ?_)
 . obtain ⟨p, g, Fp, d, x, rfl, _⟩ := h
   rfl
 . obtain ⟨p, g, Fp, d, x, rfl, se, hg, hx, q⟩ := h
   obtain ⟨dx, wa, h, dh, tc, le, ll, eF, ep, ew, hi⟩ := se.ex
   have n2 := se.ok.n2
   have n10 := se.ok.n10
   have hr2 : Room 2 _ := hr.mono (by decide)
   refine ⟨_, q4z (q8z (q6z DO hr2 rfl (q0z (pv 0) (q0z (q6z DB hr rfl (q0z (pv 0) (q0z (pe_ix ix_list (pv 1) q10z (fun _ _ => rfl)) q2z))) q2z)))), ?_⟩
   refine ⟨_, rfl, _, rfl, _, rfl, g, _, _, _, rfl, rfl, hg, atI_nat (j := 0) (xs := vis [x]) (v := vi x) rfl, p, h, d.now.long, x, rfl, ⟨dx, wa, ep, ew⟩, by omega, n10, hx, fun H1 t s1 ft et => ?_⟩
   refine ⟨p, t, Fp, d, _, rfl, se.keep s1, SqL.of et, by have := LL.rising_gained_len hx; omega, fun H2 r s2 fr er => ?_⟩
   rw [act_mend hx] at q
   refine q H2 Fp r (se.keep (s1.trans s2)) (After.same (s1.trans s2)) (s1.free fr) ?_
   rw [er, LL.mend_eq (by omega) hx se.ok.now.up se.ok.now.lt]
   rfl
theorem sc_mgain : FnScope ["session", "given"] ["session", "given"] (defScope s_mend_gained) := sc_by rfl (by decide +kernel)
theorem ok_mgain {CH CS f : Addr} {fd : FuncData} (F : Fun K "mend_gained" "mend_gained" s_mend_gained f fd) (DO : Def P w K mg base "one_of_code" 2 ["session", "words"] (sp_ooc CH CS K)) (DB : Def P w K mg base "before_gaining" 4 ["session", "longer"] (sp_bg CS)) :
 FnOk P w K mg base CX0 5 f fd ["session", "given"] (sp1 CH CS K .mendG fun n x => x < 2 ^ (n + 1)) := by
 refine F.ok sc_mgain (fun _ _ _ _ h => ?_) (fun _ _ _ _ H vs Q E hr h => ?_)
 . obtain ⟨p, g, Fp, d, x, rfl, _⟩ := h
   rfl
 . obtain ⟨p, g, Fp, d, x, rfl, se, hg, hx, q⟩ := h
   obtain ⟨dx, wa, h, dh, tc, le, ll, eF, ep, ew, hi⟩ := se.ex
   have n2 := se.ok.n2
   have n10 := se.ok.n10
   have hr2 : Room 2 _ := hr.mono (by decide)
   refine ⟨_, q4z (q8z (q6z DO hr2 rfl (q0z (pv 0) (q0z (q6z DB hr rfl (q0z (pv 0) (q0z (pe_ix ix_list (pv 1) q10z (fun _ _ => rfl)) q2z))) q2z)))), ?_⟩
   refine ⟨_, rfl, _, rfl, _, rfl, g, _, _, _, rfl, rfl, hg, atI_nat (j := 0) (xs := vis [x]) (v := vi x) rfl, p, h, d.now.long, x, rfl, ⟨dx, wa, ep, ew⟩, by omega, n10, hx, fun H1 t s1 ft et => ?_⟩
   refine ⟨p, t, Fp, d, _, rfl, se.keep s1, SqL.of et, by have := LL.rising_lost_len (d.now.long + 1) x; omega, fun H2 r s2 fr er => ?_⟩
   rw [act_mendG hx] at q
   refine q H2 Fp r (se.keep (s1.trans s2)) (After.same (s1.trans s2)) (s1.free fr) ?_
   rw [er, LL.mendg_eq hx se.ok.now.up se.ok.now.lt]
   rfl
theorem sc_pback : FnScope ["session", "given"] ["session", "given"] (defScope s_put_back) := sc_by rfl (by decide +kernel)
theorem ok_pback {CH CS f : Addr} {fd : FuncData} (F : Fun K "put_back" "put_back" s_put_back f fd) (DO : Def P w K mg base "one_of_class" 2 ["session", "a", "words"] (sp_ocl CH CS K)) (DB : Def P w K mg base "before_losing" 4 ["session", "shorter"] (sp_bl CS)) :
 FnOk P w K mg base CX0 5 f fd ["session", "given"] (sp2 CH CS K .back_ fun n _ x => x < 2 ^ (n - 1)) := by
 refine F.ok sc_pback (fun _ _ _ _ h => ?_) (fun _ _ _ _ H vs Q E hr h => ?_)
 . obtain ⟨p, g, Fp, d, a, x, rfl, _⟩ := h
   rfl
 . obtain ⟨p, g, Fp, d, a, x, rfl, se, hg, hx, q⟩ := h
   obtain ⟨dx, wa, h, dh, tc, le, ll, eF, ep, ew, hi⟩ := se.ex
   have n2 := se.ok.n2
   have n10 := se.ok.n10
   have hr2 : Room 2 _ := hr.mono (by decide)
   refine ⟨_, q4z (q8z (q6z DO hr2 rfl (q0z (pv 0) (q0z (pe_ix ix_list (pv 1) q10z (fun _ _ => rfl)) (q0z (q6z DB hr rfl (q0z (pv 0) (q0z (pe_ix ix_list (pv 1) q10z (fun _ _ => rfl)) q2z))) q2z))))), ?_⟩
   refine ⟨_, rfl, _, rfl, g, _, _, _, rfl, rfl, hg, atI_nat (j := 0) (xs := vis [a, x]) (v := vi a) rfl, _, rfl, _, rfl, g, _, _, _, rfl, rfl, hg, atI_nat (j := 1) (xs := vis [a, x]) (v := vi x) rfl, p, h, d.now.long, x, rfl, ⟨dx, wa, ep, ew⟩, by omega, n10, hx, fun H1 t s1 ft et => ?_⟩
   refine ⟨p, t, Fp, d, a, _, rfl, se.keep s1, SqL.of et, by have := LL.rising_gained_len hx; omega, fun y hy => ?_, fun H2 r s2 fr er => ?_⟩
   . have := LL.gained_lt hx ((LL.mem_rising _).mp hy)
     rw [Nat.sub_add_cancel (by omega)] at this
     exact this
   rw [act_back hx] at q
   refine q H2 Fp r (se.keep (s1.trans s2)) (After.same (s1.trans s2)) (s1.free fr) ?_
   rw [er, LL.back_eq (by omega) hx]
   rfl
theorem sc_tout : FnScope ["session", "given"] ["session", "given"] (defScope s_take_out) := sc_by rfl (by decide +kernel)
theorem ok_tout {CH CS f : Addr} {fd : FuncData} (F : Fun K "take_out" "take_out" s_take_out f fd) (DO : Def P w K mg base "one_of_class" 2 ["session", "a", "words"] (sp_ocl CH CS K)) (DB : Def P w K mg base "before_gaining" 4 ["session", "longer"] (sp_bg CS)) :
 FnOk P w K mg base CX0 5 f fd ["session", "given"] (sp2 CH CS K .out_ fun n _ x => x < 2 ^ (n + 1)) := by
 refine F.ok sc_tout (fun _ _ _ _ h => ?_) (fun _ _ _ _ H vs Q E hr h => ?_)
 . obtain ⟨p, g, Fp, d, a, x, rfl, _⟩ := h
   rfl
 . obtain ⟨p, g, Fp, d, a, x, rfl, se, hg, hx, q⟩ := h
   obtain ⟨dx, wa, h, dh, tc, le, ll, eF, ep, ew, hi⟩ := se.ex
   have n2 := se.ok.n2
   have n10 := se.ok.n10
   have hr2 : Room 2 _ := hr.mono (by decide)
   refine ⟨_, q4z (q8z (q6z DO hr2 rfl (q0z (pv 0) (q0z (pe_ix ix_list (pv 1) q10z (fun _ _ => rfl)) (q0z (q6z DB hr rfl (q0z (pv 0) (q0z (pe_ix ix_list (pv 1) q10z (fun _ _ => rfl)) q2z))) q2z))))), ?_⟩
   refine ⟨_, rfl, _, rfl, g, _, _, _, rfl, rfl, hg, atI_nat (j := 0) (xs := vis [a, x]) (v := vi a) rfl, _, rfl, _, rfl, g, _, _, _, rfl, rfl, hg, atI_nat (j := 1) (xs := vis [a, x]) (v := vi x) rfl, p, h, d.now.long, x, rfl, ⟨dx, wa, ep, ew⟩, by omega, n10, hx, fun H1 t s1 ft et => ?_⟩
   refine ⟨p, t, Fp, d, a, _, rfl, se.keep s1, SqL.of et, by have := LL.rising_lost_len (d.now.long + 1) x; omega, fun y hy => LL.lost_lt hx ((LL.mem_rising _).mp hy), fun H2 r s2 fr er => ?_⟩
   rw [act_out hx] at q
   refine q H2 Fp r (se.keep (s1.trans s2)) (After.same (s1.trans s2)) (s1.free fr) ?_
   rw [er, LL.out_eq hx]
   rfl
def tMethD0 (C : Addr) (m : Str) (sp : Sp) (ta : TE) : TE := fun σ H Q => ta σ H fun x H1 => ∃ a dx fs, x = .ref a /\ H1 a = some (.ins C dx fs) /\ fs.lookup m = none /\ sp [x] H1 Q E0
theorem pe_methD0 {X : Cx} {C : Addr} {m : Str} {k : Nat} {ps : List Str} {sp : Sp} {o : Expr} {ta : TE} {apos pos : Pos} {pl : Sem Bool} (he : PE X o ta) (c : Cls X.K C) (D : MDef X.prog X.w X.K X.mg X.base C m k ps sp) (hr : Room k X.A) (hx : Passes CX0 X E0 := pass0)
 (ht : eval (.Call (.Attribute o m apos) [] [] pos) X.env = (do
  let ov ← eval o X.env
  standAt apos.atName
  let (f, first) ← holding [ov] (getMethod ov m pl)
  callWith pos f first (backTo pos (starEach [] X.env)) (backToKw pos (keywordEach [] X.env))) := by rfl) : PE X (.Call (.Attribute o m apos) [] [] pos) (tMethD0 C m sp ta) := by
 obtain ⟨f, fd, F, hm, hb⟩ := D
 exact pe_meth0 (E := E0) (dvs := []) (ds := []) he c hm F hr hb .nil hx ht
theorem codes_cons (k : Km469.Code_) (r : List Km469.Code_) : codes (k :: r) = codes r ++ [k.code] := by
 unfold codes
 rw [List.reverse_cons, List.map_append]
 rfl
theorem codes_len (l : List Km469.Code_) : (codes l).length = l.length := by
 unfold codes
 rw [List.length_map, List.length_reverse]
theorem sess_step {CH CS : Addr} {H H' : Hp} {p dx wa h dh tc tc' le ll : Addr} {d d' : Desk} (se : Sess CH CS [p, h, le, ll, wa] H p d) (ep : H p = some (.ins CS dx (fsS d.now.long wa h))) (ew : H wa = some (.lst (vis (LL.wl d.now.long))))
 (hi : Hist CH H h dh tc le ll d.now.code (codes d.past) (codes d.future)) (hn : d'.now.long = d.now.long) (ok : DeskOk d') (npl : wa ≠ le ∧ wa ≠ ll) (hi' : Hist CH H' h dh tc' le ll d'.now.code (codes d'.past) (codes d'.future)) (kp : ∀ b o, H b = some o → b ≠ h → b ≠ le → b ≠ ll → H' b = some o) :
 Sess CH CS [p, h, le, ll, wa] H' p d' ∧ After [p, h, le, ll, wa] [p, h, le, ll, wa] H H' := by
 obtain ⟨as, eas, _⟩ := hi.ear
 obtain ⟨bs, ebs, _⟩ := hi.lat
 obtain ⟨as', eas', _⟩ := hi'.ear
 obtain ⟨bs', ebs', _⟩ := hi'.lat
 have nph : p ≠ h := fun z => by
  have a1 := hi.obj
  rw [← z, ep] at a1
  have a2 := Option.some.inj a1
  injection a2 with _ _ a3
  have a4 := congrArg (fun l => List.lookup ("n" : Str) l) a3
  simp only [fsS_gn] at a4
  rw [fsH_no (by decide +kernel) (by decide +kernel) (by decide +kernel)] at a4
  cases a4
 have npe : p ≠ le := fun z => by rw [← z, ep] at eas; cases eas
 have npl' : p ≠ ll := fun z => by rw [← z, ep] at ebs; cases ebs
 have nwh : wa ≠ h := fun z => by rw [z, hi.obj] at ew; cases ew
 refine ⟨⟨ok, dx, wa, h, dh, tc', le, ll, rfl, ?_, ?_, hi'⟩, fun b hb => .inl hb, fun b o e nb => kp b o e (fun z => nb (by rw [z]; simp)) (fun z => nb (by rw [z]; simp)) (fun z => nb (by rw [z]; simp)), fun b o e => ?_⟩
 . rw [hn]; exact kp _ _ ep nph npe npl'
 . rw [hn]; exact kp _ _ ew nwh npl.1 npl.2
 . by_cases z1 : b = h
   . exact ⟨_, by rw [z1]; exact hi'.obj⟩
   . by_cases z2 : b = le
     . exact ⟨_, by rw [z2]; exact eas'⟩
     . by_cases z3 : b = ll
       . exact ⟨_, by rw [z3]; exact ebs'⟩
       . exact ⟨o, kp b o e z1 z2 z3⟩
theorem desk_undo {d : Desk} {k : Km469.Code_} {r : List Km469.Code_} (x : DeskOk d) (e : d.past = k :: r) : DeskOk ⟨k, r, d.now :: d.future⟩ := by
 have hk := x.past k (by rw [e]; simp)
 have ht := x.tot
 rw [e] at ht
 refine ⟨by show 2 ≤ k.long; rw [hk.1]; exact x.n2, by show k.long ≤ 10; rw [hk.1]; exact x.n10, by show GoodC k.long k.code; rw [hk.1]; exact hk.2, fun j hj => ?_, fun j hj => ?_, by simp at ht ⊢; omega⟩
 . show j.long = k.long ∧ GoodC k.long j.code
   rw [hk.1]
   exact x.past j (by rw [e]; exact List.mem_cons_of_mem _ hj)
 . show j.long = k.long ∧ GoodC k.long j.code
   rw [hk.1]
   rcases List.mem_cons.mp hj with rfl | hj
   . exact ⟨rfl, x.now⟩
   . exact x.fut j hj
theorem desk_again {d : Desk} {k : Km469.Code_} {r : List Km469.Code_} (x : DeskOk d) (e : d.future = k :: r) : DeskOk ⟨k, d.now :: d.past, r⟩ := by
 have hk := x.fut k (by rw [e]; simp)
 have ht := x.tot
 rw [e] at ht
 refine ⟨by show 2 ≤ k.long; rw [hk.1]; exact x.n2, by show k.long ≤ 10; rw [hk.1]; exact x.n10, by show GoodC k.long k.code; rw [hk.1]; exact hk.2, fun j hj => ?_, fun j hj => ?_, by simp at ht ⊢; omega⟩
 . show j.long = k.long ∧ GoodC k.long j.code
   rw [hk.1]
   rcases List.mem_cons.mp hj with rfl | hj
   . exact ⟨rfl, x.now⟩
   . exact x.past j hj
 . show j.long = k.long ∧ GoodC k.long j.code
   rw [hk.1]
   exact x.fut j (by rw [e]; exact List.mem_cons_of_mem _ hj)
theorem act_again {d : Desk} {k : Km469.Code_} {r : List Km469.Code_} (x : DeskOk d) (e : d.future = k :: r) : act d .again = (⟨k, d.now :: d.past, r⟩, Km469.only (r.length : Int)) := by
 have ht := x.tot
 rw [e] at ht
 have et : (d.now :: d.past).take Km469.PAST = d.now :: d.past := List.take_of_length_le (by show _ ≤ 20; simp at ht ⊢; omega)
 simp only [act, e, et]
variable {P : Program} {w : World} {K : W.Frag} {mg : Str → Option Value} {base : Heap}
theorem wa_apart {CH : Addr} {H : Hp} {h dh tc le ll wa : Addr} {c : List Nat} {es ls : List (List Nat)} {n : Nat} (hi : Hist CH H h dh tc le ll c es ls) (ew : H wa = some (.lst (vis (LL.wl n)))) : wa ≠ le /\ wa ≠ ll := by
 have key : ∀ as : List Addr, vis (LL.wl n) ≠ as.map V.ref := fun as z => by
  have hl := LL.wl_len n
  have : 0 < (LL.wl n).length := by rw [hl]; exact Nat.two_pow_pos n
  cases e : LL.wl n with
  | nil => rw [e] at this; cases this
  | cons y l =>
    rw [e] at z
    cases as with
    | nil => cases z
    | cons b as => cases z
 obtain ⟨as, eas, _⟩ := hi.ear
 obtain ⟨bs, ebs, _⟩ := hi.lat
 constructor
 . intro z
   rw [z, eas] at ew
   have z1 := Option.some.inj ew
   injection z1 with z2
   exact key as z2.symm
 . intro z
   rw [z, ebs] at ew
   have z1 := Option.some.inj ew
   injection z1 with z2
   exact key bs z2.symm
theorem sc_undo : FnScope ["session", "given"] ["session", "given"] (defScope s_undo) := sc_by rfl (by decide +kernel)
theorem ok_undo {CH CS f : Addr} {fd : FuncData} (F : Fun K "undo" "undo" s_undo f fd) (O : Own mg) (TH : TxtH K mg CH) (T : TxtS K mg CS) (TC : TxtC mg) (DB : MDef P w K mg base CH "take_back" 1 ["self"] (sp_back CH)) : FnOk P w K mg base CX0 2 f fd ["session", "given"] (sp0 CH CS K .undo) := by
 refine F.ok sc_undo (fun _ _ _ _ h => ?_) (fun _ _ _ _ H vs Q E hr h => ?_)
 . obtain ⟨p, gv, Fp, d, rfl, _⟩ := h
   rfl
 . obtain ⟨p, gv, Fp, d, rfl, se, q⟩ := h
   obtain ⟨dx, wa, h, dh, tc, le, ll, eF, ep, ew, hi⟩ := se.ex
   obtain ⟨t1, h1⟩ := TC.nt
   subst eF
   have tot := se.ok.tot
   refine ⟨_, q3z (ps_if (pt_not (pt_val (pe_methD0 (q11z (pv 0) rfl) TH.cl DB hr))) (q4z (q8z (q13z (q0z (q14z (v := .int (-2)) rfl h1 ⟨_, rfl⟩) q2z)))) pss_nil)
    (q4z (q8z (q13z (q0z (q16z q15z (by rfl) O.len boot_len (q0z (q11z (q11z (pv 0) rfl) rfl) q2z)) q2z)))), ?_⟩
   refine ⟨_, rfl, p, CS, dx, _, _, rfl, ep, T.cl, T.nH, fsS_gh, h, dh, _, rfl, hi.obj, fsH_no (by decide +kernel) (by decide +kernel) (by decide +kernel), ?_⟩
   refine ⟨h, dh, tc, le, ll, _, _, _, rfl, hi, by rw [codes_len]; omega, by rw [codes_len]; omega, fun e0 => ?_, fun es' c' e0 H1 tc' hi1 kp => ?_⟩
   . refine ⟨_, rfl, ?_⟩
     have e1 : d.past = [] := List.eq_nil_of_length_eq_zero (by rw [← codes_len, e0]; rfl)
     have ea : act d .undo = (d, Km469.only (-2)) := by simp only [act, e1]
     rw [ea] at q
     refine ⟨sz1, fun r hr0 => ?_⟩
     exact q _ _ r (se.keep (sU (Same.refl H) hr0)) (After.same (sU (Same.refl H) hr0)) hr0 q1z
   . refine ⟨_, rfl, ?_⟩
     obtain ⟨k, r0, e1⟩ : ∃ k r0, d.past = k :: r0 := by
      cases e1 : d.past with
      | nil => rw [e1] at e0; simp [codes] at e0
      | cons k r0 => exact ⟨k, r0, rfl⟩
     have ea : act d .undo = (⟨k, r0, d.now :: d.future⟩, Km469.only (r0.length : Int)) := by simp only [act, e1]
     rw [ea] at q
     rw [e1, codes_cons] at e0
     obtain ⟨z1, z2⟩ := List.append_inj' e0 rfl
     injection z2 with z2 _
     subst z1
     subst z2
     rw [← codes_cons] at hi1
     obtain ⟨se1, af1⟩ := sess_step (d' := ⟨k, r0, d.now :: d.future⟩) se ep ew hi (se.ok.past k (by rw [e1]; simp)).1 (desk_undo se.ok e1) (wa_apart hi ew) hi1 kp
     obtain ⟨dx1, wa1, h1', dh1, tc1, le1, ll1, eF1, ep1, ew1, hi1'⟩ := se1.ex
     injection eF1 with _ eF1
     injection eF1 with y1 eF1
     injection eF1 with y2 eF1
     injection eF1 with y3 eF1
     injection eF1 with y4 eF1
     subst y1 y2 y3 y4
     obtain ⟨as1, eas1, ces1⟩ := hi1'.ear
     have nl : as1.length = r0.length := by rw [ces1.len, codes_len]
     refine ⟨_, rfl, p, CS, dx1, _, _, rfl, ep1, T.cl, T.nH, fsS_gh, h, CH, dh1, _, _, rfl, hi1'.obj, TH.cl, TH.nE, fsH_gear, le, _, rfl, .inl (SqL.of eas1), sz1, fun r hr0 => ?_⟩
     have s2 := sU (o := .lst [V.int ((as1.map V.ref).length : Int)]) (Same.refl H1) hr0
     refine q _ _ r (se1.keep s2) (af1.post s2) (af1.free hr0) ?_
     rw [q1z, List.length_map, nl]
     rfl
theorem sc_redo : FnScope ["session", "given"] ["session", "given"] (defScope s_again) := sc_by rfl (by decide +kernel)
theorem ok_redo {CH CS f : Addr} {fd : FuncData} (F : Fun K "again" "again" s_again f fd) (O : Own mg) (TH : TxtH K mg CH) (T : TxtS K mg CS) (TC : TxtC mg) (DB : MDef P w K mg base CH "do_again" 1 ["self"] (sp_again CH)) : FnOk P w K mg base CX0 2 f fd ["session", "given"] (sp0 CH CS K .again) := by
 refine F.ok sc_redo (fun _ _ _ _ h => ?_) (fun _ _ _ _ H vs Q E hr h => ?_)
 . obtain ⟨p, gv, Fp, d, rfl, _⟩ := h
   rfl
 . obtain ⟨p, gv, Fp, d, rfl, se, q⟩ := h
   obtain ⟨dx, wa, h, dh, tc, le, ll, eF, ep, ew, hi⟩ := se.ex
   obtain ⟨t1, h1⟩ := TC.nt
   subst eF
   have tot := se.ok.tot
   refine ⟨_, q3z (ps_if (pt_not (pt_val (pe_methD0 (q11z (pv 0) rfl) TH.cl DB hr))) (q4z (q8z (q13z (q0z (q14z (v := .int (-2)) rfl h1 ⟨_, rfl⟩) q2z)))) pss_nil)
    (q4z (q8z (q13z (q0z (q16z q15z (by rfl) O.len boot_len (q0z (q11z (q11z (pv 0) rfl) rfl) q2z)) q2z)))), ?_⟩
   refine ⟨_, rfl, p, CS, dx, _, _, rfl, ep, T.cl, T.nH, fsS_gh, h, dh, _, rfl, hi.obj, fsH_no (by decide +kernel) (by decide +kernel) (by decide +kernel), ?_⟩
   refine ⟨h, dh, tc, le, ll, _, _, _, rfl, hi, by rw [codes_len]; omega, by rw [codes_len]; omega, fun e0 => ?_, fun ls' c' e0 H1 tc' hi1 kp => ?_⟩
   . refine ⟨_, rfl, ?_⟩
     have e1 : d.future = [] := List.eq_nil_of_length_eq_zero (by rw [← codes_len, e0]; rfl)
     have ea : act d .again = (d, Km469.only (-2)) := by simp only [act, e1]
     rw [ea] at q
     refine ⟨sz1, fun r hr0 => ?_⟩
     exact q _ _ r (se.keep (sU (Same.refl H) hr0)) (After.same (sU (Same.refl H) hr0)) hr0 q1z
   . refine ⟨_, rfl, ?_⟩
     obtain ⟨k, r0, e1⟩ : ∃ k r0, d.future = k :: r0 := by
      cases e1 : d.future with
      | nil => rw [e1] at e0; simp [codes] at e0
      | cons k r0 => exact ⟨k, r0, rfl⟩
     rw [act_again se.ok e1] at q
     rw [e1, codes_cons] at e0
     obtain ⟨z1, z2⟩ := List.append_inj' e0 rfl
     injection z2 with z2 _
     subst z1
     subst z2
     rw [← codes_cons] at hi1
     obtain ⟨se1, af1⟩ := sess_step (d' := ⟨k, d.now :: d.past, r0⟩) se ep ew hi (se.ok.fut k (by rw [e1]; simp)).1 (desk_again se.ok e1) (wa_apart hi ew) hi1 kp
     obtain ⟨dx1, wa1, h1', dh1, tc1, le1, ll1, eF1, ep1, ew1, hi1'⟩ := se1.ex
     injection eF1 with _ eF1
     injection eF1 with y1 eF1
     injection eF1 with y2 eF1
     injection eF1 with y3 eF1
     injection eF1 with y4 eF1
     subst y1 y2 y3 y4
     obtain ⟨bs1, ebs1, cbs1⟩ := hi1'.lat
     have nl : bs1.length = r0.length := by rw [cbs1.len, codes_len]
     refine ⟨_, rfl, p, CS, dx1, _, _, rfl, ep1, T.cl, T.nH, fsS_gh, h, CH, dh1, _, _, rfl, hi1'.obj, TH.cl, TH.nL, fsH_glat, ll, _, rfl, .inl (SqL.of ebs1), sz1, fun r hr0 => ?_⟩
     have s2 := sU (o := .lst [V.int ((bs1.map V.ref).length : Int)]) (Same.refl H1) hr0
     refine q _ _ r (se1.keep s2) (af1.post s2) (af1.free hr0) ?_
     rw [q1z, List.length_map, nl]
     rfl
theorem sc_tstate : FnScope ["session", "given", "history"] ["session", "given"] (defScope s_tell_state) := sc_by rfl (by decide +kernel)
theorem ok_tstate {CH CS f : Addr} {fd : FuncData} (F : Fun K "tell_state" "tell_state" s_tell_state f fd) (O : Own mg) (TH : TxtH K mg CH) (T : TxtS K mg CS) : FnOk P w K mg base CX0 1 f fd ["session", "given"] (sp0 CH CS K .state) := by
 refine F.ok sc_tstate (fun _ _ _ _ h => ?_) (fun _ _ _ _ H vs Q E hr h => ?_)
 . obtain ⟨p, gv, Fp, d, rfl, _⟩ := h
   rfl
 . obtain ⟨p, gv, Fp, d, rfl, se, q⟩ := h
   obtain ⟨dx, wa, h, dh, tc, le, ll, eF, ep, ew, hi⟩ := se.ex
   obtain ⟨as, eas, ces⟩ := hi.ear
   obtain ⟨bs, ebs, cls⟩ := hi.lat
   have na : as.length = d.past.length := by rw [ces.len, codes_len]
   have nb : bs.length = d.future.length := by rw [cls.len, codes_len]
   refine ⟨_, q3z (q12z (i := 2) sc_tstate.nd rfl (Or.inl rfl) (q11z (pv 0) rfl))
    (q4z (q8z (q13z (q0z (q16z q15z (by rfl) O.len boot_len (q0z (q11z (pv 2) rfl) q2z)) (q0z (q11z (pv 0) rfl) (q0z (q16z q15z (by rfl) O.len boot_len (q0z (q11z (pv 2) rfl) q2z)) (q0z (q16z q15z (by rfl) O.len boot_len (q0z (q11z (pv 2) rfl) q2z)) q2z))))))), ?_⟩
   refine ⟨_, rfl, p, CS, dx, _, _, rfl, ep, T.cl, T.nH, fsS_gh, ?_⟩
   refine ⟨_, rfl, h, CH, dh, _, _, rfl, hi.obj, TH.cl, TH.nC, fsH_gcode, tc, _, rfl, .inr (SqT.of hi.code), _, rfl, p, CS, dx, _, _, rfl, ep, T.cl, T.nN, fsS_gn, _, rfl, h, CH, dh, _, _, rfl, hi.obj, TH.cl, TH.nE, fsH_gear, le, _, rfl, .inl (SqL.of eas),
    _, rfl, h, CH, dh, _, _, rfl, hi.obj, TH.cl, TH.nL, fsH_glat, ll, _, rfl, .inl (SqL.of ebs), (by show 4 ≤ sizeLine; decide), fun r hr0 => ?_⟩
   have ea : act d .state = (d, ⟨(d.now.code.length : Int), [d.now.long, d.past.length, d.future.length]⟩) := rfl
   rw [ea] at q
   have s2 := sU (o := .lst [V.int ((vis d.now.code).length : Int), vi d.now.long, V.int ((as.map V.ref).length : Int), V.int ((bs.map V.ref).length : Int)]) (Same.refl H) hr0
   refine q _ Fp r (se.keep s2) (After.same s2) hr0 ?_
   rw [q1z, q9z, List.length_map, List.length_map, na, nb]
   rfl
variable {P : Program} {w : World} {K : W.Frag} {mg : Str → Option Value} {base : Heap}
theorem sc_talike : FnScope ["session", "given", "first", "second", "losing_one", "gaining_one"] ["session", "given"] (defScope s_tell_alike) := sc_by rfl (by decide +kernel)
theorem ok_talike {CH CS f : Addr} {fd : FuncData} (F : Fun K "tell_alike" "tell_alike" s_tell_alike f fd) (T : TxtS K mg CS) (TC : TxtC mg) (DA : Def P w K mg base "alike_by_losing" 5 ["first", "second", "n"] sp_alike) (DG : Def P w K mg base "alike_by_gaining" 4 ["first", "second", "n"] sp_alikeG) :
 FnOk P w K mg base CX0 6 f fd ["session", "given"] (sp2 CH CS K .alike fun n x y => x < 2 ^ n ∧ y < 2 ^ n) := by
 refine F.ok sc_talike (fun _ _ _ _ h => ?_) (fun _ _ _ _ H vs Q E hr h => ?_)
 . obtain ⟨p, g, Fp, d, x, y, rfl, _⟩ := h
   rfl
 . obtain ⟨p, g, Fp, d, x, y, rfl, se, hg, ⟨hx, hy⟩, q⟩ := h
   obtain ⟨dx, wa, h, dh, tc, le, ll, eF, ep, ew, hi⟩ := se.ex
   obtain ⟨t1, h1⟩ := TC.oor
   have n2 := se.ok.n2
   have n10 := se.ok.n10
   have hr4 : Room 4 _ := hr.mono (by decide)
   refine ⟨_, q3z (q12z (i := 2) sc_talike.nd rfl (Or.inl rfl) (pe_ix ix_list (pv 1) q10z (fun _ _ => rfl)))
    (q3z (q12z (i := 3) sc_talike.nd rfl (Or.inl rfl) (pe_ix ix_list (pv 1) q10z (fun _ _ => rfl)))
    (q3z (ps_if (pt_cmpR op_eq (pv 2) (pv 3) (nomark _)) (q4z (q8z (q13z (q0z (q14z (v := .int (-22)) rfl h1 ⟨_, rfl⟩) q2z)))) pss_nil)
    (q3z (q12z (i := 4) sc_talike.nd rfl (Or.inl rfl) (pe_ifExp (pt_val (q6z DA hr rfl (q0z (pv 2) (q0z (pv 3) (q0z (q11z (pv 0) rfl) q2z))))) q10z q10z))
    (q3z (q12z (i := 5) sc_talike.nd rfl (Or.inl rfl) (pe_ifExp (pt_val (q6z DG hr4 rfl (q0z (pv 2) (q0z (pv 3) (q0z (q11z (pv 0) rfl) q2z))))) q10z q10z))
    (q4z (q8z (q13z (q0z (pv 4) (q0z (pv 5) q2z))))))))), ?_⟩
   refine ⟨_, rfl, g, _, _, _, rfl, rfl, hg, atI_nat (j := 0) (xs := vis [x, y]) (v := vi x) rfl, ?_⟩
   refine ⟨_, rfl, g, _, _, _, rfl, rfl, hg, atI_nat (j := 1) (xs := vis [x, y]) (v := vi y) rfl, ?_⟩
   refine ⟨_, rfl, _, rfl, rfl, _, rfl, ?_⟩
   rw [vi_eq]
   refine ite2 (fun hc => ?_) (fun hc => ?_)
   . have hc' : x = y := of_decide_eq_true hc
     have ea : act d (.alike x y) = (d, Km469.only (-22)) := by
      simp only [act, bad_no hx, bad_no hy, hc', Bool.false_eq_true, or_self, if_false, if_true]
     rw [ea] at q
     refine ⟨sz1, fun r hr0 => ?_⟩
     have s2 := sU (o := .lst [V.int (-22)]) (Same.refl H) hr0
     exact q _ Fp r (se.keep s2) (After.same s2) hr0 q1z
   . have hc' : ¬ x = y := fun z => hc (decide_eq_true z)
     have ea : act d (.alike x y) = (d, ⟨((Km469.bit (alike d.now.long x y) : Nat) : Int), [Km469.bit (alikeG d.now.long x y)]⟩) := by
      simp only [act, bad_no hx, bad_no hy, hc', Bool.false_eq_true, or_self, if_false]
     rw [ea] at q
     have fin : ∀ H1, Same H H1 → ∀ u v : Nat, u = Km469.bit (alike d.now.long x y) → v = Km469.bit (alikeG d.now.long x y) → ∀ r, H1 r = none → Q (.ref r) (upd H1 r (.lst [vi u, vi v])) := fun H1 s1 u v hu hv r hr0 => by
      have s2 := sU (o := .lst [vi u, vi v]) s1 hr0
      refine q _ Fp r (se.keep s2) (After.same s2) (s1.free hr0) ?_
      rw [q1z, hu, hv]
      rfl
     refine ⟨_, rfl, _, rfl, _, rfl, p, CS, dx, _, _, rfl, ep, T.cl, T.nN, fsS_gn, x, y, d.now.long, rfl, by omega, by omega, hx, hy, fun H1 s1 => ⟨_, rfl, ?_⟩⟩
     refine ite2 (fun ha => ?_) (fun ha => ?_)
     . refine ⟨_, rfl, _, rfl, _, rfl, p, CS, dx, _, _, rfl, s1 _ _ ep, T.cl, T.nN, fsS_gn, x, y, d.now.long, rfl, by omega, hx, hy, fun H2 s2 => ⟨_, rfl, ?_⟩⟩
       have ha' : alike d.now.long x y = true := ha
       refine ite2 (fun hb => ?_) (fun hb => ?_)
       . have hb' : alikeG d.now.long x y = true := hb
         exact ⟨_, rfl, _, rfl, (by show 2 ≤ sizeLine; decide), fun r hr0 => fin H2 (s1.trans s2) 1 1 (by rw [ha']; rfl) (by rw [hb']; rfl) r hr0⟩
       . have hb' : alikeG d.now.long x y = false := by simpa using hb
         exact ⟨_, rfl, _, rfl, (by show 2 ≤ sizeLine; decide), fun r hr0 => fin H2 (s1.trans s2) 1 0 (by rw [ha']; rfl) (by rw [hb']; rfl) r hr0⟩
     . refine ⟨_, rfl, _, rfl, _, rfl, p, CS, dx, _, _, rfl, s1 _ _ ep, T.cl, T.nN, fsS_gn, x, y, d.now.long, rfl, by omega, hx, hy, fun H2 s2 => ⟨_, rfl, ?_⟩⟩
       have ha' : alike d.now.long x y = false := by simpa using ha
       refine ite2 (fun hb => ?_) (fun hb => ?_)
       . have hb' : alikeG d.now.long x y = true := hb
         exact ⟨_, rfl, _, rfl, (by show 2 ≤ sizeLine; decide), fun r hr0 => fin H2 (s1.trans s2) 0 1 (by rw [ha']; rfl) (by rw [hb']; rfl) r hr0⟩
       . have hb' : alikeG d.now.long x y = false := by simpa using hb
         exact ⟨_, rfl, _, rfl, (by show 2 ≤ sizeLine; decide), fun r hr0 => fin H2 (s1.trans s2) 0 0 (by rw [ha']; rfl) (by rw [hb']; rfl) r hr0⟩
theorem sc_tcommon : FnScope ["session", "given", "shorter"] ["session", "given"] (defScope s_tell_common) := sc_by rfl (by decide +kernel)
theorem ok_tcommon {CH CS f : Addr} {fd : FuncData} (F : Fun K "tell_common" "tell_common" s_tell_common f fd) (O : Own mg) (T : TxtS K mg CS) (TL : TxtL mg) (DC : Def P w K mg base "common" 4 ["first", "second", "n"] sp_common) (DT : Def P w K mg base "told" 1 ["words", "many"] (sp_told K)) :
 FnOk P w K mg base CX0 5 f fd ["session", "given"] (sp2 CH CS K .common fun n x y => x < 2 ^ n ∧ y < 2 ^ n) := by
 refine F.ok sc_tcommon (fun _ _ _ _ h => ?_) (fun _ _ _ _ H vs Q E hr h => ?_)
 . obtain ⟨p, g, Fp, d, x, y, rfl, _⟩ := h
   rfl
 . obtain ⟨p, g, Fp, d, x, y, rfl, se, hg, ⟨hx, hy⟩, q⟩ := h
   obtain ⟨dx, wa, h, dh, tc, le, ll, eF, ep, ew, hi⟩ := se.ex
   obtain ⟨t1, h1⟩ := TL.lt
   have n2 := se.ok.n2
   have n10 := se.ok.n10
   have hr1 : Room 1 _ := hr.mono (by decide)
   have ln : (com d.now.long x y).length ≤ 10 := Nat.le_trans (com_len _ _ _) n10
   refine ⟨_, q3z (q12z (i := 2) sc_tcommon.nd rfl (Or.inl rfl) (q6z DC hr rfl (q0z (pe_ix ix_list (pv 1) q10z (fun _ _ => rfl)) (q0z (pe_ix ix_list (pv 1) q10z (fun _ _ => rfl)) (q0z (q11z (pv 0) rfl) q2z)))))
    (q4z (q8z (pe_op op_cat (q13z (q0z (q16z q15z (by rfl) O.len boot_len (q0z (pv 2) q2z)) q2z)) (q6z DT hr1 rfl (q0z (pv 2) (q0z (q14z (v := .int 10) rfl h1 ⟨_, rfl⟩) q2z)))))), ?_⟩
   refine ⟨_, rfl, g, _, _, _, rfl, rfl, hg, atI_nat (j := 0) (xs := vis [x, y]) (v := vi x) rfl, _, rfl, g, _, _, _, rfl, rfl, hg, atI_nat (j := 1) (xs := vis [x, y]) (v := vi y) rfl, _, rfl, p, CS, dx, _, _, rfl, ep, T.cl, T.nN, fsS_gn, x, y, d.now.long, rfl, by omega, by omega, hx, hy, fun H1 t s1 ft et => ?_⟩
   have ea : act d (.common x y) = (d, ⟨((com d.now.long x y).length : Int), Km469.fill 10 ((com d.now.long x y).map fun x => x + 1)⟩) := by
    simp only [act, bad_no hx, bad_no hy, Bool.false_eq_true, or_self, if_false]
    rfl
   rw [ea] at q
   have upL : LL.Up (com d.now.long x y) := LL.up_rising _
   generalize com d.now.long x y = L at *
   refine ⟨_, rfl, t, _, rfl, .inl (SqL.of et), sz1, fun l hl => ?_⟩
   have s4 := sU (o := .lst [V.int ((vis L).length : Int)]) (Same.refl H1) hl
   refine ⟨_, rfl, t, L, 10, rfl, .inl (SqL.of (s4 _ _ et)), by omega, upL, ln, by decide, fun H3 u s5 fu eu => ?_⟩
   refine ⟨l, u, _, _, rfl, rfl, s5 _ _ q1z, eu, ?_, fun r hr0 => ?_⟩
   . rw [q9z]
     exact Nat.le_of_lt (small1000 (by simp; omega))
   have s6 := sU (o := .lst ([V.int ((vis L).length : Int)] ++ vis (List.map (fun x => x + 1) L ++ List.replicate (10 - L.length) 0))) (s1.trans (s4.trans s5)) hr0
   refine q _ Fp r (se.keep s6) (After.same s6) ((s1.trans (s4.trans s5)).free hr0) ?_
   rw [q1z, q9z, ← fill_eq ln, ans_cons]
   rfl
def TDef (P : Program) (w : World) (K : W.Frag) (mg : Str -> Option Value) (base : Heap) (f : Addr) (k : Nat) (sp : Sp) : Prop :=
 ∃ fd, FnOk P w K mg base CX0 k f fd ["session", "given"] sp ∧ W.keepIn K (.ref f) = true ∧ Binds K fd ["session", "given"] []
def sp_tab (CH CS : Addr) (ok : Nat -> Prop) : Sp := fun vs H Q _ => ∃ (p g : Addr) (F : List Addr) (d : Desk) (nr : Nat) (xs : List Nat) (x : Km469.Call), vs = [.ref p, vi nr, .ref g] /\ Sess CH CS F H p d /\ H g = some (.lst (vis xs)) /\ LLF.Is nr xs x /\ ok nr /\ okB d.now.long x = true /\
 ∀ H' F' r, Sess CH CS F' H' p (act d x).1 → After F F' H H' → H r = none → H' r = some (.lst (ansV (act d x).2)) → Q (.ref r) H'
variable {P : Program} {w : World} {K : W.Frag} {mg : Str → Option Value} {base : Heap}
theorem q17z {X : Cx} {f : Addr} {k : Nat} {sp : Sp} {σ : L2.St} {H : Hp} {Q : VK} {t : TA} (D : TDef X.prog X.w X.K X.mg X.base f k sp) (hr : Room k X.A) (q : t σ H fun vs H2 => sp vs H2 Q E0) :
 ∃ f' fd ps sp' k', V.ref f = .ref f' ∧ FnOk X.prog X.w X.K X.mg X.base CX0 k' f' fd ps sp' ∧ Room k' X.A ∧ W.keepIn X.K (.ref f') = true ∧ Binds X.K fd ps [] ∧ t σ H fun vs H2 => sp' vs H2 Q E0 := by
 obtain ⟨fd, a, b, c⟩ := D
 exact ⟨f, fd, _, sp, k, rfl, a, hr, b, c, q⟩
def sp_isch (kvs : List (Int × Addr)) : Sp := fun vs H Q _ => ∃ (nr : Nat), vs = [vi nr] /\ Q (.bl (look kvs (nr : Int)).isSome) H
theorem sc_isch : FnScope ["number"] ["number"] (defScope s_is_change) := sc_by rfl (by decide +kernel)
theorem ok_isch {f aC : Addr} {fd : FuncData} {kvs : List (Int × Addr)} (F : Fun K "is_change" "is_change" s_is_change f fd) (TB : Tab K aC kvs) (hm : mg "CHANGES" = some (.ref aC)) : FnOk P w K mg base CX0 1 f fd ["number"] (sp_isch kvs) := by
 refine F.ok sc_isch (fun _ _ _ _ h => ?_) (fun _ _ _ _ H vs Q E hr h => ?_)
 . obtain ⟨nr, rfl, _⟩ := h
   rfl
 . obtain ⟨nr, rfl, q⟩ := h
   refine ⟨_, q4z (q8z (pe_cmp (pc_tab TB rfl hm (pv 0)) (by with_unfolding_all rfl))), ?_⟩
   exact ⟨_, rfl, _, rfl, q⟩
theorem sc_ismd : FnScope ["number"] ["number"] (defScope s_is_mend) := sc_by rfl (by decide +kernel)
theorem ok_ismd {f aC : Addr} {fd : FuncData} {kvs : List (Int × Addr)} (F : Fun K "is_mend" "is_mend" s_is_mend f fd) (TB : Tab K aC kvs) (hm : mg "MENDS" = some (.ref aC)) : FnOk P w K mg base CX0 1 f fd ["number"] (sp_isch kvs) := by
 refine F.ok sc_ismd (fun _ _ _ _ h => ?_) (fun _ _ _ _ H vs Q E hr h => ?_)
 . obtain ⟨nr, rfl, _⟩ := h
   rfl
 . obtain ⟨nr, rfl, q⟩ := h
   refine ⟨_, q4z (q8z (pe_cmp (pc_tab TB rfl hm (pv 0)) (by with_unfolding_all rfl))), ?_⟩
   exact ⟨_, rfl, _, rfl, q⟩
theorem sc_isof : FnScope ["number"] ["number"] (defScope s_is_of_code) := sc_by rfl (by decide +kernel)
theorem ok_isof {f aC : Addr} {fd : FuncData} {kvs : List (Int × Addr)} (F : Fun K "is_of_code" "is_of_code" s_is_of_code f fd) (TB : Tab K aC kvs) (hm : mg "OF_CODE" = some (.ref aC)) : FnOk P w K mg base CX0 1 f fd ["number"] (sp_isch kvs) := by
 refine F.ok sc_isof (fun _ _ _ _ h => ?_) (fun _ _ _ _ H vs Q E hr h => ?_)
 . obtain ⟨nr, rfl, _⟩ := h
   rfl
 . obtain ⟨nr, rfl, q⟩ := h
   refine ⟨_, q4z (q8z (pe_cmp (pc_tab TB rfl hm (pv 0)) (by with_unfolding_all rfl))), ?_⟩
   exact ⟨_, rfl, _, rfl, q⟩
theorem sc_isst : FnScope ["number"] ["number"] (defScope s_is_step) := sc_by rfl (by decide +kernel)
theorem ok_isst {f aC : Addr} {fd : FuncData} {kvs : List (Int × Addr)} (F : Fun K "is_step" "is_step" s_is_step f fd) (TB : Tab K aC kvs) (hm : mg "STEPS" = some (.ref aC)) : FnOk P w K mg base CX0 1 f fd ["number"] (sp_isch kvs) := by
 refine F.ok sc_isst (fun _ _ _ _ h => ?_) (fun _ _ _ _ H vs Q E hr h => ?_)
 . obtain ⟨nr, rfl, _⟩ := h
   rfl
 . obtain ⟨nr, rfl, q⟩ := h
   refine ⟨_, q4z (q8z (pe_cmp (pc_tab TB rfl hm (pv 0)) (by with_unfolding_all rfl))), ?_⟩
   exact ⟨_, rfl, _, rfl, q⟩
theorem sc_ach : FnScope ["session", "number", "given"] ["session", "number", "given"] (defScope s_answer_change) := sc_by rfl (by decide +kernel)
theorem ok_ach {CH CS f aC f1 f2 f3 f4 f5 f6 : Addr} {fd : FuncData} (F : Fun K "answer_change" "answer_change" s_answer_change f fd) (TB : Tab K aC [(1, f1), (2, f2), (3, f3), (4, f4), (5, f5), (6, f6)]) (hm : mg "CHANGES" = some (.ref aC))
 (D1 : TDef P w K mg base f1 7 (sp1 CH CS K .add isWord)) (D2 : TDef P w K mg base f2 7 (sp1 CH CS K .force isWord)) (D3 : TDef P w K mg base f3 3 (sp1 CH CS K .drop isWord)) (D4 : TDef P w K mg base f4 3 (sp1 CH CS K .take (fun _ _ => True))) (D5 : TDef P w K mg base f5 36 (sp0 CH CS K .grow)) (D6 : TDef P w K mg base f6 3 (sp0 CH CS K .clear)) : FnOk P w K mg base CX0 37 f fd ["session", "number", "given"] (sp_tab CH CS (fun nr => 1 ≤ nr ∧ nr ≤ 6)) := by
 refine F.ok sc_ach (fun _ _ _ _ h => ?_) (fun _ _ _ _ H vs Q E hr h => ?_)
 . obtain ⟨p, g, Fp, d, nr, xs, x, rfl, _⟩ := h
   rfl
 . obtain ⟨p, g, Fp, d, nr, xs, x, rfl, se, hg, is, hin, pre, q⟩ := h
   refine ⟨_, q4z (q8z (pe_callT (pe_tab TB rfl hm (pv 1) (fun _ _ => rfl)) (q0z (pv 0) (q0z (pv 2) q2z)))), ?_⟩
   cases is with
   | add y => exact ⟨_, rfl, _, f1, rfl, rfl, q17z D1 (hr.mono (by decide)) ⟨_, rfl, _, rfl, p, g, Fp, d, y, rfl, se, SqL.of hg, of_decide_eq_true pre, q⟩⟩
   | force y => exact ⟨_, rfl, _, f2, rfl, rfl, q17z D2 (hr.mono (by decide)) ⟨_, rfl, _, rfl, p, g, Fp, d, y, rfl, se, SqL.of hg, of_decide_eq_true pre, q⟩⟩
   | drop y => exact ⟨_, rfl, _, f3, rfl, rfl, q17z D3 (hr.mono (by decide)) ⟨_, rfl, _, rfl, p, g, Fp, d, y, rfl, se, SqL.of hg, of_decide_eq_true pre, q⟩⟩
   | take y => exact ⟨_, rfl, _, f4, rfl, rfl, q17z D4 (hr.mono (by decide)) ⟨_, rfl, _, rfl, p, g, Fp, d, y, rfl, se, SqL.of hg, trivial, q⟩⟩
   | grow => exact ⟨_, rfl, _, f5, rfl, rfl, q17z D5 (hr.mono (by decide)) ⟨_, rfl, _, rfl, p, _, Fp, d, rfl, se, q⟩⟩
   | clear => exact ⟨_, rfl, _, f6, rfl, rfl, q17z D6 (hr.mono (by decide)) ⟨_, rfl, _, rfl, p, _, Fp, d, rfl, se, q⟩⟩
   | _ => exact absurd hin (by decide)
theorem sc_amd : FnScope ["session", "number", "given"] ["session", "number", "given"] (defScope s_answer_mend) := sc_by rfl (by decide +kernel)
theorem ok_amd {CH CS f aC f1 f2 f3 f4 : Addr} {fd : FuncData} (F : Fun K "answer_mend" "answer_mend" s_answer_mend f fd) (TB : Tab K aC [(19, f1), (20, f2), (21, f3), (22, f4)]) (hm : mg "MENDS" = some (.ref aC))
 (D1 : TDef P w K mg base f1 5 (sp1 CH CS K .mend (fun n x => x < 2 ^ (n - 1)))) (D2 : TDef P w K mg base f2 5 (sp1 CH CS K .mendG (fun n x => x < 2 ^ (n + 1)))) (D3 : TDef P w K mg base f3 5 (sp2 CH CS K .back_ (fun n _ x => x < 2 ^ (n - 1)))) (D4 : TDef P w K mg base f4 5 (sp2 CH CS K .out_ (fun n _ x => x < 2 ^ (n + 1)))) : FnOk P w K mg base CX0 6 f fd ["session", "number", "given"] (sp_tab CH CS (fun nr => 19 ≤ nr ∧ nr ≤ 22)) := by
 refine F.ok sc_amd (fun _ _ _ _ h => ?_) (fun _ _ _ _ H vs Q E hr h => ?_)
 . obtain ⟨p, g, Fp, d, nr, xs, x, rfl, _⟩ := h
   rfl
 . obtain ⟨p, g, Fp, d, nr, xs, x, rfl, se, hg, is, hin, pre, q⟩ := h
   refine ⟨_, q4z (q8z (pe_callT (pe_tab TB rfl hm (pv 1) (fun _ _ => rfl)) (q0z (pv 0) (q0z (pv 2) q2z)))), ?_⟩
   cases is with
   | mend y => exact ⟨_, rfl, _, f1, rfl, rfl, q17z D1 (hr.mono (by decide)) ⟨_, rfl, _, rfl, p, g, Fp, d, y, rfl, se, SqL.of hg, of_decide_eq_true pre, q⟩⟩
   | mendG y => exact ⟨_, rfl, _, f2, rfl, rfl, q17z D2 (hr.mono (by decide)) ⟨_, rfl, _, rfl, p, g, Fp, d, y, rfl, se, SqL.of hg, of_decide_eq_true pre, q⟩⟩
   | back_ a y => exact ⟨_, rfl, _, f3, rfl, rfl, q17z D3 (hr.mono (by decide)) ⟨_, rfl, _, rfl, p, g, Fp, d, a, y, rfl, se, SqL.of hg, of_decide_eq_true pre, q⟩⟩
   | out_ a y => exact ⟨_, rfl, _, f4, rfl, rfl, q17z D4 (hr.mono (by decide)) ⟨_, rfl, _, rfl, p, g, Fp, d, a, y, rfl, se, SqL.of hg, of_decide_eq_true pre, q⟩⟩
   | _ => exact absurd hin (by decide)
theorem sc_aof : FnScope ["session", "number", "given"] ["session", "number", "given"] (defScope s_answer_of_code) := sc_by rfl (by decide +kernel)
theorem ok_aof {CH CS f aC f1 f2 f3 f4 f5 : Addr} {fd : FuncData} (F : Fun K "answer_of_code" "answer_of_code" s_answer_of_code f fd) (TB : Tab K aC [(16, f1), (17, f2), (18, f3), (24, f4), (25, f5)]) (hm : mg "OF_CODE" = some (.ref aC))
 (D1 : TDef P w K mg base f1 5 (sp0 CH CS K .safe)) (D2 : TDef P w K mg base f2 36 (sp0 CH CS K .most)) (D3 : TDef P w K mg base f3 5 (sp0 CH CS K .may)) (D4 : TDef P w K mg base f4 2 (sp0 CH CS K .code)) (D5 : TDef P w K mg base f5 3 (sp1 CH CS K .write (fun _ _ => True))) : FnOk P w K mg base CX0 37 f fd ["session", "number", "given"] (sp_tab CH CS (fun nr => (16 ≤ nr ∧ nr ≤ 18) ∨ (24 ≤ nr ∧ nr ≤ 25))) := by
 refine F.ok sc_aof (fun _ _ _ _ h => ?_) (fun _ _ _ _ H vs Q E hr h => ?_)
 . obtain ⟨p, g, Fp, d, nr, xs, x, rfl, _⟩ := h
   rfl
 . obtain ⟨p, g, Fp, d, nr, xs, x, rfl, se, hg, is, hin, pre, q⟩ := h
   refine ⟨_, q4z (q8z (pe_callT (pe_tab TB rfl hm (pv 1) (fun _ _ => rfl)) (q0z (pv 0) (q0z (pv 2) q2z)))), ?_⟩
   cases is with
   | safe => exact ⟨_, rfl, _, f1, rfl, rfl, q17z D1 (hr.mono (by decide)) ⟨_, rfl, _, rfl, p, _, Fp, d, rfl, se, q⟩⟩
   | most => exact ⟨_, rfl, _, f2, rfl, rfl, q17z D2 (hr.mono (by decide)) ⟨_, rfl, _, rfl, p, _, Fp, d, rfl, se, q⟩⟩
   | may => exact ⟨_, rfl, _, f3, rfl, rfl, q17z D3 (hr.mono (by decide)) ⟨_, rfl, _, rfl, p, _, Fp, d, rfl, se, q⟩⟩
   | code => exact ⟨_, rfl, _, f4, rfl, rfl, q17z D4 (hr.mono (by decide)) ⟨_, rfl, _, rfl, p, _, Fp, d, rfl, se, q⟩⟩
   | write y => exact ⟨_, rfl, _, f5, rfl, rfl, q17z D5 (hr.mono (by decide)) ⟨_, rfl, _, rfl, p, g, Fp, d, y, rfl, se, SqL.of hg, trivial, q⟩⟩
   | _ => exact absurd hin (by decide)
theorem sc_ast : FnScope ["session", "number", "given"] ["session", "number", "given"] (defScope s_answer_step) := sc_by rfl (by decide +kernel)
theorem ok_ast {CH CS f aC f1 f2 f3 : Addr} {fd : FuncData} (F : Fun K "answer_step" "answer_step" s_answer_step f fd) (TB : Tab K aC [(26, f1), (27, f2), (28, f3)]) (hm : mg "STEPS" = some (.ref aC))
 (D1 : TDef P w K mg base f1 2 (sp0 CH CS K .undo)) (D2 : TDef P w K mg base f2 2 (sp0 CH CS K .again)) (D3 : TDef P w K mg base f3 1 (sp0 CH CS K .state)) : FnOk P w K mg base CX0 3 f fd ["session", "number", "given"] (sp_tab CH CS (fun nr => 26 ≤ nr ∧ nr ≤ 28)) := by
 refine F.ok sc_ast (fun _ _ _ _ h => ?_) (fun _ _ _ _ H vs Q E hr h => ?_)
 . obtain ⟨p, g, Fp, d, nr, xs, x, rfl, _⟩ := h
   rfl
 . obtain ⟨p, g, Fp, d, nr, xs, x, rfl, se, hg, is, hin, pre, q⟩ := h
   refine ⟨_, q4z (q8z (pe_callT (pe_tab TB rfl hm (pv 1) (fun _ _ => rfl)) (q0z (pv 0) (q0z (pv 2) q2z)))), ?_⟩
   cases is with
   | undo => exact ⟨_, rfl, _, f1, rfl, rfl, q17z D1 (hr.mono (by decide)) ⟨_, rfl, _, rfl, p, _, Fp, d, rfl, se, q⟩⟩
   | again => exact ⟨_, rfl, _, f2, rfl, rfl, q17z D2 (hr.mono (by decide)) ⟨_, rfl, _, rfl, p, _, Fp, d, rfl, se, q⟩⟩
   | state => exact ⟨_, rfl, _, f3, rfl, rfl, q17z D3 (hr.mono (by decide)) ⟨_, rfl, _, rfl, p, _, Fp, d, rfl, se, q⟩⟩
   | _ => exact absurd hin (by decide)
theorem sc_alk : FnScope ["session", "number", "given"] ["session", "number", "given"] (defScope s_answer_look) := sc_by rfl (by decide +kernel)
theorem ok_alk {CH CS f aC f1 f2 f3 f4 f5 f6 f7 f8 f9 f10 : Addr} {fd : FuncData} (F : Fun K "answer_look" "answer_look" s_answer_look f fd) (TB : Tab K aC [(7, f1), (8, f2), (9, f3), (10, f4), (11, f5), (12, f6), (13, f7), (14, f8), (15, f9), (23, f10)]) (hm : mg "LOOKS" = some (.ref aC))
 (D1 : TDef P w K mg base f1 4 (sp1 CH CS K .lost isWord)) (D2 : TDef P w K mg base f2 4 (sp1 CH CS K .gained isWord)) (D3 : TDef P w K mg base f3 3 (sp2 CH CS K .losing (fun n x _ => x < 2 ^ n))) (D4 : TDef P w K mg base f4 3 (sp3 CH CS K .gaining (fun n x _ _ => x < 2 ^ n))) (D5 : TDef P w K mg base f5 3 (sp1 CH CS K .runs isWord)) (D6 : TDef P w K mg base f6 2 (sp1 CH CS K .weight isWord)) (D7 : TDef P w K mg base f7 3 (sp1 CH CS K .cls (fun _ _ => True))) (D8 : TDef P w K mg base f8 1 (sp0 CH CS K .largest)) (D9 : TDef P w K mg base f9 6 (sp2 CH CS K .alike (fun n x y => x < 2 ^ n ∧ y < 2 ^ n))) (D10 : TDef P w K mg base f10 5 (sp2 CH CS K .common (fun n x y => x < 2 ^ n ∧ y < 2 ^ n))) : FnOk P w K mg base CX0 7 f fd ["session", "number", "given"] (sp_tab CH CS (fun nr => (7 ≤ nr ∧ nr ≤ 15) ∨ nr = 23)) := by
 refine F.ok sc_alk (fun _ _ _ _ h => ?_) (fun _ _ _ _ H vs Q E hr h => ?_)
 . obtain ⟨p, g, Fp, d, nr, xs, x, rfl, _⟩ := h
   rfl
 . obtain ⟨p, g, Fp, d, nr, xs, x, rfl, se, hg, is, hin, pre, q⟩ := h
   refine ⟨_, q4z (q8z (pe_callT (pe_tab TB rfl hm (pv 1) (fun _ _ => rfl)) (q0z (pv 0) (q0z (pv 2) q2z)))), ?_⟩
   cases is with
   | lost y => exact ⟨_, rfl, _, f1, rfl, rfl, q17z D1 (hr.mono (by decide)) ⟨_, rfl, _, rfl, p, g, Fp, d, y, rfl, se, SqL.of hg, of_decide_eq_true pre, q⟩⟩
   | gained y => exact ⟨_, rfl, _, f2, rfl, rfl, q17z D2 (hr.mono (by decide)) ⟨_, rfl, _, rfl, p, g, Fp, d, y, rfl, se, SqL.of hg, of_decide_eq_true pre, q⟩⟩
   | losing y i => exact ⟨_, rfl, _, f3, rfl, rfl, q17z D3 (hr.mono (by decide)) ⟨_, rfl, _, rfl, p, g, Fp, d, y, i, rfl, se, SqL.of hg, of_decide_eq_true pre, q⟩⟩
   | gaining y i z => exact ⟨_, rfl, _, f4, rfl, rfl, q17z D4 (hr.mono (by decide)) ⟨_, rfl, _, rfl, p, g, Fp, d, y, i, z, rfl, se, SqL.of hg, of_decide_eq_true pre, q⟩⟩
   | runs y => exact ⟨_, rfl, _, f5, rfl, rfl, q17z D5 (hr.mono (by decide)) ⟨_, rfl, _, rfl, p, g, Fp, d, y, rfl, se, SqL.of hg, of_decide_eq_true pre, q⟩⟩
   | weight y => exact ⟨_, rfl, _, f6, rfl, rfl, q17z D6 (hr.mono (by decide)) ⟨_, rfl, _, rfl, p, g, Fp, d, y, rfl, se, SqL.of hg, of_decide_eq_true pre, q⟩⟩
   | cls y => exact ⟨_, rfl, _, f7, rfl, rfl, q17z D7 (hr.mono (by decide)) ⟨_, rfl, _, rfl, p, g, Fp, d, y, rfl, se, SqL.of hg, trivial, q⟩⟩
   | largest => exact ⟨_, rfl, _, f8, rfl, rfl, q17z D8 (hr.mono (by decide)) ⟨_, rfl, _, rfl, p, _, Fp, d, rfl, se, q⟩⟩
   | alike u v => exact ⟨_, rfl, _, f9, rfl, rfl, q17z D9 (hr.mono (by decide)) ⟨_, rfl, _, rfl, p, g, Fp, d, u, v, rfl, se, SqL.of hg, ⟨of_decide_eq_true (Bool.and_eq_true_iff.mp pre).1, of_decide_eq_true (Bool.and_eq_true_iff.mp pre).2⟩, q⟩⟩
   | common u v => exact ⟨_, rfl, _, f10, rfl, rfl, q17z D10 (hr.mono (by decide)) ⟨_, rfl, _, rfl, p, g, Fp, d, u, v, rfl, se, SqL.of hg, ⟨of_decide_eq_true (Bool.and_eq_true_iff.mp pre).1, of_decide_eq_true (Bool.and_eq_true_iff.mp pre).2⟩, q⟩⟩
   | _ => exact absurd hin (by decide)
structure TxtG (w : World) (K : W.Frag) (mg : Str -> Option Value) : Prop where
 ex : ∃ (ag : Addr), mg "GIVEN" = some (.ref ag) ∧ ∀ H, SqT K H ag (rowsC.map fun l => V.str (rowS l))
 ml : ∃ (am : Addr), mg "MORE_LETTERS" = some (.ref am) ∧ TabS w K am tabM
 st : ∃ t, mg "START" = some (.int 0 t)
 zip : mg "zip" = none
theorem row_at {nr : Nat} {l : List Nat} (h : rowsC[nr]? = some l) : (rowsC.map fun l => V.str (rowS l))[nr]? = some (V.str (rowS l)) := by
 rw [List.getElem?_map, h]
 rfl
def sp_call (CH CS : Addr) : Sp := fun vs H Q _ => ∃ (p g : Addr) (F : List Addr) (d : Desk) (nr : Nat) (xs : List Nat) (x : Km469.Call), vs = [.ref p, vi nr, .ref g] /\ Sess CH CS F H p d /\ H g = some (.lst (vis xs)) /\ g ∉ F /\ LLF.Is nr xs x /\
 ∀ H' F' r, Sess CH CS F' H' p (act d x).1 → After F F' H H' → H r = none → H' r = some (.lst (ansV (act d x).2)) → Q (.ref r) H'
def sp_answers (K : W.Frag) : Sp := fun vs H Q _ => ∃ (a : Addr) (l : List Int), vs = [.ref a] /\ SqL K H a (l.map V.int) /\ PyKm469.answers_asked l = true /\ ∀ H' p, H' p = some (.lst ((PyKm469.answers l).map V.int)) -> Q (.ref p) H'
theorem cut_eq {l : List Int} {i : Nat} {xs : List Nat} (h : i + 1 + xs.length ≤ l.length) (e : (l.drop (i + 1)).take xs.length = LLF.nm xs) : cutV (l.map V.int) (some ((i + 1 : Nat) : Int)) (some ((i + 1 + xs.length : Nat) : Int)) = vis xs := by
 unfold cutV
 have e1 : HT.sIx (l.map V.int).length 0 (some ((i + 1 : Nat) : Int)) = i + 1 := by
  rw [HT.sIx_nat, List.length_map]
  omega
 have e2 : HT.sIx (l.map V.int).length (l.map V.int).length (some ((i + 1 + xs.length : Nat) : Int)) = i + 1 + xs.length := by
  rw [HT.sIx_nat, List.length_map]
  omega
 rw [e1, e2, Nat.add_sub_cancel_left, ← List.map_drop, ← List.map_take, e]
 unfold LLF.nm Km469Neutral.nums vis
 rw [List.map_map]
 rfl
theorem Sess.here {CH CS : Addr} {F : List Addr} {H : Hp} {p b : Addr} {d : Desk} (x : Sess CH CS F H p d) (h : b ∈ F) : ∃ o, H b = some o := by
 obtain ⟨dx, wa, h', dh, tc, le, ll, eF, a1, a2, a3⟩ := x.ex
 obtain ⟨ae, ee, _⟩ := a3.ear
 obtain ⟨al, el, _⟩ := a3.lat
 rw [eF] at h
 simp only [List.mem_cons, List.not_mem_nil, or_false] at h
 rcases h with rfl | rfl | rfl | rfl | rfl
 . exact ⟨_, a1⟩
 . exact ⟨_, a3.obj⟩
 . exact ⟨_, ee⟩
 . exact ⟨_, el⟩
 . exact ⟨_, a2⟩
theorem row_small {nr : Nat} {xs : List Nat} {x : Km469.Call} (h : LLF.Is nr xs x) : xs.length ≤ sizeLine := by
 have : xs.length ≤ 3 := by cases h <;> exact Nat.le_of_ble_eq_true rfl
 exact Nat.le_trans this (by decide)
theorem fresh_ok : DeskOk (Km469.fresh 2) := ⟨by decide, by decide, ⟨List.Pairwise.nil, (fun x hx => by cases hx), Nat.zero_le _⟩, (fun k hk => by cases hk), (fun k hk => by cases hk), by decide⟩
variable {P : Program} {w : World} {K : W.Frag} {mg : Str → Option Value} {base : Heap}
theorem sc_answers : FnScope ["calls", "session", "numbers", "place", "number", "behind", "answer"] ["calls"] (defScope s_answers) := sc_by rfl (by decide +kernel)
theorem ok_answers {k : Nat} {CH CS f : Addr} {fd : FuncData} (F : Fun K "answers" "answers" s_answers f fd) (O : Own mg) (G : TxtG w K mg) (DS : KDef P w K mg base "Session" CS 4 (sp_sinit CH CS)) (DC : Def P w K mg base "answer_call" (k + 5) ["session", "number", "given"] (sp_call CH CS)) :
 FnOk P w K mg base CX0 (k + 6) f fd ["calls"] (sp_answers K) := by
 refine F.ok sc_answers (fun _ _ _ _ h => ?_) (fun _ _ _ _ H vs Q E hr h => ?_)
 . obtain ⟨a, l, rfl, _⟩ := h
   rfl
 . obtain ⟨a, l, rfl, hS, hask, q⟩ := h
   obtain ⟨ag, hG, hR⟩ := G.ex
   have hr5 : Room 5 _ := hr.mono (by omega)
   refine ⟨_, q3z (q12z (i := 1) sc_answers.nd rfl (Or.inl rfl) (pe_makeD DS hr5 rfl))
    (q3z (q12z (i := 2) sc_answers.nd rfl (Or.inl rfl) (q13z q2z))
    (q3z (q12z (i := 3) sc_answers.nd rfl (Or.inl rfl) q10z)
    (q3z (ps_while PassesOwn.never (pt_cmpR op_lt (pv 3) (q16z q15z (by rfl) O.len boot_len (q0z (pv 0) q2z)) (nomark _))
     (q3z (q12z (i := 4) sc_answers.nd rfl (Or.inl rfl) (pe_ix ix_list (pv 0) (pv 3) (fun _ _ => rfl)))
     (q3z (q12z (i := 5) sc_answers.nd rfl (Or.inl rfl) (pe_op op_addN (pe_op op_addN (pv 3) q10z) (q16z call_len_str (by rfl) O.len boot_len (q0z (pe_ix ix_tup (q14z (v := .ref ag) rfl hG rfl) (pv 4) (fun _ _ => rfl)) q2z))))
     (q3z (q12z (i := 6) sc_answers.nd rfl (Or.inl rfl) (q6z DC hr rfl (q0z (pv 1) (q0z (pv 4) (q0z (pe_slice sl_list (pv 0) (po_some (pe_op op_addN (pv 3) q10z)) (po_some (pv 5))) q2z)))))
     (q3z (ps_expr (pe_bm PySem.F.plainAttrs_list PySem.F.slot_list_append PySem.F.type_list_append mt_append (pv 2) (q0z (q16z q15z (by rfl) O.len boot_len (q0z (pv 6) q2z)) q2z)))
     (q3z (ps_expr (pe_bm PySem.F.plainAttrs_list PySem.F.slot_list_extend PySem.F.type_list_extend mt_extend (pv 2) (q0z (pv 6) q2z)))
     (q4z (q12z (i := 3) sc_answers.nd rfl (Or.inl rfl) (pv 5)))))))))
    (q4z (q8z (pv 2)))))), ?_⟩
   intro p dx np nd ndp
   refine ⟨p, dx, rfl, q1z, fun H1 wa h dh tc le ll e1 e2 e3 f1 f2 f3 f4 f5 kp => ⟨rfl, ?_⟩⟩
   have s0 : Same H H1 := fun b o e => kp b o (by rw [q5z (q7z e np), q5z (q7z e nd)]; exact e) (q7z e np)
   have up0 : ∀ b, upd (upd H dx (.own p)) p (.ins CS dx []) b = none → H b = none := fun b e => by
    by_cases b1 : b = p
    . rw [b1, q1z] at e; cases e
    . rw [q5z b1] at e
      by_cases b2 : b = dx
      . rw [b2, q1z] at e; cases e
      . rw [q5z b2] at e
        exact e
   have F0 : ∀ b ∈ [p, h, le, ll, wa], H b = none := fun b hb => by
    simp only [List.mem_cons, List.not_mem_nil, or_false] at hb
    rcases hb with rfl | rfl | rfl | rfl | rfl
    . exact np
    . exact up0 _ f2
    . exact up0 _ f4
    . exact up0 _ f5
    . exact up0 _ f1
   have se0 : Sess CH CS [p, h, le, ll, wa] H1 p (Km469.fresh 2) := ⟨fresh_ok, dx, wa, h, dh, tc, le, ll, rfl, e1, e2, e3⟩
   refine ⟨Nat.zero_le _, fun n0 hn0 => ?_⟩
   have fn0 : H n0 = none := s0.free hn0
   have s1 := sU (o := .lst []) s0 hn0
   have nF0 : n0 ∉ [p, h, le, ll, wa] := fun z => by
    simp only [List.mem_cons, List.not_mem_nil, or_false] at z
    obtain ⟨ae, ee, _⟩ := e3.ear
    obtain ⟨al, el, _⟩ := e3.lat
    rcases z with rfl | rfl | rfl | rfl | rfl
    . rw [e1] at hn0; cases hn0
    . rw [e3.obj] at hn0; cases hn0
    . rw [ee] at hn0; cases hn0
    . rw [el] at hn0; cases hn0
    . rw [e2] at hn0; cases hn0
   refine ⟨fun m σ H' => ∃ (i : Nat) (d : Desk) (acc : List Int) (Fp : List Addr) (u1 u2 u3 : Option V), σ = [some (.ref a), some (.ref p), some (.ref n0), some (vi i), u1, u2, u3] ∧ LLF.Now l i d acc ∧ Sess CH CS Fp H' p d ∧ H' n0 = some (.lst (acc.map V.int)) ∧ n0 ∉ Fp ∧ (∀ b ∈ Fp, H b = none) ∧ Same H H' ∧ m = l.length - i,
    ⟨_, 0, _, [], _, none, none, none, rfl, LLF.now_start hask, se0.keep (sU (Same.refl H1) hn0), q1z, nF0, F0, s1, rfl⟩, ?_⟩
   rintro m σ H2 ⟨i, d, acc, Fp, u1, u2, u3, rfl, nw, se, en, nF, fF, s2, rfl⟩
   refine ⟨_, rfl, _, rfl, a, _, rfl, .inl (sq_keep hS s2), _, _, rfl, rfl, _, rfl, ?_⟩
   rw [List.length_map]
   refine ite2 (fun hc => ?_) (fun hc => ?_)
   . have hc' : i < l.length := by have := of_decide_eq_true hc; omega
     obtain ⟨nr, xs, x, is, hp, hle, hcut, nw2, hlen⟩ := LLF.now_step nw hc'
     obtain ⟨row, hrow, hlen2, hasc, _⟩ := is_row is 0
     refine ⟨_, fun σ' H' z => ⟨l.length - (i + 1 + xs.length), by omega, z⟩, ?_⟩
     refine ⟨_, rfl, _, rfl, a, _, _, _, rfl, rfl, sq_keep hS s2, atI_nat (v := vi nr) (by rw [List.getElem?_map, hp]; rfl), ?_⟩
     refine ⟨_, rfl, i, 1, rfl, rfl, trivial, _, rfl, ag, _, _, _, rfl, rfl, hR _, atI_nat (row_at hrow), rowS row, rfl, (by show row.length ≤ sizeLine; rw [hlen2]; exact row_small is), i + 1, xs.length, rfl, (by show V.int ((row.length : Nat) : Int) = vi xs.length; rw [hlen2]), trivial, ?_⟩
     refine ⟨_, rfl, _, rfl, _, rfl, _, rfl, i, 1, rfl, rfl, trivial, _, rfl, _, rfl, _, rfl, a, _, rfl, sq_keep hS s2, fun g hg => ?_⟩
     rw [cut_eq hle hcut]
     have s3 := sU (o := .lst (vis xs)) (Same.refl H2) hg
     have gF : g ∉ Fp := fun z => by
      obtain ⟨o, eo⟩ := se.here z
      rw [eo] at hg; cases hg
     refine ⟨p, g, Fp, d, nr, xs, x, rfl, se.keep s3, q1z, gF, is, fun H4 F4 r se4 af4 fr er => ?_⟩
     have af := After.pre s3 af4
     have en4 : H4 n0 = some (.lst (acc.map V.int)) := af.kp _ _ en nF
     have nF4 : n0 ∉ F4 := fun z => by
      rcases af.new _ z with z | z
      . exact nF z
      . rw [en] at z; cases z
     have s4 : Same H H4 := fun b o e => af.kp b o (s2 b o e) fun z => by
      rw [fF b z] at e; cases e
     have fF4 : ∀ b ∈ F4, H b = none := fun b hb => by
      rcases af.new b hb with z | z
      . exact fF b z
      . exact s2.free z
     have rn : r ≠ n0 := fun z => by
      have := s3.free fr
      rw [z, en] at this; cases this
     have lv : (ansV (act d x).2).length = (Km469Neutral.told (act d x).2).length := List.length_map _
     rw [List.length_append, List.length_cons] at hlen
     refine ⟨_, rfl, .inl ⟨rfl, _, SqL.of en4⟩, _, rfl, r, _, rfl, .inl (SqL.of er), n0, _, _, rfl, rfl, en4, ?_, ?_⟩
     . rw [List.length_map]
       exact Nat.lt_of_le_of_lt (show acc.length ≤ 10000000 by omega) (by decide)
     have er5 : upd H4 n0 (.lst (acc.map V.int ++ [V.int ((ansV (act d x).2).length : Int)])) r = some (.lst (ansV (act d x).2)) := by
      rw [q5z rn]; exact er
     refine ⟨_, rfl, .inl ⟨rfl, _, SqL.of q1z⟩, _, rfl, n0, r, _, _, rfl, rfl, q1z, er5, ?_, ?_⟩
     . rw [List.length_append, List.length_map, lv]
       exact Nat.le_trans (show acc.length + 1 + (Km469Neutral.told (act d x).2).length ≤ 10000000 by omega) (by decide)
     refine ⟨_, rfl, i + 1 + xs.length, _, _, F4, _, _, _, rfl, nw2, (se4.put en4 nF4).put q1z nF4, ?_, nF4, fF4, ?_, rfl⟩
     . rw [q1z, List.map_append, List.map_cons, lv, List.append_assoc]
       rfl
     . exact same_upd' (same_upd' s4 fn0) fn0
   . have hc' : l.length ≤ i := Decidable.byContradiction fun z => hc (decide_eq_true (by omega))
     have ea := LLF.now_end nw hc'
     rw [ea] at en
     exact ⟨_, rfl, q H2 n0 en⟩
theorem zip_all {l xs : List Nat} {f : Nat × Nat -> Bool} : (l.zip xs).all f = true ↔ ∀ j c z : Nat, l[j]? = some c -> xs[j]? = some z -> f (c, z) = true := by
 rw [List.all_eq_true]
 constructor
 . intro h j c z hc hz
   exact h (c, z) (List.mem_of_getElem? (i := j) (List.getElem?_zip_eq_some.mpr ⟨hc, hz⟩))
 . intro h p hp
   obtain ⟨j, hj⟩ := List.getElem?_of_mem hp
   obtain ⟨a, b⟩ := List.getElem?_zip_eq_some.mp hj
   exact h j p.1 p.2 a b
theorem sign_in {n c : Nat} (hn : 1 ≤ n) (h : (lookS tabM (⟨#[c]⟩ : Str)).isSome = true) : ∃ (k : Nat) (m : Int), kS n c = some k /\ lookS tabM (⟨#[c]⟩ : Str) = some m /\ (n : Int) + m = (k : Int) /\ k ≤ n + 1 := by
 rw [look_sign] at h ⊢
 unfold kS
 by_cases h1 : c = 119
 . rw [if_pos h1, if_pos h1]
   exact ⟨n, 0, rfl, rfl, by omega, by omega⟩
 . rw [if_neg h1] at h ⊢
   rw [if_neg h1]
   by_cases h2 : c = 115
   . rw [if_pos h2, if_pos h2]
     exact ⟨n - 1, -1, rfl, rfl, by omega, by omega⟩
   . rw [if_neg h2] at h ⊢
     rw [if_neg h2]
     by_cases h3 : c = 103
     . rw [if_pos h3, if_pos h3]
       exact ⟨n + 1, 1, rfl, rfl, by omega, by omega⟩
     . rw [if_neg h3] at h
       cases h
theorem sign_out {n c : Nat} (h : ¬ (lookS tabM (⟨#[c]⟩ : Str)).isSome = true) : kS n c = none := by
 rw [look_sign] at h
 unfold kS
 by_cases h1 : c = 119
 . rw [if_pos h1] at h; exact absurd rfl h
 . rw [if_neg h1] at h ⊢
   by_cases h2 : c = 115
   . rw [if_pos h2] at h; exact absurd rfl h
   . rw [if_neg h2] at h ⊢
     by_cases h3 : c = 103
     . rw [if_pos h3] at h; exact absurd rfl h
     . rw [if_neg h3]
theorem in_tab {kvs : List (Int × Addr)} {k : Int} : (look kvs k).isSome = true ↔ k ∈ kvs.map (·.1) := by
 unfold look
 rw [Option.isSome_map, List.find?_isSome, List.mem_map]
 constructor
 . rintro ⟨p, hp, e⟩
   exact ⟨p, hp, of_decide_eq_true e⟩
 . rintro ⟨p, hp, e⟩
   exact ⟨p, hp, decide_eq_true e⟩
variable {P : Program} {w : World} {K : W.Frag} {mg : Str → Option Value} {base : Heap}
def sp_wat (CH CS : Addr) : Sp := fun vs H Q _ => ∃ (p g : Addr) (F : List Addr) (d : Desk) (nr : Nat) (xs : List Nat) (x : Km469.Call), vs = [.ref p, vi nr, .ref g] /\ Sess CH CS F H p d /\ H g = some (.lst (vis xs)) /\ LLF.Is nr xs x /\ ∀ H', Same H H' -> Q (.bl (okB d.now.long x)) H'
theorem sc_wat : FnScope ["session", "number", "given", "sign", "value"] ["session", "number", "given"] (defScope s_words_are_there) := sc_by rfl (by decide +kernel)
theorem ok_wat {CH CS f : Addr} {fd : FuncData} (F : Fun K "words_are_there" "words_are_there" s_words_are_there f fd) (T : TxtS K mg CS) (G : TxtG w K mg) (DW : MDef P w K mg base CS "has_word" 1 ["self", "word", "more"] (sp_has_word CS)) : FnOk P w K mg base CX0 2 f fd ["session", "number", "given"] (sp_wat CH CS) := by
 refine F.ok sc_wat (fun _ _ _ _ h => ?_) (fun _ _ _ _ H vs Q E hr h => ?_)
 . obtain ⟨p, g, Fp, d, nr, xs, x, rfl, _⟩ := h
   rfl
 . obtain ⟨p, g, Fp, d, nr, xs, x, rfl, se, hg, is, q⟩ := h
   obtain ⟨dx, wa, h, dh, tc, le, ll, eF, ep, ew, hi⟩ := se.ex
   obtain ⟨ag, hG, hR⟩ := G.ex
   obtain ⟨am, hM, TB⟩ := G.ml
   obtain ⟨row, hrow, hlen, hasc, hok⟩ := is_row is d.now.long
   have n2 := se.ok.n2
   have n10 := se.ok.n10
   have sv : SV CS H p d.now.long h := ⟨dx, wa, ep, ew⟩
   have hasc' : (rowS row).cps.all (· < 128) = true := by
    show row.toArray.all (· < 128) = true
    simpa using hasc
   refine ⟨_, q3z (ps_for PassesOwn.never rfl (pi_zs rfl G.zip (q0z (pe_ix ix_tup (q14z (v := .ref ag) rfl hG rfl) (pv 1) (fun _ _ => rfl)) (q0z (pv 2) q2z)))
    (pg_tup rfl (pgs_cons (pg_name (i := 3) sc_wat.nd rfl (Or.inl rfl)) (pgs_cons (pg_name (i := 4) sc_wat.nd rfl (Or.inl rfl)) pgs_nil)))
    (q4z (ps_if (PW.pt (pw_and (pt_cmp (pc_tabS TB rfl hM (pv 3))) (pw_and1 (pt_not (pt_val (pe_methD (pv 0) T.cl DW hr (q0z (pv 4) (q0z (pe_tabS TB rfl hM (pv 3) (fun _ _ => rfl)) q2z)))))))) (q4z (q8z pe_bl)) pss_nil)))
    (q4z (q8z pe_bl)), ?_⟩
   refine ⟨_, rfl, ag, _, _, _, rfl, rfl, hR _, atI_nat (row_at hrow), _, rfl, rowS row, g, _, rfl, hasc', SqL.of hg, for_zs (K := K) (x := rowS row) (b := g) (ys := vis xs) ?_ (fun i σ H' => ∃ u v, σ = [some (.ref p), some (vi nr), some (.ref g), u, v] ∧ Same H H' ∧ ∀ j, j < i → ∀ c z, row[j]? = some c → xs[j]? = some z → okS d.now.long c z = true)
    ⟨none, none, rfl, Same.refl H, fun j hj => by omega⟩ (fun i σ H' ⟨_, _, _, e, _⟩ => SqL.of (e _ _ hg)) ?_ ?_⟩
   . show row.toArray.size ≤ (vis xs).length
     rw [q9z, ← hlen]
     simp
   . rintro i c y T0 σ H' hc hy hT ⟨u, v, rfl, s1, all⟩
     have hc' : row[i]? = some c := by
      have : row.toArray[i]? = some c := hc
      simpa using this
     obtain ⟨z, hz, rfl⟩ := vis_get hy
     have s2 := sU (o := .tup [.str ⟨#[c]⟩, vi z]) s1 hT
     refine ⟨T0, _, rfl, SqT.of q1z, rfl, _, _, rfl, _, _, rfl, rfl, ?_⟩
     refine ⟨_, rfl, ⟨#[c]⟩, rfl, _, rfl, ?_⟩
     have nxt : okS d.now.long c z = true → ∀ j, j < i + 1 → ∀ c z, row[j]? = some c → xs[j]? = some z → okS d.now.long c z = true := fun ho j hj c' z' h1 h2 => by
      by_cases e : j = i
      . subst e
        rw [hc'] at h1
        rw [hz] at h2
        cases h1
        cases h2
        exact ho
      . exact all j (by omega) c' z' h1 h2
     refine ite2 (fun hin => ?_) (fun hout => ?_)
     . obtain ⟨k, m, hk, hm, hkm, hkn⟩ := sign_in (n := d.now.long) (by omega) hin
       have eo : okS d.now.long c z = decide (z < 2 ^ k) := by
        unfold okS
        rw [hk]
       refine ⟨_, rfl, p, dx, _, rfl, s2 _ _ ep, fsS_no (by decide +kernel) (by decide +kernel) (by decide +kernel), _, rfl, _, rfl, ⟨#[c]⟩, m, rfl, hm, p, h, d.now.long, z, k, m, rfl, sv.keep s2, hkm, by omega, _, rfl, ?_⟩
       show if (!decide (z < 2 ^ k)) = true then _ else _
       refine ite2 (fun hb => ?_) (fun hb => ?_)
       . have hb' : okS d.now.long c z = false := by
          rw [eo]
          simpa using hb
         have e0 : okB d.now.long x = false := by
          cases e : okB d.now.long x with
          | false => rfl
          | true =>
            rw [hok] at e
            have := zip_all.mp e i c z hc' hz
            simp only at this
            rw [hb'] at this
            cases this
         rw [e0] at q
         exact q _ s2
       . refine ⟨_, _, rfl, s2, nxt ?_⟩
         rw [eo]
         simpa using hb
     . refine ⟨_, _, rfl, s2, nxt ?_⟩
       unfold okS
       rw [sign_out hout]
   . rintro σ H' ⟨u, v, rfl, s1, all⟩
     have e0 : okB d.now.long x = true := by
      rw [hok]
      exact zip_all.mpr fun j c z h1 h2 => all j (by
       show j < row.toArray.size
       have := (List.getElem?_eq_some_iff.mp h1).1
       simpa using this) c z h1 h2
     rw [e0] at q
     exact q _ s1
theorem sc_acall : FnScope ["session", "number", "given"] ["session", "number", "given"] (defScope s_answer_call) := sc_by rfl (by decide +kernel)
theorem ok_acall {CH CS f : Addr} {fd : FuncData} {kc km ko ks : List (Int × Addr)} (F : Fun K "answer_call" "answer_call" s_answer_call f fd) (G : TxtG w K mg) (TC : TxtC mg)
 (ec : kc.map (·.1) = [1, 2, 3, 4, 5, 6]) (em : km.map (·.1) = [19, 20, 21, 22]) (eo : ko.map (·.1) = [16, 17, 18, 24, 25]) (es : ks.map (·.1) = [26, 27, 28])
 (DS : Def P w K mg base "start" 4 ["session", "n"] (sp_start CH CS)) (DW : Def P w K mg base "words_are_there" 2 ["session", "number", "given"] (sp_wat CH CS))
 (Ic : Def P w K mg base "is_change" 1 ["number"] (sp_isch kc)) (Im : Def P w K mg base "is_mend" 1 ["number"] (sp_isch km)) (Io : Def P w K mg base "is_of_code" 1 ["number"] (sp_isch ko)) (Is : Def P w K mg base "is_step" 1 ["number"] (sp_isch ks))
 (Dc : Def P w K mg base "answer_change" 37 ["session", "number", "given"] (sp_tab CH CS (fun nr => 1 ≤ nr ∧ nr ≤ 6))) (Dm : Def P w K mg base "answer_mend" 6 ["session", "number", "given"] (sp_tab CH CS (fun nr => 19 ≤ nr ∧ nr ≤ 22)))
 (Do : Def P w K mg base "answer_of_code" 37 ["session", "number", "given"] (sp_tab CH CS (fun nr => (16 ≤ nr ∧ nr ≤ 18) ∨ (24 ≤ nr ∧ nr ≤ 25)))) (Ds : Def P w K mg base "answer_step" 3 ["session", "number", "given"] (sp_tab CH CS (fun nr => 26 ≤ nr ∧ nr ≤ 28)))
 (Dl : Def P w K mg base "answer_look" 7 ["session", "number", "given"] (sp_tab CH CS (fun nr => (7 ≤ nr ∧ nr ≤ 15) ∨ nr = 23))) : FnOk P w K mg base CX0 38 f fd ["session", "number", "given"] (sp_call CH CS) := by
 refine F.ok sc_acall (fun _ _ _ _ h => ?_) (fun _ _ _ _ H vs Q E hr h => ?_)
 . obtain ⟨p, g, Fp, d, nr, xs, x, rfl, _⟩ := h
   rfl
 . obtain ⟨p, g, Fp, d, nr, xs, x, rfl, se, hg, _, is, q⟩ := h
   obtain ⟨t0, h0⟩ := G.st
   obtain ⟨t1, h1⟩ := TC.nt
   have h28 := (LLF.is_shape is).2
   have hr1 : Room 1 _ := hr.mono (by decide)
   have hr2 : Room 2 _ := hr.mono (by decide)
   have hr3 : Room 3 _ := hr.mono (by decide)
   have hr4 : Room 4 _ := hr.mono (by decide)
   have hr6 : Room 6 _ := hr.mono (by decide)
   have hr7 : Room 7 _ := hr.mono (by decide)
   refine ⟨_, q3z (ps_if (pt_cmpR op_eq (pv 1) (q14z (v := .int 0) rfl h0 ⟨_, rfl⟩) (nomark _)) (q4z (q8z (q6z DS hr4 rfl (q0z (pv 0) (q0z (pe_ix ix_list (pv 2) q10z (fun _ _ => rfl)) q2z))))) pss_nil)
    (q3z (ps_if (pt_not (pt_val (q6z DW hr2 rfl (q0z (pv 0) (q0z (pv 1) (q0z (pv 2) q2z)))))) (q4z (q8z (q13z (q0z (q14z (v := .int (-2)) rfl h1 ⟨_, rfl⟩) q2z)))) pss_nil)
    (q3z (ps_if (pt_val (q6z Ic hr1 rfl (q0z (pv 1) q2z))) (q4z (q8z (q6z Dc hr rfl (q0z (pv 0) (q0z (pv 1) (q0z (pv 2) q2z)))))) pss_nil)
    (q3z (ps_if (pt_val (q6z Im hr1 rfl (q0z (pv 1) q2z))) (q4z (q8z (q6z Dm hr6 rfl (q0z (pv 0) (q0z (pv 1) (q0z (pv 2) q2z)))))) pss_nil)
    (q3z (ps_if (pt_val (q6z Io hr1 rfl (q0z (pv 1) q2z))) (q4z (q8z (q6z Do hr rfl (q0z (pv 0) (q0z (pv 1) (q0z (pv 2) q2z)))))) pss_nil)
    (q3z (ps_if (pt_val (q6z Is hr1 rfl (q0z (pv 1) q2z))) (q4z (q8z (q6z Ds hr3 rfl (q0z (pv 0) (q0z (pv 1) (q0z (pv 2) q2z)))))) pss_nil)
    (q4z (q8z (q6z Dl hr7 rfl (q0z (pv 0) (q0z (pv 1) (q0z (pv 2) q2z))))))))))), ?_⟩
   refine ⟨_, rfl, rfl, _, rfl, ?_⟩
   have ez : decide (vi nr = V.int 0) = decide (nr = 0) := vi_eq nr 0
   rw [ez]
   refine ite2 (fun hc => ?_) (fun hc => ?_)
   . have hc' : nr = 0 := of_decide_eq_true hc
     cases is <;> first | (exfalso; omega) | skip
     rename_i n
     exact ⟨_, rfl, _, rfl, g, _, _, _, rfl, rfl, SqL.of hg, atI_nat (j := 0) (xs := vis [n]) (v := vi n) rfl, p, Fp, d, n, rfl, se, q⟩
   . have hc' : nr ≠ 0 := fun z => hc (decide_eq_true z)
     refine ⟨_, rfl, _, rfl, _, rfl, p, g, Fp, d, nr, xs, x, rfl, se, hg, is, fun H1 s1 => ⟨_, rfl, ?_⟩⟩
     show if (!okB d.now.long x) = true then _ else _
     refine ite2 (fun hb => ?_) (fun hb => ?_)
     . have hb' : okB d.now.long x = false := by simpa using hb
       rw [act_bad hb'] at q
       refine ⟨sz1, fun r hr0 => ?_⟩
       have s4 := sU (o := .lst [V.int (-2)]) s1 hr0
       exact q _ Fp r (se.keep s4) (After.same s4) (s1.free hr0) q1z
     . have hb' : okB d.now.long x = true := by simpa using hb
       have go : ∀ H5 F5 r, Sess CH CS F5 H5 p (act d x).1 → After Fp F5 H1 H5 → H1 r = none → H5 r = some (.lst (ansV (act d x).2)) → Q (.ref r) H5 := fun H5 F5 r se5 af5 fr er => q H5 F5 r se5 (After.pre s1 af5) (s1.free fr) er
       refine ⟨_, rfl, nr, rfl, _, rfl, ?_⟩
       refine ite2 (fun h1 => ?_) (fun h1 => ?_)
       . rw [in_tab, ec] at h1
         simp only [List.mem_cons, List.not_mem_nil, or_false] at h1
         exact ⟨_, rfl, _, rfl, _, rfl, p, g, Fp, d, nr, xs, x, rfl, se.keep s1, s1 _ _ hg, is, by omega, hb', go⟩
       rw [in_tab, ec] at h1
       simp only [List.mem_cons, List.not_mem_nil, or_false] at h1
       refine ⟨_, rfl, nr, rfl, _, rfl, ?_⟩
       refine ite2 (fun h2 => ?_) (fun h2 => ?_)
       . rw [in_tab, em] at h2
         simp only [List.mem_cons, List.not_mem_nil, or_false] at h2
         exact ⟨_, rfl, _, rfl, _, rfl, p, g, Fp, d, nr, xs, x, rfl, se.keep s1, s1 _ _ hg, is, by omega, hb', go⟩
       rw [in_tab, em] at h2
       simp only [List.mem_cons, List.not_mem_nil, or_false] at h2
       refine ⟨_, rfl, nr, rfl, _, rfl, ?_⟩
       refine ite2 (fun h3 => ?_) (fun h3 => ?_)
       . rw [in_tab, eo] at h3
         simp only [List.mem_cons, List.not_mem_nil, or_false] at h3
         exact ⟨_, rfl, _, rfl, _, rfl, p, g, Fp, d, nr, xs, x, rfl, se.keep s1, s1 _ _ hg, is, by omega, hb', go⟩
       rw [in_tab, eo] at h3
       simp only [List.mem_cons, List.not_mem_nil, or_false] at h3
       refine ⟨_, rfl, nr, rfl, _, rfl, ?_⟩
       refine ite2 (fun h4 => ?_) (fun h4 => ?_)
       . rw [in_tab, es] at h4
         simp only [List.mem_cons, List.not_mem_nil, or_false] at h4
         exact ⟨_, rfl, _, rfl, _, rfl, p, g, Fp, d, nr, xs, x, rfl, se.keep s1, s1 _ _ hg, is, by omega, hb', go⟩
       rw [in_tab, es] at h4
       simp only [List.mem_cons, List.not_mem_nil, or_false] at h4
       exact ⟨_, rfl, _, rfl, _, rfl, p, g, Fp, d, nr, xs, x, rfl, se.keep s1, s1 _ _ hg, is, by omega, hb', go⟩
def FunG (K : W.Frag) (x : Str) (st : Stmt) (f : Addr) : Prop := (∃ fd, Fun K x x st f fd) /\ W.nsIn K mainGlobals x = some (some (.ref f))
def GG (K : W.Frag) (x : Str) (st : Stmt) : Prop := ∃ f, FunG K x st f
def FunM (K : W.Frag) (C : Addr) (m qual : Str) (st : Stmt) : Prop := ∃ f fd, Fun K m qual st f fd /\ W.findIn K (.ref C) m = some (some (.ref f)) /\ W.isFn K (.ref f) = true
def Num (K : W.Frag) (x : Str) (v : Int) : Prop := ∃ t, W.nsIn K mainGlobals x = some (some (.int v t))
variable {P : Program} {w : World} {K : W.Frag} {mg : Str → Option Value} {base h : Heap}
theorem fg_mk {x : Str} {st : Stmt} {f : Addr} {oc : Value} {od an : Option Addr} {osl : Array (Option Value)} {kV doc pm cdv ct : Value} (a : W.nsIn K mainGlobals x = some (some (.ref f)))
 (l : K.lookup f = some ⟨oc, od, .func (W.fnOf x x (defArgs st) (defBody st) (defScope st) .none kV doc pm an cdv ct), osl⟩) (c : W.codeIn K cdv x = true) (k : W.keepIn K (.ref f) = true) : GG K x st := ⟨f, ⟨_, fun_mk l c k⟩, a⟩
theorem fm_mk {m qual : Str} {C : Addr} {st : Stmt} {f : Addr} {oc : Value} {od an : Option Addr} {osl : Array (Option Value)} {kV doc pm cdv ct : Value} (a : W.findIn K (.ref C) m = some (some (.ref f))) (i : W.isFn K (.ref f) = true)
 (l : K.lookup f = some ⟨oc, od, .func (W.fnOf m qual (defArgs st) (defBody st) (defScope st) .none kV doc pm an cdv ct), osl⟩) (c : W.codeIn K cdv qual = true) (k : W.keepIn K (.ref f) = true) : FunM K C m qual st := ⟨f, _, fun_mk l c k, a, i⟩
theorem num_mk {x : Str} {v : Int} {t : Tok} (a : W.nsIn K mainGlobals x = some (some (.int v t))) : Num K x v := ⟨t, a⟩
theorem Num.has {x : Str} {v : Int} (n : Num K x v) (X : K.In h) (G : h.Ns mainGlobals mg) : ∃ t, mg x = some (.int v t) := let ⟨t, a⟩ := n; ⟨t, W.mg_of X G a⟩
theorem mkDef {x : Str} {st : Stmt} {k : Nat} {ps : List Str} {sp : Sp} (X : K.In h) (G : h.Ns mainGlobals mg) (g : GG K x st) (ok : ∀ f fd, Fun K x x st f fd -> FnOk P w K mg base CX0 k f fd ps sp)
 (b : ∀ (kV doc pm : Value) (an : Option Addr) (cdv ct : Value) (us : List Value), us.length = ps.length → bindArgs (W.fnOf x x (defArgs st) (defBody st) (defScope st) .none kV doc pm an cdv ct) ⟨us, []⟩ = pure (ps.zip us)) : Def P w K mg base x k ps sp := by
 obtain ⟨f, ⟨fd, F⟩, a⟩ := g
 exact ⟨f, fd, ok f fd F, W.mg_of X G a, F.kp, F.binds b⟩
theorem mkT {x : Str} {st : Stmt} {f : Addr} {k : Nat} {sp : Sp} (g : GG K x st) (e : W.nsIn K mainGlobals x = some (some (.ref f))) (ok : ∀ f fd, Fun K x x st f fd -> FnOk P w K mg base CX0 k f fd ["session", "given"] sp)
 (b : ∀ (kV doc pm : Value) (an : Option Addr) (cdv ct : Value) (us : List Value), us.length = (["session", "given"] : List Str).length → bindArgs (W.fnOf x x (defArgs st) (defBody st) (defScope st) .none kV doc pm an cdv ct) ⟨us, []⟩ = pure ((["session", "given"] : List Str).zip us)) : TDef P w K mg base f k sp := by
 obtain ⟨f', ⟨fd, F⟩, a⟩ := g
 rw [e] at a
 cases a
 exact ⟨fd, ok f fd F, F.kp, F.binds b⟩
theorem mkM {C : Addr} {m qual : Str} {st : Stmt} {k : Nat} {ps : List Str} {sp : Sp} (g : FunM K C m qual st) (ok : ∀ f fd, Fun K m qual st f fd -> FnOk P w K mg base CX0 k f fd ps sp)
 (b : ∀ (kV doc pm : Value) (an : Option Addr) (cdv ct : Value) (us : List Value), us.length = ps.length → bindArgs (W.fnOf m qual (defArgs st) (defBody st) (defScope st) .none kV doc pm an cdv ct) ⟨us, []⟩ = pure (ps.zip us)) : MDef P w K mg base C m k ps sp := by
 obtain ⟨f, fd, F, a, i⟩ := g
 exact ⟨f, fd, ok f fd F, ⟨a, i, F.kp⟩, F.binds b⟩
theorem mkK {x qual : Str} {C : Addr} {st : Stmt} {k : Nat} {sp : Sp} (X : K.In h) (G : h.Ns mainGlobals mg) (n : W.nsIn K mainGlobals x = some (some (.ref C))) (mk : W.makesIn K C = true) (kc : W.keepIn K (.ref C) = true) (g : FunM K C "__init__" qual st) (ok : ∀ f fd, Fun K "__init__" qual st f fd -> FnOk P w K mg base CX0 k f fd ["self"] sp)
 (b : ∀ (kV doc pm : Value) (an : Option Addr) (cdv ct : Value) (us : List Value), us.length = (["self"] : List Str).length → bindArgs (W.fnOf "__init__" qual (defArgs st) (defBody st) (defScope st) .none kV doc pm an cdv ct) ⟨us, []⟩ = pure ((["self"] : List Str).zip us)) : KDef P w K mg base x C k sp := by
 obtain ⟨f, fd, F, a, i⟩ := g
 exact ⟨f, fd, ⟨mk, a, i, kc⟩, ok f fd F, W.mg_of X G n, F.binds b⟩
theorem given_mk {ag : Addr} {od : Option Addr} {its : Array Value} {n : Nat} {sl : Array (Option Value)} (a : W.nsIn K mainGlobals "GIVEN" = some (some (.ref ag))) (l : K.lookup ag = some ⟨.type "tuple", od, .seq its n, sl⟩) (hz : its.size ≤ sizeLine) (hv : Vals (rowsC.map fun l => V.str (rowS l)) its.toList) :
 ∃ ag, W.nsIn K mainGlobals "GIVEN" = some (some (.ref ag)) ∧ ∀ H, SqT K H ag (rowsC.map fun l => V.str (rowS l)) := ⟨ag, a, fun H => .inr ⟨_, its, n, l, rfl, rfl, hz, hv⟩⟩
theorem more_mk {w : World} {am : Addr} {es : Array DictEntry} {ep : Nat} (a : W.nsIn K mainGlobals "MORE_LETTERS" = some (some (.ref am))) (l : K.lookup am = some ⟨.type "dict", none, .dict es ep, #[]⟩) (ht : tabS w es.toList tabM) (ns : (am == sysModules) = false) :
 ∃ am, W.nsIn K mainGlobals "MORE_LETTERS" = some (some (.ref am)) ∧ TabS w K am tabM := ⟨am, a, ⟨es, ep, l, ht⟩, ns⟩
def Tab_CHANGES (K : W.Frag) : Prop := ∃ (a f1 f2 f3 f4 f5 f6 : Addr), W.nsIn K mainGlobals "CHANGES" = some (some (.ref a)) /\ Tab K a [(1, f1), (2, f2), (3, f3), (4, f4), (5, f5), (6, f6)] /\ W.nsIn K mainGlobals "add" = some (some (.ref f1)) /\ W.nsIn K mainGlobals "force" = some (some (.ref f2)) /\ W.nsIn K mainGlobals "drop" = some (some (.ref f3)) /\ W.nsIn K mainGlobals "take" = some (some (.ref f4)) /\ W.nsIn K mainGlobals "grow" = some (some (.ref f5)) /\ W.nsIn K mainGlobals "empty" = some (some (.ref f6))
theorem tab_CHANGES {a f1 f2 f3 f4 f5 f6 : Addr} {es : Array DictEntry} {ep : Nat} (na : W.nsIn K mainGlobals "CHANGES" = some (some (.ref a))) (n1 : W.nsIn K mainGlobals "add" = some (some (.ref f1))) (n2 : W.nsIn K mainGlobals "force" = some (some (.ref f2))) (n3 : W.nsIn K mainGlobals "drop" = some (some (.ref f3))) (n4 : W.nsIn K mainGlobals "take" = some (some (.ref f4))) (n5 : W.nsIn K mainGlobals "grow" = some (some (.ref f5))) (n6 : W.nsIn K mainGlobals "empty" = some (some (.ref f6))) (l : K.lookup a = some ⟨.type "dict", none, .dict es ep, #[]⟩) (ht : tabIs es.toList [(1, f1), (2, f2), (3, f3), (4, f4), (5, f5), (6, f6)] = true) (ns : (a == sysModules) = false) : Tab_CHANGES K :=
 ⟨a, f1, f2, f3, f4, f5, f6, na, ⟨⟨es, ep, l, ht⟩, by simp, ns⟩, n1, n2, n3, n4, n5, n6⟩
def Tab_MENDS (K : W.Frag) : Prop := ∃ (a f1 f2 f3 f4 : Addr), W.nsIn K mainGlobals "MENDS" = some (some (.ref a)) /\ Tab K a [(19, f1), (20, f2), (21, f3), (22, f4)] /\ W.nsIn K mainGlobals "mend_lost" = some (some (.ref f1)) /\ W.nsIn K mainGlobals "mend_gained" = some (some (.ref f2)) /\ W.nsIn K mainGlobals "put_back" = some (some (.ref f3)) /\ W.nsIn K mainGlobals "take_out" = some (some (.ref f4))
theorem tab_MENDS {a f1 f2 f3 f4 : Addr} {es : Array DictEntry} {ep : Nat} (na : W.nsIn K mainGlobals "MENDS" = some (some (.ref a))) (n1 : W.nsIn K mainGlobals "mend_lost" = some (some (.ref f1))) (n2 : W.nsIn K mainGlobals "mend_gained" = some (some (.ref f2))) (n3 : W.nsIn K mainGlobals "put_back" = some (some (.ref f3))) (n4 : W.nsIn K mainGlobals "take_out" = some (some (.ref f4))) (l : K.lookup a = some ⟨.type "dict", none, .dict es ep, #[]⟩) (ht : tabIs es.toList [(19, f1), (20, f2), (21, f3), (22, f4)] = true) (ns : (a == sysModules) = false) : Tab_MENDS K :=
 ⟨a, f1, f2, f3, f4, na, ⟨⟨es, ep, l, ht⟩, by simp, ns⟩, n1, n2, n3, n4⟩
def Tab_OF_CODE (K : W.Frag) : Prop := ∃ (a f1 f2 f3 f4 f5 : Addr), W.nsIn K mainGlobals "OF_CODE" = some (some (.ref a)) /\ Tab K a [(16, f1), (17, f2), (18, f3), (24, f4), (25, f5)] /\ W.nsIn K mainGlobals "tell_safe" = some (some (.ref f1)) /\ W.nsIn K mainGlobals "tell_most" = some (some (.ref f2)) /\ W.nsIn K mainGlobals "tell_may" = some (some (.ref f3)) /\ W.nsIn K mainGlobals "tell_code" = some (some (.ref f4)) /\ W.nsIn K mainGlobals "tell_write" = some (some (.ref f5))
theorem tab_OF_CODE {a f1 f2 f3 f4 f5 : Addr} {es : Array DictEntry} {ep : Nat} (na : W.nsIn K mainGlobals "OF_CODE" = some (some (.ref a))) (n1 : W.nsIn K mainGlobals "tell_safe" = some (some (.ref f1))) (n2 : W.nsIn K mainGlobals "tell_most" = some (some (.ref f2))) (n3 : W.nsIn K mainGlobals "tell_may" = some (some (.ref f3))) (n4 : W.nsIn K mainGlobals "tell_code" = some (some (.ref f4))) (n5 : W.nsIn K mainGlobals "tell_write" = some (some (.ref f5))) (l : K.lookup a = some ⟨.type "dict", none, .dict es ep, #[]⟩) (ht : tabIs es.toList [(16, f1), (17, f2), (18, f3), (24, f4), (25, f5)] = true) (ns : (a == sysModules) = false) : Tab_OF_CODE K :=
 ⟨a, f1, f2, f3, f4, f5, na, ⟨⟨es, ep, l, ht⟩, by simp, ns⟩, n1, n2, n3, n4, n5⟩
def Tab_STEPS (K : W.Frag) : Prop := ∃ (a f1 f2 f3 : Addr), W.nsIn K mainGlobals "STEPS" = some (some (.ref a)) /\ Tab K a [(26, f1), (27, f2), (28, f3)] /\ W.nsIn K mainGlobals "undo" = some (some (.ref f1)) /\ W.nsIn K mainGlobals "again" = some (some (.ref f2)) /\ W.nsIn K mainGlobals "tell_state" = some (some (.ref f3))
theorem tab_STEPS {a f1 f2 f3 : Addr} {es : Array DictEntry} {ep : Nat} (na : W.nsIn K mainGlobals "STEPS" = some (some (.ref a))) (n1 : W.nsIn K mainGlobals "undo" = some (some (.ref f1))) (n2 : W.nsIn K mainGlobals "again" = some (some (.ref f2))) (n3 : W.nsIn K mainGlobals "tell_state" = some (some (.ref f3))) (l : K.lookup a = some ⟨.type "dict", none, .dict es ep, #[]⟩) (ht : tabIs es.toList [(26, f1), (27, f2), (28, f3)] = true) (ns : (a == sysModules) = false) : Tab_STEPS K :=
 ⟨a, f1, f2, f3, na, ⟨⟨es, ep, l, ht⟩, by simp, ns⟩, n1, n2, n3⟩
def Tab_LOOKS (K : W.Frag) : Prop := ∃ (a f1 f2 f3 f4 f5 f6 f7 f8 f9 f10 : Addr), W.nsIn K mainGlobals "LOOKS" = some (some (.ref a)) /\ Tab K a [(7, f1), (8, f2), (9, f3), (10, f4), (11, f5), (12, f6), (13, f7), (14, f8), (15, f9), (23, f10)] /\ W.nsIn K mainGlobals "tell_lost" = some (some (.ref f1)) /\ W.nsIn K mainGlobals "tell_gained" = some (some (.ref f2)) /\ W.nsIn K mainGlobals "tell_losing" = some (some (.ref f3)) /\ W.nsIn K mainGlobals "tell_gaining" = some (some (.ref f4)) /\ W.nsIn K mainGlobals "tell_runs" = some (some (.ref f5)) /\ W.nsIn K mainGlobals "tell_weight" = some (some (.ref f6)) /\ W.nsIn K mainGlobals "tell_class" = some (some (.ref f7)) /\ W.nsIn K mainGlobals "tell_largest" = some (some (.ref f8)) /\ W.nsIn K mainGlobals "tell_alike" = some (some (.ref f9)) /\ W.nsIn K mainGlobals "tell_common" = some (some (.ref f10))
theorem tab_LOOKS {a f1 f2 f3 f4 f5 f6 f7 f8 f9 f10 : Addr} {es : Array DictEntry} {ep : Nat} (na : W.nsIn K mainGlobals "LOOKS" = some (some (.ref a))) (n1 : W.nsIn K mainGlobals "tell_lost" = some (some (.ref f1))) (n2 : W.nsIn K mainGlobals "tell_gained" = some (some (.ref f2))) (n3 : W.nsIn K mainGlobals "tell_losing" = some (some (.ref f3))) (n4 : W.nsIn K mainGlobals "tell_gaining" = some (some (.ref f4))) (n5 : W.nsIn K mainGlobals "tell_runs" = some (some (.ref f5))) (n6 : W.nsIn K mainGlobals "tell_weight" = some (some (.ref f6))) (n7 : W.nsIn K mainGlobals "tell_class" = some (some (.ref f7))) (n8 : W.nsIn K mainGlobals "tell_largest" = some (some (.ref f8))) (n9 : W.nsIn K mainGlobals "tell_alike" = some (some (.ref f9))) (n10 : W.nsIn K mainGlobals "tell_common" = some (some (.ref f10))) (l : K.lookup a = some ⟨.type "dict", none, .dict es ep, #[]⟩) (ht : tabIs es.toList [(7, f1), (8, f2), (9, f3), (10, f4), (11, f5), (12, f6), (13, f7), (14, f8), (15, f9), (23, f10)] = true) (ns : (a == sysModules) = false) : Tab_LOOKS K :=
 ⟨a, f1, f2, f3, f4, f5, f6, f7, f8, f9, f10, na, ⟨⟨es, ep, l, ht⟩, by simp, ns⟩, n1, n2, n3, n4, n5, n6, n7, n8, n9, n10⟩
theorem all_mk {fa CH CS : Addr} (X : K.In h) (G : h.Ns mainGlobals mg) (hfa : mg "answers" = some (.ref fa))
 (aH : W.nsIn K mainGlobals "History" = some (some (.ref CH))) (aS : W.nsIn K mainGlobals "Session" = some (some (.ref CS)))
 (pgCH : W.plainGet K CH Str.empty = true) (hdCH : W.hasDictIn K CH = true) (poCH : W.plainOver K CH = true) (saCH : W.findIn K (.ref CH) "__setattr__" = some (some (.builtin "object.__setattr__"))) (mkCH : W.makesIn K CH = true) (kcCH : W.keepIn K (.ref CH) = true)
 (pgCS : W.plainGet K CS Str.empty = true) (hdCS : W.hasDictIn K CS = true) (poCS : W.plainOver K CS = true) (saCS : W.findIn K (.ref CS) "__setattr__" = some (some (.builtin "object.__setattr__"))) (mkCS : W.makesIn K CS = true) (kcCS : W.keepIn K (.ref CS) = true)
 (noCH_code : W.findIn K (.ref CH) "code" = some none)
 (noCH_earlier : W.findIn K (.ref CH) "earlier" = some none)
 (noCH_later : W.findIn K (.ref CH) "later" = some none)
 (noCS_n : W.findIn K (.ref CS) "n" = some none)
 (noCS_weights : W.findIn K (.ref CS) "weights" = some none)
 (noCS_history : W.findIn K (.ref CS) "history" = some none)
 (m_hinit : FunM K CH "__init__" "History.__init__" s_History_init)
 (m_change : FunM K CH "change" "History.change" s_History_change)
 (m_take_back : FunM K CH "take_back" "History.take_back" s_History_take_back)
 (m_do_again : FunM K CH "do_again" "History.do_again" s_History_do_again)
 (m_sinit : FunM K CS "__init__" "Session.__init__" s_Session_init)
 (m_begin : FunM K CS "begin" "Session.begin" s_Session_begin)
 (m_has_word : FunM K CS "has_word" "Session.has_word" s_Session_has_word)
 (m_has_class : FunM K CS "has_class" "Session.has_class" s_Session_has_class)
 (m_class_of : FunM K CS "class_of" "Session.class_of" s_Session_class_of)
 (m_words_of_class : FunM K CS "words_of_class" "Session.words_of_class" s_Session_words_of_class)
 (g_last : GG K "last_letters" s_last_letters)
 (g_letter : GG K "letter_at" s_letter_at)
 (g_losing : GG K "losing" s_losing)
 (g_gaining : GG K "gaining" s_gaining)
 (g_lost : GG K "lost" s_lost)
 (g_gained : GG K "gained" s_gained)
 (g_runs : GG K "runs" s_runs)
 (g_letters : GG K "letters_of" s_letters_of)
 (g_common : GG K "common" s_common)
 (g_alike : GG K "alike_by_losing" s_alike_by_losing)
 (g_alikeG : GG K "alike_by_gaining" s_alike_by_gaining)
 (g_weights : GG K "weights" s_weights)
 (g_told : GG K "told" s_told)
 (g_is_safe : GG K "is_safe" s_is_safe)
 (g_free : GG K "free_words" s_free_words)
 (g_mask : GG K "mask_of" s_mask_of)
 (g_near : GG K "near_masks" s_near_masks)
 (g_MW : GG K "most_within" s_most_within)
 (g_swm : GG K "safe_with_most" s_safe_with_most)
 (g_rts : GG K "refusal_to_search" s_refusal_to_search)
 (g_can : GG K "can_start" s_can_start)
 (g_changed : GG K "changed_to" s_changed_to)
 (g_aic : GG K "alike_in_code" s_alike_in_code)
 (g_ww : GG K "with_word" s_with_word)
 (g_ref : GG K "refusal_of" s_refusal_of)
 (g_one : GG K "the_one_of" s_the_one_of)
 (g_bl : GG K "before_losing" s_before_losing)
 (g_bg : GG K "before_gaining" s_before_gaining)
 (g_ooc : GG K "one_of_code" s_one_of_code)
 (g_ocl : GG K "one_of_class" s_one_of_class)
 (g_start : GG K "start" s_start)
 (g_wat : GG K "words_are_there" s_words_are_there)
 (g_add : GG K "add" s_add)
 (g_force : GG K "force" s_force)
 (g_drop : GG K "drop" s_drop)
 (g_take : GG K "take" s_take)
 (g_grow : GG K "grow" s_grow)
 (g_empty : GG K "empty" s_empty)
 (g_mend_lost : GG K "mend_lost" s_mend_lost)
 (g_mend_gained : GG K "mend_gained" s_mend_gained)
 (g_put_back : GG K "put_back" s_put_back)
 (g_take_out : GG K "take_out" s_take_out)
 (g_tell_safe : GG K "tell_safe" s_tell_safe)
 (g_tell_most : GG K "tell_most" s_tell_most)
 (g_tell_may : GG K "tell_may" s_tell_may)
 (g_tell_code : GG K "tell_code" s_tell_code)
 (g_tell_write : GG K "tell_write" s_tell_write)
 (g_undo : GG K "undo" s_undo)
 (g_again : GG K "again" s_again)
 (g_tell_state : GG K "tell_state" s_tell_state)
 (g_tell_lost : GG K "tell_lost" s_tell_lost)
 (g_tell_gained : GG K "tell_gained" s_tell_gained)
 (g_tell_losing : GG K "tell_losing" s_tell_losing)
 (g_tell_gaining : GG K "tell_gaining" s_tell_gaining)
 (g_tell_runs : GG K "tell_runs" s_tell_runs)
 (g_tell_weight : GG K "tell_weight" s_tell_weight)
 (g_tell_class : GG K "tell_class" s_tell_class)
 (g_tell_largest : GG K "tell_largest" s_tell_largest)
 (g_tell_alike : GG K "tell_alike" s_tell_alike)
 (g_tell_common : GG K "tell_common" s_tell_common)
 (g_answer_change : GG K "answer_change" s_answer_change)
 (g_answer_mend : GG K "answer_mend" s_answer_mend)
 (g_answer_of_code : GG K "answer_of_code" s_answer_of_code)
 (g_answer_step : GG K "answer_step" s_answer_step)
 (g_answer_look : GG K "answer_look" s_answer_look)
 (g_is_change : GG K "is_change" s_is_change)
 (g_is_mend : GG K "is_mend" s_is_mend)
 (g_is_of_code : GG K "is_of_code" s_is_of_code)
 (g_is_step : GG K "is_step" s_is_step)
 (g_answer_call : GG K "answer_call" s_answer_call) (g_answers : GG K "answers" s_answers)
 (c_nt : Num K "NOT_THERE" (-2))
 (c_nic : Num K "NOT_IN_CODE" (-6))
 (c_so : Num K "ALREADY_SO" (-17))
 (c_oor : Num K "OUT_OF_RANGE" (-22))
 (c_many : Num K "TOO_MANY" (-28))
 (c_alikec : Num K "ALIKE" (-33))
 (c_long : Num K "TOO_LONG" (-75))
 (c_mic : Num K "MOST_IN_CODE" (24))
 (c_mls : Num K "MOST_LETTERS_SEARCHED" (5))
 (c_lt : Num K "LOST_TOLD" (10))
 (c_gt : Num K "GAINED_TOLD" (12))
 (c_mt : Num K "MOST_TOLD" (10))
 (c_ltt : Num K "LETTERS_TOLD" (10))
 (c_no : Num K "OF_NONE" (-33))
 (c_sev : Num K "OF_SEVERAL" (-16))
 (c_few : Num K "FEWEST_LETTERS" (2))
 (c_mostl : Num K "MOST_LETTERS" (10))
 (c_backc : Num K "MOST_BACK" (20))
 (c_st : Num K "START" (0))
 (o_len : W.nsIn K mainGlobals "len" = some none)
 (o_range : W.nsIn K mainGlobals "range" = some none)
 (o_sorted : W.nsIn K mainGlobals "sorted" = some none)
 (o_set : W.nsIn K mainGlobals "set" = some none)
 (o_tuple : W.nsIn K mainGlobals "tuple" = some none)
 (o_list : W.nsIn K mainGlobals "list" = some none)
 (o_all : W.nsIn K mainGlobals "all" = some none)
 (o_max : W.nsIn K mainGlobals "max" = some none)
 (o_zip : W.nsIn K mainGlobals "zip" = some none)
 (t_CHANGES : Tab_CHANGES K)
 (t_MENDS : Tab_MENDS K)
 (t_OF_CODE : Tab_OF_CODE K)
 (t_STEPS : Tab_STEPS K)
 (t_LOOKS : Tab_LOOKS K)
 (t_GIVEN : ∃ ag, W.nsIn K mainGlobals "GIVEN" = some (some (.ref ag)) ∧ ∀ H, SqT K H ag (rowsC.map fun l => V.str (rowS l))) (t_MORE : ∃ am, W.nsIn K mainGlobals "MORE_LETTERS" = some (some (.ref am)) ∧ TabS w K am tabM) :
 ∃ fd : FuncData, (∀ (s : Shared) (us : List Value), us.length = (["calls"] : List Str).length → BindsTo s fd ⟨us, []⟩ ((["calls"] : List Str).zip us)) ∧ ∀ base : Heap, K.In base → base.Ns mainGlobals mg → FnOk P w K mg base CX0 39 fa fd ["calls"] (sp_answers K) := by
 obtain ⟨f0, ⟨fd, F0⟩, a0⟩ := g_answers
 have e := hfa.symm.trans (W.mg_of X G a0)
 cases e
 refine ⟨fd, ?_, fun base _ _ => ?_⟩
 . obtain ⟨oc, od, kV, doc, pm, an, cdv, ct, osl, rfl, _⟩ := F0.ex
   exact fun s us hu => match us, hu with | [_], _ => .of_eq rfl
 . have O : Own mg := ⟨W.mg_none_of X G o_len, W.mg_none_of X G o_range, W.mg_none_of X G o_sorted, W.mg_none_of X G o_set, W.mg_none_of X G o_tuple, W.mg_none_of X G o_list, W.mg_none_of X G o_all, W.mg_none_of X G o_max⟩
   have TH : TxtH K mg CH := ⟨⟨pgCH, hdCH, poCH, saCH⟩, noCH_code, noCH_earlier, noCH_later, c_backc.has X G⟩
   have TS : TxtS K mg CS := ⟨⟨pgCS, hdCS, poCS, saCS⟩, noCS_n, noCS_weights, noCS_history, c_few.has X G, c_mostl.has X G⟩
   have TC : TxtC mg := ⟨c_nt.has X G, c_nic.has X G, c_so.has X G, c_oor.has X G, c_many.has X G, c_alikec.has X G, c_long.has X G, c_mic.has X G, c_mls.has X G⟩
   have TL : TxtL mg := ⟨c_lt.has X G, c_gt.has X G⟩
   have TO : TxtO mg := ⟨c_mt.has X G, c_ltt.has X G⟩
   have TM : TxtM mg := ⟨c_no.has X G, c_sev.has X G⟩
   have TG : TxtG w K mg := by
    obtain ⟨ag, b1, b2⟩ := t_GIVEN
    obtain ⟨am, b3, b4⟩ := t_MORE
    exact ⟨⟨ag, W.mg_of X G b1, b2⟩, ⟨am, W.mg_of X G b3, b4⟩, c_st.has X G, W.mg_none_of X G o_zip⟩
   have D_last : Def P w K mg base "last_letters" 1 ["word", "many"] sp_last := mkDef X G g_last (fun f fd F => ok_last F) (fun _ _ _ _ _ _ us hl => match us, hl with | [_, _], _ => rfl)
   have D_letter : Def P w K mg base "letter_at" 1 ["word", "n", "place"] sp_letter := mkDef X G g_letter (fun f fd F => ok_letter F) (fun _ _ _ _ _ _ us hl => match us, hl with | [_, _, _], _ => rfl)
   have D_losing : Def P w K mg base "losing" 2 ["word", "n", "place"] sp_losing := mkDef X G g_losing (fun f fd F => ok_losing F D_last) (fun _ _ _ _ _ _ us hl => match us, hl with | [_, _, _], _ => rfl)
   have D_gaining : Def P w K mg base "gaining" 2 ["word", "n", "place", "letter"] sp_gaining := mkDef X G g_gaining (fun f fd F => ok_gaining F D_last) (fun _ _ _ _ _ _ us hl => match us, hl with | [_, _, _, _], _ => rfl)
   have D_lost : Def P w K mg base "lost" 3 ["word", "n"] sp_lost := mkDef X G g_lost (fun f fd F => ok_lost F O D_losing) (fun _ _ _ _ _ _ us hl => match us, hl with | [_, _], _ => rfl)
   have D_gained : Def P w K mg base "gained" 3 ["word", "n"] sp_gained := mkDef X G g_gained (fun f fd F => ok_gained F O D_gaining) (fun _ _ _ _ _ _ us hl => match us, hl with | [_, _], _ => rfl)
   have D_runs : Def P w K mg base "runs" 2 ["word", "n"] sp_runs := mkDef X G g_runs (fun f fd F => ok_runs F O D_letter) (fun _ _ _ _ _ _ us hl => match us, hl with | [_, _], _ => rfl)
   have D_letters : Def P w K mg base "letters_of" 2 ["word", "n"] sp_letters := mkDef X G g_letters (fun f fd F => ok_letters F O D_letter) (fun _ _ _ _ _ _ us hl => match us, hl with | [_, _], _ => rfl)
   have D_common : Def P w K mg base "common" 4 ["first", "second", "n"] sp_common := mkDef X G g_common (fun f fd F => ok_common F O D_lost) (fun _ _ _ _ _ _ us hl => match us, hl with | [_, _, _], _ => rfl)
   have D_alike : Def P w K mg base "alike_by_losing" 5 ["first", "second", "n"] sp_alike := mkDef X G g_alike (fun f fd F => ok_alike F O D_common) (fun _ _ _ _ _ _ us hl => match us, hl with | [_, _, _], _ => rfl)
   have D_alikeG : Def P w K mg base "alike_by_gaining" 4 ["first", "second", "n"] sp_alikeG := mkDef X G g_alikeG (fun f fd F => ok_alikeG F O D_gained) (fun _ _ _ _ _ _ us hl => match us, hl with | [_, _, _], _ => rfl)
   have D_weights : Def P w K mg base "weights" 1 ["n"] sp_weights := mkDef X G g_weights (fun f fd F => ok_weights F O) (fun _ _ _ _ _ _ us hl => match us, hl with | [_], _ => rfl)
   have D_told : Def P w K mg base "told" 1 ["words", "many"] (sp_told K) := mkDef X G g_told (fun f fd F => ok_told F O) (fun _ _ _ _ _ _ us hl => match us, hl with | [_, _], _ => rfl)
   have D_is_safe : Def P w K mg base "is_safe" 4 ["code", "n"] (sp_is_safe K) := mkDef X G g_is_safe (fun f fd F => ok_is_safe F O D_lost) (fun _ _ _ _ _ _ us hl => match us, hl with | [_, _], _ => rfl)
   have D_free : Def P w K mg base "free_words" 4 ["code", "n"] (sp_free K) := mkDef X G g_free (fun f fd F => ok_free F O D_lost D_gained) (fun _ _ _ _ _ _ us hl => match us, hl with | [_, _], _ => rfl)
   have D_mask : Def P w K mg base "mask_of" 1 ["words"] (sp_mask K) := mkDef X G g_mask (fun f fd F => ok_mask F) (fun _ _ _ _ _ _ us hl => match us, hl with | [_], _ => rfl)
   have D_near : Def P w K mg base "near_masks" 4 ["n"] sp_near := mkDef X G g_near (fun f fd F => ok_near F O D_lost D_gained D_mask) (fun _ _ _ _ _ _ us hl => match us, hl with | [_], _ => rfl)
   have D_MW : ∀ n, 1 ≤ n → n ≤ 5 → Def P w K mg base "most_within" 34 ["free", "near", "known"] (sp_mw n 33) := fun n n1 n5 => by
    obtain ⟨f, ⟨fd, F⟩, a⟩ := g_MW
    have bb := F.binds (ps := ["free", "near", "known"]) (fun _ _ _ _ _ _ us hl => match us, hl with | [_, _, _], _ => rfl)
    exact ⟨f, fd, ok_mw n1 n5 F O (W.mg_of X G a) bb 33, W.mg_of X G a, F.kp, bb⟩
   have D_swm : Def P w K mg base "safe_with_most" 35 ["code", "n"] (sp_swm K) := mkDef X G g_swm (fun f fd F => ok_swm F O D_near D_MW) (fun _ _ _ _ _ _ us hl => match us, hl with | [_, _], _ => rfl)
   have D_rts : Def P w K mg base "refusal_to_search" 5 ["code", "n"] (sp_rts K) := mkDef X G g_rts (fun f fd F => ok_rts F TC D_is_safe) (fun _ _ _ _ _ _ us hl => match us, hl with | [_, _], _ => rfl)
   have D_can : Def P w K mg base "can_start" 1 ["n"] sp_can_start := mkDef X G g_can (fun f fd F => ok_can_start F TS) (fun _ _ _ _ _ _ us hl => match us, hl with | [_], _ => rfl)
   have K_hist : KDef P w K mg base "History" CH 1 (sp_hinit CH) := mkK X G aH mkCH kcCH m_hinit (fun f fd F => ok_hinit F TH) (fun _ _ _ _ _ _ us hl => match us, hl with | [_], _ => rfl)
   have M_change : MDef P w K mg base CH "change" 1 ["self", "code"] (sp_change CH) := mkM m_change (fun f fd F => ok_change F TH) (fun _ _ _ _ _ _ us hl => match us, hl with | [_, _], _ => rfl)
   have M_take_back : MDef P w K mg base CH "take_back" 1 ["self"] (sp_back CH) := mkM m_take_back (fun f fd F => ok_back F O TH) (fun _ _ _ _ _ _ us hl => match us, hl with | [_], _ => rfl)
   have M_do_again : MDef P w K mg base CH "do_again" 1 ["self"] (sp_again CH) := mkM m_do_again (fun f fd F => ok_again F O TH) (fun _ _ _ _ _ _ us hl => match us, hl with | [_], _ => rfl)
   have M_begin : MDef P w K mg base CS "begin" 3 ["self", "n"] (sp_begin CH CS) := mkM m_begin (fun f fd F => ok_begin F TS D_weights K_hist) (fun _ _ _ _ _ _ us hl => match us, hl with | [_, _], _ => rfl)
   have K_sess : KDef P w K mg base "Session" CS 4 (sp_sinit CH CS) := mkK X G aS mkCS kcCS m_sinit (fun f fd F => ok_sinit F TS M_begin) (fun _ _ _ _ _ _ us hl => match us, hl with | [_], _ => rfl)
   have M_has_word : MDef P w K mg base CS "has_word" 1 ["self", "word", "more"] (sp_has_word CS) := mkM m_has_word (fun f fd F => ok_has_word F TS) (fun _ _ _ _ _ _ us hl => match us, hl with | [_, _, _], _ => rfl)
   have M_has_class : MDef P w K mg base CS "has_class" 1 ["self", "a"] (sp_has_class CS) := mkM m_has_class (fun f fd F => ok_has_class F TS) (fun _ _ _ _ _ _ us hl => match us, hl with | [_, _], _ => rfl)
   have M_class_of : MDef P w K mg base CS "class_of" 1 ["self", "word"] (sp_class_of CS) := mkM m_class_of (fun f fd F => ok_class_of F TS) (fun _ _ _ _ _ _ us hl => match us, hl with | [_, _], _ => rfl)
   have M_words_of_class : MDef P w K mg base CS "words_of_class" 2 ["self", "a"] (sp_words_of_class CS) := mkM m_words_of_class (fun f fd F => ok_words_of_class F O TS M_class_of) (fun _ _ _ _ _ _ us hl => match us, hl with | [_, _], _ => rfl)
   have D_changed : Def P w K mg base "changed_to" 2 ["session", "code"] (sp_changed CH CS) := mkDef X G g_changed (fun f fd F => ok_changed F O TH TS M_change) (fun _ _ _ _ _ _ us hl => match us, hl with | [_, _], _ => rfl)
   have D_aic : Def P w K mg base "alike_in_code" 6 ["session", "word"] (sp_aic CH CS) := mkDef X G g_aic (fun f fd F => ok_aic F O TH TS D_alike) (fun _ _ _ _ _ _ us hl => match us, hl with | [_, _], _ => rfl)
   have D_ww : Def P w K mg base "with_word" 1 ["session", "word"] (sp_ww CH CS) := mkDef X G g_ww (fun f fd F => ok_ww F O TH TS) (fun _ _ _ _ _ _ us hl => match us, hl with | [_, _], _ => rfl)
   have D_ref : Def P w K mg base "refusal_of" 1 ["session", "word"] (sp_ref CH CS) := mkDef X G g_ref (fun f fd F => ok_ref F O TH TS TC) (fun _ _ _ _ _ _ us hl => match us, hl with | [_, _], _ => rfl)
   have D_one : Def P w K mg base "the_one_of" 1 ["words"] (sp_one K) := mkDef X G g_one (fun f fd F => ok_one F O TM) (fun _ _ _ _ _ _ us hl => match us, hl with | [_], _ => rfl)
   have D_bl : Def P w K mg base "before_losing" 4 ["session", "shorter"] (sp_bl CS) := mkDef X G g_bl (fun f fd F => ok_bl F TS D_gained) (fun _ _ _ _ _ _ us hl => match us, hl with | [_, _], _ => rfl)
   have D_bg : Def P w K mg base "before_gaining" 4 ["session", "longer"] (sp_bg CS) := mkDef X G g_bg (fun f fd F => ok_bg F TS D_lost) (fun _ _ _ _ _ _ us hl => match us, hl with | [_, _], _ => rfl)
   have D_ooc : Def P w K mg base "one_of_code" 2 ["session", "words"] (sp_ooc CH CS K) := mkDef X G g_ooc (fun f fd F => ok_ooc F TH TS D_one) (fun _ _ _ _ _ _ us hl => match us, hl with | [_, _], _ => rfl)
   have D_ocl : Def P w K mg base "one_of_class" 2 ["session", "a", "words"] (sp_ocl CH CS K) := mkDef X G g_ocl (fun f fd F => ok_ocl F TS TC D_one M_has_class M_class_of) (fun _ _ _ _ _ _ us hl => match us, hl with | [_, _, _], _ => rfl)
   have D_start : Def P w K mg base "start" 4 ["session", "n"] (sp_start CH CS) := mkDef X G g_start (fun f fd F => ok_start F TS TC D_can M_begin) (fun _ _ _ _ _ _ us hl => match us, hl with | [_, _], _ => rfl)
   have D_wat : Def P w K mg base "words_are_there" 2 ["session", "number", "given"] (sp_wat CH CS) := mkDef X G g_wat (fun f fd F => ok_wat F TS TG M_has_word) (fun _ _ _ _ _ _ us hl => match us, hl with | [_, _, _], _ => rfl)
   obtain ⟨aCHANGES, f1CHANGES, f2CHANGES, f3CHANGES, f4CHANGES, f5CHANGES, f6CHANGES, naCHANGES, tbCHANGES, n1CHANGES, n2CHANGES, n3CHANGES, n4CHANGES, n5CHANGES, n6CHANGES⟩ := t_CHANGES
   have T_add : TDef P w K mg base f1CHANGES 7 (sp1 CH CS K .add isWord) := mkT g_add n1CHANGES (fun f fd F => ok_add F TC D_ref D_aic D_changed D_ww) (fun _ _ _ _ _ _ us hl => match us, hl with | [_, _], _ => rfl)
   have T_force : TDef P w K mg base f2CHANGES 7 (sp1 CH CS K .force isWord) := mkT g_force n2CHANGES (fun f fd F => ok_force F D_ref D_aic D_changed D_ww) (fun _ _ _ _ _ _ us hl => match us, hl with | [_, _], _ => rfl)
   have T_drop : TDef P w K mg base f3CHANGES 3 (sp1 CH CS K .drop isWord) := mkT g_drop n3CHANGES (fun f fd F => ok_drop F O TH TS TC D_changed) (fun _ _ _ _ _ _ us hl => match us, hl with | [_, _], _ => rfl)
   have T_take : TDef P w K mg base f4CHANGES 3 (sp1 CH CS K .take (fun _ _ => True)) := mkT g_take n4CHANGES (fun f fd F => ok_take F O TH TS TC M_has_class M_words_of_class D_changed) (fun _ _ _ _ _ _ us hl => match us, hl with | [_, _], _ => rfl)
   have T_grow : TDef P w K mg base f5CHANGES 36 (sp0 CH CS K .grow) := mkT g_grow n5CHANGES (fun f fd F => ok_grow F TH TS TC D_rts D_swm D_changed) (fun _ _ _ _ _ _ us hl => match us, hl with | [_, _], _ => rfl)
   have T_empty : TDef P w K mg base f6CHANGES 3 (sp0 CH CS K .clear) := mkT g_empty n6CHANGES (fun f fd F => ok_empty F O TH TS TC D_changed) (fun _ _ _ _ _ _ us hl => match us, hl with | [_, _], _ => rfl)
   obtain ⟨aMENDS, f1MENDS, f2MENDS, f3MENDS, f4MENDS, naMENDS, tbMENDS, n1MENDS, n2MENDS, n3MENDS, n4MENDS⟩ := t_MENDS
   have T_mend_lost : TDef P w K mg base f1MENDS 5 (sp1 CH CS K .mend (fun n x => x < 2 ^ (n - 1))) := mkT g_mend_lost n1MENDS (fun f fd F => ok_mlost F D_ooc D_bl) (fun _ _ _ _ _ _ us hl => match us, hl with | [_, _], _ => rfl)
   have T_mend_gained : TDef P w K mg base f2MENDS 5 (sp1 CH CS K .mendG (fun n x => x < 2 ^ (n + 1))) := mkT g_mend_gained n2MENDS (fun f fd F => ok_mgain F D_ooc D_bg) (fun _ _ _ _ _ _ us hl => match us, hl with | [_, _], _ => rfl)
   have T_put_back : TDef P w K mg base f3MENDS 5 (sp2 CH CS K .back_ (fun n _ x => x < 2 ^ (n - 1))) := mkT g_put_back n3MENDS (fun f fd F => ok_pback F D_ocl D_bl) (fun _ _ _ _ _ _ us hl => match us, hl with | [_, _], _ => rfl)
   have T_take_out : TDef P w K mg base f4MENDS 5 (sp2 CH CS K .out_ (fun n _ x => x < 2 ^ (n + 1))) := mkT g_take_out n4MENDS (fun f fd F => ok_tout F D_ocl D_bg) (fun _ _ _ _ _ _ us hl => match us, hl with | [_, _], _ => rfl)
   obtain ⟨aOF_CODE, f1OF_CODE, f2OF_CODE, f3OF_CODE, f4OF_CODE, f5OF_CODE, naOF_CODE, tbOF_CODE, n1OF_CODE, n2OF_CODE, n3OF_CODE, n4OF_CODE, n5OF_CODE⟩ := t_OF_CODE
   have T_tell_safe : TDef P w K mg base f1OF_CODE 5 (sp0 CH CS K .safe) := mkT g_tell_safe n1OF_CODE (fun f fd F => ok_tsafe F TH TS D_is_safe) (fun _ _ _ _ _ _ us hl => match us, hl with | [_, _], _ => rfl)
   have T_tell_most : TDef P w K mg base f2OF_CODE 36 (sp0 CH CS K .most) := mkT g_tell_most n2OF_CODE (fun f fd F => ok_tmost F O TH TS TO D_rts D_swm D_told) (fun _ _ _ _ _ _ us hl => match us, hl with | [_, _], _ => rfl)
   have T_tell_may : TDef P w K mg base f3OF_CODE 5 (sp0 CH CS K .may) := mkT g_tell_may n3OF_CODE (fun f fd F => ok_tmay F O TH TS D_free D_told) (fun _ _ _ _ _ _ us hl => match us, hl with | [_, _], _ => rfl)
   have T_tell_code : TDef P w K mg base f4OF_CODE 2 (sp0 CH CS K .code) := mkT g_tell_code n4OF_CODE (fun f fd F => ok_tcode F O TH TS TC D_told) (fun _ _ _ _ _ _ us hl => match us, hl with | [_, _], _ => rfl)
   have T_tell_write : TDef P w K mg base f5OF_CODE 3 (sp1 CH CS K .write (fun _ _ => True)) := mkT g_tell_write n5OF_CODE (fun f fd F => ok_twrite F O TH TS TC TO D_letters) (fun _ _ _ _ _ _ us hl => match us, hl with | [_, _], _ => rfl)
   obtain ⟨aSTEPS, f1STEPS, f2STEPS, f3STEPS, naSTEPS, tbSTEPS, n1STEPS, n2STEPS, n3STEPS⟩ := t_STEPS
   have T_undo : TDef P w K mg base f1STEPS 2 (sp0 CH CS K .undo) := mkT g_undo n1STEPS (fun f fd F => ok_undo F O TH TS TC M_take_back) (fun _ _ _ _ _ _ us hl => match us, hl with | [_, _], _ => rfl)
   have T_again : TDef P w K mg base f2STEPS 2 (sp0 CH CS K .again) := mkT g_again n2STEPS (fun f fd F => ok_redo F O TH TS TC M_do_again) (fun _ _ _ _ _ _ us hl => match us, hl with | [_, _], _ => rfl)
   have T_tell_state : TDef P w K mg base f3STEPS 1 (sp0 CH CS K .state) := mkT g_tell_state n3STEPS (fun f fd F => ok_tstate F O TH TS) (fun _ _ _ _ _ _ us hl => match us, hl with | [_, _], _ => rfl)
   obtain ⟨aLOOKS, f1LOOKS, f2LOOKS, f3LOOKS, f4LOOKS, f5LOOKS, f6LOOKS, f7LOOKS, f8LOOKS, f9LOOKS, f10LOOKS, naLOOKS, tbLOOKS, n1LOOKS, n2LOOKS, n3LOOKS, n4LOOKS, n5LOOKS, n6LOOKS, n7LOOKS, n8LOOKS, n9LOOKS, n10LOOKS⟩ := t_LOOKS
   have T_tell_lost : TDef P w K mg base f1LOOKS 4 (sp1 CH CS K .lost isWord) := mkT g_tell_lost n1LOOKS (fun f fd F => ok_tlost F O TS TL D_lost D_told) (fun _ _ _ _ _ _ us hl => match us, hl with | [_, _], _ => rfl)
   have T_tell_gained : TDef P w K mg base f2LOOKS 4 (sp1 CH CS K .gained isWord) := mkT g_tell_gained n2LOOKS (fun f fd F => ok_tgained F O TS TL D_gained D_told) (fun _ _ _ _ _ _ us hl => match us, hl with | [_, _], _ => rfl)
   have T_tell_losing : TDef P w K mg base f3LOOKS 3 (sp2 CH CS K .losing (fun n x _ => x < 2 ^ n)) := mkT g_tell_losing n3LOOKS (fun f fd F => ok_tlosing F TS TC D_losing) (fun _ _ _ _ _ _ us hl => match us, hl with | [_, _], _ => rfl)
   have T_tell_gaining : TDef P w K mg base f4LOOKS 3 (sp3 CH CS K .gaining (fun n x _ _ => x < 2 ^ n)) := mkT g_tell_gaining n4LOOKS (fun f fd F => ok_tgaining F TS TC D_gaining) (fun _ _ _ _ _ _ us hl => match us, hl with | [_, _], _ => rfl)
   have T_tell_runs : TDef P w K mg base f5LOOKS 3 (sp1 CH CS K .runs isWord) := mkT g_tell_runs n5LOOKS (fun f fd F => ok_truns F TS D_runs) (fun _ _ _ _ _ _ us hl => match us, hl with | [_, _], _ => rfl)
   have T_tell_weight : TDef P w K mg base f6LOOKS 2 (sp1 CH CS K .weight isWord) := mkT g_tell_weight n6LOOKS (fun f fd F => ok_tweight F TS M_class_of) (fun _ _ _ _ _ _ us hl => match us, hl with | [_, _], _ => rfl)
   have T_tell_class : TDef P w K mg base f7LOOKS 3 (sp1 CH CS K .cls (fun _ _ => True)) := mkT g_tell_class n7LOOKS (fun f fd F => ok_tclass F O TS TC M_has_class M_words_of_class) (fun _ _ _ _ _ _ us hl => match us, hl with | [_, _], _ => rfl)
   have T_tell_largest : TDef P w K mg base f8LOOKS 1 (sp0 CH CS K .largest) := mkT g_tell_largest n8LOOKS (fun f fd F => ok_tlargest F O TS) (fun _ _ _ _ _ _ us hl => match us, hl with | [_, _], _ => rfl)
   have T_tell_alike : TDef P w K mg base f9LOOKS 6 (sp2 CH CS K .alike (fun n x y => x < 2 ^ n ∧ y < 2 ^ n)) := mkT g_tell_alike n9LOOKS (fun f fd F => ok_talike F TS TC D_alike D_alikeG) (fun _ _ _ _ _ _ us hl => match us, hl with | [_, _], _ => rfl)
   have T_tell_common : TDef P w K mg base f10LOOKS 5 (sp2 CH CS K .common (fun n x y => x < 2 ^ n ∧ y < 2 ^ n)) := mkT g_tell_common n10LOOKS (fun f fd F => ok_tcommon F O TS TL D_common D_told) (fun _ _ _ _ _ _ us hl => match us, hl with | [_, _], _ => rfl)
   have D_answer_change : Def P w K mg base "answer_change" 37 ["session", "number", "given"] (sp_tab CH CS (fun nr => 1 ≤ nr ∧ nr ≤ 6)) := mkDef X G g_answer_change (fun f fd F => ok_ach F tbCHANGES (W.mg_of X G naCHANGES) T_add T_force T_drop T_take T_grow T_empty) (fun _ _ _ _ _ _ us hl => match us, hl with | [_, _, _], _ => rfl)
   have D_answer_mend : Def P w K mg base "answer_mend" 6 ["session", "number", "given"] (sp_tab CH CS (fun nr => 19 ≤ nr ∧ nr ≤ 22)) := mkDef X G g_answer_mend (fun f fd F => ok_amd F tbMENDS (W.mg_of X G naMENDS) T_mend_lost T_mend_gained T_put_back T_take_out) (fun _ _ _ _ _ _ us hl => match us, hl with | [_, _, _], _ => rfl)
   have D_answer_of_code : Def P w K mg base "answer_of_code" 37 ["session", "number", "given"] (sp_tab CH CS (fun nr => (16 ≤ nr ∧ nr ≤ 18) ∨ (24 ≤ nr ∧ nr ≤ 25))) := mkDef X G g_answer_of_code (fun f fd F => ok_aof F tbOF_CODE (W.mg_of X G naOF_CODE) T_tell_safe T_tell_most T_tell_may T_tell_code T_tell_write) (fun _ _ _ _ _ _ us hl => match us, hl with | [_, _, _], _ => rfl)
   have D_answer_step : Def P w K mg base "answer_step" 3 ["session", "number", "given"] (sp_tab CH CS (fun nr => 26 ≤ nr ∧ nr ≤ 28)) := mkDef X G g_answer_step (fun f fd F => ok_ast F tbSTEPS (W.mg_of X G naSTEPS) T_undo T_again T_tell_state) (fun _ _ _ _ _ _ us hl => match us, hl with | [_, _, _], _ => rfl)
   have D_answer_look : Def P w K mg base "answer_look" 7 ["session", "number", "given"] (sp_tab CH CS (fun nr => (7 ≤ nr ∧ nr ≤ 15) ∨ nr = 23)) := mkDef X G g_answer_look (fun f fd F => ok_alk F tbLOOKS (W.mg_of X G naLOOKS) T_tell_lost T_tell_gained T_tell_losing T_tell_gaining T_tell_runs T_tell_weight T_tell_class T_tell_largest T_tell_alike T_tell_common) (fun _ _ _ _ _ _ us hl => match us, hl with | [_, _, _], _ => rfl)
   have D_is_change : Def P w K mg base "is_change" 1 ["number"] (sp_isch _) := mkDef X G g_is_change (fun f fd F => ok_isch F tbCHANGES (W.mg_of X G naCHANGES)) (fun _ _ _ _ _ _ us hl => match us, hl with | [_], _ => rfl)
   have D_is_mend : Def P w K mg base "is_mend" 1 ["number"] (sp_isch _) := mkDef X G g_is_mend (fun f fd F => ok_ismd F tbMENDS (W.mg_of X G naMENDS)) (fun _ _ _ _ _ _ us hl => match us, hl with | [_], _ => rfl)
   have D_is_of_code : Def P w K mg base "is_of_code" 1 ["number"] (sp_isch _) := mkDef X G g_is_of_code (fun f fd F => ok_isof F tbOF_CODE (W.mg_of X G naOF_CODE)) (fun _ _ _ _ _ _ us hl => match us, hl with | [_], _ => rfl)
   have D_is_step : Def P w K mg base "is_step" 1 ["number"] (sp_isch _) := mkDef X G g_is_step (fun f fd F => ok_isst F tbSTEPS (W.mg_of X G naSTEPS)) (fun _ _ _ _ _ _ us hl => match us, hl with | [_], _ => rfl)
   have D_call : Def P w K mg base "answer_call" 38 ["session", "number", "given"] (sp_call CH CS) := mkDef X G g_answer_call (fun f fd F => ok_acall F TG TC rfl rfl rfl rfl D_start D_wat D_is_change D_is_mend D_is_of_code D_is_step D_answer_change D_answer_mend D_answer_of_code D_answer_step D_answer_look) (fun _ _ _ _ _ _ us hl => match us, hl with | [_, _, _], _ => rfl)
   exact ok_answers (k := 33) F0 O TG K_sess D_call
end LLD
end
section
open PySem PySem.W PyProof.Rows
set_option maxRecDepth 100000 in
set_option maxHeartbeats 0 in
theorem PySem.Challenge.cw_lostletter_s01_answers_holds : PySem.Challenge.rw_lostletter_s01_answers.Holds := by
 w_on; k_headS; (case hw => exact ⟨[.list [.int 0, .int 4]], by decide +kernel, by decide +kernel⟩)
 k_fillS
 refine L2.walk_specK (r := PySem.Challenge.rw_lostletter_s01_answers) (k := 39) (CX := L2.CX0) (ps := ["calls"]) (sp := LLD.sp_answers) (by decide +kernel) rfl rfl ⟨rfl, by decide, by decide⟩ (fun w h Y => PySem.W.kIn_of Y) ?F ?S (fun _ _ _ _ z => z)
 case F =>
  intro w mg fa h Y KX G hmg
  refine' LLD.all_mk KX G hmg ?aH ?aS ?pgCH ?hdCH ?poCH ?saCH ?mkCH ?kcCH ?pgCS ?hdCS ?poCS ?saCS ?mkCS ?kcCS ?noCH_code ?noCH_earlier ?noCH_later ?noCS_n ?noCS_weights ?noCS_history ?m_hinit ?m_change ?m_take_back ?m_do_again ?m_sinit ?m_begin ?m_has_word ?m_has_class ?m_class_of ?m_words_of_class ?g_last ?g_letter ?g_losing ?g_gaining ?g_lost ?g_gained ?g_runs ?g_letters ?g_common ?g_alike ?g_alikeG ?g_weights ?g_told ?g_is_safe ?g_free ?g_mask ?g_near ?g_MW ?g_swm ?g_rts ?g_can ?g_changed ?g_aic ?g_ww ?g_ref ?g_one ?g_bl ?g_bg ?g_ooc ?g_ocl ?g_start ?g_wat ?g_add ?g_force ?g_drop ?g_take ?g_grow ?g_empty ?g_mend_lost ?g_mend_gained ?g_put_back ?g_take_out ?g_tell_safe ?g_tell_most ?g_tell_may ?g_tell_code ?g_tell_write ?g_undo ?g_again ?g_tell_state ?g_tell_lost ?g_tell_gained ?g_tell_losing ?g_tell_gaining ?g_tell_runs ?g_tell_weight ?g_tell_class ?g_tell_largest ?g_tell_alike ?g_tell_common ?g_answer_change ?g_answer_mend ?g_answer_of_code ?g_answer_step ?g_answer_look ?g_is_change ?g_is_mend ?g_is_of_code ?g_is_step ?g_answer_call ?g_answers ?c_nt ?c_nic ?c_so ?c_oor ?c_many ?c_alikec ?c_long ?c_mic ?c_mls ?c_lt ?c_gt ?c_mt ?c_ltt ?c_no ?c_sev ?c_few ?c_mostl ?c_backc ?c_st ?o_len ?o_range ?o_sorted ?o_set ?o_tuple ?o_list ?o_all ?o_max ?o_zip ?t_CHANGES ?t_MENDS ?t_OF_CODE ?t_STEPS ?t_LOOKS ?t_GIVEN ?t_MORE
  case aH | aS | pgCH | hdCH | poCH | saCH | mkCH | kcCH | pgCS | hdCS | poCS | saCS | mkCS | kcCS | noCH_code | noCH_earlier | noCH_later | noCS_n | noCS_weights | noCS_history => k_is
  case m_hinit | m_change | m_take_back | m_do_again | m_sinit | m_begin | m_has_word | m_has_class | m_class_of | m_words_of_class => (refine' LLD.fm_mk ?a ?i ?l ?c ?k; (case a => k_is); (case i => k_is); (case l => k_is); (case c => k_is); (case k => k_is))
  case g_last | g_letter | g_losing | g_gaining | g_lost | g_gained | g_runs | g_letters | g_common | g_alike | g_alikeG | g_weights | g_told | g_is_safe | g_free | g_mask | g_near | g_MW | g_swm | g_rts | g_can | g_changed | g_aic | g_ww | g_ref | g_one | g_bl | g_bg | g_ooc | g_ocl | g_start | g_wat | g_add | g_force | g_drop | g_take | g_grow | g_empty | g_mend_lost | g_mend_gained | g_put_back | g_take_out | g_tell_safe | g_tell_most | g_tell_may | g_tell_code | g_tell_write | g_undo | g_again | g_tell_state | g_tell_lost | g_tell_gained | g_tell_losing | g_tell_gaining | g_tell_runs | g_tell_weight | g_tell_class | g_tell_largest | g_tell_alike | g_tell_common | g_answer_change | g_answer_mend | g_answer_of_code | g_answer_step | g_answer_look | g_is_change | g_is_mend | g_is_of_code | g_is_step | g_answer_call | g_answers => (refine' LLD.fg_mk ?a ?l ?c ?k; (case a => k_is); (case l => k_is); (case c => k_is); (case k => k_is))
  case c_nt | c_nic | c_so | c_oor | c_many | c_alikec | c_long | c_mic | c_mls | c_lt | c_gt | c_mt | c_ltt | c_no | c_sev | c_few | c_mostl | c_backc | c_st => (refine' LLD.num_mk ?a; (case a => k_is))
  case o_len | o_range | o_sorted | o_set | o_tuple | o_list | o_all | o_max | o_zip => k_is
  case t_CHANGES => (refine' LLD.tab_CHANGES ?a ?b1 ?b2 ?b3 ?b4 ?b5 ?b6 ?l ?t ?s; (case a => k_is); (case b1 => k_is); (case b2 => k_is); (case b3 => k_is); (case b4 => k_is); (case b5 => k_is); (case b6 => k_is); (case l => k_is); (case t => decide); (case s => decide))
  case t_MENDS => (refine' LLD.tab_MENDS ?a ?b1 ?b2 ?b3 ?b4 ?l ?t ?s; (case a => k_is); (case b1 => k_is); (case b2 => k_is); (case b3 => k_is); (case b4 => k_is); (case l => k_is); (case t => decide); (case s => decide))
  case t_OF_CODE => (refine' LLD.tab_OF_CODE ?a ?b1 ?b2 ?b3 ?b4 ?b5 ?l ?t ?s; (case a => k_is); (case b1 => k_is); (case b2 => k_is); (case b3 => k_is); (case b4 => k_is); (case b5 => k_is); (case l => k_is); (case t => decide); (case s => decide))
  case t_STEPS => (refine' LLD.tab_STEPS ?a ?b1 ?b2 ?b3 ?l ?t ?s; (case a => k_is); (case b1 => k_is); (case b2 => k_is); (case b3 => k_is); (case l => k_is); (case t => decide); (case s => decide))
  case t_LOOKS => (refine' LLD.tab_LOOKS ?a ?b1 ?b2 ?b3 ?b4 ?b5 ?b6 ?b7 ?b8 ?b9 ?b10 ?l ?t ?s; (case a => k_is); (case b1 => k_is); (case b2 => k_is); (case b3 => k_is); (case b4 => k_is); (case b5 => k_is); (case b6 => k_is); (case b7 => k_is); (case b8 => k_is); (case b9 => k_is); (case b10 => k_is); (case l => k_is); (case t => decide); (case s => decide))
  case t_GIVEN => (refine' LLD.given_mk ?a ?l ?z ?v; (case a => k_is); (case l => k_is); (case z => decide); (case v => repeat (first | exact .nil | refine .cons ⟨_, rfl⟩ ?_)))
  case t_MORE => (refine' LLD.more_mk ?a ?l ?t ?s; (case a => k_is); (case l => k_is); (case t => exact ⟨⟨_, rfl⟩, rfl, ⟨_, rfl⟩, ⟨_, rfl⟩, rfl, ⟨_, rfl⟩, ⟨_, rfl⟩, rfl, ⟨_, rfl⟩, trivial⟩); (case s => decide))
 case S =>
  intro K H xs a hO hwi hask hx
  cases hx with
  | cons h1 h2 =>
    cases h2
    cases h1 with
    | lst hs ha =>
      have e := L2.ints_dw a.1 _ ha
      subst e
      exact ⟨_, a.1, rfl, hs, hask, fun H' p hp => .lst (L2.SqL.of hp) (L2.dw_ints _)⟩
end
