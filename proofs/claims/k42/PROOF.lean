import PyProof.Rows.All
import Wide.All
import OpenK.AllK
import Wide.FinOn
import HandS.ForMost
import HandS.Codes
import HandS.StrMore
import KE.OsScanText
import HandS.ForExc
import HandS.Wide
import HandS.Conv
import HandS.TupAny
import HandS.TupMul
import HandS.IsInst
import HandS.ExcInit
import HandS.ExcIs
import HandS.ExcField
import HandS.Lambda
import HandS.EndTab
import HandS.Property
import HandS.ClsMeth
import HandS.FStr
import HandS.Walk
import HandS.Evl
import HandS.Steps
import KE.GoesMore
import HandS.Iter
import HandS.Style
import HandS.ExcInitHot
import HandS.RaiseFrom
import HandS.SuiteRaise
import HandS.Star
import HandS.MakeKwOnly
import HandS.WordsExc
import HandS.GenList
import PyProof.Seq
import HandS.Comp
import HandS.SortKw
import KE.KSortKeySt
import HandS.SetFor
import HandS.Strs
import HandS.Base
import PyProof.Rows.MatchSeqLen
import HandS.Bytes
import HandS.BytesMake
import HandS.WideBits
import HandS.Rev
import HandS.ExcOwn
import PyProof.ExcBaseAll.ValueError
import KE.IntTextText
import HandS.TryMany
import KE.KNestM
import PySem.Challenge.RW_wornbridges_k42_texts_of_schedules
set_option Elab.async false
set_option linter.all false
set_option maxRecDepth 100000
set_option maxHeartbeats 4000000
namespace T2
open PySem PySem.Spec PyProof.Rows L2
/-! ### words that are numbers -/
def dig (c : Nat) : Bool := decide (48 ≤ c) && decide (c ≤ 57)
def goodL : List Nat → Bool
  | [] => false
  | [c] => dig c
  | c :: r => (dig c && r.all dig) && !decide (c = 48)
def goodW (w : Str) : Bool := goodL (TL.tl w)
def isNumW (w : Str) : Bool := Txt.isascii w && (Txt.isdigit w && (decide (w = "0") || !Txt.startswith w "0"))
theorem dig_iff {c : Nat} : dig c = true ↔ 48 ≤ c ∧ c ≤ 57 := by unfold dig; rw [Bool.and_eq_true, decide_eq_true_eq, decide_eq_true_eq]
theorem goodL_all : ∀ {l : List Nat}, goodL l = true → l ≠ [] ∧ l.all dig = true
  | [], h => by cases h
  | [c], h => ⟨by simp, by simpa [goodL] using h⟩
  | c :: d :: r, h => ⟨by simp, by
    unfold goodL at h
    rw [Bool.and_eq_true] at h
    exact h.1⟩
theorem uni_dig {c : Nat} (h : c < 128) : Unicode.isDigit c = dig c := by
  have e := PySem.W.os_isdigit h
  unfold Txt.isdigit at e
  simpa [Str.length, dig] using e
theorem all_arr {a : Array Nat} {p : Nat → Bool} : a.all p = a.toList.all p := by rw [Array.all_toList]
theorem ascii_iff {w : Str} : Txt.isascii w = true ↔ ∀ c ∈ TL.tl w, c < 128 := by
  unfold Txt.isascii TL.tl
  rw [all_arr, List.all_eq_true]
  exact ⟨fun h c hc => of_decide_eq_true (h c hc), fun h c hc => decide_eq_true (h c hc)⟩
theorem digit_iff {w : Str} (ha : ∀ c ∈ TL.tl w, c < 128) : Txt.isdigit w = true ↔ TL.tl w ≠ [] ∧ (TL.tl w).all dig = true := by
  unfold Txt.isdigit
  rw [Bool.and_eq_true, all_arr, List.all_eq_true, List.all_eq_true, TL.len_tl, decide_eq_true_eq]
  constructor
  · rintro ⟨h1, h2⟩
    exact ⟨fun e => by rw [e] at h1; simp at h1, fun c hc => by rw [← uni_dig (ha c hc)]; exact h2 c hc⟩
  · rintro ⟨h1, h2⟩
    exact ⟨List.length_pos_iff.mpr h1, fun c hc => by rw [uni_dig (ha c hc)]; exact h2 c hc⟩
theorem tl_zero : TL.tl "0" = [48] := by decide +kernel
theorem zero_iff {w : Str} : w = "0" ↔ TL.tl w = [48] := ⟨fun h => by rw [h]; exact tl_zero, fun h => TL.ext_tl (by rw [h, tl_zero])⟩

theorem starts_zero {w : Str} : Txt.startswith w "0" = true ↔ (TL.tl w).head? = some 48 := by
  unfold Txt.startswith
  have hl : ("0" : Str).length = 1 := by rw [TL.len_tl, tl_zero]; rfl
  rw [hl, Bool.and_eq_true, PySem.StrLaws.subAt_eq, hl, List.drop_zero, TL.len_tl, show ("0" : Str).cps.toList = [48] from tl_zero]
  show _ ∧ ((TL.tl w).take 1 == [48]) = true ↔ _
  cases TL.tl w with
  | nil => simp
  | cons c r => simp
theorem isNumW_good (w : Str) : isNumW w = goodW w := by
  rw [Bool.eq_iff_iff]
  unfold isNumW goodW
  rw [Bool.and_eq_true, Bool.and_eq_true, Bool.or_eq_true, decide_eq_true_eq, Bool.not_eq_true', ← Bool.not_eq_true, starts_zero, zero_iff]
  constructor
  · rintro ⟨h1, h2, h3⟩
    obtain ⟨n0, h2⟩ := (digit_iff (ascii_iff.mp h1)).mp h2
    cases e : TL.tl w with
    | nil => exact absurd e n0
    | cons c r =>
      rw [e] at h2 h3
      cases r with
      | nil =>
        unfold goodL
        simpa using h2
      | cons d r =>
        unfold goodL
        rw [Bool.and_eq_true]
        refine ⟨h2, ?_⟩
        rcases h3 with h3 | h3
        · cases h3
        · rw [Bool.not_eq_true', decide_eq_false_iff_not]
          exact fun z => h3 (by rw [z]; rfl)
  · intro h
    obtain ⟨n0, h2⟩ := goodL_all h
    have ha : ∀ c ∈ TL.tl w, c < 128 := fun c hc => by
      have := dig_iff.mp (List.all_eq_true.mp h2 c hc)
      omega
    refine ⟨ascii_iff.mpr ha, (digit_iff ha).mpr ⟨n0, h2⟩, ?_⟩
    cases e : TL.tl w with
    | nil => exact absurd e n0
    | cons c r =>
      rw [e] at h
      cases r with
      | nil =>
        by_cases hc : c = 48
        · exact .inl (by rw [hc])
        · exact .inr (fun z => hc (by simpa using z))
      | cons d r =>
        unfold goodL at h
        rw [Bool.and_eq_true, Bool.not_eq_true', decide_eq_false_iff_not] at h
        exact .inr (fun z => h.2 (by simpa using z))
/-! ### their worth -/
def numL (l : List Nat) : Int := ((NumText.digitsVal l : Nat) : Int)
def numV (w : Str) : Int := numL (TL.tl w)
theorem numL_nn (l : List Nat) : 0 ≤ numL l := Int.natCast_nonneg _
theorem all_digits {l : List Nat} (h : l.all dig = true) : NumText.AllDigits l := fun c hc => dig_iff.mp (List.all_eq_true.mp h c hc)
theorem int_good {w : Str} (h : goodW w = true) (hl : w.length ≤ 640) : intText? w = some (numV w) := by
  obtain ⟨n0, ha⟩ := goodL_all h
  exact intText_digits (all_digits ha) n0 (by omega)
theorem cut20_tl (w : Str) : TL.tl (cutS w none (some 20)) = (TL.tl w).take 20 := by
  show (((w.cps.toList.drop (HT.sIx w.length 0 none)).take (HT.sIx w.length w.length (some 20) - HT.sIx w.length 0 none)).toArray).toList = _
  rw [HT.sIx_none, List.drop_zero, Nat.sub_zero, show (some 20 : Option Int) = some ((20 : Nat) : Int) from rfl, HT.sIx_nat]
  show (w.cps.toList.take _) = _
  rw [TL.len_tl]
  by_cases h : 20 ≤ (TL.tl w).length
  · rw [Nat.min_eq_left h]
  · rw [Nat.min_eq_right (by omega), List.take_of_length_le (Nat.le_refl _), List.take_of_length_le (by omega)]
/-- what the program takes for the worth: that of the first twenty signs -/
def num20 (w : Str) : Int := numL ((TL.tl w).take 20)
theorem num20_eq {w : Str} (h : w.length ≤ 20) : num20 w = numV w := by unfold num20 numV; rw [List.take_of_length_le (by rw [← TL.len_tl]; exact h)]
theorem int_cut {w : Str} (h : goodW w = true) : intText? (cutS w none (some 20)) = some (num20 w) := by
  obtain ⟨n0, ha⟩ := goodL_all h
  have e := cut20_tl w
  have := intText_digits (x := cutS w none (some 20)) (by
    show NumText.AllDigits (TL.tl _)
    rw [e]
    exact all_digits (List.all_eq_true.mpr fun c hc => List.all_eq_true.mp ha c (List.mem_of_mem_take hc))) (by
    show TL.tl _ ≠ []
    rw [e]
    intro z
    cases q : TL.tl w with
    | nil => exact n0 q
    | cons c r => rw [q] at z; cases z) (by rw [TL.len_tl, e, List.length_take]; omega)
  rw [this]
  show some (numL (TL.tl _)) = _
  rw [e]
  rfl
theorem cut20_len (w : Str) : (cutS w none (some 20)).length ≤ 20 := by rw [TL.len_tl, cut20_tl, List.length_take]; omega
/-! ### a line -/
/-- the program's way through a line's words and its form's -/
def goR : List Str → List Str → Option (List Int)
  | w :: ws, p :: ps => if p = "N" ∧ isNumW w = true then (goR ws ps).map (num20 w :: ·) else if p = "N" ∨ w ≠ p then none else goR ws ps
  | _, _ => some []
theorem goR_cons (w : Str) (ws : List Str) (p : Str) (ps : List Str) : goR (w :: ws) (p :: ps) = if p = "N" ∧ isNumW w = true then (goR ws ps).map (num20 w :: ·) else if p = "N" ∨ w ≠ p then none else goR ws ps := rfl
def readN (line form : Str) : Option (List Int) := if (Txt.split line " ").length ≠ (Txt.split form " ").length then none else goR (Txt.split line " ") (Txt.split form " ")
theorem goR_N (w : Str) (ws ps : List Str) : goR (w :: ws) ("N" :: ps) = if goodW w = true then (goR ws ps).map (num20 w :: ·) else none := by
  rw [goR_cons, isNumW_good]
  by_cases h : goodW w = true
  · rw [if_pos ⟨rfl, h⟩, if_pos h]
  · rw [if_neg (fun z => h z.2), if_neg h, if_pos (.inl rfl)]
theorem goR_K {p : Str} (hp : p ≠ "N") (w : Str) (ws ps : List Str) : goR (w :: ws) (p :: ps) = if w = p then goR ws ps else none := by
  rw [goR_cons, if_neg (fun z => hp z.1)]
  by_cases h : w = p
  · rw [if_neg (by rintro (z | z); exact hp z; exact z h), if_pos h]
  · rw [if_pos (.inr h), if_neg h]
theorem tl_nl : TL.tl "\n" = [10] := by decide +kernel
theorem tl_sp : TL.tl " " = [32] := by decide +kernel
theorem len_nl : ("\n" : Str).length = 1 := by decide +kernel
theorem len_sp : (" " : Str).length = 1 := by decide +kernel
theorem sum_ge {ys : List Str} : ∀ y ∈ ys, y.length ≤ (ys.map (·.length)).sum := by
  induction ys with
  | nil => intro y h; cases h
  | cons a r ih =>
    intro y h
    rw [List.map_cons, List.sum_cons]
    rcases List.mem_cons.mp h with rfl | h
    · exact Nat.le_add_right _ _
    · exact Nat.le_trans (ih y h) (Nat.le_add_left _ _)
theorem split_len {x y : Str} (hy : y.length = 1) : (Txt.split x y).length ≤ x.length + 1 := by
  have := split_weight x y (by omega)
  omega
theorem split_ne (x y : Str) : Txt.split x y ≠ [] := by
  intro e
  unfold Txt.split at e
  split at e
  · cases e
  · split at e
    · cases e
    · rw [StrLaws.partsBetween_eq] at e
      cases h : Builtin.Str.occurrences x y 0 x.length (x.length + 1) with
      | nil => rw [h] at e; cases e
      | cons c r => rw [h] at e; cases e
theorem part_len {x y p : Str} (h : p ∈ Txt.split x y) : p.length ≤ x.length := by
  have e := congrArg Str.length (StrLaws.join_split x y)
  cases hs : Txt.split x y with
  | nil => rw [hs] at h; cases h
  | cons a l =>
    rw [hs, len_join_cons] at e
    rw [hs] at h
    have := sum_ge p h
    omega
theorem sum_le {b : Nat} : ∀ {ys : List Str}, (∀ y ∈ ys, y.length ≤ b) → (ys.map (·.length)).sum ≤ ys.length * b
  | [], _ => Nat.zero_le _
  | y :: ys, h => by
    have h1 := h y List.mem_cons_self
    have h2 := sum_le (ys := ys) fun z hz => h z (List.mem_cons_of_mem _ hz)
    rw [List.map_cons, List.sum_cons, List.length_cons, Nat.succ_mul]
    omega
theorem mem_join {y p : Str} : ∀ {l : List Str} {c : Nat}, p ∈ l → c ∈ TL.tl p → c ∈ TL.tl (Str.join y l)
  | [a], c, h, hc => by
    rw [List.mem_singleton.mp h] at hc
    exact hc
  | a :: b :: r, c, h, hc => by
    show c ∈ TL.tl (a ++ y ++ Str.join y (b :: r))
    rw [TL.tl_append, TL.tl_append, List.mem_append, List.mem_append]
    rcases List.mem_cons.mp h with rfl | h
    · exact .inl (.inl hc)
    · exact .inr (mem_join h hc)
theorem join_mem {y : Str} : ∀ {l : List Str} {c : Nat}, c ∈ TL.tl (Str.join y l) → c ∈ TL.tl y ∨ ∃ p ∈ l, c ∈ TL.tl p
  | [], c, h => by cases h
  | [a], c, h => .inr ⟨a, List.mem_singleton.mpr rfl, h⟩
  | a :: b :: r, c, h => by
    have h : c ∈ TL.tl (a ++ y ++ Str.join y (b :: r)) := h
    rw [TL.tl_append, TL.tl_append, List.mem_append, List.mem_append] at h
    rcases h with (h | h) | h
    · exact .inr ⟨a, List.mem_cons_self, h⟩
    · exact .inl h
    · rcases join_mem h with h | ⟨p, hp, hc⟩
      · exact .inl h
      · exact .inr ⟨p, List.mem_cons_of_mem _ hp, hc⟩
theorem part_mem {x y p : Str} {c : Nat} (h : p ∈ Txt.split x y) (hc : c ∈ TL.tl p) : c ∈ TL.tl x := by
  rw [← StrLaws.join_split x y]
  exact mem_join h hc
theorem nl_is : ("\n" : Str) = ⟨#[10]⟩ := TL.ext_tl tl_nl
theorem sp_is : (" " : Str) = ⟨#[32]⟩ := TL.ext_tl tl_sp
theorem line_free {t l : Str} (h : l ∈ Txt.split t "\n") : 10 ∉ TL.tl l := by
  rw [nl_is] at h
  exact StrLaws.split_free t 10 l h
theorem word_free {t l : Str} (h : l ∈ Txt.split t " ") : 32 ∉ TL.tl l := by
  rw [sp_is] at h
  exact StrLaws.split_free t 32 l h
theorem split_empty {y : Str} (hy : y.length = 1) : Txt.split "" y = [("" : Str)] := by
  have h := split_weight "" y (by omega)
  have h0 : ("" : Str).length = 0 := by decide +kernel
  rw [h0] at h
  cases hs : Txt.split "" y with
  | nil => exact absurd hs (split_ne _ _)
  | cons a l =>
    rw [hs] at h
    simp only [List.map_cons, List.sum_cons, List.length_cons] at h
    have hl : l = [] := List.length_eq_zero_iff.mp (by omega)
    have ha : a.length = 0 := by omega
    subst hl
    rw [show a = "" from TL.ext_tl (by
      rw [TL.len_tl] at ha
      rw [List.length_eq_zero_iff.mp ha]
      rfl)]
theorem join_nil {y : Str} : Txt.join y [] = "" := by
  rw [TL.join_eq]
  exact TL.ext_tl rfl
theorem join_le {y : Str} (hy : y.length = 1) {b : Nat} {ws : List Str} (h : ∀ w ∈ ws, w.length ≤ b) : (Str.join y ws).length ≤ ws.length * (b + 1) := by
  cases ws with
  | nil => exact Nat.zero_le _
  | cons a l =>
    rw [len_join_cons, hy]
    have := sum_le h
    rw [Nat.mul_add, Nat.mul_one]
    simp only [List.length_cons] at this ⊢
    omega
theorem num_head : ∀ n : Nat, 1 ≤ n → ∃ c r, TL.numL n = c :: r ∧ c ≠ 48 := by
  intro n
  induction n using Nat.strongRecOn with
  | _ n ih =>
    intro h
    by_cases hn : n < 10
    · exact ⟨48 + n, [], TL.numL_lt hn, by omega⟩
    · obtain ⟨c, r, e, hc⟩ := ih (n / 10) (by omega) (by omega)
      exact ⟨c, r ++ [48 + n % 10], by rw [TL.numL_step (by omega), e]; rfl, hc⟩
theorem num_dig (n : Nat) : (TL.numL n).all dig = true := List.all_eq_true.mpr fun c hc => dig_iff.mpr (TL.numL_digits n c hc)
theorem goodL_of {l : List Nat} (h : l.all dig = true) (hc : ∃ c r, l = c :: r ∧ c ≠ 48) : goodL l = true := by
  obtain ⟨c, r, rfl, hc⟩ := hc
  cases r with
  | nil => simpa [goodL] using h
  | cons d r =>
    unfold goodL
    rw [Bool.and_eq_true]
    exact ⟨by simpa using h, by simpa using hc⟩
theorem good_num (n : Nat) : goodW (Str.ofString (toString (n : Int))) = true := by
  unfold goodW
  rw [TL.tl_num]
  by_cases h : n = 0
  · subst h
    rw [TL.numL_lt (by decide)]
    rfl
  · exact goodL_of (num_dig n) (num_head n (by omega))
theorem numV_num (n : Nat) : numV (Str.ofString (toString (n : Int))) = n := by
  unfold numV
  rw [TL.tl_num]
  show ((NumText.digitsVal (TL.numL n) : Nat) : Int) = n
  rw [TL.numL_val]
def iS (i : Int) : Str := Str.ofString (toString i)
theorem good_int {i : Int} (h : 0 ≤ i) : goodW (iS i) = true := by
  obtain ⟨n, rfl⟩ := Int.eq_ofNat_of_zero_le h
  exact good_num n
theorem numV_int {i : Int} (h : 0 ≤ i) : numV (iS i) = i := by
  obtain ⟨n, rfl⟩ := Int.eq_ofNat_of_zero_le h
  exact numV_num n
end T2

set_option Elab.async false
set_option linter.all false
set_option maxRecDepth 100000
set_option maxHeartbeats 4000000
namespace T1
open PySem PySem.Spec PyProof.Rows L2 C8

def top (i : Nat) : Stmt := PySem.Challenge.pw_wornbridges_k42_texts_of_schedules.main.body.getD i (.Pass ⟨0, 0, 0, 0⟩)





/-- the built-in names that the module does not bind -/
structure BT (mg : Str → Option Value) : Prop where
  len : mg "len" = none
  int : mg "int" = none
  max : mg "max" = none
  range : mg "range" = none
  list : mg "list" = none
  tuple : mg "tuple" = none
  isinstance : mg "isinstance" = none
  enumerate : mg "enumerate" = none
  dict : mg "dict" = none
  str : mg "str" = none
  bool : mg "bool" = none

/-! ### the law's drawing state: h = [m, s, k], s the cells -/
structure LSt (H : Hp) (h s : Addr) : Prop where
  ex : ∃ (m k : Int) (xs : List Int), H h = some (.lst [.int m, .ref s, .int k]) ∧ H s = some (.lst (xs.map V.int)) ∧ 0 ≤ m ∧ m < 2147483647 ∧ 0 ≤ k ∧ xs.length ≤ 63
/-- all but the state stays -/
def But (h s : Addr) (H H' : Hp) : Prop := ∀ b o, b ≠ h → b ≠ s → H b = some o → H' b = some o
theorem But.refl (h s : Addr) (H : Hp) : But h s H H := fun _ _ _ _ e => e
theorem But.trans {h s : Addr} {H H1 H2 : Hp} (a : But h s H H1) (b : But h s H1 H2) : But h s H H2 := fun c o n1 n2 e => b c o n1 n2 (a c o n1 n2 e)
theorem But.of {h s : Addr} {H H' : Hp} (a : Same H H') : But h s H H' := fun c o _ _ e => a c o e
theorem Same.upd' {H : Hp} {p : Addr} {o : HO} (hp : H p = none) : Same H (upd H p o) := fun b u e => by rw [upd_ne (ne_of_none e hp)]; exact e
theorem LSt.ne {H : Hp} {h s : Addr} (x : LSt H h s) : h ≠ s := by
  obtain ⟨m, k, xs, h1, h2, _⟩ := x.ex
  refine ne_of h1 h2 fun z => ?_
  injection z with z
  match xs, z with
  | a :: b :: r, z => simp at z
theorem LSt.same {H H' : Hp} {h s : Addr} (x : LSt H h s) (e : Same H H') : LSt H' h s := by
  obtain ⟨m, k, xs, h1, h2, r⟩ := x.ex
  exact ⟨m, k, xs, e _ _ h1, e _ _ h2, r⟩
theorem LSt.notT {H : Hp} {h s a : Addr} {xs : List V} (x : LSt H h s) (r : Rd H a (.tup xs)) : a ≠ h ∧ a ≠ s := by
  obtain ⟨m, k, ys, h1, h2, _⟩ := x.ex
  rcases r with r | ⟨o, r⟩
  · exact ⟨ne_of r h1 (fun z => nomatch z), ne_of r h2 (fun z => nomatch z)⟩
  · exact ⟨ne_of r h1 (fun z => nomatch z), ne_of r h2 (fun z => nomatch z)⟩
theorem But.tup {K : PySem.W.Frag} {H H' : Hp} {h s a : Addr} {xs : List V} (e : But h s H H') (x : LSt H h s) (t : SqT K H a xs) : SqT K H' a xs := by
  rcases t with t | t
  · obtain ⟨n1, n2⟩ := x.notT t
    rcases t with t | ⟨o, t⟩
    · exact .inl (.inl (e _ _ n1 n2 t))
    · exact .inl (.inr ⟨o, e _ _ n1 n2 t⟩)
  · exact .inr t
theorem Same.tup {K : PySem.W.Frag} {H H' : Hp} {a : Addr} {xs : List V} (e : Same H H') (t : SqT K H a xs) : SqT K H' a xs := by
  rcases t with (t | ⟨o, t⟩) | t
  · exact .inl (.inl (e _ _ t))
  · exact .inl (.inr ⟨o, e _ _ t⟩)
  · exact .inr t


theorem up_new {X : Hp} {a p : Addr} {u o : HO} (h : X a = some u) (hp : X p = none) : upd X p o a = some u := by rw [upd_ne (ne_of_none h hp)]; exact h
theorem up_set {X : Hp} {a p : Addr} {u o : HO} (n : a ≠ p) (h : X a = some u) : upd X p o a = some u := by rw [upd_ne n]; exact h
theorem SqL.of' {K : PySem.W.Frag} {H : Hp} {a : Addr} {xs : List V} (h : H a = some (.lst xs)) : SqL K H a xs := .inl (.inl h)
theorem SqT.of' {K : PySem.W.Frag} {H : Hp} {a : Addr} {xs : List V} (h : H a = some (.tup xs)) : SqT K H a xs := .inl (.inl h)
theorem SqT.new {K : PySem.W.Frag} {H : Hp} {a p : Addr} {o : HO} {xs : List V} (h : SqT K H a xs) (hp : H p = none) : SqT K (upd H p o) a xs := Same.tup (Same.upd' hp) h
theorem SqT.put {K : PySem.W.Frag} {H : Hp} {a p : Addr} {o : HO} {xs ys : List V} (h : SqT K H a xs) (hp : H p = some (.lst ys)) : SqT K (upd H p o) a xs := by
  rcases h with (t | ⟨q, t⟩) | t
  · exact .inl (.inl (up_set (ne_of t hp (fun z => nomatch z)) t))
  · exact .inl (.inr ⟨q, up_set (ne_of t hp (fun z => nomatch z)) t⟩)
  · exact .inr t
theorem ne_of_none' {H : Hp} {a b : Addr} {o : HO} (h' : H b = none) (h : H a = some o) : a ≠ b := ne_of_none h h'
theorem up_new' {X : Hp} {a p : Addr} {u o : HO} (hp : X p = none) (h : X a = some u) : upd X p o a = some u := up_new h hp
theorem SqT.new' {K : PySem.W.Frag} {H : Hp} {a p : Addr} {o : HO} {xs : List V} (hp : H p = none) (h : SqT K H a xs) : SqT K (upd H p o) a xs := SqT.new h hp
theorem SqT.put' {K : PySem.W.Frag} {H : Hp} {a p : Addr} {xs ys zs : List V} (hp : H p = some (.lst ys)) (h : SqT K H a xs) : SqT K (upd H p (.lst zs)) a xs := SqT.put h hp
theorem SqL.new' {K : PySem.W.Frag} {H : Hp} {a p : Addr} {o : HO} {xs : List V} (hp : H p = none) (h : SqL K H a xs) : SqL K (upd H p o) a xs := (Same.upd' hp).seq h
theorem Same.at' {H H' : Hp} {a : Addr} {o : HO} (e : Same H H') (h : H a = some o) : H' a = some o := e _ _ h
theorem Same.sql' {K : PySem.W.Frag} {H H' : Hp} {a : Addr} {xs : List V} (e : Same H H') (t : SqL K H a xs) : SqL K H' a xs := e.seq t
theorem But.at' {H H' : Hp} {h s a : Addr} {o : HO} (e : But h s H H') (n1 : a ≠ h) (n2 : a ≠ s) (i : H a = some o) : H' a = some o := e _ _ n1 n2 i
theorem LSt.f1 {H : Hp} {h s p : Addr} (hp : H p = none) (x : LSt H h s) : p ≠ h := by
  obtain ⟨m, k, xs, h1, h2, r⟩ := x.ex
  exact Ne.symm (ne_of_none h1 hp)
theorem LSt.f2 {H : Hp} {h s p : Addr} (hp : H p = none) (x : LSt H h s) : p ≠ s := by
  obtain ⟨m, k, xs, h1, h2, r⟩ := x.ex
  exact Ne.symm (ne_of_none h2 hp)
theorem LSt.same' {H H' : Hp} {h s : Addr} (e : Same H H') (x : LSt H h s) : LSt H' h s := x.same e
theorem But.sm {h s : Addr} {H H' H2 : Hp} (e : Same H' H2) (x : But h s H H') : But h s H H2 := x.trans (But.of e)
theorem But.bu {h s : Addr} {H H' H2 : Hp} (e : But h s H' H2) (x : But h s H H') : But h s H H2 := x.trans e
theorem But.nw {h s : Addr} {H H' : Hp} {p : Addr} {o : HO} (hp : H' p = none) (x : But h s H H') : But h s H (upd H' p o) := x.trans (But.of (Same.upd' hp))
theorem Same.put' {H X : Hp} {p : Addr} {o : HO} (hp : H p = none) (e : Same H X) : Same H (upd X p o) := fun b u h => by rw [upd_ne (ne_of_none h hp)]; exact e b u h
theorem itD {c A B : Prop} [Decidable c] (h : c) (a : A) : if decide c = true then A else B := by rw [if_pos (decide_eq_true h)]; exact a
theorem itN {c A B : Prop} [Decidable c] (h : ¬ c) (a : B) : if decide c = true then A else B := by rw [if_neg (fun z => h (of_decide_eq_true z))]; exact a
theorem itnD {c A B : Prop} [Decidable c] (h : c) (a : B) : if (!decide c) = true then A else B := by rw [decide_eq_true h]; exact iteF a
theorem itnN {c A B : Prop} [Decidable c] (h : ¬ c) (a : A) : if (!decide c) = true then A else B := by rw [decide_eq_false h]; exact iteT a
theorem vint_inj {x y : Int} : V.int x = V.int y ↔ x = y := ⟨fun h => by injection h, fun h => by rw [h]⟩
theorem itE {x y : Int} {A B : Prop} (h : x = y) (a : A) : if decide (V.int x = V.int y) = true then A else B := itD (vint_inj.mpr h) a
theorem itEn {x y : Int} {A B : Prop} (h : x ≠ y) (a : B) : if decide (V.int x = V.int y) = true then A else B := itN (fun z => h (vint_inj.mp z)) a
theorem itnE {x y : Int} {A B : Prop} (h : x = y) (a : B) : if (!decide (V.int x = V.int y)) = true then A else B := itnD (vint_inj.mpr h) a
theorem itnEn {x y : Int} {A B : Prop} (h : x ≠ y) (a : A) : if (!decide (V.int x = V.int y)) = true then A else B := itnN (fun z => h (vint_inj.mp z)) a
theorem itS {x y : Int} {A B : Prop} (h1 : x ≤ y → A) (h2 : y < x → B) : if decide (x ≤ y) = true then A else B := by
  by_cases h : x ≤ y
  · exact itD h (h1 h)
  · exact itN h (h2 (Int.lt_of_not_ge h))
theorem itS' {x y : Int} {A B : Prop} (h1 : x < y → A) (h2 : y ≤ x → B) : if decide (x < y) = true then A else B := by
  by_cases h : x < y
  · exact itD h (h1 h)
  · exact itN h (h2 (Int.not_lt.mp h))
theorem itnS {x y : Int} {A B : Prop} (h1 : y < x → A) (h2 : x ≤ y → B) : if (!decide (x ≤ y)) = true then A else B := by
  by_cases h : x ≤ y
  · exact itnD h (h2 h)
  · exact itnN h (h1 (Int.lt_of_not_ge h))
theorem itnS' {x y : Int} {A B : Prop} (h1 : y ≤ x → A) (h2 : x < y → B) : if (!decide (x < y)) = true then A else B := by
  by_cases h : x < y
  · exact itnD h (h2 h)
  · exact itnN h (h1 (Int.not_lt.mp h))
theorem itSE {x y : Int} {A B : Prop} (h1 : x = y → A) (h2 : x ≠ y → B) : if decide (V.int x = V.int y) = true then A else B := by
  by_cases h : x = y
  · exact itE h (h1 h)
  · exact itEn h (h2 h)
theorem itnSE {x y : Int} {A B : Prop} (h1 : x ≠ y → A) (h2 : x = y → B) : if (!decide (V.int x = V.int y)) = true then A else B := by
  by_cases h : x = y
  · exact itnE h (h2 h)
  · exact itnEn h (h1 h)
theorem itNotF {A B : Prop} (a : A) : if (!false) = true then A else B := a
theorem itNotT {A B : Prop} (a : B) : if (!true) = true then A else B := a
theorem bl_as {b b' : Bool} {H : Hp} {Q : VK} (q : Q (.bl b') H) (e : b' = b) : Q (.bl b) H := by subst e; exact q
local macro_rules | `(tactic| walk_at "hf") => `(tactic| (fail_if_success (show (fun _ => none : Hp) _ = _)); first | assumption | with_reducible exact upd_same | ((with_reducible show upd _ _ _ _ = _); first | exact up_new' (by assumption) (by walk_at "hf") | exact up_set (by walk_at "ne") (by walk_at "hf")) | exact Same.at' (by assumption) (by walk_at "hf") | exact But.at' (by assumption) (by walk_at "ne") (by walk_at "ne") (by walk_at "hf"))
local macro_rules | `(tactic| walk_at "hf0") => `(tactic| (fail_if_success (show (fun _ => none : Hp) _ = _)); first | assumption | with_reducible exact upd_same | ((with_reducible show upd _ _ _ _ = _); exact up_new' (by assumption) (by walk_at "hf0")))
local macro_rules | `(tactic| walk_at "ne") => `(tactic| first | assumption | (apply Ne.symm; assumption) | exact ne_of_none' (by assumption) (by walk_at "hf0") | exact Ne.symm (ne_of_none' (by assumption) (by walk_at "hf0")) | exact LSt.f1 (by assumption) (by walk_at "lst") | exact LSt.f2 (by assumption) (by walk_at "lst"))
local macro_rules | `(tactic| walk_at "sqt") => `(tactic| (fail_if_success (show SqT _ (fun _ => none) _ _)); first | assumption | exact SqT.of' (by walk_at "hf") | ((with_reducible show SqT _ (upd _ _ _) _ _); first | exact SqT.new' (by assumption) (by walk_at "sqt") | exact SqT.put' (by walk_at "hf") (by walk_at "sqt")) | exact Same.tup (by assumption) (by walk_at "sqt") | exact But.tup (by assumption) (by walk_at "lst") (by walk_at "sqt"))
local macro_rules | `(tactic| walk_at "sql") => `(tactic| (fail_if_success (show SqL _ (fun _ => none) _ _)); first | assumption | exact SqL.of' (by walk_at "hf") | ((with_reducible show SqL _ (upd _ _ _) _ _); exact SqL.new' (by assumption) (by walk_at "sql")) | exact Same.sql' (by assumption) (by walk_at "sql"))
local macro_rules | `(tactic| walk_at "but") => `(tactic| first | assumption | exact But.refl _ _ _ | ((with_reducible show But _ _ _ (upd _ _ _)); exact But.nw (by assumption) (by walk_at "but")) | exact But.bu (by assumption) (by walk_at "but") | exact But.sm (by assumption) (by walk_at "but"))
local macro_rules | `(tactic| walk_at "sm") => `(tactic| first | assumption | exact Same.refl _ | ((with_reducible show Same _ (upd _ _ _)); first | exact Same.put' (by assumption) (by walk_at "sm") | exact Same.trans (by walk_at "sm") (Same.upd' (by assumption))) | exact Same.trans (by walk_at "sm") (by assumption))
/-- one step of a reading -/
local macro_rules | `(tactic| walk_at "rd") => `(tactic| first
  | with_reducible refine iteF ?_
  | with_reducible refine iteT ?_
  | with_reducible refine itNotF ?_
  | with_reducible refine itNotT ?_
  | refine ⟨_, rfl, ?_⟩
  | refine ⟨_, _, rfl, rfl, ?_⟩
  | refine ⟨_, _, rfl, ?_⟩
  | refine ⟨(_ : Addr), (_ : List V), (_ : Int), (_ : V), rfl, rfl, SqL.of' (by walk_at "hf"), (by first | assumption | rfl), ?_⟩
  | refine ⟨(_ : Addr), (_ : List V), (_ : Int), (_ : V), rfl, rfl, (by walk_at "sqt" : SqT _ _ _ _), (by first | assumption | rfl), ?_⟩
  | refine .inl ⟨_, rfl, ?_⟩
  | refine ⟨_, _, rfl, .inl (by walk_at "sql" : SqL _ _ _ _), ?_⟩
  | refine ⟨_, _, rfl, .inl ⟨(by walk_at "sql" : SqL _ _ _ _), fun p hp => ?_⟩⟩
  | refine ⟨_, _, rfl, .inr ⟨(by walk_at "sqt" : SqT _ _ _ _), ?_⟩⟩
  | refine fun (p : Addr) (hp : (_ : Hp) p = none) => ?_
  | refine ⟨_, _, rfl, .inr (by walk_at "sqt" : SqT _ _ _ _), ?_⟩
  | refine And.intro (by show _ ≤ sizeLine; first | decide | walk_at "sz") (fun p hp => ?_)
  | refine ⟨(_ : Addr), (_ : Addr), (_ : List V), (_ : List V), rfl, rfl, (by walk_at "hf"), (by walk_at "hf"), (by walk_at "sz"), fun p hp => ?_⟩
  | refine ⟨(_ : Addr), (_ : Addr), (_ : List V), (_ : List V), rfl, rfl, (by walk_at "hf"), (by walk_at "hf"), (by walk_at "sz"), ?_⟩
  | refine ⟨(_ : Addr), (_ : List V), (_ : Int), (_ : Nat), rfl, rfl, (by walk_at "hf"), (by rfl), ?_⟩
  | refine And.intro ⟨_, (by walk_at "sql" : SqL _ _ _ _)⟩ ?_
  | refine And.intro ⟨_, (by walk_at "sqt" : SqT _ _ _ _)⟩ ?_
  | refine And.intro (.inl ⟨rfl, _, SqL.of' (by walk_at "hf")⟩) ?_
  | refine And.intro (by walk_at "cond") ?_
  | exact .inl ⟨rfl, _, SqL.of' (by walk_at "hf")⟩
  | with_reducible refine iteT ?_
  | with_reducible refine iteF ?_
  | refine And.intro (by rfl : scal _ _ = true) ?_
  | refine And.intro (by rfl : _ = V.non) ?_
  | refine And.intro (by rfl : wipe _ _ = wipe _ _) ?_
  | refine And.intro (by rfl : (_ : List V) = []) ?_
  | refine ⟨(_ : Addr), (_ : List V), rfl, (by walk_at "sqt" : SqT _ _ _ _), (by rfl), ?_⟩)
/-- a test: known, or both ways -/
local macro_rules | `(tactic| walk_at "if") => `(tactic| first
  | with_reducible refine itD (by omega) ?_
  | with_reducible refine itN (by omega) ?_
  | with_reducible refine itnD (by omega) ?_
  | with_reducible refine itnN (by omega) ?_
  | with_reducible refine itE (by omega) ?_
  | with_reducible refine itEn (by omega) ?_
  | with_reducible refine itnE (by omega) ?_
  | with_reducible refine itnEn (by omega) ?_
  | with_reducible refine itN (by intro z; cases z) ?_
  | with_reducible refine itD (by decide) ?_
  | with_reducible refine itN (by decide) ?_
  | with_reducible refine itnD (by decide) ?_
  | with_reducible refine itnN (by decide) ?_)
local macro_rules | `(tactic| walk_at "if2") => `(tactic| first
  | with_reducible refine itS (fun z => ?_) (fun z => ?_)
  | with_reducible refine itS' (fun z => ?_) (fun z => ?_)
  | with_reducible refine itSE (fun z => ?_) (fun z => ?_)
  | with_reducible refine itnS (fun z => ?_) (fun z => ?_)
  | with_reducible refine itnS' (fun z => ?_) (fun z => ?_)
  | with_reducible refine itnSE (fun z => ?_) (fun z => ?_))
local macro_rules | `(tactic| walk_at "go") => `(tactic| repeat' (first | walk_at "rd" | walk_at "if" | walk_at "if2" | fail))
local macro_rules | `(tactic| walk_at "sz") => `(tactic| (rw [sizeLine_eq]; simp only [List.length_append, List.length_map, List.length_cons, List.length_nil]; omega))
local macro_rules | `(tactic| walk_at "cond") => `(tactic| first | assumption | (show (_ : Int) ≠ 0; first | omega | (split <;> omega)) | (show (0 : Int) < _; first | assumption | decide) | exact ⟨by decide, by decide, by decide⟩ | exact .inr ⟨by decide, by decide⟩ | exact wide_div (b := 64) (by assumption) (by omega) (by decide) (by decide) | exact ⟨by decide, by decide⟩)


def spNext : Sp := fun vs H Q _ => ∃ (h s : Addr) (n : Int), vs = [.ref h, .int n] ∧ LSt H h s ∧ 0 < n ∧ n ≤ 2000000000000000000 ∧
  ∀ (r : Int) (H' : Hp), 0 ≤ r → r < n → LSt H' h s → But h s H H' → Q (.int r) H'

section
variable {P : Program} {w : World} {K : PySem.W.Frag} {mg : Str → Option Value} {base : Heap}

theorem fdN {a b : Int} (hb : 0 < b) : 0 ≤ Int.fmod a b ∧ Int.fmod a b < b := ⟨Int.fmod_nonneg_of_pos a hb, Int.fmod_lt_of_pos a hb⟩
theorem atI_get {xs : List V} {i : Int} {v : V} (h0 : 0 ≤ i) (h : xs[i.toNat]? = some v) : atI xs i = some v := by
  have e : i = ((i.toNat : Nat) : Int) := by omega
  rw [e]; exact atI_nat h
theorem ixN_pos {n : Nat} {i : Int} (h0 : 0 ≤ i) (h1 : i < n) : ixN n i = some i.toNat := by unfold ixN; rw [if_pos h0, if_pos h1]
end
end T1

set_option Elab.async false
set_option linter.all false
set_option maxRecDepth 100000
set_option maxHeartbeats 4000000
namespace T1
open PySem PySem.Spec PyProof.Rows L2 C8
/-! ### links: tuples of four ints -/
abbrev Lk := Int × Int × Int × Int
def lv (l : Lk) : List V := [.int l.1, .int l.2.1, .int l.2.2.1, .int l.2.2.2]
def LL (K : PySem.W.Frag) (H : Hp) (vs : List V) (ls : List Lk) : Prop := vs.length = ls.length ∧ ∀ (j : Nat) (l : Lk), ls[j]? = some l → ∃ a, vs[j]? = some (.ref a) ∧ SqT K H a (lv l)
def Ls (K : PySem.W.Frag) (H : Hp) (t : Addr) (ls : List Lk) : Prop := ∃ vs, SqT K H t vs ∧ LL K H vs ls
section
variable {K : PySem.W.Frag} {H H' : Hp} {h s t : Addr} {vs : List V} {ls : List Lk}
theorem LL.but (x : LL K H vs ls) (e : But h s H H') (z : LSt H h s) : LL K H' vs ls := ⟨x.1, fun j l q => let ⟨a, e1, e2⟩ := x.2 j l q; ⟨a, e1, e.tup z e2⟩⟩
theorem LL.same (x : LL K H vs ls) (e : Same H H') : LL K H' vs ls := ⟨x.1, fun j l q => let ⟨a, e1, e2⟩ := x.2 j l q; ⟨a, e1, Same.tup e e2⟩⟩
theorem LL.put {p : Addr} {xs ys : List V} (x : LL K H vs ls) (hp : H p = some (.lst xs)) : LL K (upd H p (.lst ys)) vs ls := ⟨x.1, fun j l q => let ⟨a, e1, e2⟩ := x.2 j l q; ⟨a, e1, SqT.put e2 hp⟩⟩
theorem LL.same' (e : Same H H') (x : LL K H vs ls) : LL K H' vs ls := x.same e
theorem LL.but' (e : But h s H H') (z : LSt H h s) (x : LL K H vs ls) : LL K H' vs ls := x.but e z
theorem LL.nil : LL K H [] [] := ⟨rfl, fun j l q => by simp at q⟩
theorem LL.snoc {a : Addr} {l : Lk} (x : LL K H vs ls) (e : SqT K H a (lv l)) : LL K H (vs ++ [.ref a]) (ls ++ [l]) := by
  refine ⟨by simp [x.1], fun j m q => ?_⟩
  by_cases hj : j < ls.length
  · rw [List.getElem?_append_left hj] at q
    obtain ⟨b, e1, e2⟩ := x.2 j m q
    exact ⟨b, by rw [List.getElem?_append_left (by rw [x.1]; exact hj)]; exact e1, e2⟩
  · have hj' : ls.length ≤ j := Nat.le_of_not_lt hj
    rw [List.getElem?_append_right hj'] at q
    have e0 : j - ls.length = 0 := by
      match hz : j - ls.length, q with
      | 0, _ => rfl
      | n + 1, q => rw [hz] at *; simp at q
    rw [e0] at q
    have em : l = m := by simpa using q
    subst em
    exact ⟨a, by rw [List.getElem?_append_right (by rw [x.1]; exact hj'), x.1, e0]; rfl, e⟩
theorem Ls.but (x : Ls K H t ls) (e : But h s H H') (z : LSt H h s) : Ls K H' t ls := let ⟨vs, a, b⟩ := x; ⟨vs, e.tup z a, b.but e z⟩
theorem Ls.same (x : Ls K H t ls) (e : Same H H') : Ls K H' t ls := let ⟨vs, a, b⟩ := x; ⟨vs, Same.tup e a, b.same e⟩
theorem LSt.new {p : Addr} {o : HO} (x : LSt H h s) (hp : H p = none) : LSt (upd H p o) h s := x.same (Same.upd' hp)
theorem LSt.put {p : Addr} {o : HO} (x : LSt H h s) (n1 : p ≠ h) (n2 : p ≠ s) : LSt (upd H p o) h s := by
  obtain ⟨m, k, xs, h1, h2, r⟩ := x.ex
  exact ⟨m, k, xs, up_set (Ne.symm n1) h1, up_set (Ne.symm n2) h2, r⟩
theorem But.new {p : Addr} {o : HO} (x : But h s H H') (hp : H' p = none) : But h s H (upd H' p o) := x.trans (But.of (Same.upd' hp))
theorem LSt.fresh {p : Addr} (x : LSt H h s) (hp : H p = none) : p ≠ h ∧ p ≠ s := by
  obtain ⟨m, k, xs, h1, h2, r⟩ := x.ex
  exact ⟨Ne.symm (ne_of_none h1 hp), Ne.symm (ne_of_none h2 hp)⟩
theorem LL.get (x : LL K H vs ls) {j : Nat} {l : Lk} (q : ls[j]? = some l) : ∃ a, vs[j]? = some (.ref a) ∧ SqT K H a (lv l) := x.2 j l q
end
local macro_rules | `(tactic| walk_at "hf") => `(tactic| (fail_if_success (show (fun _ => none : Hp) _ = _)); first | assumption | with_reducible exact upd_same | ((with_reducible show upd _ _ _ _ = _); first | exact up_new' (by assumption) (by walk_at "hf") | exact up_set (by walk_at "ne") (by walk_at "hf")) | exact Same.at' (by assumption) (by walk_at "hf") | exact But.at' (by assumption) (by walk_at "ne") (by walk_at "ne") (by walk_at "hf"))
local macro_rules | `(tactic| walk_at "hf0") => `(tactic| (fail_if_success (show (fun _ => none : Hp) _ = _)); first | assumption | with_reducible exact upd_same | ((with_reducible show upd _ _ _ _ = _); exact up_new' (by assumption) (by walk_at "hf0")))
local macro_rules | `(tactic| walk_at "ne") => `(tactic| first | assumption | (apply Ne.symm; assumption) | exact ne_of_none' (by assumption) (by walk_at "hf0") | exact Ne.symm (ne_of_none' (by assumption) (by walk_at "hf0")) | exact LSt.f1 (by assumption) (by walk_at "lst") | exact LSt.f2 (by assumption) (by walk_at "lst"))
local macro_rules | `(tactic| walk_at "sqt") => `(tactic| (fail_if_success (show SqT _ (fun _ => none) _ _)); first | assumption | exact SqT.of' (by walk_at "hf") | ((with_reducible show SqT _ (upd _ _ _) _ _); first | exact SqT.new' (by assumption) (by walk_at "sqt") | exact SqT.put' (by walk_at "hf") (by walk_at "sqt")) | exact Same.tup (by assumption) (by walk_at "sqt") | exact But.tup (by assumption) (by walk_at "lst") (by walk_at "sqt"))
local macro_rules | `(tactic| walk_at "sql") => `(tactic| (fail_if_success (show SqL _ (fun _ => none) _ _)); first | assumption | exact SqL.of' (by walk_at "hf") | ((with_reducible show SqL _ (upd _ _ _) _ _); exact SqL.new' (by assumption) (by walk_at "sql")) | exact Same.sql' (by assumption) (by walk_at "sql"))
local macro_rules | `(tactic| walk_at "lst") => `(tactic| (fail_if_success (show LSt (fun _ => none) _ _)); first | assumption | ((with_reducible show LSt (upd _ _ _) _ _); first | exact LSt.new (by walk_at "lst") (by assumption) | exact LSt.put (by walk_at "lst") (by walk_at "ne") (by walk_at "ne")) | exact LSt.same' (by assumption) (by walk_at "lst"))
local macro_rules | `(tactic| walk_at "but") => `(tactic| first | assumption | exact But.refl _ _ _ | ((with_reducible show But _ _ _ (upd _ _ _)); exact But.nw (by assumption) (by walk_at "but")) | exact But.bu (by assumption) (by walk_at "but") | exact But.sm (by assumption) (by walk_at "but"))
local macro_rules | `(tactic| walk_at "ls") => `(tactic| first | assumption | exact Ls.same (by walk_at "ls") (Same.upd' (by assumption)))
local macro_rules | `(tactic| walk_at "ll") => `(tactic| first | assumption | exact LL.same (by walk_at "ll") (Same.upd' (by assumption)) | exact LL.same' (by assumption) (by walk_at "ll") | exact LL.but' (by assumption) (by walk_at "lst") (by walk_at "ll"))
local macro_rules | `(tactic| walk_at "sm") => `(tactic| first | assumption | exact Same.refl _ | ((with_reducible show Same _ (upd _ _ _)); first | exact Same.put' (by assumption) (by walk_at "sm") | exact Same.trans (by walk_at "sm") (Same.upd' (by assumption))) | exact Same.trans (by walk_at "sm") (by assumption))
/-- one step of a reading -/
local macro_rules | `(tactic| walk_at "rd") => `(tactic| first
  | with_reducible refine iteF ?_
  | with_reducible refine iteT ?_
  | with_reducible refine itNotF ?_
  | with_reducible refine itNotT ?_
  | refine ⟨_, rfl, ?_⟩
  | refine ⟨_, _, rfl, rfl, ?_⟩
  | refine ⟨_, _, rfl, ?_⟩
  | refine ⟨(_ : Addr), (_ : List V), (_ : Int), (_ : V), rfl, rfl, SqL.of' (by walk_at "hf"), (by first | assumption | rfl), ?_⟩
  | refine ⟨(_ : Addr), (_ : List V), (_ : Int), (_ : V), rfl, rfl, (by walk_at "sqt" : SqT _ _ _ _), (by first | assumption | rfl), ?_⟩
  | refine .inl ⟨_, rfl, ?_⟩
  | refine ⟨_, _, rfl, .inl (by walk_at "sql" : SqL _ _ _ _), ?_⟩
  | refine ⟨_, _, rfl, .inl ⟨(by walk_at "sql" : SqL _ _ _ _), fun p hp => ?_⟩⟩
  | refine ⟨_, _, rfl, .inr ⟨(by walk_at "sqt" : SqT _ _ _ _), ?_⟩⟩
  | refine fun (p : Addr) (hp : (_ : Hp) p = none) => ?_
  | refine ⟨_, _, rfl, .inr (by walk_at "sqt" : SqT _ _ _ _), ?_⟩
  | refine And.intro (by show _ ≤ sizeLine; first | decide | walk_at "sz") (fun p hp => ?_)
  | refine ⟨(_ : Addr), (_ : Addr), (_ : List V), (_ : List V), rfl, rfl, (by walk_at "hf"), (by walk_at "hf"), (by walk_at "sz"), fun p hp => ?_⟩
  | refine ⟨(_ : Addr), (_ : Addr), (_ : List V), (_ : List V), rfl, rfl, (by walk_at "hf"), (by walk_at "hf"), (by walk_at "sz"), ?_⟩
  | refine ⟨(_ : Addr), (_ : List V), (_ : Int), (_ : Nat), rfl, rfl, (by walk_at "hf"), (by rfl), ?_⟩
  | refine And.intro ⟨_, (by walk_at "sql" : SqL _ _ _ _)⟩ ?_
  | refine And.intro ⟨_, (by walk_at "sqt" : SqT _ _ _ _)⟩ ?_
  | refine And.intro (.inl ⟨rfl, _, SqL.of' (by walk_at "hf")⟩) ?_
  | refine And.intro (by walk_at "cond") ?_
  | exact .inl ⟨rfl, _, SqL.of' (by walk_at "hf")⟩
  | with_reducible refine iteT ?_
  | with_reducible refine iteF ?_
  | refine And.intro (by rfl : scal _ _ = true) ?_
  | refine And.intro (by rfl : _ = V.non) ?_
  | refine And.intro (by rfl : wipe _ _ = wipe _ _) ?_
  | refine And.intro (by rfl : (_ : List V) = []) ?_
  | refine ⟨(_ : Addr), (_ : List V), rfl, (by walk_at "sqt" : SqT _ _ _ _), (by rfl), ?_⟩)
/-- a test: known, or both ways -/
local macro_rules | `(tactic| walk_at "if") => `(tactic| first
  | with_reducible refine itD (by omega) ?_
  | with_reducible refine itN (by omega) ?_
  | with_reducible refine itnD (by omega) ?_
  | with_reducible refine itnN (by omega) ?_
  | with_reducible refine itE (by omega) ?_
  | with_reducible refine itEn (by omega) ?_
  | with_reducible refine itnE (by omega) ?_
  | with_reducible refine itnEn (by omega) ?_
  | with_reducible refine itN (by intro z; cases z) ?_
  | with_reducible refine itD (by decide) ?_
  | with_reducible refine itN (by decide) ?_
  | with_reducible refine itnD (by decide) ?_
  | with_reducible refine itnN (by decide) ?_)
local macro_rules | `(tactic| walk_at "if2") => `(tactic| first
  | with_reducible refine itS (fun z => ?_) (fun z => ?_)
  | with_reducible refine itS' (fun z => ?_) (fun z => ?_)
  | with_reducible refine itSE (fun z => ?_) (fun z => ?_)
  | with_reducible refine itnS (fun z => ?_) (fun z => ?_)
  | with_reducible refine itnS' (fun z => ?_) (fun z => ?_)
  | with_reducible refine itnSE (fun z => ?_) (fun z => ?_))
local macro_rules | `(tactic| walk_at "go") => `(tactic| repeat' (first | walk_at "rd" | walk_at "if" | walk_at "if2" | fail))
local macro_rules | `(tactic| walk_at "sz") => `(tactic| (rw [sizeLine_eq]; simp only [List.length_append, List.length_map, List.length_cons, List.length_nil]; omega))
local macro_rules | `(tactic| walk_at "cond") => `(tactic| first | assumption | (show (_ : Int) ≠ 0; first | omega | (split <;> omega)) | (show (0 : Int) < _; first | assumption | decide) | exact ⟨by decide, by decide, by decide⟩ | exact .inr ⟨by decide, by decide⟩ | exact wide_div (b := 64) (by assumption) (by omega) (by decide) (by decide) | exact ⟨by decide, by decide⟩)


theorem int_get {ns : List Int} {i : Nat} {y : V} (hi : (ns.map V.int)[i]? = some y) : ∃ z, ns[i]? = some z ∧ y = V.int z := by
  rw [List.getElem?_map] at hi
  cases e : ns[i]? with
  | none => rw [e] at hi; cases hi
  | some z => rw [e] at hi; exact ⟨z, rfl, (Option.some.inj hi).symm⟩

end T1

set_option Elab.async false
set_option linter.all false
set_option maxRecDepth 100000
set_option maxHeartbeats 4000000
/-! rules of our own: enumerate of a tuple, static methods, the base's __init__ read off the class, isinstance of a caught error that has fields -/
namespace T1
open PySem
open AutoSeq1 (wpAny_loadPart')
/-- an iterator of the tuple at t, at its start; an enumerate over the iterator at q -/
abbrev itO (t : Addr) : Obj := { cls := .type "tuple_iterator", data := .fields #[.ref t, .int 0 0] }
abbrev enO (q : Addr) : Obj := { cls := .type "enumerate", data := .fields #[.none, .bool false, .ref q, rawInt 0, .none, .none] }
abbrev enHeap (h : Heap) (t : Addr) : Heap := (h.push (itO t)).push (enO h.objs.size)
theorem meets_enumT (t : Addr) (vs : Array Value) :
    Meets (Builtin.«enumerate.__new__» ⟨[.type "enumerate", .ref t], []⟩) (fun _ R s => s.heap.IsTuple t vs ∧ R (.ok (.ret (.ref (s.heap.push (itO t)).objs.size))) { s with heap := enHeap s.heap t }) := by
  refine .of_wp fun prog w A R ⟨hp, g, d, tk, os⟩ ⟨tup, fin⟩ => ?_
  have sub := sub_enumerate
  have tup' : Heap.IsTuple (Shared.heap ⟨hp, g, d, tk, os⟩) t vs := tup
  obtain ⟨ot, hot, _⟩ := id tup
  wp_walk using wpAny_loadPart' hot
  refine wpAny_stack_any fun _ => wpAny_pure ?_
  split
  case' h_1 k _ _ _ _ _ => cases (k == Value.type "enumerate")
  all_goals
    wp_walk using wpAny_loadPart' hot, wpAny_pyIter_tuple tup'
    exact ⟨_, rfl, fin⟩
theorem t1_call_enumT {prog : Program} {w : World} {A : Around} {E : Value → Shared → Prop} {s : Shared} {t : Addr} {vs : Array Value} {Q : Value → Shared → Prop} (tup : s.heap.IsTuple t vs)
    (k : ∀ h', IsEnum h' (s.heap.objs.size + 1) s.heap.objs.size 0 .none → h'.IsTupleIter s.heap.objs.size t 0 → True → (∀ b o, s.heap.get? b = some o → h'.get? b = some o) → Q (.ref (s.heap.objs.size + 1)) { s with heap := h' }) :
    wpAny (model prog w) A (call (.type "enumerate") [.ref t]) Q E s := by
  have sz : (s.heap.push (itO t)).objs.size = s.heap.objs.size + 1 := Heap.size_push ..
  have en : IsEnum (enHeap s.heap t) (s.heap.objs.size + 1) s.heap.objs.size 0 .none := by
    have z := Heap.get?_push_size (s.heap.push (itO t)) (o := enO s.heap.objs.size) rfl
    rwa [sz] at z
  refine callType_new F.called_enumerate (by decide) (F.typeCall_enumerate_1 _) (F.newCall_enumerate_1 _) (fun _ => F.args_object_init_2 ..) F.entry_enumerate_new (meets_enumT t vs) ⟨tup, ?_⟩
  rw [sz]
  exact ⟨⟨_, en, rfl⟩, k _ en ⟨_, Heap.get?_push_of_some _ (Heap.get?_push_size _ rfl), rfl, rfl⟩ trivial fun _ _ z => Heap.get?_push_of_some _ (Heap.get?_push_of_some _ z)⟩
end T1
namespace T1
open PySem PySem.Spec PyProof.Rows L2 C8
/-! ### enumerate of a tuple -/
/-- what a turn hands out: a pair that is new at T, of the turn's number and the tuple's item -/
def PairOut (K : PySem.W.Frag) (a : Addr) (i : Nat) (H : Hp) (v : V) (H' : Hp) : Prop :=
  ∃ T y, v = .ref T ∧ H T = none ∧ H' = upd H T (.tup [.int (i : Nat), y]) ∧ ∀ ys, SqT K H a ys → ys[i]? = some y
def IteT (K : PySem.W.Frag) (a : Addr) : It where
  go i H := ∃ ys y, SqT K H a ys ∧ ys[i]? = some y
  yld i H v H' := PairOut K a i H v H'
  stop i H := ∃ ys, SqT K H a ys ∧ ys.length = i
/-- where the two records stand, the enumerate at e over the iterator at q -/
structure EnAt (a e q : Addr) (i : Nat) (h : Heap) : Prop where
  en : ∃ u, IsEnum h e q (i : Int) u
  tu : h.IsTupleIter q a i
  eq : e ≠ q
  aq : a ≠ q
theorem EnAt.big {a e q : Addr} {i : Nat} {h : Heap} (x : EnAt a e q i h) : e < h.objs.size ∧ q < h.objs.size := by
  obtain ⟨⟨u, hu⟩, ⟨o, ho, _⟩, _, _⟩ := x
  exact ⟨Heap.lt_size hu, Heap.lt_size ho⟩
theorem two {α : Type} {x y b : α} (h : b ∈ [x, y]) : b = x ∨ b = y := by simpa using h
theorem turn_enumT {P : Program} {w : World} {K : PySem.W.Frag} {es : List Expr} {n : Nat} {tp : Pos} (a e q : Addr) : Turn P w K (.Tuple es n tp) (IteT K a) [e, q] e (EnAt a e q) where
  mem := List.mem_cons_self
  obj := fun i h x b hb => by
    obtain ⟨⟨u, hu⟩, ⟨o, ho, _, hd⟩, _, _⟩ := x
    rcases two hb with rfl | rfl
    · exact ⟨_, hu, fun _ z => nomatch z⟩
    · exact ⟨o, ho, fun _ z => by rw [hd] at z; cases z⟩
  keep := fun i h h' x k => by
    obtain ⟨⟨u, hu⟩, ht, n1, n2⟩ := x
    exact ⟨⟨u, k e List.mem_cons_self _ hu⟩, ht.at fun o z => k q (List.mem_cons_of_mem _ List.mem_cons_self) o z, n1, n2⟩
  item := by
    rintro X rfl rfl rfl hc i pins s σ H E I ff x ⟨ys, y, hys, hy⟩
    obtain ⟨be, bq⟩ := x.big
    obtain ⟨⟨u, hu⟩, ht, n1, n2⟩ := x
    obtain ⟨vs, rv, tup, _⟩ := I.tuple hys
    obtain ⟨v, hv, ry⟩ := rv.get hy
    have nea : a ≠ e := by
      rintro rfl
      obtain ⟨o, ho, _, _, hd⟩ := tup
      rw [hu] at ho
      cases ho
      cases hd
    have hlt : i < vs.toArray.size := by
      have := (List.getElem?_eq_some_iff.mp hv).1
      simpa using this
    have DT := PySem.Draws.tuple (prog := X.prog) (w := X.w) (A := X.A.in1) (I.ok.hd hc) q a n2 vs.toArray
    refine wpAny_pyNext_enum_itemD DT hu ⟨ht, tup⟩ hlt n1 (fun z => (two z).elim n1 (Ne.symm nea)) fun v' h1 tk hv' out st at1 _ keep1 => ?_
    obtain rfl : v' = v := by
      have z : vs.toArray[i]? = some v := by simpa using hv
      exact Option.some.inj (hv'.symm.trans z)
    refine ⟨_, rfl, wpAny_letOwnedTupleGo_enum (s := { s with heap := h1, toks := tk + 1 }) out fun h2 hu2 sb => ?_⟩
    -- the new pair's address
    generalize hT : s.heap.objs.size = T at *
    have freshT : H T = none := I.hok.fresh (Nat.le_of_eq hT)
    have at2 := (sb.2 T (Nat.ne_of_gt be)).trans at1
    have okT : ObjOk X.prog X.w (upd H T (.tup [.int (i : Nat), y])) h2 T (.tup [.int (i : Nat), y]) := ⟨by show 2 ≤ sizeLine; decide, _, .cons ⟨tk, rfl⟩ (.cons ry .nil), _, at2, rfl, _, rfl⟩
    have J : Inv X pins σ (upd H T (.tup [.int (i : Nat), y])) { s with heap := h2, toks := tk + 1 } := by
      refine I.turnedNew (ch := [e, q]) (fun b o nb ho => ?_) ff (Nat.le_of_eq hT) okT
      have b1 : b ≠ e := fun z => nb (by rw [z]; exact List.mem_cons_self)
      have b2 : b ≠ q := fun z => nb (by rw [z]; exact List.mem_cons_of_mem _ List.mem_cons_self)
      exact (sb.2 b b1).trans (keep1 b o b1 b2 ho)
    refine ⟨.ref T, _, J, rfl, ⟨T, y, rfl, freshT, rfl, fun zs hz => by rw [I.tuple_inj hz hys]; exact hy⟩, ⟨⟨v', ?_⟩, st.1.at fun o z => (sb.2 q (Ne.symm n1)).trans z, n1, n2⟩, fun b hb => ?_⟩
    · rw [show ((i + 1 : Nat) : Int) = (i : Int) + 1 from rfl]
      exact hu2
    · have bT : b ≠ T := by
        rcases two hb with rfl | rfl
        · exact Nat.ne_of_lt be
        · exact Nat.ne_of_lt bq
      rw [upd_ne bT]
      exact (ff b hb).1
  done := by
    rintro X rfl rfl rfl hc i pins s σ H E I ff x ⟨ys, hys, hi⟩
    obtain ⟨⟨u, hu⟩, ht, n1, n2⟩ := x
    obtain ⟨vs, rv, tup, _⟩ := I.tuple hys
    obtain ⟨g0, g1, _, g3, g4, g5⟩ := ff q (List.mem_cons_of_mem _ List.mem_cons_self)
    obtain rfl : i = vs.toArray.size := by
      have := rv.length
      simp; omega
    have DT := PySem.Draws.tuple (prog := X.prog) (w := X.w) (A := X.A.in1) (I.ok.hd hc) q a n2 vs.toArray
    exact wpAny_pyNext_enum_endD DT hu ⟨ht, tup⟩ fun h1 eb => ⟨rfl, I.turned (t' := s.toks) (fun b o nb z => eb b o nb z) g0 g1 g3 g4 g5⟩
  self := fun _ _ _ _ _ x hq => by
    obtain ⟨⟨u, hu⟩, _⟩ := x
    exact wpAny_pyIter_enum hu hq
def iEnumT (K : PySem.W.Frag) (ta : TA) : TI := fun σ H R => ta σ H fun vs H1 => ∃ a ys, vs = [.ref a] ∧ SqT K H1 a ys ∧ R (IteT K a) H1
theorem pi_enumT {X : Cx} {x : Expr} {ta : TA} {p1 p2 p3 : Pos} {es : List Expr} {n : Nat} (hg : Gl X "enumerate") (hm : X.mg "enumerate" = none) (ha : PA X [x] ta) (st : starEach [x] X.env = [(false, eval x X.env)] := by rfl) :
    PI X (.Tuple es n p3) (.Call (.Name "enumerate" p1) [x] [] p2) (iEnumT X.K ta) where
  run := fun pins s σ H R I h => by
    refine Call_ (ld_blt I hg hm boot_enumerate (PyProof.Rows.callWith_type1 (thn (ha.run p2 pins s σ H _ I h) ?_) st rfl))
    rintro us s1 ⟨vs, H1, I1, rvs, a, ys, rfl, hys, q⟩
    obtain _ | ⟨ra, _ | _⟩ := rvs
    cases ra
    obtain ⟨_, _, tup, _⟩ := I1.tuple hys
    obtain ⟨o, ho, _⟩ := id tup
    generalize hz : s1.heap.objs.size = z
    refine t1_call_enumT tup fun h' he ht _ keep => wpAny_pyIter_enum he ?_
    rw [hz] at he ht
    rw [hz]
    have far : ∀ b ∈ [z + 1, z], s1.heap.objs.size ≤ b := fun b hb => by rcases two hb with rfl | rfl <;> omega
    refine ⟨z + 1, [z + 1, z], _, _, H1, rfl, I1.kept (t' := s1.toks) keep, turn_enumT a (z + 1) z, ⟨⟨.none, he⟩, ht, Nat.succ_ne_self z, Nat.ne_of_lt (by rw [← hz]; exact Heap.lt_size ho)⟩, fun b hb => ?_, q⟩
    exact I1.fpOk (far b hb) (I1.hok.fresh (far b hb))
/-- for i, x in enumerate(t): Pv by the turn; the pair of a turn is new at T -/
theorem for_enumT {K : PySem.W.Frag} {a : Addr} {ys : List V} {g : TG} {tb : TS} {D : Ends} {σ : L2.St} {H : Hp} (Pv : Nat → L2.St → Hp → Prop) (h0 : Pv 0 σ H) (hl : ∀ i σ H, Pv i σ H → SqT K H a ys)
    (hs : ∀ i y T σ H, ys[i]? = some y → H T = none → Pv i σ H → g (.ref T) σ (upd H T (.tup [.int (i : Nat), y])) (tb { nx := Pv (i + 1), rt := D.rt, bk := D.nx, ct := Pv (i + 1) }))
    (hd : ∀ σ H, Pv ys.length σ H → D.nx σ H) :
    ∃ W : Nat → Nat → L2.St → Hp → Prop, (∃ m, W 0 m σ H) ∧ ∀ j m τ G, W j m τ G →
      ((IteT K a).stop j G ∧ D.nx τ G) ∨ ((IteT K a).go j G ∧ ∃ N : L2.St → Hp → Prop, (∀ τ' G', N τ' G' → ∃ m', m' < m ∧ W (j + 1) m' τ' G') ∧ ∀ v G', (IteT K a).yld j G v G' → g v τ G' fun τ2 G2 => tb { nx := N, rt := D.rt, bk := D.nx, ct := N } τ2 G2) := by
  refine ⟨fun j m τ G => j + m = ys.length ∧ Pv j τ G, ⟨ys.length, Nat.zero_add _, h0⟩, fun j m τ G ⟨hm, pv⟩ => ?_⟩
  have tup := hl _ _ _ pv
  match m, hm with
  | 0, hm =>
    obtain rfl : j = ys.length := by omega
    exact .inl ⟨⟨ys, tup, rfl⟩, hd _ _ pv⟩
  | m + 1, hm =>
    have hlt : j < ys.length := by omega
    refine .inr ⟨⟨ys, ys[j], tup, List.getElem?_eq_getElem hlt⟩, Pv (j + 1), fun _ _ z => ⟨m, Nat.lt_succ_self m, by omega, z⟩, ?_⟩
    rintro v G' ⟨T, y, rfl, hT, rfl, hy⟩
    exact hs j y T τ G (hy ys tup) hT pv
/-! ### methods that are handed out unbound -/
/-- the call of a method, as the model unfolds it -/
abbrev MCall (X : Cx) (o : Expr) (m : Str) (args : List Expr) (p1 p2 : Pos) (pl : Sem Bool) : Prop :=
  eval (.Call (.Attribute o m p1) args [] p2) X.env =
    (eval o X.env >>= fun ov => standAt p1.atName >>= fun _ => holding [ov] (getMethod ov m pl) >>= fun r => callWith p2 r.1 r.2 (backTo p2 (starEach args X.env)) (backToKw p2 (keywordEach [] X.env)))
/-- m of what G tells is f, nothing bound to it -/
def Hands (X : Cx) (m : Str) (pl : Sem Bool) (G : V → Hp → Prop) (f : Value) : Prop :=
  ∀ (pins : List (Addr × Obj)) (σ : L2.St) (H : Hp) (s : Shared) (x : V) (u : Value) (Q : Value × List Value → Shared → Prop), Inv X pins σ H s → RelV x u → G x H → Q (f, []) { s with toks := s.toks + 1 } → wpAny (model X.prog X.w) X.A (getMethod u m pl) Q X.xe s
/-- o.m(..), m a def that is not bound -/
def tPlain (G : V → Hp → Prop) (sp : Sp) (E : XK) (ta : TE) (t : TA) : TE := fun σ H Q => ta σ H fun x H1 => G x H1 ∧ t σ H1 fun vs H2 => sp (vs ++ []) H2 Q E
section
variable {X : Cx} {CX : CXT} {k : Nat} {C CB p g : Addr} {mc : Value} {m : Str} {fd : FuncData} {ps : List Str} {sp : Sp} {E : XK} {o x : Expr} {xs : List Expr} {p1 p2 p3 : Pos} {ta : TE} {t : TA} {pl : Sem Bool} {G : V → Hp → Prop}
theorem pe_plain (ho : PE X o ta) (hh : Hands X m pl G (.ref g)) (kp : PySem.W.keepIn X.K (.ref g) = true) (F : FnOk X.prog X.w X.K X.mg X.base CX k g fd ps sp) (hr : Room k X.A) (hb : Binds X.K fd ps []) (hx : Passes CX X E) (ha : PA X (x :: xs) t)
    (s1 : starEach (x :: xs) X.env = (false, eval x X.env) :: starEach xs X.env := by rfl) (s2 : (backTo p2 (starEach xs X.env)).any (·.1) = false := by rfl) (hc : MCall X o m (x :: xs) p1 p2 pl := by rfl) :
    PE X (.Call (.Attribute o m p1) (x :: xs) [] p2) (tPlain G sp E ta t) where
  run := fun pins s σ H Q I h => by
    refine PySem.W.methodCall_KW (pl := pl) (thn (ho.run pins s σ H _ I h) ?_) hc
    rintro u z ⟨y, H1, I1, ry, gy, q⟩
    refine hh pins σ H1 z y u _ I1 ry gy (PySem.W.callWith_K (first := []) (h₀ := X.base) I1.ok.mod.kin kp (thn (ha.run p2 pins _ σ H1 _ (I1.tok _) q) ?_) s1 s2)
    rintro us z' ⟨vs, H2, I2, rv, q2⟩
    exact ⟨I2.kIn, run_fn F hr hb .nil hx I2 rv q2⟩
/-- what is asked of a static method of the class at C, read off an object -/
structure SInst (K : PySem.W.Frag) (C : Addr) (m : Str) (p g : Addr) : Prop where
  plain : PySem.W.plainGet K C Str.empty = true
  isC : PySem.W.isClsIn K C = true
  find : PySem.W.findIn K (.ref C) m = some (some (.ref p))
  ty : PySem.W.typeIn K (.ref p) = some (.type "staticmethod")
  sp : PySem.W.specialIn K (.ref p) "__get__" = some (some (.builtin "staticmethod.__get__"))
  tk : PySem.W.takesIn K (.ref p) = some false
  cn : PySem.W.copiedNames.contains m = false
  fn : ∃ l, PySem.W.recIn K p "staticmethod" = some (.ref g :: l)
theorem hands_inst (c : SInst X.K C m p g) : Hands X m pl (fun x H => ∃ a dx fs, x = .ref a ∧ H a = some (.ins C dx fs) ∧ fs.lookup m = none) (.ref g) := by
  rintro pins σ H s x u Q I ru ⟨a, dx, fs, rfl, ha, nm⟩ q
  cases ru
  obtain ⟨mA, O, hr, _⟩ := ins_get I.hok ha
  obtain ⟨od, J, look⟩ := O.look
  obtain ⟨l, hl⟩ := c.fn
  have pg := PySem.W.plainGet_of (show PySem.W.plainGet X.K C m = true from c.plain)
  have own : PySem.W.lookIn m od = some none := by
    rw [look m]
    exact congrArg some (RelO.none_of (by rw [← nm]; exact hr m))
  refine PySem.W.method_usual (r := some (.ref p)) I.kIn J pg.1 pg.2 c.find (by rw [Option.all_some, c.ty]; decide +kernel) ?_
  exact PySem.W.get_bind I.kIn J pg.1 (ClX.find_cm c.isC c.find c.sp c.tk c.cn own) pg.2 (wpAny_call (PySem.W.sm_get (s := { s with toks := s.toks + 1 }) I.kIn hl (PySem.W.handed_on rfl q)))
/-- .. read off the class -/
structure SCls (K : PySem.W.Frag) (C : Addr) (mc : Value) (m : Str) (p g : Addr) : Prop where
  reads : PySem.W.readsIn K C mc = true
  sga : PySem.W.specialIn K (.ref C) "__getattribute__" = some (some (.builtin "type.__getattribute__"))
  find : PySem.W.findCls K (.ref C) mc m = some (.get (.builtin "staticmethod.__get__") (.ref p) .none (.ref C))
  fn : ∃ l, PySem.W.recIn K p "staticmethod" = some (.ref g :: l)
theorem hands_cls (c : SCls X.K C mc m p g) : Hands X m pl (fun x _ => x = .ref C) (.ref g) := by
  rintro pins σ H s x u Q I ru rfl q
  cases ru
  obtain ⟨l, hl⟩ := c.fn
  exact PySem.W.method_cls I.kIn c.sga (PySem.W.cls_bind I.kIn c.reads c.find (wpAny_call (PySem.W.sm_get (s := { s with toks := s.toks + 1 }) I.kIn hl (PySem.W.handed_on rfl q))))
/-- B.__init__(self, ..), B an own error class that has none of its own -/
theorem pe_beinit {B : Str} (hg : Gl X B) (hm : X.mg B = some (.ref CB)) (rd : PySem.W.readsIn X.K CB mc = true) (sga : PySem.W.specialIn X.K (.ref CB) "__getattribute__" = some (some (.builtin "type.__getattribute__")))
    (at_ : PySem.W.findCls X.K (.ref CB) mc "__init__" = some (.val (.builtin "ValueError.__init__"))) (ha : PA X (x :: xs) t)
    (s1 : starEach (x :: xs) X.env = (false, eval x X.env) :: starEach xs X.env := by rfl) (s2 : (backTo p2 (starEach xs X.env)).any (·.1) = false := by rfl) (hc : MCall X (.Name B p3) "__init__" (x :: xs) p1 p2 pl := by rfl) (hd : (B == ("__debug__" : Str)) = false := by decide) :
    PE X (.Call (.Attribute (.Name B p3) "__init__" p1) (x :: xs) [] p2) (tVeI X.K t) where
  run := fun pins s σ H Q I h => by
    refine PySem.W.methodCall_KW (pl := pl) (ld_glob I hg hm (PySem.W.method_cls I.kIn sga (PySem.W.cls_value I.kIn rd at_ rfl (PyProof.Rows.callWith_method1 (thn (ha.run p2 pins _ σ H _ (I.tok _) h) ?_) s1 s2))) hd) hc
    rintro us z ⟨vs, H1, I1, rvs, a, C', ws, rfl, few, T, ea, q⟩
    obtain _ | ⟨ra, rest⟩ := rvs
    cases ra
    exact oinit_ok T I1 ea (by rw [sizeLine_eq, ← Paired.length rest]; omega) fun z' J => ⟨.non, H1, J, rfl, q⟩
end
end T1

set_option Elab.async false
set_option linter.all false
set_option maxRecDepth 100000
set_option maxHeartbeats 4000000
namespace T1
open PySem PySem.Spec PyProof.Rows L2 C8
open PySem.W in
/-- e.__class__ of an error that has a dict of its own -/
theorem exc_class {prog : Program} {w : World} {A : Around} {E : Value → Shared → Prop} {s : Shared} {K : Frag} {e D : Addr} {ob od : Obj} {Q : Option Value → Shared → Prop} (T : ExcC K D) (X : K.In s.heap) (I : InstAt s.heap e ob D (some od))
    (fin : Q (some (.ref D)) { s with toks := s.toks + 1 }) : wpAny (model prog w) A (getAttr? (.ref e) "__class__") Q E s := by
  have isC : (clsIn K D).isSome = true := by
    obtain ⟨c, hc, _⟩ := any_some T.hd
    rw [hc] <;> rfl
  obtain ⟨hp, gn, dr, tk, os⟩ := s
  have lt := I.type (M := model prog w)
  have lg := looks_findIn (M := model prog w) X T.hg
  have lk := looks_findIn (M := model prog w) X T.hk
  have lf := looks_find (M := model prog w) X I (findObj_data isC T.ha T.hn T.ht)
  have isB : Looks (model prog w) hp (isInstance (.ref e) (.type "BaseException")) true := lt.andThen (looks_subIn X T.hs)
  have other : (onTheHeap (Value.ref D) && Value.builtin "BaseException.__getattribute__" == Value.builtin "object.__getattribute__") = false := by
    rw [show (Value.builtin "BaseException.__getattribute__" == Value.builtin "object.__getattribute__") = false from by decide +kernel, Bool.and_false]
  unfold getAttr? getAttrBy? getAttrBy
  refine wpAny_bind (wpAny_mkText (wpAny_bind (wpAny_attempt (wpAny_holding (wpAny_bind (lt.at (wpAny_bind (lg.at ?_))))))))
  dsimp only
  rw [other, if_neg Bool.false_ne_true]
  unfold getAttrByItsOwn hookBefore
  rw [if_pos (show onTheHeap (Value.ref D) = true from rfl)]
  refine wpAny_bind (lk.at (wpAny_bind (wpAny_attempt (wpAny_holding ?_))))
  unfold callGetattribute
  rw [if_neg (show ¬ (false && onTheHeap (Value.builtin "BaseException.__getattribute__")) = true from Bool.false_ne_true)]
  unfold boundAndCalled
  rw [PySem.F.excAttr_ValueError.ga.bind (.ref e)]
  refine wpAny_bind (wpAny_pure (wpAny_call (codeAny_call_builtin PySem.F.excAttr_ValueError.ga.plain PySem.F.entry_bexc_ga
    (@check_slot (model prog w) _ _ ⟨hp, gn, dr, tk + 1, os⟩ "BaseException.__getattribute__" "BaseException" "__getattribute__" (.ref e) [.str "__class__" tk] [] _ (by decide +kernel) (by decide +kernel) isB (PySem.F.args_bexc_ga _ _) ?_))))
  unfold Builtin.«object.__getattribute__»
  refine wpAny_bind (wpAny_of_eq (a := ((Value.ref e : Value), [Value.str "__class__" tk])) (by first | rfl | (simp only [slotArgs]; rfl)) (wpAny_bind (wpAny_pure (wpAny_bind (lt.at (wpAny_bind (lf.at ?_)))))))
  refine wpAny_bind (wpAny_holding (wpAny_call (class_get (s := ⟨hp, gn, dr, tk + 1, os⟩) (ox := ob) (od := some od) X I T.hm (wpAny_pure ?_))))
  show wpAny _ _ (handedOut (.ref D)) _ _ _
  rw [handedOut_of (v := .ref D) rfl]
  first
    | exact wpAny_pure (wpAny_pure fin)
    | exact wpAny_pure fin
    | exact wpAny_pure (wpAny_bind (wpAny_pure (wpAny_pure fin)))
/-- isinstance(e, c), e the error that the suite holds, its dict at dd -/
theorem call_isD {X : Cx} {a D dd : Addr} {oe : Obj} {pn : List (Addr × Obj)} (T : ExcC X.K D) (hz : Zc (.ref D) (some dd) oe) (hf : ∃ vs, oe.data = .fields vs) :
    CallR (X.suite a ((a, oe) :: pn)) (.builtin "isinstance") (fun xs H Q => ∃ (c : V) (cv : Value) (b : Bool) (fs : List (Str × V)), xs = [.ref a, c] ∧ H dd = some (.xd fs) ∧ (∀ u, RelV c u → u = cv) ∧ PySem.W.kitOne X.K (.ref D) cv = some b ∧ Q (.bl b) H) := by
  rintro pins s σ H _ us Q I r ⟨c, cv, b, fs, rfl, hdd, hc, kit, fin⟩
  obtain _ | ⟨ra, _ | ⟨rc, _ | _⟩⟩ := r
  cases ra
  obtain rfl := hc _ rc
  have at_ := (I.pin (a, oe) (List.mem_append_left _ List.mem_cons_self)).1
  obtain ⟨mA, ns, _⟩ := (I.hok dd _ hdd : ObjOk _ _ _ _ dd (.xd fs))
  obtain ⟨od, hod, _⟩ := lookIn_ns ns
  obtain ⟨vs, hv⟩ := hf
  have J : PySem.W.InstAt s.heap a oe D (some od) := ⟨at_, hz.1, by unfold PySem.W.notCls; rw [hv] <;> rfl, by rw [hz.2]; exact hod⟩
  have old := PySem.W.handS_kitx_exc (x := a) (ox := oe) T.hg T.hk T.hs T.hd T.ha T.hn T.ht T.hm
  have Z : PySem.W.KitX X.K (.ref a) (.ref D) (fun h => ∃ od, PySem.W.InstAt h a oe D (some od)) := {
    ty := fun _ _ _ ⟨_, z⟩ => z.type
    it := fun M h x ⟨_, z⟩ => by
      obtain ⟨cd, hcd, _⟩ := PySem.W.any_some T.hd
      unfold PySem.W.clsIn at hcd
      split at hcd
      · rename_i ho
        exact fun _ _ _ _ keep q => wpAny_bind (wpAny_loadPart (keep _ _ (x _ _ ho)) (wpAny_pure q))
      · cases hcd
    ne := fun h tp dt its n sl x htp => by
      refine Bool.eq_false_iff.mpr fun q => ?_
      obtain rfl : D = tp := Value.ref.inj (beq_iff_eq.mp q)
      obtain ⟨cd, hcd, _⟩ := PySem.W.any_some T.hd
      unfold PySem.W.clsIn at hcd
      split at hcd
      · rename_i ho
        cases (x _ _ ho).symm.trans htp
      · cases hcd
    ca := fun x ⟨_, z⟩ q => exc_class T x z q }
  exact PySem.W.kia_one Z I.kIn ⟨od, J⟩ kit (fun z => nomatch z) fun tk => ⟨.bl b, H, I.kept (t' := tk) fun _ _ z => z, rfl, fin⟩
end T1

set_option Elab.async false
set_option linter.all false
set_option maxRecDepth 100000
set_option maxHeartbeats 4000000
namespace Fm
open PySem PySem.Spec PyProof.Rows L2

/-- a value as a tree: tuples are values, what can change is a number -/
inductive Tr where
  | non | bl (b : Bool) | int (i : Int) | str (x : Str) | tup (ts : List Tr) | ref (n : Nat) | raw (v : V)
/-- what can change -/
inductive O where
  | lst (ts : List Tr)
  | ins (C : Addr) (fs : List (Str × Tr))
  | tab (P : Addr) (q : Str)
  /-- a drawing state: a list [script, k, m, r], with what the script holds -/
  | scr (ns : List Int) (k m r : Int)
  /-- a dict -/
  | dic (ps : List (L2.Key × Tr))
abbrev Mem := List O
abbrev Loc := List (Option Tr)

/-- what never changes -/
def Imm (o : HO) : Prop := (∃ a u, o = .frz a u) ∨ ∃ φ, o = .ext φ
theorem imm_code {c : Addr} {q : Str} : Imm (LamX.CodeO c q) := .inr ⟨_, rfl⟩
theorem Imm.ne {o : HO} (h : Imm o) : (∀ ys, o ≠ .lst ys) ∧ (∀ C dx gs, o ≠ .ins C dx gs) ∧ (∀ ps, o ≠ .dK ps) ∧ (∀ ps, o ≠ .tbl ps) ∧ ∀ a, o ≠ .own a := by
  rcases h with ⟨a, u, rfl⟩ | ⟨φ, rfl⟩ <;> exact ⟨fun _ z => (nomatch z), fun _ _ _ z => (nomatch z), fun _ z => (nomatch z), fun _ z => (nomatch z), fun _ z => (nomatch z)⟩
/-- a list that is only read -/
def Fz (K : PySem.W.Frag) (H : Hp) (a : Addr) (xs : List V) : Prop := (∃ o, H a = some (.frz o (.lst xs))) ∨
  ∃ (o : Obj) (its : Array Value) (n : Nat), K.lookup a = some o ∧ o.cls = .type "list" ∧ o.dict = none ∧ o.data = .seq its n ∧ its.size ≤ sizeLine ∧ Vals xs its.toList
theorem Fz.sql {K : PySem.W.Frag} {H : Hp} {a : Addr} {xs : List V} (h : Fz K H a xs) : SqL K H a xs := h.imp .inr id
section
variable (K : PySem.W.Frag) (H : Hp) (ρ : List Addr)
mutual
def RT : Tr → V → Prop
  | .non, v => v = .non
  | .bl b, v => v = .bl b
  | .int i, v => v = .int i
  | .str x, v => v = .str x
  | .raw w, v => v = w
  | .ref n, v => ∃ a, ρ[n]? = some a ∧ v = .ref a
  | .tup ts, v => ∃ a xs, v = .ref a ∧ SqT K H a xs ∧ RTs ts xs
def RTs : List Tr → List V → Prop
  | [], xs => xs = []
  | t :: ts, xs => ∃ x ys, xs = x :: ys ∧ RT t x ∧ RTs ts ys
end
def RFs : List (Str × Tr) → List (Str × V) → Prop
  | [], gs => gs = []
  | p :: fs, gs => ∃ x hs, gs = (p.1, x) :: hs ∧ RT K H ρ p.2 x ∧ RFs fs hs
def RKs : List (L2.Key × Tr) → List (L2.Key × V) → Prop
  | [], gs => gs = []
  | p :: fs, gs => ∃ x hs, gs = (p.1, x) :: hs ∧ RT K H ρ p.2 x ∧ RKs fs hs
def RO : O → Addr → Prop
  | .lst ts, a => ∃ xs, H a = some (.lst xs) ∧ RTs K H ρ ts xs
  | .ins C fs, a => ∃ dx gs, H a = some (.ins C dx gs) ∧ H dx = some (.own a) ∧ RFs K H ρ fs gs
  | .tab P q, a => a = P ∧ LamX.TabS H P q
  | .scr ns k m r, a => ∃ s, H a = some (.lst [.ref s, .int k, .int m, .int r]) ∧ Fz K H s (ns.map V.int)
  | .dic ps, a => ∃ kvs, H a = some (.dK kvs) ∧ RKs K H ρ ps kvs
structure RM (M : Mem) : Prop where
  len : ρ.length = M.length
  at_ : ∀ (n : Nat) (o : O), M[n]? = some o → ∃ a, ρ[n]? = some a ∧ RO K H ρ o a
  nd : ρ.Nodup
def RL1 : Option Tr → Option V → Prop
  | none, _ => True
  | some t, v => ∃ x, v = some x ∧ RT K H ρ t x
def RL : Loc → L2.St → Prop
  | [], σ => σ = []
  | t :: L, σ => ∃ v τ, σ = v :: τ ∧ RL1 K H ρ t v ∧ RL L τ
end
/-- the heap has grown: the tuples stay, and what no number names -/
structure Grow (K : PySem.W.Frag) (H : Hp) (ρ : List Addr) (H' : Hp) (ρ' : List Addr) : Prop where
  ext : ∃ t, ρ' = ρ ++ t
  tup : ∀ a xs, SqT K H a xs → SqT K H' a xs
  oth : ∀ a o, H a = some o → a ∉ ρ → (∀ ps, o ≠ .tbl ps) → H' a = some o
  new : ∀ a, a ∈ ρ' → a ∉ ρ → ∀ o, H a = some o → ∃ ps, o = .tbl ps
  cod : ∀ c o, Imm o → H c = some o → H' c = some o
/-- less: more numbers, the tuples stay -/
structure Gw (K : PySem.W.Frag) (H : Hp) (ρ : List Addr) (H' : Hp) (ρ' : List Addr) : Prop where
  ext : ∃ t, ρ' = ρ ++ t
  tup : ∀ a xs, SqT K H a xs → SqT K H' a xs
  cod : ∀ c o, Imm o → H c = some o → H' c = some o
section
variable {K : PySem.W.Frag} {H H' H2 : Hp} {ρ ρ' ρ2 : List Addr}
theorem Grow.gw (g : Grow K H ρ H' ρ') : Gw K H ρ H' ρ' := ⟨g.ext, g.tup, g.cod⟩
theorem Grow.refl : Grow K H ρ H ρ := ⟨⟨[], by simp⟩, fun _ _ h => h, fun _ _ h _ _ => h, fun _ h n => absurd h n, fun _ _ _ h => h⟩
theorem Grow.trans (a : Grow K H ρ H' ρ') (b : Grow K H' ρ' H2 ρ2) : Grow K H ρ H2 ρ2 := by
  obtain ⟨t, e⟩ := a.ext
  obtain ⟨u, f⟩ := b.ext
  have key : ∀ x o, H x = some o → x ∉ ρ → (∀ ps, o ≠ .tbl ps) → x ∉ ρ' := fun x o h n nt z => by
    obtain ⟨ps, e⟩ := a.new x z n o h
    exact nt ps e
  refine ⟨⟨t ++ u, by rw [f, e, List.append_assoc]⟩, fun x xs h => b.tup _ _ (a.tup _ _ h), fun x o h n nt => b.oth _ _ (a.oth _ _ h n nt) (key x o h n nt) nt, fun x h n o ho => ?_, fun c o i h => b.cod c o i (a.cod c o i h)⟩
  by_cases hx : x ∈ ρ'
  · exact a.new x hx n o ho
  · refine Classical.byContradiction fun nt => ?_
    have nt' : ∀ ps, o ≠ .tbl ps := fun ps e => nt ⟨ps, e⟩
    obtain ⟨ps, e⟩ := b.new x h hx o (a.oth x o ho n nt')
    exact nt' ps e
theorem ext_get (e : ∃ t, ρ' = ρ ++ t) {n : Nat} {a : Addr} (h : ρ[n]? = some a) : ρ'[n]? = some a := by
  obtain ⟨t, rfl⟩ := e
  rw [List.getElem?_append_left]
  · exact h
  · exact (List.getElem?_eq_some_iff.mp h).1
mutual
theorem RT.mono0 (g : Gw K H ρ H' ρ') : ∀ {t : Tr} {v : V}, RT K H ρ t v → RT K H' ρ' t v
  | .non, _, h => h
  | .bl _, _, h => h
  | .int _, _, h => h
  | .str _, _, h => h
  | .raw _, _, h => h
  | .ref n, _, h => by
    unfold RT at h ⊢
    obtain ⟨a, h1, h2⟩ := h
    exact ⟨a, ext_get g.ext h1, h2⟩
  | .tup ts, _, h => by
    unfold RT at h ⊢
    obtain ⟨a, xs, h1, h2, h3⟩ := h
    exact ⟨a, xs, h1, g.tup _ _ h2, RTs.mono0 g h3⟩
theorem RTs.mono0 (g : Gw K H ρ H' ρ') : ∀ {ts : List Tr} {vs : List V}, RTs K H ρ ts vs → RTs K H' ρ' ts vs
  | [], _, h => by
    unfold RTs at h ⊢
    exact h
  | t :: ts, _, h => by
    unfold RTs at h ⊢
    obtain ⟨x, ys, h1, h2, h3⟩ := h
    exact ⟨x, ys, h1, RT.mono0 g h2, RTs.mono0 g h3⟩
end
theorem RFs.mono0 (g : Gw K H ρ H' ρ') : ∀ {ts : List (Str × Tr)} {vs : List (Str × V)}, RFs K H ρ ts vs → RFs K H' ρ' ts vs
  | [], _, h => h
  | t :: ts, _, h => by
    obtain ⟨x, ys, h1, h2, h3⟩ := h
    exact ⟨x, ys, h1, RT.mono0 g h2, RFs.mono0 g h3⟩
theorem RKs.mono0 (g : Gw K H ρ H' ρ') : ∀ {ts : List (L2.Key × Tr)} {vs : List (L2.Key × V)}, RKs K H ρ ts vs → RKs K H' ρ' ts vs
  | [], _, h => h
  | t :: ts, _, h => by
    obtain ⟨x, ys, h1, h2, h3⟩ := h
    exact ⟨x, ys, h1, RT.mono0 g h2, RKs.mono0 g h3⟩
theorem Fz.mono0 (g : Gw K H ρ H' ρ') {a : Addr} {xs : List V} (h : Fz K H a xs) : Fz K H' a xs := h.imp (fun ⟨o, e⟩ => ⟨o, g.cod _ _ (.inl ⟨_, _, rfl⟩) e⟩) id
theorem RL.mono0 (g : Gw K H ρ H' ρ') : ∀ {L : Loc} {σ : L2.St}, RL K H ρ L σ → RL K H' ρ' L σ
  | [], _, h => h
  | none :: L, _, h => by
    obtain ⟨v, τ, h1, h2, h3⟩ := h
    exact ⟨v, τ, h1, trivial, RL.mono0 g h3⟩
  | some t :: L, _, h => by
    obtain ⟨v, τ, h1, ⟨x, h4, h5⟩, h3⟩ := h
    exact ⟨v, τ, h1, ⟨x, h4, RT.mono0 g h5⟩, RL.mono0 g h3⟩
theorem RT.mono (g : Grow K H ρ H' ρ') {t : Tr} {v : V} (h : RT K H ρ t v) : RT K H' ρ' t v := RT.mono0 g.gw h
theorem RTs.mono (g : Grow K H ρ H' ρ') {t : List Tr} {v : List V} (h : RTs K H ρ t v) : RTs K H' ρ' t v := RTs.mono0 g.gw h
theorem RFs.mono (g : Grow K H ρ H' ρ') {t : List (Str × Tr)} {v : List (Str × V)} (h : RFs K H ρ t v) : RFs K H' ρ' t v := RFs.mono0 g.gw h
theorem RL.mono (g : Grow K H ρ H' ρ') {L : Loc} {σ : L2.St} (h : RL K H ρ L σ) : RL K H' ρ' L σ := RL.mono0 g.gw h
theorem RL.get : ∀ {L : Loc} {σ : L2.St} {i : Nat} {t : Tr}, RL K H ρ L σ → L[i]? = some (some t) → ∃ x, σ[i]? = some (some x) ∧ RT K H ρ t x
  | [], _, _, _, _, e => by simp at e
  | u :: L, _, 0, t, h, e => by
    obtain ⟨v, τ, rfl, h2, h3⟩ := h
    have e' : u = some t := by simpa using e
    subst e'
    obtain ⟨x, rfl, h4⟩ := h2
    exact ⟨x, rfl, h4⟩
  | u :: L, _, i + 1, t, h, e => by
    obtain ⟨v, τ, rfl, h2, h3⟩ := h
    obtain ⟨x, h4, h5⟩ := RL.get (i := i) h3 (by simpa using e)
    exact ⟨x, by simpa using h4, h5⟩
theorem RL.set {t : Tr} {x : V} (r : RT K H ρ t x) : ∀ {L : Loc} {σ : L2.St} (i : Nat), RL K H ρ L σ → RL K H ρ (L.set i (some t)) (σ.set i (some x))
  | [], _, _, h => by
    have h : _ = ([] : L2.St) := h
    subst h
    exact rfl
  | u :: L, _, 0, h => by
    obtain ⟨v, τ, rfl, h2, h3⟩ := h
    exact ⟨_, _, rfl, ⟨x, rfl, r⟩, h3⟩
  | u :: L, _, i + 1, h => by
    obtain ⟨v, τ, rfl, h2, h3⟩ := h
    exact ⟨_, _, rfl, h2, RL.set r i h3⟩
theorem RTs.len : ∀ {ts : List Tr} {xs : List V}, RTs K H ρ ts xs → xs.length = ts.length
  | [], _, h => by
    unfold RTs at h
    rw [h] <;> rfl
  | t :: ts, _, h => by
    unfold RTs at h
    obtain ⟨x, ys, rfl, _, h3⟩ := h
    simp [RTs.len h3]
theorem RTs.get : ∀ {ts : List Tr} {xs : List V} {i : Nat} {t : Tr}, RTs K H ρ ts xs → ts[i]? = some t → ∃ x, xs[i]? = some x ∧ RT K H ρ t x
  | [], _, _, _, _, e => by simp at e
  | u :: ts, _, 0, t, h, e => by
    unfold RTs at h
    obtain ⟨x, ys, rfl, h2, h3⟩ := h
    have e' : u = t := by simpa using e
    subst e'
    exact ⟨x, rfl, h2⟩
  | u :: ts, _, i + 1, t, h, e => by
    unfold RTs at h
    obtain ⟨x, ys, rfl, h2, h3⟩ := h
    obtain ⟨y, h4, h5⟩ := RTs.get (i := i) h3 (by simpa using e)
    exact ⟨y, by simpa using h4, h5⟩
theorem RTs.nil : RTs K H ρ [] [] := by unfold RTs; rfl
theorem RTs.cons {t : Tr} {x : V} {ts : List Tr} {xs : List V} (a : RT K H ρ t x) (b : RTs K H ρ ts xs) : RTs K H ρ (t :: ts) (x :: xs) := by
  unfold RTs; exact ⟨x, xs, rfl, a, b⟩
theorem RTs.app : ∀ {ts us : List Tr} {xs ys : List V}, RTs K H ρ ts xs → RTs K H ρ us ys → RTs K H ρ (ts ++ us) (xs ++ ys)
  | [], _, _, _, h, k => by
    unfold RTs at h
    subst h
    exact k
  | t :: ts, _, _, _, h, k => by
    unfold RTs at h
    obtain ⟨x, zs, rfl, h2, h3⟩ := h
    exact RTs.cons h2 (RTs.app h3 k)
theorem RTs.set {t : Tr} {x : V} (r : RT K H ρ t x) : ∀ {ts : List Tr} {xs : List V} (i : Nat), RTs K H ρ ts xs → RTs K H ρ (ts.set i t) (xs.set i x)
  | [], _, _, h => by
    unfold RTs at h
    subst h
    exact RTs.nil
  | u :: L, _, 0, h => by
    unfold RTs at h
    obtain ⟨v, τ, rfl, h2, h3⟩ := h
    exact RTs.cons r h3
  | u :: L, _, i + 1, h => by
    unfold RTs at h
    obtain ⟨v, τ, rfl, h2, h3⟩ := h
    exact RTs.cons h2 (RTs.set r i h3)
theorem RTs.take : ∀ {ts : List Tr} {xs : List V} (n : Nat), RTs K H ρ ts xs → RTs K H ρ (ts.take n) (xs.take n)
  | _, _, 0, _ => RTs.nil
  | [], _, n + 1, h => by
    unfold RTs at h
    subst h
    exact RTs.nil
  | t :: ts, _, n + 1, h => by
    unfold RTs at h
    obtain ⟨x, zs, rfl, h2, h3⟩ := h
    exact RTs.cons h2 (RTs.take n h3)
theorem RTs.drop : ∀ {ts : List Tr} {xs : List V} (n : Nat), RTs K H ρ ts xs → RTs K H ρ (ts.drop n) (xs.drop n)
  | _, _, 0, h => h
  | [], _, n + 1, h => by
    unfold RTs at h
    subst h
    exact RTs.nil
  | t :: ts, _, n + 1, h => by
    unfold RTs at h
    obtain ⟨x, zs, rfl, h2, h3⟩ := h
    exact RTs.drop n h3
theorem RO.mono0 (g : Gw K H ρ H' ρ') {o : O} {a : Addr} (k : H' a = H a) (kd : ∀ d, H d = some (.own a) → H' d = some (.own a)) (h : RO K H ρ o a) : RO K H' ρ' o a := by
  cases o with
  | lst ts =>
    obtain ⟨xs, h1, h2⟩ := h
    exact ⟨xs, by rw [k]; exact h1, RTs.mono0 g h2⟩
  | ins C fs =>
    obtain ⟨dx, gs, h1, h3, h2⟩ := h
    exact ⟨dx, gs, by rw [k]; exact h1, kd _ h3, RFs.mono0 g h2⟩
  | tab P q =>
    obtain ⟨rfl, ps, h1, h2, h3⟩ := h
    refine ⟨rfl, ps, by rw [k]; exact h1, h2, fun pos cv hc => ?_⟩
    obtain ⟨c, e1, e2⟩ := h3 pos cv hc
    exact ⟨c, e1, g.cod c _ imm_code e2⟩
  | scr ns k' m r =>
    obtain ⟨s, h1, h2⟩ := h
    exact ⟨s, by rw [k]; exact h1, h2.mono0 g⟩
  | dic ps =>
    obtain ⟨kvs, h1, h2⟩ := h
    exact ⟨kvs, by rw [k]; exact h1, RKs.mono0 g h2⟩
theorem RO.mono (g : Grow K H ρ H' ρ') {o : O} {a : Addr} (k : H' a = H a) (kd : ∀ d, H d = some (.own a) → H' d = some (.own a)) (h : RO K H ρ o a) : RO K H' ρ' o a := RO.mono0 g.gw k kd h
theorem RM.obj {M : Mem} (r : RM K H ρ M) {n : Nat} {a : Addr} (h : ρ[n]? = some a) : ∃ o, M[n]? = some o ∧ RO K H ρ o a := by
  have hn : n < M.length := by rw [← r.len]; exact (List.getElem?_eq_some_iff.mp h).1
  obtain ⟨b, h1, h2⟩ := r.at_ n M[n] (List.getElem?_eq_getElem hn)
  rw [h] at h1
  cases h1
  exact ⟨_, List.getElem?_eq_getElem hn, h2⟩
theorem RM.trk {M : Mem} (r : RM K H ρ M) {a : Addr} (h : a ∈ ρ) : (∃ xs, H a = some (.lst xs)) ∨ (∃ C dx gs, H a = some (.ins C dx gs)) ∨ (∃ ps, H a = some (.tbl ps)) ∨ ∃ ps, H a = some (.dK ps) := by
  obtain ⟨n, hn⟩ := List.getElem?_of_mem h
  obtain ⟨o, _, h2⟩ := r.obj hn
  cases o with
  | lst ts =>
    obtain ⟨xs, h1, _⟩ := h2
    exact .inl ⟨xs, h1⟩
  | ins C fs =>
    obtain ⟨dx, gs, h1, _⟩ := h2
    exact .inr (.inl ⟨C, dx, gs, h1⟩)
  | tab P q =>
    obtain ⟨rfl, ps, h1, _⟩ := h2
    exact .inr (.inr (.inl ⟨ps, h1⟩))
  | scr ns k m r =>
    obtain ⟨s, h1, _⟩ := h2
    exact .inl ⟨_, h1⟩
  | dic ps =>
    obtain ⟨kvs, h1, _⟩ := h2
    exact .inr (.inr (.inr ⟨kvs, h1⟩))
theorem RM.fresh {M : Mem} (r : RM K H ρ M) {a : Addr} (h : H a = none) : a ∉ ρ := fun z => by
  rcases r.trk z with ⟨xs, e⟩ | ⟨C, dx, gs, e⟩ | ⟨ps, e⟩ | ⟨ps, e⟩ <;> rw [h] at e <;> cases e
/-- a tuple stays where no tuple is written -/
theorem sqt_upd {a b : Addr} {o : HO} {xs : List V} (h : SqT K H a xs) (n : H b = none ∨ (∃ ys, H b = some (.lst ys)) ∨ (∃ C dx gs, H b = some (.ins C dx gs)) ∨ ∃ ps, H b = some (.dK ps)) : SqT K (upd H b o) a xs := by
  have key : ∀ u, H a = some u → (∀ ys, u ≠ .lst ys) → (∀ C dx gs, u ≠ .ins C dx gs) → (∀ ps, u ≠ .dK ps) → upd H b o a = some u := fun u hu n1 n2 n3 => by
    refine (upd_ne fun e => ?_).trans hu
    subst e
    rcases n with n | ⟨ys, n⟩ | ⟨C, dx, gs, n⟩ | ⟨ps, n⟩ <;> rw [hu] at n
    · cases n
    · exact n1 _ (Option.some.inj n)
    · exact n2 _ _ _ (Option.some.inj n)
    · exact n3 _ (Option.some.inj n)
  rcases h with (h | ⟨q, h⟩) | h
  · exact .inl (.inl (key _ h (fun _ z => nomatch z) (fun _ _ _ z => nomatch z) (fun _ z => nomatch z)))
  · exact .inl (.inr ⟨q, key _ h (fun _ z => nomatch z) (fun _ _ _ z => nomatch z) (fun _ z => nomatch z)⟩)
  · exact .inr h
theorem cod_upd {b : Addr} {o : HO} (n : H b = none ∨ (∃ ys, H b = some (.lst ys)) ∨ (∃ C dx gs, H b = some (.ins C dx gs)) ∨ ∃ ps, H b = some (.dK ps)) (c : Addr) (u : HO) (i : Imm u) (h : H c = some u) : upd H b o c = some u := by
  refine (upd_ne fun e => ?_).trans h
  subst e
  obtain ⟨i1, i2, i3, _⟩ := i.ne
  rcases n with n | ⟨ys, n⟩ | ⟨C, dx, gs, n⟩ | ⟨ps, n⟩ <;> rw [h] at n
  · cases n
  · exact i1 _ (Option.some.inj n)
  · exact i2 _ _ _ (Option.some.inj n)
  · exact i3 _ (Option.some.inj n)
/-- a new thing that no number names -/
theorem Grow.laid {p : Addr} {o : HO} (hp : H p = none) : Grow K H ρ (upd H p o) ρ :=
  ⟨⟨[], by simp⟩, fun _ _ h => sqt_upd h (.inl hp), fun a u h _ _ => by rw [upd_ne (ne_of_none h hp)]; exact h, fun _ h n => absurd h n, fun c q i h => cod_upd (.inl hp) c q i h⟩
theorem RM.grown {M : Mem} (r : RM K H ρ M) (g : Grow K H ρ H' ρ) (k : ∀ a, a ∈ ρ → H' a = H a) (kd : ∀ d a, H d = some (.own a) → H' d = some (.own a)) : RM K H' ρ M :=
  ⟨r.len, fun n o h => let ⟨a, h1, h2⟩ := r.at_ n o h; ⟨a, h1, h2.mono g (k a (List.mem_of_getElem? h1)) fun d q => kd d a q⟩, r.nd⟩
theorem RM.laid {M : Mem} {p : Addr} {o : HO} (r : RM K H ρ M) (hp : H p = none) : RM K (upd H p o) ρ M :=
  r.grown (Grow.laid hp) (fun a ha => upd_ne fun e => r.fresh hp (e ▸ ha)) fun d a q => by rw [upd_ne (ne_of_none q hp)]; exact q
/-- a new list -/
theorem Grow.list {M : Mem} (r : RM K H ρ M) {p : Addr} {o : HO} (hp : H p = none) : Grow K H ρ (upd H p o) (ρ ++ [p]) :=
  ⟨⟨[p], rfl⟩, fun _ _ h => sqt_upd h (.inl hp), fun a u h _ _ => by rw [upd_ne (ne_of_none h hp)]; exact h, fun a h n o ho => by
    rcases List.mem_append.mp h with h | h
    · exact absurd h n
    · rw [List.mem_singleton.mp h, hp] at ho
      (cases ho), fun c q i h => cod_upd (.inl hp) c q i h⟩
theorem RM.list {M : Mem} (r : RM K H ρ M) {p : Addr} {ts : List Tr} {xs : List V} (hp : H p = none) (h : RTs K H ρ ts xs) : RM K (upd H p (.lst xs)) (ρ ++ [p]) (M ++ [.lst ts]) := by
  have g := Grow.list (o := .lst xs) r hp
  have lt := r.len
  refine ⟨by simp [lt], fun n o e => ?_, ?_⟩
  · by_cases hn : n < M.length
    · rw [List.getElem?_append_left hn] at e
      obtain ⟨a, h1, h2⟩ := r.at_ n o e
      refine ⟨a, by rw [List.getElem?_append_left (by rw [lt]; exact hn)]; exact h1, h2.mono g (upd_ne fun e => r.fresh hp (e ▸ List.mem_of_getElem? h1)) fun d q => by rw [upd_ne (ne_of_none q hp)]; exact q⟩
    · rw [List.getElem?_append_right (by omega)] at e
      match hz : n - M.length, e with
      | 0, e =>
        cases e
        exact ⟨p, by rw [List.getElem?_append_right (by omega), lt, hz]; rfl, xs, upd_same, RTs.mono g h⟩
      | k + 1, e => simp at e
  · rw [List.nodup_append]
    exact ⟨r.nd, by simp, fun a ha b hb => by rw [List.mem_singleton.mp hb]; exact fun e => r.fresh hp (e ▸ ha)⟩
theorem RM.ref {M : Mem} (r : RM K H ρ M) {p : Addr} : (ρ ++ [p])[M.length]? = some p := by rw [← r.len]; simp
/-- a list is written -/
theorem Grow.wr {M : Mem} (r : RM K H ρ M) {p : Addr} {xs ys : List V} (hp : H p = some (.lst xs)) (hm : p ∈ ρ) : Grow K H ρ (upd H p (.lst ys)) ρ :=
  ⟨⟨[], by simp⟩, fun _ _ h => sqt_upd h (.inr (.inl ⟨xs, hp⟩)), fun a u h n _ => by rw [upd_ne (show a ≠ p from fun e => n (by rw [e]; exact hm))]; exact h, fun _ h n => absurd h n, fun c q i h => cod_upd (.inr (.inl ⟨xs, hp⟩)) c q i h⟩
theorem nodup_ix {l : List Addr} (nd : l.Nodup) {i j : Nat} {a : Addr} (h1 : l[i]? = some a) (h2 : l[j]? = some a) : i = j := by
  obtain ⟨a1, b1⟩ := List.getElem?_eq_some_iff.mp h1
  obtain ⟨a2, b2⟩ := List.getElem?_eq_some_iff.mp h2
  have nd := List.pairwise_iff_getElem.mp nd
  rcases Nat.lt_trichotomy i j with h | h | h
  · exact absurd (b1.trans b2.symm) (nd i j a1 a2 h)
  · exact h
  · exact absurd (b2.trans b1.symm) (nd j i a2 a1 h)
theorem RM.wr {M : Mem} (r : RM K H ρ M) {p : Addr} {n : Nat} {xs ys : List V} {us : List Tr} (hp : H p = some (.lst xs)) (hn : ρ[n]? = some p) (h : RTs K H ρ us ys) : RM K (upd H p (.lst ys)) ρ (M.set n (.lst us)) := by
  have g := Grow.wr (ys := ys) r hp (List.mem_of_getElem? hn)
  refine ⟨by simp [r.len], fun m o e => ?_, r.nd⟩
  by_cases hm : n = m
  · subst hm
    have hl : n < M.length := by rw [← r.len]; exact (List.getElem?_eq_some_iff.mp hn).1
    rw [List.getElem?_set_self hl] at e
    cases e
    exact ⟨p, hn, ys, upd_same, RTs.mono g h⟩
  · rw [List.getElem?_set_ne hm] at e
    obtain ⟨a, h1, h2⟩ := r.at_ m o e
    exact ⟨a, h1, h2.mono g (upd_ne fun e => hm (nodup_ix r.nd hn (e ▸ h1))) fun d q => by rw [upd_ne (ne_of q hp (fun z => nomatch z))]; exact q⟩
/-- an object's attribute is written -/
theorem Grow.wi {M : Mem} (r : RM K H ρ M) {p C dx : Addr} {gs hs : List (Str × V)} (hp : H p = some (.ins C dx gs)) (hm : p ∈ ρ) : Grow K H ρ (upd H p (.ins C dx hs)) ρ :=
  ⟨⟨[], by simp⟩, fun _ _ h => sqt_upd h (.inr (.inr (.inl ⟨C, dx, gs, hp⟩))), fun a u h n _ => by rw [upd_ne (show a ≠ p from fun e => n (by rw [e]; exact hm))]; exact h, fun _ h n => absurd h n, fun c q i h => cod_upd (.inr (.inr (.inl ⟨C, dx, gs, hp⟩))) c q i h⟩
theorem RM.wi {M : Mem} (r : RM K H ρ M) {p C dx : Addr} {n : Nat} {gs hs : List (Str × V)} {us : List (Str × Tr)} (hp : H p = some (.ins C dx gs)) (hd : H dx = some (.own p)) (hn : ρ[n]? = some p) (h : RFs K H ρ us hs) : RM K (upd H p (.ins C dx hs)) ρ (M.set n (.ins C us)) := by
  have g := Grow.wi (hs := hs) r hp (List.mem_of_getElem? hn)
  refine ⟨by simp [r.len], fun m o e => ?_, r.nd⟩
  by_cases hm : n = m
  · subst hm
    have hl : n < M.length := by rw [← r.len]; exact (List.getElem?_eq_some_iff.mp hn).1
    rw [List.getElem?_set_self hl] at e
    cases e
    exact ⟨p, hn, dx, hs, upd_same, by rw [upd_ne (ne_of hd hp (fun z => nomatch z))]; exact hd, RFs.mono g h⟩
  · rw [List.getElem?_set_ne hm] at e
    obtain ⟨a, h1, h2⟩ := r.at_ m o e
    exact ⟨a, h1, h2.mono g (upd_ne fun e => hm (nodup_ix r.nd hn (e ▸ h1))) fun d q => by rw [upd_ne (ne_of q hp (fun z => nomatch z))]; exact q⟩
end
end Fm

set_option Elab.async false
set_option linter.all false
set_option maxRecDepth 100000
set_option maxHeartbeats 4000000
namespace Fm
open PySem PySem.Spec PyProof.Rows L2
abbrev PF := Tr → Mem → Prop
abbrev PFs := List Tr → Mem → Prop
abbrev PB := Bool → Mem → Prop
abbrev FE := Loc → Mem → PF → Prop
abbrev FA := Loc → Mem → PFs → Prop
abbrev FT := Loc → Mem → PB → Prop
abbrev F2 := Tr → Tr → Mem → PF → Prop
abbrev F1 := Tr → Mem → PF → Prop
abbrev FC := List Tr → Mem → PF → Prop
section
variable (K : PySem.W.Frag) (H : Hp) (ρ : List Addr)
/-- what is known behind: whatever stands for the tree's outcome is wanted -/
def Out (P : PF) (Q : VK) : Prop := ∀ v x H' ρ' M', Grow K H ρ H' ρ' → RM K H' ρ' M' → RT K H' ρ' v x → P v M' → Q x H'
def OutS (P : PFs) (Q : List V → Hp → Prop) : Prop := ∀ vs xs H' ρ' M', Grow K H ρ H' ρ' → RM K H' ρ' M' → RTs K H' ρ' vs xs → P vs M' → Q xs H'
def OutB (P : PB) (Q : Bool → Hp → Prop) : Prop := ∀ b H' ρ' M', Grow K H ρ H' ρ' → RM K H' ρ' M' → P b M' → Q b H'
def OutO (P : Option Int → Mem → Prop) (Q : Option Int → Hp → Prop) : Prop := ∀ b H' ρ' M', Grow K H ρ H' ρ' → RM K H' ρ' M' → P b M' → Q b H'
end
section
variable {K : PySem.W.Frag} {H H' : Hp} {ρ ρ' : List Addr}
theorem Out.step {P : PF} {Q : VK} (g : Grow K H ρ H' ρ') (o : Out K H ρ P Q) : Out K H' ρ' P Q := fun v x H2 ρ2 M2 g2 m r p => o v x H2 ρ2 M2 (g.trans g2) m r p
theorem OutS.step {P : PFs} {Q : List V → Hp → Prop} (g : Grow K H ρ H' ρ') (o : OutS K H ρ P Q) : OutS K H' ρ' P Q := fun v x H2 ρ2 M2 g2 m r p => o v x H2 ρ2 M2 (g.trans g2) m r p
theorem OutB.step {P : PB} {Q : Bool → Hp → Prop} (g : Grow K H ρ H' ρ') (o : OutB K H ρ P Q) : OutB K H' ρ' P Q := fun b H2 ρ2 M2 g2 m p => o b H2 ρ2 M2 (g.trans g2) m p
theorem OutO.step {P : Option Int → Mem → Prop} {Q : Option Int → Hp → Prop} (g : Grow K H ρ H' ρ') (o : OutO K H ρ P Q) : OutO K H' ρ' P Q := fun b H2 ρ2 M2 g2 m p => o b H2 ρ2 M2 (g.trans g2) m p
end
/-- where a def was entered: the heap, the numbers' addresses -/
abbrev Bs := Hp × List Addr
/-- the slots, and that all has grown since the entry -/
structure RX (K : PySem.W.Frag) (B : Bs) (H : Hp) (ρ : List Addr) (L : Loc) (σ : L2.St) : Prop where
  rl : RL K H ρ L σ
  gr : Grow K B.1 B.2 H ρ
theorem RX.mono {K : PySem.W.Frag} {B : Bs} {H H' : Hp} {ρ ρ' : List Addr} {L : Loc} {σ : L2.St} (x : RX K B H ρ L σ) (g : Grow K H ρ H' ρ') : RX K B H' ρ' L σ := ⟨x.rl.mono g, x.gr.trans g⟩
theorem RX.get {K : PySem.W.Frag} {B : Bs} {H : Hp} {ρ : List Addr} {L : Loc} {σ : L2.St} {i : Nat} {t : Tr} (x : RX K B H ρ L σ) (e : L[i]? = some (some t)) : ∃ v, σ[i]? = some (some v) ∧ RT K H ρ t v := x.rl.get e
structure SimE (K : PySem.W.Frag) (B : Bs) (te : TE) (fe : FE) : Prop where
  run : ∀ {σ H ρ L M P Q}, RX K B H ρ L σ → RM K H ρ M → fe L M P → Out K H ρ P Q → te σ H Q
structure SimA (K : PySem.W.Frag) (B : Bs) (ta : TA) (fa : FA) : Prop where
  run : ∀ {σ H ρ L M P Q}, RX K B H ρ L σ → RM K H ρ M → fa L M P → OutS K H ρ P Q → ta σ H Q
structure SimT (K : PySem.W.Frag) (B : Bs) (tt : TT) (ft : FT) : Prop where
  run : ∀ {σ H ρ L M P Q}, RX K B H ρ L σ → RM K H ρ M → ft L M P → OutB K H ρ P Q → tt σ H Q
structure SimO (K : PySem.W.Frag) (B : Bs) (tt : TO) (ft : Loc → Mem → (Option Int → Mem → Prop) → Prop) : Prop where
  run : ∀ {σ H ρ L M P Q}, RX K B H ρ L σ → RM K H ρ M → ft L M P → OutO K H ρ P Q → tt σ H Q
/-- by values -/
structure Sim2 (K : PySem.W.Frag) (r : R2) (fr : F2) : Prop where
  run : ∀ {H ρ M x y xv yv P Q}, RM K H ρ M → RT K H ρ x xv → RT K H ρ y yv → fr x y M P → Out K H ρ P Q → r xv yv H Q
structure Sim1 (K : PySem.W.Frag) (r : V → Hp → VK → Prop) (fr : F1) : Prop where
  run : ∀ {H ρ M x xv P Q}, RM K H ρ M → RT K H ρ x xv → fr x M P → Out K H ρ P Q → r xv H Q
structure SimC (K : PySem.W.Frag) (r : List V → Hp → VK → Prop) (fr : FC) : Prop where
  run : ∀ {H ρ M xs xvs P Q}, RM K H ρ M → RTs K H ρ xs xvs → fr xs M P → Out K H ρ P Q → r xvs H Q
structure SimM (K : PySem.W.Frag) (r : V → List V → Hp → VK → Prop) (fr : Tr → FC) : Prop where
  run : ∀ {H ρ M x xv xs xvs P Q}, RM K H ρ M → RT K H ρ x xv → RTs K H ρ xs xvs → fr x xs M P → Out K H ρ P Q → r xv xvs H Q
/-! ### expressions -/
def fVar (i : Nat) : FE := fun L M P => ∃ t, L[i]? = some (some t) ∧ P t M
def fC (t : Tr) : FE := fun _ M P => P t M
def fOp (fr : F2) (fa fb : FE) : FE := fun L M P => fa L M fun x M1 => fb L M1 fun y M2 => fr x y M2 P
def fUn (fr : F1) (fa : FE) : FE := fun L M P => fa L M fun x M1 => fr x M1 P
def fNil : FA := fun _ M P => P [] M
def fCons (fa : FE) (fr : FA) : FA := fun L M P => fa L M fun x M1 => fr L M1 fun xs M2 => P (x :: xs) M2
def fTup (fa : FA) : FE := fun L M P => fa L M fun xs M1 => xs.length ≤ sizeLine ∧ P (.tup xs) M1
def fLst (fa : FA) : FE := fun L M P => fa L M fun xs M1 => xs.length ≤ sizeLine ∧ P (.ref M1.length) (M1 ++ [.lst xs])
def fCB (fr : FC) (fa : FA) : FE := fun L M P => fa L M fun xs M1 => fr xs M1 P
def fIf (ft : FT) (fa fb : FE) : FE := fun L M P => ft L M fun c M1 => if c = true then fa L M1 P else fb L M1 P
def fTest (fe : FE) : FT := fun L M P => fe L M fun x M1 => ∃ k, x = .bl k ∧ P k M1
def fNot (ft : FT) : FT := fun L M P => ft L M fun c M1 => P (!c) M1
def fAnd (ft fu : FT) : FT := fun L M P => ft L M fun c M1 => if c = true then fu L M1 P else P false M1
def fOr (ft fu : FT) : FT := fun L M P => ft L M fun c M1 => if c = true then P true M1 else fu L M1 P
def fAndV (fa fb : FE) : FE := fun L M P => fa L M fun x M1 => ∃ c, x = .bl c ∧ if c = true then fb L M1 P else P (.bl false) M1
def fOrV (fa fb : FE) : FE := fun L M P => fa L M fun x M1 => ∃ c, x = .bl c ∧ if c = true then P (.bl true) M1 else fb L M1 P
def fNotV (fa : FE) : FE := fun L M P => fa L M fun x M1 => ∃ c, x = .bl c ∧ P (.bl (!c)) M1
def fChain (r r' : F2) (fa fb fc : FE) : FE := fun L M P => fa L M fun x M1 => fb L M1 fun y M2 => r x y M2 fun z M3 => ∃ k, z = .bl k ∧ (if k = true then fc L M3 fun w M4 => r' y w M4 P else P (.bl false) M3)
def fNoPart : Loc → Mem → (Option Int → Mem → Prop) → Prop := fun _ M P => P none M
def fPart (fe : FE) : Loc → Mem → (Option Int → Mem → Prop) → Prop := fun L M P => fe L M fun x M1 => ∃ i, x = .int i ∧ P (some i) M1
section
variable {K : PySem.W.Frag} {B : Bs} {te ta tb tc : TE} {fe fa fb fc : FE} {as : TA} {fs : FA} {t u : TT} {ft fu : FT} {r r' : R2} {fr fr' : F2}
theorem sim_var {i : Nat} : SimE K B (tVar i) (fVar i) := ⟨fun hl hm ⟨_, h, p⟩ o => let ⟨x, h1, h2⟩ := hl.get h; ⟨x, h1, o _ _ _ _ _ Grow.refl hm h2 p⟩⟩
theorem sim_raw {v : V} : SimE K B (tC v) (fC (.raw v)) := ⟨fun _ hm p o => o _ _ _ _ _ Grow.refl hm (by unfold RT; rfl) p⟩
theorem sim_int {i : Int} : SimE K B (tC (.int i)) (fC (.int i)) := ⟨fun _ hm p o => o _ _ _ _ _ Grow.refl hm (by unfold RT; rfl) p⟩
theorem sim_str {z : Str} : SimE K B (tC (.str z)) (fC (.str z)) := ⟨fun _ hm p o => o _ _ _ _ _ Grow.refl hm (by unfold RT; rfl) p⟩
theorem sim_bl {b : Bool} : SimE K B (tC (.bl b)) (fC (.bl b)) := ⟨fun _ hm p o => o _ _ _ _ _ Grow.refl hm (by unfold RT; rfl) p⟩
theorem sim_non : SimE K B (tC .non) (fC .non) := ⟨fun _ hm p o => o _ _ _ _ _ Grow.refl hm (by unfold RT; rfl) p⟩
theorem sim_op (s : Sim2 K r fr) (a : SimE K B ta fa) (b : SimE K B tb fb) : SimE K B (tOp r ta tb) (fOp fr fa fb) :=
  ⟨fun hl hm h o => a.run hl hm h fun x xv H1 ρ1 M1 g1 m1 rx h1 => b.run (hl.mono g1) m1 h1 fun y yv H2 ρ2 M2 g2 m2 ry h2 => s.run m2 (rx.mono g2) ry h2 (o.step (g1.trans g2))⟩
theorem sim_un {r : V → Hp → VK → Prop} {fr : F1} (s : Sim1 K r fr) (a : SimE K B ta fa) : SimE K B (tUn r ta) (fUn fr fa) :=
  ⟨fun hl hm h o => a.run hl hm h fun x xv H1 ρ1 M1 g1 m1 rx h1 => s.run m1 rx h1 (o.step g1)⟩
theorem sim_nil : SimA K B tNil fNil := ⟨fun _ hm p o => o _ _ _ _ _ Grow.refl hm RTs.nil p⟩
theorem sim_cons (a : SimE K B ta fa) (s : SimA K B as fs) : SimA K B (tCons ta as) (fCons fa fs) :=
  ⟨fun hl hm h o => a.run hl hm h fun x xv H1 ρ1 M1 g1 m1 rx h1 => s.run (hl.mono g1) m1 h1 fun y yv H2 ρ2 M2 g2 m2 ry h2 => o _ _ _ _ _ (g1.trans g2) m2 (RTs.cons (rx.mono g2) ry) h2⟩
theorem sim_tup (s : SimA K B as fs) : SimE K B (tTup as) (fTup fs) :=
  ⟨fun hl hm h o => s.run hl hm h fun ys yv H2 ρ2 M2 g2 m2 ry ⟨z, h2⟩ => ⟨by rw [ry.len]; exact z, fun p hp => o _ _ _ _ _ (g2.trans (Grow.laid hp)) (m2.laid hp) (by unfold RT; exact ⟨p, yv, rfl, .inl (.inl upd_same), ry.mono (Grow.laid hp)⟩) h2⟩⟩
theorem sim_lst (s : SimA K B as fs) : SimE K B (tLst as) (fLst fs) :=
  ⟨fun hl hm h o => s.run hl hm h fun ys yv H2 ρ2 M2 g2 m2 ry ⟨z, h2⟩ => ⟨by rw [ry.len]; exact z, fun p hp => o _ _ _ _ _ (g2.trans (Grow.list m2 hp)) (m2.list hp ry) (by unfold RT; exact ⟨p, m2.ref, rfl⟩) h2⟩⟩
theorem sim_CB {r : List V → Hp → VK → Prop} {fr : FC} (c : SimC K r fr) (s : SimA K B as fs) : SimE K B (tCB r as) (fCB fr fs) :=
  ⟨fun hl hm h o => s.run hl hm h fun ys yv H2 ρ2 M2 g2 m2 ry h2 => c.run m2 ry h2 (o.step g2)⟩
theorem sim_if (s : SimT K B t ft) (a : SimE K B ta fa) (b : SimE K B tb fb) : SimE K B (tIf t ta tb) (fIf ft fa fb) :=
  ⟨fun hl hm h o => s.run hl hm h fun c H1 ρ1 M1 g1 m1 h1 => by
    cases c with
    | true => rw [if_pos rfl] at h1 ⊢; exact a.run (hl.mono g1) m1 h1 (o.step g1)
    | false => rw [if_neg (by decide)] at h1 ⊢; exact b.run (hl.mono g1) m1 h1 (o.step g1)⟩
theorem RT.bl_inv {H : Hp} {ρ : List Addr} {k : Bool} {x : V} (h : RT K H ρ (.bl k) x) : x = .bl k := by unfold RT at h; exact h
theorem RT.int_inv {H : Hp} {ρ : List Addr} {k : Int} {x : V} (h : RT K H ρ (.int k) x) : x = .int k := by unfold RT at h; exact h
theorem RT.str_inv {H : Hp} {ρ : List Addr} {k : Str} {x : V} (h : RT K H ρ (.str k) x) : x = .str k := by unfold RT at h; exact h
theorem RT.non_inv {H : Hp} {ρ : List Addr} {x : V} (h : RT K H ρ .non x) : x = .non := by unfold RT at h; exact h
theorem RT.raw_inv {H : Hp} {ρ : List Addr} {w x : V} (h : RT K H ρ (.raw w) x) : x = w := by unfold RT at h; exact h
theorem RT.int_ {H : Hp} {ρ : List Addr} {k : Int} : RT K H ρ (.int k) (.int k) := by unfold RT; rfl
theorem RT.bl_ {H : Hp} {ρ : List Addr} {k : Bool} : RT K H ρ (.bl k) (.bl k) := by unfold RT; rfl
theorem RT.str_ {H : Hp} {ρ : List Addr} {k : Str} : RT K H ρ (.str k) (.str k) := by unfold RT; rfl
theorem RT.non_ {H : Hp} {ρ : List Addr} : RT K H ρ .non .non := by unfold RT; rfl
theorem RT.tup_inv {H : Hp} {ρ : List Addr} {ts : List Tr} {x : V} (h : RT K H ρ (.tup ts) x) : ∃ a xs, x = .ref a ∧ SqT K H a xs ∧ RTs K H ρ ts xs := by unfold RT at h; exact h
theorem RT.ref_inv {H : Hp} {ρ : List Addr} {n : Nat} {x : V} (h : RT K H ρ (.ref n) x) : ∃ a, ρ[n]? = some a ∧ x = .ref a := by unfold RT at h; exact h
theorem sim_test (a : SimE K B te fe) : SimT K B (tTest te) (fTest fe) := ⟨fun hl hm h o => a.run hl hm h fun x xv H1 ρ1 M1 g1 m1 rx ⟨k, e, h1⟩ => by subst e; exact ⟨k, rx.bl_inv, o _ _ _ _ g1 m1 h1⟩⟩
theorem sim_B (a : SimE K B te fe) : SimT K B (tB te) (fTest fe) := ⟨fun hl hm h o => a.run hl hm h fun x xv H1 ρ1 M1 g1 m1 rx ⟨k, e, h1⟩ => by subst e; exact ⟨k, rx.bl_inv, o _ _ _ _ g1 m1 h1⟩⟩
theorem sim_not (a : SimT K B t ft) : SimT K B (tNot t) (fNot ft) := ⟨fun hl hm h o => a.run hl hm h fun b H1 ρ1 M1 g1 m1 h1 => o _ _ _ _ g1 m1 h1⟩
theorem sim_and (a : SimT K B t ft) (b : SimT K B u fu) : SimT K B (tAnd t u) (fAnd ft fu) := ⟨fun hl hm h o => a.run hl hm h fun c H1 ρ1 M1 g1 m1 h1 => by
  cases c with
  | true => rw [if_pos rfl] at h1 ⊢; exact b.run (hl.mono g1) m1 h1 (o.step g1)
  | false => rw [if_neg (by decide)] at h1 ⊢; exact o _ _ _ _ g1 m1 h1⟩
theorem sim_or (a : SimT K B t ft) (b : SimT K B u fu) : SimT K B (tOr t u) (fOr ft fu) := ⟨fun hl hm h o => a.run hl hm h fun c H1 ρ1 M1 g1 m1 h1 => by
  cases c with
  | true => rw [if_pos rfl] at h1 ⊢; exact o _ _ _ _ g1 m1 h1
  | false => rw [if_neg (by decide)] at h1 ⊢; exact b.run (hl.mono g1) m1 h1 (o.step g1)⟩
theorem sim_andV (a : SimE K B ta fa) (b : SimE K B tb fb) : SimE K B (tAndV ta tb) (fAndV fa fb) := ⟨fun hl hm h o => a.run hl hm h fun x xv H1 ρ1 M1 g1 m1 rx ⟨c, e, h1⟩ => by
  subst e
  refine ⟨c, rx.bl_inv, ?_⟩
  cases c with
  | true => rw [if_pos rfl] at h1 ⊢; exact b.run (hl.mono g1) m1 h1 (o.step g1)
  | false => rw [if_neg (by decide)] at h1 ⊢; exact o _ _ _ _ _ g1 m1 RT.bl_ h1⟩
theorem sim_orV (a : SimE K B ta fa) (b : SimE K B tb fb) : SimE K B (tOrV ta tb) (fOrV fa fb) := ⟨fun hl hm h o => a.run hl hm h fun x xv H1 ρ1 M1 g1 m1 rx ⟨c, e, h1⟩ => by
  subst e
  refine ⟨c, rx.bl_inv, ?_⟩
  cases c with
  | true => rw [if_pos rfl] at h1 ⊢; exact o _ _ _ _ _ g1 m1 RT.bl_ h1
  | false => rw [if_neg (by decide)] at h1 ⊢; exact b.run (hl.mono g1) m1 h1 (o.step g1)⟩
theorem sim_notV (a : SimE K B ta fa) : SimE K B (tNotV ta) (fNotV fa) := ⟨fun hl hm h o => a.run hl hm h fun x xv H1 ρ1 M1 g1 m1 rx ⟨c, e, h1⟩ => by
  subst e
  exact ⟨c, rx.bl_inv, o _ _ _ _ _ g1 m1 RT.bl_ h1⟩⟩
theorem sim_chain (s : Sim2 K r fr) (s' : Sim2 K r' fr') (a : SimE K B ta fa) (b : SimE K B tb fb) (c : SimE K B tc fc) : SimE K B (tChain r r' ta tb tc) (fChain fr fr' fa fb fc) :=
  ⟨fun hl hm h o => a.run hl hm h fun x xv H1 ρ1 M1 g1 m1 rx h1 => b.run (hl.mono g1) m1 h1 fun y yv H2 ρ2 M2 g2 m2 ry h2 => s.run m2 (rx.mono g2) ry h2 fun z zv H3 ρ3 M3 g3 m3 rz ⟨k, e, h3⟩ => by
    subst e
    refine ⟨k, rz.bl_inv, ?_⟩
    have g := (g1.trans g2).trans g3
    cases k with
    | true => rw [if_pos rfl] at h3 ⊢; exact c.run (hl.mono g) m3 h3 fun w wv H4 ρ4 M4 g4 m4 rw_ h4 => s'.run m4 (ry.mono (g3.trans g4)) rw_ h4 (o.step (g.trans g4))
    | false => rw [if_neg (by decide)] at h3 ⊢; exact o _ _ _ _ _ g m3 RT.bl_ h3⟩
theorem sim_nopart : SimO K B tNoPart fNoPart := ⟨fun _ hm p o => o _ _ _ _ Grow.refl hm p⟩
theorem sim_part (a : SimE K B te fe) : SimO K B (tPart te) (fPart fe) := ⟨fun hl hm h o => a.run hl hm h fun x xv H1 ρ1 M1 g1 m1 rx ⟨i, e, h1⟩ => by subst e; exact ⟨i, rx.int_inv, o _ _ _ _ g1 m1 h1⟩⟩
end
/-! ### operators -/
def fI (C : Int → Int → Prop) (g : Int → Int → Tr) : F2 := fun x y M P => ∃ i j, x = .int i ∧ y = .int j ∧ C i j ∧ P (g i j) M
def fI0 (g : Int → Int → Tr) : F2 := fun x y M P => ∃ i j, x = .int i ∧ y = .int j ∧ P (g i j) M
def fU (g : Int → Tr) : F1 := fun x M P => ∃ i, x = .int i ∧ P (g i) M
/-- == of plain values -/
def eqS : Tr → Tr → Option Bool
  | .non, .non => some true | .non, .int _ => some false | .int _, .non => some false | .non, .bl _ => some false | .bl _, .non => some false | .non, .str _ => some false | .str _, .non => some false
  | .int i, .int j => some (decide (i = j)) | .bl a, .bl b => some (decide (a = b)) | .str a, .str b => some (decide (a = b))
  | .int _, .str _ => some false | .str _, .int _ => some false | .bl _, .str _ => some false | .str _, .bl _ => some false
  | _, _ => none
def fEq : F2 := fun x y M P => ∃ b, eqS x y = some b ∧ P (.bl b) M
def fNe : F2 := fun x y M P => ∃ b, eqS x y = some b ∧ P (.bl (!b)) M
def isN : Tr → Bool
  | .non => true
  | _ => false
def noRaw : Tr → Bool
  | .raw _ => false
  | _ => true
def fIsN : F2 := fun x y M P => y = .non ∧ noRaw x = true ∧ P (.bl (isN x)) M
def fNotN : F2 := fun x y M P => y = .non ∧ noRaw x = true ∧ P (.bl (!isN x)) M
/-- the list at a number, the tuple -/
def lstAt (M : Mem) : Tr → Option (List Tr)
  | .ref n => match M[n]? with
    | some (.lst ts) => some ts
    | _ => none
  | _ => none
def seqAt (M : Mem) : Tr → Option (List Tr)
  | .tup ts => some ts
  | t => lstAt M t
def tupOf : Tr → Option (List Tr)
  | .tup ts => some ts
  | _ => none
def fIxL : F2 := fun x y M P => ∃ ts i v, lstAt M x = some ts ∧ y = .int i ∧ atI ts i = some v ∧ P v M
def fIxT : F2 := fun x y M P => ∃ ts i v, tupOf x = some ts ∧ y = .int i ∧ atI ts i = some v ∧ P v M
def fIxS : F2 := fun x y M P => ∃ z i c, x = .str z ∧ y = .int i ∧ z.length ≤ sizeLine ∧ atI z.cps.toList i = some c ∧ P (.str ⟨#[c]⟩) M
section
variable {K : PySem.W.Frag} {B : Bs} {H : Hp} {ρ : List Addr} {M : Mem}
theorem s_Ii {C : Int → Int → Prop} {g : Int → Int → Int} : Sim2 K (rI C fun i j => .int (g i j)) (fI C fun i j => .int (g i j)) :=
  ⟨fun hm rx ry ⟨i, j, e1, e2, c, p⟩ o => by subst e1; subst e2; exact ⟨i, j, rx.int_inv, ry.int_inv, c, o _ _ _ _ _ Grow.refl hm RT.int_ p⟩⟩
theorem s_I0i {g : Int → Int → Int} : Sim2 K (rI0 fun i j => .int (g i j)) (fI0 fun i j => .int (g i j)) :=
  ⟨fun hm rx ry ⟨i, j, e1, e2, p⟩ o => by subst e1; subst e2; exact ⟨i, j, rx.int_inv, ry.int_inv, o _ _ _ _ _ Grow.refl hm RT.int_ p⟩⟩
theorem s_I0b {g : Int → Int → Bool} : Sim2 K (rI0 fun i j => .bl (g i j)) (fI0 fun i j => .bl (g i j)) :=
  ⟨fun hm rx ry ⟨i, j, e1, e2, p⟩ o => by subst e1; subst e2; exact ⟨i, j, rx.int_inv, ry.int_inv, o _ _ _ _ _ Grow.refl hm RT.bl_ p⟩⟩
theorem s_Ui {g : Int → Int} : Sim1 K (rU fun i => .int (g i)) (fU fun i => .int (g i)) :=
  ⟨fun hm rx ⟨i, e1, p⟩ o => by subst e1; exact ⟨i, rx.int_inv, o _ _ _ _ _ Grow.refl hm RT.int_ p⟩⟩
theorem eqS_ok {x y : Tr} {xv yv : V} {b : Bool} (rx : RT K H ρ x xv) (ry : RT K H ρ y yv) (e : eqS x y = some b) : scal xv yv = true ∧ decide (xv = yv) = b := by
  unfold eqS at e
  split at e <;> (try (cases e; done)) <;> unfold RT at rx ry <;> subst rx <;> subst ry <;> (have e := Option.some.inj e; subst e; refine ⟨rfl, ?_⟩) <;> first
    | decide
    | exact decide_eq_false (fun z => nomatch z)
    | (rw [decide_eq_decide]; exact ⟨fun z => by injection z, fun z => by rw [z]⟩)
theorem s_eq : Sim2 K rEq fEq := ⟨fun hm rx ry ⟨b, e, p⟩ o => by
  obtain ⟨h1, h2⟩ := eqS_ok rx ry e
  exact ⟨h1, by rw [h2]; exact o _ _ _ _ _ Grow.refl hm RT.bl_ p⟩⟩
theorem s_ne : Sim2 K rNe fNe := ⟨fun hm rx ry ⟨b, e, p⟩ o => by
  obtain ⟨h1, h2⟩ := eqS_ok rx ry e
  exact ⟨h1, by rw [h2]; exact o _ _ _ _ _ Grow.refl hm RT.bl_ p⟩⟩
theorem isN_ok {x : Tr} {xv : V} (rx : RT K H ρ x xv) (n : noRaw x = true) : decide (xv = .non) = isN x := by
  cases x with
  | non => unfold RT at rx; rw [rx]; rfl
  | bl b => unfold RT at rx; rw [rx]; exact decide_eq_false (fun z => nomatch z)
  | int b => unfold RT at rx; rw [rx]; exact decide_eq_false (fun z => nomatch z)
  | str b => unfold RT at rx; rw [rx]; exact decide_eq_false (fun z => nomatch z)
  | tup ts => obtain ⟨a, xs, e, _⟩ := rx.tup_inv; rw [e]; exact decide_eq_false (fun z => nomatch z)
  | ref k => obtain ⟨a, _, e⟩ := rx.ref_inv; rw [e]; exact decide_eq_false (fun z => nomatch z)
  | raw v => cases n
theorem s_isN : Sim2 K (fun x y H Q => y = V.non ∧ Q (V.bl (decide (x = V.non))) H) fIsN := ⟨fun hm rx ry ⟨e, n, p⟩ o => by
  subst e
  exact ⟨ry.non_inv, by rw [isN_ok rx n]; exact o _ _ _ _ _ Grow.refl hm RT.bl_ p⟩⟩
theorem s_notN : Sim2 K (fun x y H Q => y = V.non ∧ Q (V.bl (!decide (x = V.non))) H) fNotN := ⟨fun hm rx ry ⟨e, n, p⟩ o => by
  subst e
  exact ⟨ry.non_inv, by rw [isN_ok rx n]; exact o _ _ _ _ _ Grow.refl hm RT.bl_ p⟩⟩
theorem lstAt_ok {x : Tr} {xv : V} {ts : List Tr} (hm : RM K H ρ M) (rx : RT K H ρ x xv) (e : lstAt M x = some ts) : ∃ n a xs, x = .ref n ∧ ρ[n]? = some a ∧ M[n]? = some (.lst ts) ∧ xv = .ref a ∧ H a = some (.lst xs) ∧ RTs K H ρ ts xs := by
  cases x with
  | ref n =>
    simp only [lstAt] at e
    split at e
    · rename_i us hu
      cases e
      obtain ⟨a, h1, xs, h2, h3⟩ := hm.at_ n _ hu
      obtain ⟨b, h4, h5⟩ := rx.ref_inv
      rw [h1] at h4
      cases h4
      exact ⟨n, a, xs, rfl, h1, hu, h5, h2, h3⟩
    · cases e
  | _ => cases e
theorem tupOf_ok {x : Tr} {xv : V} {ts : List Tr} (rx : RT K H ρ x xv) (e : tupOf x = some ts) : ∃ a xs, xv = .ref a ∧ SqT K H a xs ∧ RTs K H ρ ts xs := by
  cases x with
  | tup us => cases e; exact rx.tup_inv
  | _ => cases e
theorem seqAt_ok {x : Tr} {xv : V} {ts : List Tr} (hm : RM K H ρ M) (rx : RT K H ρ x xv) (e : seqAt M x = some ts) : ∃ a xs, xv = .ref a ∧ (SqL K H a xs ∨ SqT K H a xs) ∧ RTs K H ρ ts xs := by
  cases x with
  | tup us =>
    have e : some us = some ts := e
    cases e
    obtain ⟨a, xs, h1, h2, h3⟩ := rx.tup_inv
    exact ⟨a, xs, h1, .inr h2, h3⟩
  | _ =>
    obtain ⟨n, a, xs, _, _, _, h1, h2, h3⟩ := lstAt_ok (ts := ts) hm rx e
    exact ⟨a, xs, h1, .inl (.inl (.inl h2)), h3⟩
theorem RTs.atI {ts : List Tr} {xs : List V} {i : Int} {t : Tr} (r : RTs K H ρ ts xs) (e : L2.atI ts i = some t) : ∃ x, L2.atI xs i = some x ∧ RT K H ρ t x := by
  unfold L2.atI at e ⊢
  rw [r.len]
  cases h : ixN ts.length i with
  | none => rw [h] at e; cases e
  | some j =>
    rw [h] at e
    exact r.get e
theorem s_ixL : Sim2 K (rIxL K) fIxL := ⟨fun hm rx ry ⟨ts, i, v, e1, e2, e3, p⟩ o => by
  subst e2
  obtain ⟨n, a, xs, _, _, _, h1, h2, h3⟩ := lstAt_ok hm rx e1
  obtain ⟨x, h4, h5⟩ := h3.atI e3
  exact ⟨a, xs, i, x, h1, ry.int_inv, .inl (.inl h2), h4, o _ _ _ _ _ Grow.refl hm h5 p⟩⟩
theorem s_ixT : Sim2 K (rIxT K) fIxT := ⟨fun hm rx ry ⟨ts, i, v, e1, e2, e3, p⟩ o => by
  subst e2
  obtain ⟨a, xs, h1, h2, h3⟩ := tupOf_ok rx e1
  obtain ⟨x, h4, h5⟩ := h3.atI e3
  exact ⟨a, xs, i, x, h1, ry.int_inv, h2, h4, o _ _ _ _ _ Grow.refl hm h5 p⟩⟩
theorem s_ixS : Sim2 K rIxS fIxS := ⟨fun hm rx ry ⟨z, i, c, e1, e2, e3, e4, p⟩ o => by
  subst e1; subst e2
  exact ⟨z, i, c, rx.str_inv, ry.int_inv, e3, e4, o _ _ _ _ _ Grow.refl hm RT.str_ p⟩⟩
end
end Fm

set_option Elab.async false
set_option linter.all false
set_option maxRecDepth 100000
set_option maxHeartbeats 4000000
namespace Fm
open PySem PySem.Spec PyProof.Rows L2
/-! ### sequences -/
def cutT (xs : List Tr) (lo hi : Option Int) : List Tr := (xs.drop (HT.sIx xs.length 0 lo)).take (HT.sIx xs.length xs.length hi - HT.sIx xs.length 0 lo)
abbrev FSl := Tr → Option Int → Option Int → Mem → PF → Prop
def fCat : F2 := fun x y M P => ∃ xs ys, lstAt M x = some xs ∧ lstAt M y = some ys ∧ xs.length + ys.length ≤ sizeLine ∧ P (.ref M.length) (M ++ [.lst (xs ++ ys)])
def fCatA : F2 := fun x y M P => ∃ xs ys, tupOf x = some xs ∧ tupOf y = some ys ∧ xs.length + ys.length ≤ sizeLine ∧ P (.tup (xs ++ ys)) M
def fRep : F2 := fun x y M P => ∃ xs k, lstAt M x = some xs ∧ y = .int k ∧ -(2 ^ 63) ≤ k ∧ k < 2 ^ 63 ∧ xs.length * k.toNat ≤ sizeLine ∧ P (.ref M.length) (M ++ [.lst (List.replicate k.toNat xs).flatten])
def fRepT : F2 := fun x y M P => ∃ xs k, tupOf x = some xs ∧ y = .int k ∧ xs ≠ [] ∧ 2 ≤ k ∧ k ≤ 1000 ∧ xs.length ≤ 1000 ∧ P (.tup (List.replicate k.toNat xs).flatten) M
def fSlL : FSl := fun x lo hi M P => ∃ xs, lstAt M x = some xs ∧ P (.ref M.length) (M ++ [.lst (cutT xs lo hi)])
def fSlA : FSl := fun x lo hi M P => ∃ xs, tupOf x = some xs ∧ P (.tup (cutT xs lo hi)) M
def fSlS : FSl := fun x lo hi M P => ∃ z, x = .str z ∧ z.length ≤ sizeLine ∧ P (.str (cutS z lo hi)) M
def fSl (r : FSl) (fe : FE) (fl fh : Loc → Mem → (Option Int → Mem → Prop) → Prop) : FE := fun L M P => fe L M fun x M1 => fl L M1 fun lo M2 => fh L M2 fun hi M3 => r x lo hi M3 P
structure SimSl (K : PySem.W.Frag) (r : V → Option Int → Option Int → Hp → VK → Prop) (fr : FSl) : Prop where
  run : ∀ {H ρ M x xv lo hi P Q}, RM K H ρ M → RT K H ρ x xv → fr x lo hi M P → Out K H ρ P Q → r xv lo hi H Q
def fLen : FC := fun xs M P => ∃ x ts, xs = [x] ∧ seqAt M x = some ts ∧ P (.int ts.length) M
def fLenS : FC := fun xs M P => ∃ z, xs = [.str z] ∧ z.length ≤ sizeLine ∧ P (.int z.length) M
def fList : FC := fun xs M P => ∃ x ts, xs = [x] ∧ seqAt M x = some ts ∧ P (.ref M.length) (M ++ [.lst ts])
def fTuple : FC := fun xs M P => ∃ x ts, xs = [x] ∧ seqAt M x = some ts ∧ P (.tup ts) M
def fInt1 : FC := fun xs M P => (∃ i, xs = [.int i] ∧ P (.int i) M) ∨ ∃ k, xs = [.bl k] ∧ P (.int (if k then 1 else 0)) M
def fIntS : FC := fun xs M P => ∃ a n, xs = [.str a] ∧ PySem.intText? a = some n ∧ a.length ≤ 640 ∧ P (.int n) M
def fStrI : FC := fun xs M P => ∃ i : Int, xs = [.int i] ∧ i.natAbs.log2 < 1920 ∧ P (.str (toString i)) M
def fMax2 : FC := fun xs M P => ∃ i j, xs = [.int i, .int j] ∧ P (.int (if j > i then j else i)) M
def fMin2 : FC := fun xs M P => ∃ i j, xs = [.int i, .int j] ∧ P (.int (if j < i then j else i)) M
def refAt (M : Mem) : Tr → Option (Nat × List Tr)
  | .ref n => match M[n]? with
    | some (.lst ts) => some (n, ts)
    | _ => none
  | _ => none
def fAppend : Tr → FC := fun x xs M P => ∃ n ts y, refAt M x = some (n, ts) ∧ xs = [y] ∧ ts.length < sizeLine ∧ P .non (M.set n (.lst (ts ++ [y])))
def fExtend : Tr → FC := fun x xs M P => ∃ n ts y us, refAt M x = some (n, ts) ∧ xs = [y] ∧ lstAt M y = some us ∧ ts.length + us.length ≤ sizeLine ∧ P .non (M.set n (.lst (ts ++ us)))
def flatT : Tr → Bool
  | .non => true | .bl _ => true | .int _ => true | .str _ => true
  | _ => false
def eqvT : Tr → Tr → Bool
  | .non, .non => true
  | .bl a, .bl b => a == b
  | .bl a, .int b => (if a then 1 else 0) == b
  | .int a, .bl b => a == (if b then 1 else 0)
  | .int a, .int b => a == b
  | .str a, .str b => a == b
  | _, _ => false
def fIn (neg : Bool) : F2 := fun x y M P => ∃ ts, seqAt M y = some ts ∧ flatT x = true ∧ ts.all flatT = true ∧ P (.bl (if neg then !(ts.any fun y => eqvT y x) else ts.any fun y => eqvT y x)) M
section
variable {K : PySem.W.Frag} {B : Bs} {H : Hp} {ρ : List Addr} {M : Mem} {te : TE} {fe : FE} {tl th : TO} {fl fh : Loc → Mem → (Option Int → Mem → Prop) → Prop}
theorem refAt_ok {x : Tr} {xv : V} {n : Nat} {ts : List Tr} (hm : RM K H ρ M) (rx : RT K H ρ x xv) (e : refAt M x = some (n, ts)) : ∃ a xs, x = .ref n ∧ ρ[n]? = some a ∧ M[n]? = some (.lst ts) ∧ xv = .ref a ∧ H a = some (.lst xs) ∧ RTs K H ρ ts xs := by
  cases x with
  | ref m =>
    simp only [refAt] at e
    split at e
    · rename_i us hu
      cases e
      obtain ⟨a, h1, xs, h2, h3⟩ := hm.at_ n _ hu
      obtain ⟨b, h4, h5⟩ := rx.ref_inv
      rw [h1] at h4
      cases h4
      exact ⟨a, xs, rfl, h1, hu, h5, h2, h3⟩
    · cases e
  | _ => cases e
theorem RTs.one {t : Tr} {xs : List V} (h : RTs K H ρ [t] xs) : ∃ x, xs = [x] ∧ RT K H ρ t x := by
  unfold RTs at h
  obtain ⟨x, ys, rfl, h1, h2⟩ := h
  unfold RTs at h2
  subst h2
  exact ⟨x, rfl, h1⟩
theorem RTs.two {t u : Tr} {xs : List V} (h : RTs K H ρ [t, u] xs) : ∃ x y, xs = [x, y] ∧ RT K H ρ t x ∧ RT K H ρ u y := by
  unfold RTs at h
  obtain ⟨x, ys, rfl, h1, h2⟩ := h
  obtain ⟨y, rfl, h3⟩ := h2.one
  exact ⟨x, y, rfl, h1, h3⟩
theorem RTs.rep {ts : List Tr} {xs : List V} (h : RTs K H ρ ts xs) : ∀ n : Nat, RTs K H ρ (List.replicate n ts).flatten (List.replicate n xs).flatten
  | 0 => RTs.nil
  | n + 1 => by rw [List.replicate_succ, List.replicate_succ, List.flatten_cons, List.flatten_cons]; exact h.app (RTs.rep h n)
theorem RTs.cut {ts : List Tr} {xs : List V} (h : RTs K H ρ ts xs) (lo hi : Option Int) : RTs K H ρ (cutT ts lo hi) (cutV xs lo hi) := by
  unfold cutT cutV
  rw [h.len]
  exact (h.drop _).take _
theorem out_list {P : PF} {Q : VK} {ts : List Tr} {xs : List V} (hm : RM K H ρ M) (h : RTs K H ρ ts xs) (o : Out K H ρ P Q) (p : P (.ref M.length) (M ++ [.lst ts])) : ∀ l, H l = none → Q (.ref l) (upd H l (.lst xs)) :=
  fun l hl => o _ _ _ _ _ (Grow.list hm hl) (hm.list hl h) (by unfold RT; exact ⟨l, hm.ref, rfl⟩) p
theorem out_tup {P : PF} {Q : VK} {ts : List Tr} {xs : List V} (hm : RM K H ρ M) (h : RTs K H ρ ts xs) (o : Out K H ρ P Q) (p : P (.tup ts) M) : ∀ l, H l = none → Q (.ref l) (upd H l (.tup xs)) :=
  fun l hl => o _ _ _ _ _ (Grow.laid hl) (hm.laid hl) (by unfold RT; exact ⟨l, xs, rfl, .inl (.inl upd_same), h.mono (Grow.laid hl)⟩) p
theorem out_old {P : PF} {Q : VK} {ts : List Tr} {xs : List V} {a : Addr} (hm : RM K H ρ M) (h : RTs K H ρ ts xs) (ha : SqT K H a xs) (o : Out K H ρ P Q) (p : P (.tup ts) M) : Q (.ref a) H :=
  o _ _ _ _ _ Grow.refl hm (by unfold RT; exact ⟨a, xs, rfl, ha, h⟩) p
theorem s_cat : Sim2 K rCat fCat := ⟨fun hm rx ry ⟨xs, ys, e1, e2, z, p⟩ o => by
  obtain ⟨n, a, us, _, _, _, h1, h2, h3⟩ := lstAt_ok hm rx e1
  obtain ⟨m, b, ws, _, _, _, k1, k2, k3⟩ := lstAt_ok hm ry e2
  exact ⟨a, b, us, ws, h1, k1, h2, k2, by rw [h3.len, k3.len]; exact z, out_list hm (h3.app k3) o p⟩⟩
theorem s_rep : Sim2 K rRep fRep := ⟨fun hm rx ry ⟨xs, k, e1, e2, k0, k1, z, p⟩ o => by
  subst e2
  obtain ⟨n, a, us, _, _, _, h1, h2, h3⟩ := lstAt_ok hm rx e1
  exact ⟨a, k, us, h1, ry.int_inv, h2, k0, k1, by rw [h3.len]; exact z, out_list hm (h3.rep _) o p⟩⟩
theorem s_catA : Sim2 K (rCatA K) fCatA := ⟨fun hm rx ry ⟨xs, ys, e1, e2, z, p⟩ o => by
  obtain ⟨a, us, h1, h2, h3⟩ := tupOf_ok rx e1
  obtain ⟨b, ws, k1, k2, k3⟩ := tupOf_ok ry e2
  refine ⟨a, b, us, ws, h1, k1, h2, k2, by rw [h3.len, k3.len]; exact z, fun e => ?_, fun _ e => ?_, fun _ _ l hl => out_tup hm (h3.app k3) o p l hl⟩
  · exact out_old hm (h3.app k3) (by rw [e]; exact k2) o p
  · exact out_old hm (h3.app k3) (by rw [e, List.append_nil]; exact h2) o p⟩
theorem s_repT : Sim2 K (rRepT K) fRepT := ⟨fun hm rx ry ⟨xs, k, e1, e2, n0, k0, k1, z, p⟩ o => by
  subst e2
  obtain ⟨a, us, h1, h2, h3⟩ := tupOf_ok rx e1
  have n1 : us ≠ [] := fun e => n0 (List.length_eq_zero_iff.mp (by rw [← h3.len, e]; rfl))
  exact ⟨a, k, us, h1, ry.int_inv, h2, n1, k0, k1, by rw [h3.len]; exact z, out_tup hm (h3.rep _) o p⟩⟩
theorem s_slL : SimSl K (rSlL K) fSlL := ⟨fun hm rx ⟨xs, e1, p⟩ o => by
  obtain ⟨n, a, us, _, _, _, h1, h2, h3⟩ := lstAt_ok hm rx e1
  exact ⟨a, us, h1, .inl (.inl h2), out_list hm (h3.cut _ _) o p⟩⟩
theorem s_slA : SimSl K (rSlA K) fSlA := ⟨fun hm rx ⟨xs, e1, p⟩ o => by
  obtain ⟨a, us, h1, h2, h3⟩ := tupOf_ok rx e1
  refine ⟨a, us, h1, h2, fun h => ?_, fun _ l hl => out_tup hm (h3.cut _ _) o p l hl⟩
  refine out_old hm (h3.cut _ _) ?_ o p
  unfold cutV
  rw [h.1, h.2, List.drop_zero, Nat.sub_zero, List.take_length]
  exact h2⟩
theorem s_slS : SimSl K rSlS fSlS := ⟨fun hm rx ⟨z, e1, hz, p⟩ o => by
  subst e1
  exact ⟨z, rx.str_inv, hz, o _ _ _ _ _ Grow.refl hm RT.str_ p⟩⟩
theorem sim_sl {r : V → Option Int → Option Int → Hp → VK → Prop} {fr : FSl} (s : SimSl K r fr) (a : SimE K B te fe) (b : SimO K B tl fl) (c : SimO K B th fh) : SimE K B (tSl r te tl th) (fSl fr fe fl fh) :=
  ⟨fun hl hm h o => a.run hl hm h fun x xv H1 ρ1 M1 g1 m1 rx h1 => b.run (hl.mono g1) m1 h1 fun lo H2 ρ2 M2 g2 m2 h2 => c.run (hl.mono (g1.trans g2)) m2 h2 fun hi H3 ρ3 M3 g3 m3 h3 => s.run m3 (rx.mono (g2.trans g3)) h3 (o.step ((g1.trans g2).trans g3))⟩
theorem c_len : SimC K (fun xs H Q => ∃ p ys, xs = [V.ref p] ∧ (SqL K H p ys ∨ SqT K H p ys) ∧ Q (V.int ys.length) H) fLen := ⟨fun hm rx ⟨x, ts, e1, e2, p⟩ o => by
  subst e1
  obtain ⟨xv, rfl, r⟩ := rx.one
  obtain ⟨a, us, rfl, h2, h3⟩ := seqAt_ok hm r e2
  exact ⟨a, us, rfl, h2, by rw [h3.len]; exact o _ _ _ _ _ Grow.refl hm RT.int_ p⟩⟩
theorem c_lenS : SimC K (fun xs H Q => ∃ z : Str, xs = [V.str z] ∧ z.length ≤ sizeLine ∧ Q (V.int z.length) H) fLenS := ⟨fun hm rx ⟨z, e1, e2, p⟩ o => by
  subst e1
  obtain ⟨xv, rfl, r⟩ := rx.one
  exact ⟨z, by rw [r.str_inv], e2, o _ _ _ _ _ Grow.refl hm RT.int_ p⟩⟩
theorem c_list : SimC K (fun xs H Q => ∃ p ys, xs = [V.ref p] ∧ (SqL K H p ys ∨ SqT K H p ys) ∧ ∀ l, H l = none → Q (V.ref l) (upd H l (.lst ys))) fList := ⟨fun hm rx ⟨x, ts, e1, e2, p⟩ o => by
  subst e1
  obtain ⟨xv, rfl, r⟩ := rx.one
  obtain ⟨a, us, rfl, h2, h3⟩ := seqAt_ok hm r e2
  exact ⟨a, us, rfl, h2, out_list hm h3 o p⟩⟩
theorem c_tuple : SimC K (fun xs H Q => ∃ p ys, xs = [V.ref p] ∧ ((SqL K H p ys ∧ ∀ l, H l = none → Q (V.ref l) (upd H l (.tup ys))) ∨ (SqT K H p ys ∧ Q (V.ref p) H))) fTuple := ⟨fun hm rx ⟨x, ts, e1, e2, p⟩ o => by
  subst e1
  obtain ⟨xv, rfl, r⟩ := rx.one
  obtain ⟨a, us, rfl, h2, h3⟩ := seqAt_ok hm r e2
  rcases h2 with h2 | h2
  · exact ⟨a, us, rfl, .inl ⟨h2, out_tup hm h3 o p⟩⟩
  · exact ⟨a, us, rfl, .inr ⟨h2, out_old hm h3 h2 o p⟩⟩⟩
theorem c_int1 : SimC K (fun xs H Q => (∃ i, xs = [V.int i] ∧ Q (V.int i) H) ∨ ∃ k : Bool, xs = [V.bl k] ∧ Q (V.int (if k then 1 else 0)) H) fInt1 := ⟨fun hm rx h o => by
  rcases h with ⟨i, rfl, p⟩ | ⟨i, rfl, p⟩
  · obtain ⟨xv, rfl, r⟩ := rx.one
    exact .inl ⟨i, by rw [r.int_inv], o _ _ _ _ _ Grow.refl hm RT.int_ p⟩
  · obtain ⟨xv, rfl, r⟩ := rx.one
    exact .inr ⟨i, by rw [r.bl_inv], o _ _ _ _ _ Grow.refl hm RT.int_ p⟩⟩
theorem c_intS : SimC K (fun xs H Q => ∃ (a : Str) (n : Int), xs = [V.str a] ∧ PySem.intText? a = some n ∧ a.length ≤ 640 ∧ Q (V.int n) H) fIntS := ⟨fun hm rx ⟨a, n, e1, e2, z, p⟩ o => by
  subst e1
  obtain ⟨xv, rfl, r⟩ := rx.one
  exact ⟨a, n, by rw [r.str_inv], e2, z, o _ _ _ _ _ Grow.refl hm RT.int_ p⟩⟩
theorem c_strI : SimC K (fun xs H Q => ∃ i : Int, xs = [V.int i] ∧ i.natAbs.log2 < 1920 ∧ Q (V.str (toString i)) H) fStrI := ⟨fun hm rx ⟨i, e1, z, p⟩ o => by
  subst e1
  obtain ⟨xv, rfl, r⟩ := rx.one
  exact ⟨i, by rw [r.int_inv], z, o _ _ _ _ _ Grow.refl hm RT.str_ p⟩⟩
theorem c_max2 : SimC K (fun xs H Q => ∃ i j, xs = [V.int i, V.int j] ∧ Q (V.int (if j > i then j else i)) H) fMax2 := ⟨fun hm rx ⟨i, j, e1, p⟩ o => by
  subst e1
  obtain ⟨x, y, rfl, r1, r2⟩ := rx.two
  exact ⟨i, j, by rw [r1.int_inv, r2.int_inv], o _ _ _ _ _ Grow.refl hm RT.int_ p⟩⟩
theorem c_min2 : SimC K (fun xs H Q => ∃ i j, xs = [V.int i, V.int j] ∧ Q (V.int (if j < i then j else i)) H) fMin2 := ⟨fun hm rx ⟨i, j, e1, p⟩ o => by
  subst e1
  obtain ⟨x, y, rfl, r1, r2⟩ := rx.two
  exact ⟨i, j, by rw [r1.int_inv, r2.int_inv], o _ _ _ _ _ Grow.refl hm RT.int_ p⟩⟩
theorem m_append : SimM K rAppend fAppend := ⟨fun hm rx ry ⟨n, ts, y, e1, e2, z, p⟩ o => by
  subst e2
  obtain ⟨a, us, rfl, h1, h2, rfl, h3, h4⟩ := refAt_ok hm rx e1
  obtain ⟨yv, rfl, r⟩ := ry.one
  exact ⟨a, us, yv, rfl, rfl, h3, by rw [h4.len]; exact z, o _ _ _ _ _ (Grow.wr hm h3 (List.mem_of_getElem? h1)) (hm.wr h3 h1 (h4.app (RTs.cons r RTs.nil))) RT.non_ p⟩⟩
theorem m_extend : SimM K rExtend fExtend := ⟨fun hm rx ry ⟨n, ts, y, ws, e1, e2, e3, z, p⟩ o => by
  subst e2
  obtain ⟨a, us, rfl, h1, h2, rfl, h3, h4⟩ := refAt_ok hm rx e1
  obtain ⟨yv, rfl, r⟩ := ry.one
  obtain ⟨m, b, vs, _, _, _, rfl, k2, k3⟩ := lstAt_ok hm r e3
  exact ⟨a, b, us, vs, rfl, rfl, h3, k2, by rw [h4.len, k3.len]; exact z, o _ _ _ _ _ (Grow.wr hm h3 (List.mem_of_getElem? h1)) (hm.wr h3 h1 (h4.app k3)) RT.non_ p⟩⟩
theorem flat_ok {t : Tr} {v : V} (r : RT K H ρ t v) (f : flatT t = true) : flatV v = true := by
  cases t <;> first | (cases f; done) | (unfold RT at r; rw [r]; rfl)
theorem flats_ok : ∀ {ts : List Tr} {vs : List V}, RTs K H ρ ts vs → ts.all flatT = true → vs.all flatV = true
  | [], _, r, _ => by unfold RTs at r; rw [r]; rfl
  | t :: ts, _, r, f => by
    unfold RTs at r
    obtain ⟨x, ys, rfl, h1, h2⟩ := r
    rw [List.all_cons, Bool.and_eq_true] at f ⊢
    exact ⟨flat_ok h1 f.1, flats_ok h2 f.2⟩
theorem eqvT_ok {t u : Tr} {v w : V} (r : RT K H ρ t v) (s : RT K H ρ u w) (f : flatT t = true) (g : flatT u = true) : eqV v w = eqvT t u := by
  cases t <;> (try (cases f; done)) <;> cases u <;> (try (cases g; done)) <;> (unfold RT at r s; rw [r, s]; rfl)
theorem any_ok {u : Tr} {w : V} (s : RT K H ρ u w) (g : flatT u = true) : ∀ {ts : List Tr} {vs : List V}, RTs K H ρ ts vs → ts.all flatT = true → inV w vs = ts.any fun y => eqvT y u
  | [], _, r, _ => by unfold RTs at r; rw [r]; rfl
  | t :: ts, _, r, f => by
    unfold RTs at r
    obtain ⟨x, ys, rfl, h1, h2⟩ := r
    rw [List.all_cons, Bool.and_eq_true] at f
    have ih := any_ok s g h2 f.2
    unfold inV at ih ⊢
    rw [List.any_cons, List.any_cons, eqvT_ok h1 s f.1 g, ih]
theorem s_in {neg : Bool} : Sim2 K (rIn K neg) (fIn neg) := ⟨fun hm rx ry ⟨ts, e1, f1, f2, p⟩ o => by
  obtain ⟨a, us, rfl, h2, h3⟩ := seqAt_ok hm ry e1
  exact ⟨a, us, rfl, h2, flat_ok rx f1, flats_ok h3 f2, by rw [any_ok rx f1 h3 f2]; exact o _ _ _ _ _ Grow.refl hm RT.bl_ p⟩⟩
end
/-! ### methods of built-in things -/
def fBM (fr : Tr → FC) (fo : FE) (fa : FA) : FE := fun L M P => fo L M fun x M1 => (lstAt M1 x).isSome = true ∧ fa L M1 fun xs M2 => fr x xs M2 P
def isStr : Tr → Bool
  | .str _ => true
  | _ => false
def fMS (fr : Tr → FC) (fo : FE) (fa : FA) : FE := fun L M P => fo L M fun x M1 => isStr x = true ∧ fa L M1 fun xs M2 => fr x xs M2 P
section
variable {K : PySem.W.Frag} {B : Bs} {to : TE} {fo : FE} {ta : TA} {fa : FA} {te : TE} {fe : FE} {r : V → List V → Hp → VK → Prop} {fr : Tr → FC}
theorem sim_BML (s : SimM K r fr) (a : SimE K B to fo) (b : SimA K B ta fa) : SimE K B (tBM K "list" r to ta) (fBM fr fo fa) :=
  ⟨fun hl hm h o => a.run hl hm h fun x xv H1 ρ1 M1 g1 m1 rx ⟨e, h1⟩ => by
    obtain ⟨ts, ht⟩ := Option.isSome_iff_exists.mp e
    obtain ⟨n, a, us, _, _, _, rfl, h2, h3⟩ := lstAt_ok m1 rx ht
    exact ⟨.inl ⟨rfl, _, .inl (.inl h2)⟩, b.run (hl.mono g1) m1 h1 fun xs xvs H2 ρ2 M2 g2 m2 rxs h2 => s.run m2 (rx.mono g2) rxs h2 (o.step (g1.trans g2))⟩⟩
theorem sim_M1 (s : SimM K r fr) (a : SimE K B to fo) (b : SimE K B te fe) : SimE K B (tM1 r to te) (fMS fr fo (fCons fe fNil)) :=
  ⟨fun hl hm h o => a.run hl hm h fun x xv H1 ρ1 M1 g1 m1 rx ⟨e, h1⟩ => by
    cases x with
    | str z => exact ⟨⟨z, rx.str_inv⟩, b.run (hl.mono g1) m1 h1 fun y yv H2 ρ2 M2 g2 m2 ry h2 => s.run m2 (rx.mono g2) (RTs.cons ry RTs.nil) h2 (o.step (g1.trans g2))⟩
    | _ => cases e⟩
theorem sim_M0 (s : SimM K r fr) (a : SimE K B to fo) : SimE K B (tM0 r to) (fMS fr fo fNil) :=
  ⟨fun hl hm h o => a.run hl hm h fun x xv H1 ρ1 M1 g1 m1 rx ⟨e, h1⟩ => by
    cases x with
    | str z => exact ⟨⟨z, rx.str_inv⟩, s.run m1 rx RTs.nil h1 (o.step g1)⟩
    | _ => cases e⟩
end
end Fm

set_option Elab.async false
set_option linter.all false
set_option maxRecDepth 100000
set_option maxHeartbeats 4000000
namespace Fm
open PySem PySem.Spec PyProof.Rows L2
/-! ### forgetting: what lies behind place n -/
mutual
def Tr.bel (n : Nat) : Tr → Bool
  | .ref k => decide (k < n)
  | .tup ts => Tr.bels n ts
  | _ => true
def Tr.bels (n : Nat) : List Tr → Bool
  | [] => true
  | t :: ts => Tr.bel n t && Tr.bels n ts
end
def belF (n : Nat) : List (Str × Tr) → Bool
  | [] => true
  | p :: fs => Tr.bel n p.2 && belF n fs
def belK (n : Nat) : List (L2.Key × Tr) → Bool
  | [] => true
  | p :: fs => Tr.bel n p.2 && belK n fs
def O.bel (n : Nat) : O → Bool
  | .lst ts => Tr.bels n ts
  | .ins _ fs => belF n fs
  | .tab _ _ => decide (1 ≤ n)
  | .scr _ _ _ _ => true
  | .dic ps => belK n ps
def belM (n : Nat) : Mem → Bool
  | [] => true
  | o :: M => O.bel n o && belM n M
def belL (n : Nat) : Loc → Bool
  | [] => true
  | none :: L => belL n L
  | some t :: L => Tr.bel n t && belL n L
/-- fewer slots are known -/
def LocLe : Loc → Loc → Prop
  | [], L => L = []
  | none :: L', L => ∃ u L1, L = u :: L1 ∧ LocLe L' L1
  | some t :: L', L => ∃ L1, L = some t :: L1 ∧ LocLe L' L1
theorem LocLe.refl : ∀ L : Loc, LocLe L L
  | [] => rfl
  | none :: L => ⟨none, L, rfl, LocLe.refl L⟩
  | some t :: L => ⟨L, rfl, LocLe.refl L⟩
section
variable {K : PySem.W.Frag} {B : Bs} {H H' : Hp} {ρ ρ' : List Addr} {n : Nat}
mutual
theorem RT.cut : ∀ {t : Tr} {v : V}, RT K H ρ t v → Tr.bel n t = true → RT K H (ρ.take n) t v
  | .non, _, h, _ => h
  | .bl _, _, h, _ => h
  | .int _, _, h, _ => h
  | .str _, _, h, _ => h
  | .raw _, _, h, _ => h
  | .ref k, _, h, b => by
    unfold RT at h ⊢
    obtain ⟨a, h1, h2⟩ := h
    unfold Tr.bel at b
    exact ⟨a, by rw [List.getElem?_take, if_pos (of_decide_eq_true b)]; exact h1, h2⟩
  | .tup ts, _, h, b => by
    unfold RT at h ⊢
    obtain ⟨a, xs, h1, h2, h3⟩ := h
    unfold Tr.bel at b
    exact ⟨a, xs, h1, h2, RTs.cutN h3 b⟩
theorem RTs.cutN : ∀ {ts : List Tr} {vs : List V}, RTs K H ρ ts vs → Tr.bels n ts = true → RTs K H (ρ.take n) ts vs
  | [], _, h, _ => by
    unfold RTs at h ⊢
    exact h
  | t :: ts, _, h, b => by
    unfold RTs at h ⊢
    obtain ⟨x, ys, h1, h2, h3⟩ := h
    unfold Tr.bels at b
    rw [Bool.and_eq_true] at b
    exact ⟨x, ys, h1, RT.cut h2 b.1, RTs.cutN h3 b.2⟩
end
theorem RFs.cut : ∀ {ts : List (Str × Tr)} {vs : List (Str × V)}, RFs K H ρ ts vs → belF n ts = true → RFs K H (ρ.take n) ts vs
  | [], _, h, _ => h
  | t :: ts, _, h, b => by
    obtain ⟨x, ys, h1, h2, h3⟩ := h
    unfold belF at b
    rw [Bool.and_eq_true] at b
    exact ⟨x, ys, h1, RT.cut h2 b.1, RFs.cut h3 b.2⟩
theorem RKs.cut : ∀ {ts : List (L2.Key × Tr)} {vs : List (L2.Key × V)}, RKs K H ρ ts vs → belK n ts = true → RKs K H (ρ.take n) ts vs
  | [], _, h, _ => h
  | t :: ts, _, h, b => by
    obtain ⟨x, ys, h1, h2, h3⟩ := h
    unfold belK at b
    rw [Bool.and_eq_true] at b
    exact ⟨x, ys, h1, RT.cut h2 b.1, RKs.cut h3 b.2⟩
theorem RL.cut : ∀ {L : Loc} {σ : L2.St}, RL K H ρ L σ → belL n L = true → RL K H (ρ.take n) L σ
  | [], _, h, _ => h
  | none :: L, _, h, b => by
    obtain ⟨v, τ, h1, h2, h3⟩ := h
    unfold belL at b
    exact ⟨v, τ, h1, trivial, RL.cut h3 b⟩
  | some t :: L, _, h, b => by
    obtain ⟨v, τ, h1, ⟨x, h4, h5⟩, h3⟩ := h
    unfold belL at b
    rw [Bool.and_eq_true] at b
    exact ⟨v, τ, h1, ⟨x, h4, RT.cut h5 b.1⟩, RL.cut h3 b.2⟩
theorem RL.le : ∀ {L' L : Loc} {σ : L2.St}, LocLe L' L → RL K H ρ L σ → RL K H ρ L' σ
  | [], _, _, e, h => by
    have e : _ = ([] : Loc) := e
    subst e
    exact h
  | none :: L', _, _, e, h => by
    obtain ⟨u, L1, rfl, e⟩ := e
    obtain ⟨v, τ, h1, h2, h3⟩ := h
    exact ⟨v, τ, h1, trivial, RL.le e h3⟩
  | some t :: L', _, _, e, h => by
    obtain ⟨L1, rfl, e⟩ := e
    obtain ⟨v, τ, h1, h2, h3⟩ := h
    exact ⟨v, τ, h1, h2, RL.le e h3⟩
theorem belM_get : ∀ {M : Mem} {k : Nat} {o : O}, belM n M = true → M[k]? = some o → O.bel n o = true
  | [], _, _, _, e => by simp at e
  | u :: M, 0, o, b, e => by
    have e' : u = o := by simpa using e
    subst e'
    unfold belM at b
    rw [Bool.and_eq_true] at b
    exact b.1
  | u :: M, k + 1, o, b, e => by
    unfold belM at b
    rw [Bool.and_eq_true] at b
    exact belM_get b.2 (by simpa using e)
theorem RM.cut {M : Mem} (r : RM K H ρ M) (b : belM n (M.take n) = true) : RM K H (ρ.take n) (M.take n) := by
  refine ⟨by rw [List.length_take, List.length_take, r.len], fun k o e => ?_, r.nd.sublist (List.take_sublist _ _)⟩
  have eb := belM_get b e
  rw [List.getElem?_take] at e
  split at e
  · rename_i hk
    obtain ⟨a, h1, h2⟩ := r.at_ k o e
    refine ⟨a, by rw [List.getElem?_take, if_pos hk]; exact h1, ?_⟩
    cases o with
    | lst ts =>
      obtain ⟨xs, h3, h4⟩ := h2
      exact ⟨xs, h3, RTs.cutN h4 eb⟩
    | ins C fs =>
      obtain ⟨dx, gs, h3, h5, h4⟩ := h2
      exact ⟨dx, gs, h3, h5, RFs.cut h4 eb⟩
    | tab P q => exact h2
    | scr ns k m r => exact h2
    | dic ps =>
      obtain ⟨kvs, h3, h4⟩ := h2
      exact ⟨kvs, h3, RKs.cut h4 eb⟩
  · cases e
theorem Grow.cut (g : Grow K H ρ H' ρ') (h : ρ.length ≤ n) : Grow K H ρ H' (ρ'.take n) := by
  obtain ⟨t, e⟩ := g.ext
  refine ⟨⟨t.take (n - ρ.length), ?_⟩, g.tup, g.oth, fun a ha hn => g.new a (List.mem_of_mem_take ha) hn, g.cod⟩
  rw [e, List.take_append, List.take_of_length_le h]
end
/-- the wish J holds of what is left when something is forgotten, not what stands before place k -/
def Forget (k : Nat) (J : Loc → Mem → Prop) : Loc → Mem → Prop := fun L M => ∃ n L', k ≤ n ∧ LocLe L' L ∧ belL n L' = true ∧ belM n (M.take n) = true ∧ J L' (M.take n)
theorem Tr.bel_mono {n m : Nat} (h : n ≤ m) : ∀ {t : Tr}, Tr.bel n t = true → Tr.bel m t = true := by
  intro t
  refine Tr.rec (motive_1 := fun t => Tr.bel n t = true → Tr.bel m t = true) (motive_2 := fun ts => Tr.bels n ts = true → Tr.bels m ts = true) ?_ ?_ ?_ ?_ ?_ ?_ ?_ ?_ ?_ t
  · intro _; rfl
  · intro _ _; rfl
  · intro _ _; rfl
  · intro _ _; rfl
  · intro ts ih b
    unfold Tr.bel at b ⊢
    exact ih b
  · intro k b
    unfold Tr.bel at b ⊢
    exact decide_eq_true (Nat.lt_of_lt_of_le (of_decide_eq_true b) h)
  · intro _ _; rfl
  · intro _; rfl
  · intro t ts h1 h2 b
    unfold Tr.bels at b ⊢
    rw [Bool.and_eq_true] at b ⊢
    exact ⟨h1 b.1, h2 b.2⟩
theorem RT.bel_len {K : PySem.W.Frag} {H : Hp} {ρ : List Addr} : ∀ {t : Tr} {v : V}, RT K H ρ t v → Tr.bel ρ.length t = true := by
  intro t
  refine Tr.rec (motive_1 := fun t => ∀ {v : V}, RT K H ρ t v → Tr.bel ρ.length t = true) (motive_2 := fun ts => ∀ {vs : List V}, RTs K H ρ ts vs → Tr.bels ρ.length ts = true) ?_ ?_ ?_ ?_ ?_ ?_ ?_ ?_ ?_ t
  · intro _ _; rfl
  · intro _ _ _; rfl
  · intro _ _ _; rfl
  · intro _ _ _; rfl
  · intro ts ih v h
    unfold RT at h
    obtain ⟨a, xs, _, _, h3⟩ := h
    unfold Tr.bel
    exact ih h3
  · intro k v h
    unfold RT at h
    obtain ⟨a, h1, _⟩ := h
    unfold Tr.bel
    exact decide_eq_true (List.getElem?_eq_some_iff.mp h1).1
  · intro _ _ _; rfl
  · intro _ _; rfl
  · intro t ts h1 h2 vs h
    unfold RTs at h
    obtain ⟨x, ys, _, h3, h4⟩ := h
    unfold Tr.bels
    rw [Bool.and_eq_true]
    exact ⟨h1 h3, h2 h4⟩
/-! ### calls -/
abbrev PXF := Addr → List (Str × Tr) → Mem → Prop
abbrev FSp := List Tr → Mem → PF → PXF → Prop
/-- the exception's own fields -/
def XR (K : PySem.W.Frag) (H : Hp) (ρ : List Addr) (fs : List (Str × Tr)) (d : Option Addr) : Prop := (fs = [] ∧ d = none) ∨ ∃ dd gs, d = some dd ∧ H dd = some (.xd gs) ∧ RFs K H ρ fs gs
def OutX (K : PySem.W.Frag) (H : Hp) (ρ : List Addr) (P : PXF) (E : XK) : Prop := ∀ C fs d H' ρ' M', Grow K H ρ H' ρ' → RM K H' ρ' M' → XR K H' ρ' fs d → P C fs M' → E (.ref C) d H'
theorem OutX.step {K : PySem.W.Frag} {H H' : Hp} {ρ ρ' : List Addr} {P : PXF} {E : XK} (g : Grow K H ρ H' ρ') (o : OutX K H ρ P E) : OutX K H' ρ' P E := fun C fs d H2 ρ2 M2 g2 m x p => o C fs d H2 ρ2 M2 (g.trans g2) m x p
structure SimSp (K : PySem.W.Frag) (sp : Sp) (fsp : FSp) : Prop where
  run : ∀ {H ρ M ts vs P PX Q E}, RTs K H ρ ts vs → RM K H ρ M → fsp ts M P PX → Out K H ρ P Q → OutX K H ρ PX E → sp vs H Q E
/-- a promise said of trees -/
def spF (K : PySem.W.Frag) (fsp : FSp) : Sp := fun vs H Q E => ∃ ts ρ M P PX, RTs K H ρ ts vs ∧ RM K H ρ M ∧ fsp ts M P PX ∧ Out K H ρ P Q ∧ OutX K H ρ PX E
theorem simSpF {K : PySem.W.Frag} {fsp : FSp} : SimSp K (spF K fsp) fsp := ⟨fun r m h o x => ⟨_, _, _, _, _, r, m, h, o, x⟩⟩
def noX : PXF := fun _ _ _ => False
theorem outX_no {K : PySem.W.Frag} {H : Hp} {ρ : List Addr} {E : XK} : OutX K H ρ noX E := fun _ _ _ _ _ _ _ _ _ p => p.elim
def fCall (fsp : FSp) (PX : PXF) (fa : FA) : FE := fun L M P => fa L M fun ts M1 => fsp ts M1 P PX
section
variable {K : PySem.W.Frag} {B : Bs} {ta : TA} {fa : FA} {sp : Sp} {fsp : FSp} {E : XK}
/-- a call that raises nothing -/
theorem sim_call (s : SimSp K sp fsp) (a : SimA K B ta fa) : SimE K B (tCall sp [] E ta) (fCall fsp noX fa) :=
  ⟨fun hl hm h o => a.run hl hm h fun ts xs H1 ρ1 M1 g1 m1 rx h1 => s.run (by rw [List.append_nil]; exact rx) m1 h1 (o.step g1) outX_no⟩
/-- a call out of which an exception may leave -/
theorem sim_callX {PX : PXF} (hE : OutX K B.1 B.2 PX E) (s : SimSp K sp fsp) (a : SimA K B ta fa) : SimE K B (tCall sp [] E ta) (fCall fsp PX fa) :=
  ⟨fun hl hm h o => a.run hl hm h fun ts xs H1 ρ1 M1 g1 m1 rx h1 => s.run (by rw [List.append_nil]; exact rx) m1 h1 (o.step g1) (hE.step (hl.gr.trans g1))⟩
end
/-! ### statements -/
structure FEnds where
  nx : Loc → Mem → Prop
  rt : PF
  bk : Loc → Mem → Prop := fun _ _ => False
  ct : Loc → Mem → Prop := fun _ _ => False
abbrev FS := FEnds → Loc → Mem → Prop
abbrev FG := Tr → Loc → Mem → (Loc → Mem → Prop) → Prop
def OutL (K : PySem.W.Frag) (B : Bs) (H : Hp) (ρ : List Addr) (P : Loc → Mem → Prop) (Q : L2.St → Hp → Prop) : Prop := ∀ L σ H' ρ' M', Grow K H ρ H' ρ' → RX K B H' ρ' L σ → RM K H' ρ' M' → P L M' → Q σ H'
theorem OutL.step {K : PySem.W.Frag} {B : Bs} {H H' : Hp} {ρ ρ' : List Addr} {P : Loc → Mem → Prop} {Q : L2.St → Hp → Prop} (g : Grow K H ρ H' ρ') (o : OutL K B H ρ P Q) : OutL K B H' ρ' P Q := fun L σ H2 ρ2 M2 g2 l m p => o L σ H2 ρ2 M2 (g.trans g2) l m p
structure EndR (K : PySem.W.Frag) (B : Bs) (H : Hp) (ρ : List Addr) (D' : FEnds) (D : Ends) : Prop where
  nx : OutL K B H ρ D'.nx D.nx
  rt : Out K H ρ D'.rt D.rt
  bk : OutL K B H ρ D'.bk D.bk
  ct : OutL K B H ρ D'.ct D.ct
theorem EndR.step {K : PySem.W.Frag} {B : Bs} {H H' : Hp} {ρ ρ' : List Addr} {D' : FEnds} {D : Ends} (g : Grow K H ρ H' ρ') (o : EndR K B H ρ D' D) : EndR K B H' ρ' D' D := ⟨o.nx.step g, o.rt.step g, o.bk.step g, o.ct.step g⟩
structure SimS (K : PySem.W.Frag) (B : Bs) (ts : TS) (fs : FS) : Prop where
  run : ∀ {σ H ρ L M D' D}, RX K B H ρ L σ → RM K H ρ M → fs D' L M → EndR K B H ρ D' D → ts D σ H
structure SimG (K : PySem.W.Frag) (B : Bs) (g : TG) (fg : FG) : Prop where
  run : ∀ {σ H ρ L M x xv P Q}, RX K B H ρ L σ → RM K H ρ M → RT K H ρ x xv → fg x L M P → OutL K B H ρ P Q → g xv σ H Q
structure SimGs (K : PySem.W.Frag) (B : Bs) (g : TGs) (fg : List Tr → Loc → Mem → (Loc → Mem → Prop) → Prop) : Prop where
  run : ∀ {σ H ρ L M xs xvs P Q}, RX K B H ρ L σ → RM K H ρ M → RTs K H ρ xs xvs → fg xs L M P → OutL K B H ρ P Q → g xvs σ H Q
def fName (i : Nat) : FG := fun t L M P => P (L.set i (some t)) M
def fGNil : List Tr → Loc → Mem → (Loc → Mem → Prop) → Prop := fun ts L M P => ts = [] ∧ P L M
def fGCons (f : FG) (fs : List Tr → Loc → Mem → (Loc → Mem → Prop) → Prop) : List Tr → Loc → Mem → (Loc → Mem → Prop) → Prop := fun ts L M P => ∃ t us, ts = t :: us ∧ f t L M fun L1 M1 => fs us L1 M1 P
def fGTup (n : Nat) (fs : List Tr → Loc → Mem → (Loc → Mem → Prop) → Prop) : FG := fun t L M P => ∃ ts, tupOf t = some ts ∧ ts.length = n ∧ fs ts L M P
def fSetL : Tr → Tr → Tr → Mem → (Mem → Prop) → Prop := fun o i v M P => ∃ n ts k j, refAt M o = some (n, ts) ∧ i = .int k ∧ ixN ts.length k = some j ∧ P (M.set n (.lst (ts.set j v)))
def fGSub (fo fi : FE) (fset : Tr → Tr → Tr → Mem → (Mem → Prop) → Prop) : FG := fun v L M P => fo L M fun o M1 => fi L M1 fun i M2 => fset o i v M2 fun M3 => P L M3
structure SimSet (K : PySem.W.Frag) (t : TSet) (f : Tr → Tr → Tr → Mem → (Mem → Prop) → Prop) : Prop where
  run : ∀ {H ρ M o i v ov iv vv P Q}, RM K H ρ M → RT K H ρ o ov → RT K H ρ i iv → RT K H ρ v vv → f o i v M P → (∀ H' ρ' M', Grow K H ρ H' ρ' → RM K H' ρ' M' → P M' → Q H') → t ov iv vv H Q
def fNext : FS := fun D L M => D.nx L M
def fSeq (f g : FS) : FS := fun D L M => f { D with nx := g D } L M
def fCut (f g : FS) : FS := fun D L M => ∃ J, f { D with nx := J } L M ∧ ∀ L' M', J L' M' → g D L' M'
def fBreak : FS := fun D L M => D.bk L M
def fCont : FS := fun D L M => D.ct L M
def fDrop (fe : FE) : FS := fun D L M => fe L M fun _ M1 => D.nx L M1
def fRet (fe : FE) : FS := fun D L M => fe L M D.rt
def fRetN : FS := fun D _ M => D.rt .non M
def fIfS (ft : FT) (f g : FS) : FS := fun D L M => ft L M fun b M1 => if b = true then f D L M1 else g D L M1
def fNever : FS := fun _ _ _ => False
def fAsg (fe : FE) (fg : FG) : FS := fun D L M => fe L M fun x M1 => fg x L M1 D.nx
def fPar (i j : Nat) (fa : FA) : FS := fun D L M => fa L M fun vs M1 => ∃ v w, vs = [v, w] ∧ D.nx ((L.set i (some v)).set j (some w)) M1
def fAug (i : Nat) (fe : FE) (f2 : F2) : FS := fun D L M => ∃ x, L[i]? = some (some x) ∧ fe L M fun y M1 => f2 x y M1 fun z M2 => D.nx (L.set i (some z)) M2
section
variable {K : PySem.W.Frag} {B : Bs} {te to ti : TE} {fe fo fi : FE} {g : TG} {fg : FG} {gs : TGs} {fgs : List Tr → Loc → Mem → (Loc → Mem → Prop) → Prop} {t u : TS} {f f' : FS} {tt : TT} {ft : FT} {ta : TA} {fa : FA}
theorem RX.set {H : Hp} {ρ : List Addr} {L : Loc} {σ : L2.St} {t : Tr} {v : V} (x : RX K B H ρ L σ) (r : RT K H ρ t v) (i : Nat) : RX K B H ρ (L.set i (some t)) (σ.set i (some v)) := ⟨x.rl.set r i, x.gr⟩
theorem sim_name {i : Nat} : SimG K B (gName i) (fName i) := ⟨fun hl hm rx p o => o _ _ _ _ _ Grow.refl (hl.set rx i) hm p⟩
theorem sim_gnil : SimGs K B gNil fGNil := ⟨fun hl hm rx ⟨e, p⟩ o => by
  subst e
  unfold RTs at rx
  exact ⟨rx, o _ _ _ _ _ Grow.refl hl hm p⟩⟩
theorem sim_gcons (a : SimG K B g fg) (b : SimGs K B gs fgs) : SimGs K B (gCons g gs) (fGCons fg fgs) := ⟨fun hl hm rx ⟨t, us, e, p⟩ o => by
  subst e
  unfold RTs at rx
  obtain ⟨x, ys, rfl, r1, r2⟩ := rx
  exact ⟨x, ys, rfl, a.run hl hm r1 p fun L1 σ1 H1 ρ1 M1 g1 l1 m1 p1 => b.run l1 m1 (r2.mono g1) p1 (o.step g1)⟩⟩
theorem sim_gtup {n : Nat} (b : SimGs K B gs fgs) : SimG K B (gTup K n gs) (fGTup n fgs) := ⟨fun hl hm rx ⟨ts, e, en, p⟩ o => by
  obtain ⟨a, xs, h1, h2, h3⟩ := tupOf_ok rx e
  exact ⟨a, xs, h1, h2, by rw [h3.len]; exact en, b.run hl hm h3 p o⟩⟩
theorem set_list : SimSet K rSetL fSetL := ⟨fun hm ro ri rv ⟨n, ts, k, j, e1, e2, e3, p⟩ o => by
  subst e2
  obtain ⟨a, us, rfl, h1, h2, rfl, h3, h4⟩ := refAt_ok hm ro e1
  exact ⟨a, us, k, j, rfl, ri.int_inv, h3, by rw [h4.len]; exact e3, o _ _ _ (Grow.wr hm h3 (List.mem_of_getElem? h1)) (hm.wr h3 h1 (h4.set rv j)) p⟩⟩
theorem sim_gsub {s : TSet} {fs : Tr → Tr → Tr → Mem → (Mem → Prop) → Prop} (z : SimSet K s fs) (a : SimE K B to fo) (b : SimE K B ti fi) : SimG K B (gSub to ti s) (fGSub fo fi fs) :=
  ⟨fun hl hm rx h o => a.run hl hm h fun x xv H1 ρ1 M1 g1 m1 r1 h1 => b.run (hl.mono g1) m1 h1 fun y yv H2 ρ2 M2 g2 m2 r2 h2 => z.run m2 (r1.mono g2) r2 (rx.mono (g1.trans g2)) h2 fun H3 ρ3 M3 g3 m3 p => o _ _ _ _ _ ((g1.trans g2).trans g3) (hl.mono ((g1.trans g2).trans g3)) m3 p⟩
theorem sim_next : SimS K B tNext fNext := ⟨fun hl hm p e => e.nx _ _ _ _ _ Grow.refl hl hm p⟩
theorem sim_seq (a : SimS K B t f) (b : SimS K B u f') : SimS K B (tSeq t u) (fSeq f f') :=
  ⟨fun hl hm p e => a.run hl hm p ⟨fun L σ H1 ρ1 M1 g1 l1 m1 p1 => b.run l1 m1 p1 (e.step g1), e.rt, e.bk, e.ct⟩⟩
theorem sim_cut (a : SimS K B t f) (b : SimS K B u f') : SimS K B (C8.tCut t u) (fCut f f') :=
  ⟨fun {σ H ρ L M D' D} hl hm ⟨J, p, q⟩ e => ⟨u D, a.run hl hm p ⟨fun L σ H1 ρ1 M1 g1 l1 m1 p1 => b.run l1 m1 (q _ _ p1) (e.step g1), e.rt, e.bk, e.ct⟩, fun _ _ h => h⟩⟩
theorem sim_break : SimS K B tBreak fBreak := ⟨fun hl hm p e => e.bk _ _ _ _ _ Grow.refl hl hm p⟩
theorem sim_cont : SimS K B tCont fCont := ⟨fun hl hm p e => e.ct _ _ _ _ _ Grow.refl hl hm p⟩
theorem sim_drop (a : SimE K B te fe) : SimS K B (tDrop te) (fDrop fe) := ⟨fun hl hm p e => a.run hl hm p fun _ _ H1 ρ1 M1 g1 m1 _ p1 => e.nx _ _ _ _ _ g1 (hl.mono g1) m1 p1⟩
theorem sim_ret (a : SimE K B te fe) : SimS K B (tRet te) (fRet fe) := ⟨fun hl hm p e => a.run hl hm p e.rt⟩
theorem sim_retN : SimS K B tRetN fRetN := ⟨fun hl hm p e => e.rt _ _ _ _ _ Grow.refl hm RT.non_ p⟩
theorem sim_ifS (c : SimT K B tt ft) (a : SimS K B t f) (b : SimS K B u f') : SimS K B (tIfS tt t u) (fIfS ft f f') := ⟨fun hl hm p e => c.run hl hm p fun k H1 ρ1 M1 g1 m1 h1 => by
  cases k with
  | true => rw [if_pos rfl] at h1 ⊢; exact a.run (hl.mono g1) m1 h1 (e.step g1)
  | false => rw [if_neg (by decide)] at h1 ⊢; exact b.run (hl.mono g1) m1 h1 (e.step g1)⟩
theorem sim_never : SimS K B tNever fNever := ⟨fun _ _ p _ => p⟩
theorem sim_asg (a : SimE K B te fe) (b : SimG K B g fg) : SimS K B (tAsg te g) (fAsg fe fg) :=
  ⟨fun hl hm p e => a.run hl hm p fun x xv H1 ρ1 M1 g1 m1 r1 p1 => b.run (hl.mono g1) m1 r1 p1 (e.nx.step g1)⟩
theorem sim_par {i j : Nat} (a : SimA K B ta fa) : SimS K B (tPar i j ta) (fPar i j fa) := ⟨fun hl hm p e => a.run hl hm p fun xs xvs H1 ρ1 M1 g1 m1 r1 ⟨v, w, e1, p1⟩ => by
  subst e1
  obtain ⟨x, y, rfl, r2, r3⟩ := r1.two
  exact ⟨x, y, rfl, e.nx _ _ _ _ _ g1 (((hl.mono g1).set r2 i).set r3 j) m1 p1⟩⟩
theorem sim_aug {i : Nat} {ip : TIp} {f2 : F2} (s : Sim2 K ip f2) (a : SimE K B te fe) : SimS K B (tAug i te ip) (fAug i fe f2) := ⟨fun hl hm ⟨x, e1, p⟩ e => by
  obtain ⟨v, h1, h2⟩ := hl.get e1
  exact ⟨v, h1, a.run hl hm p fun y yv H1 ρ1 M1 g1 m1 r1 p1 => s.run m1 (h2.mono g1) r1 p1 fun z zv H2 ρ2 M2 g2 m2 r2 p2 => e.nx _ _ _ _ _ (g1.trans g2) ((hl.mono (g1.trans g2)).set r2 i) m2 p2⟩⟩
end
end Fm

set_option Elab.async false
set_option linter.all false
set_option maxRecDepth 100000
set_option maxHeartbeats 4000000
namespace Fm
open PySem PySem.Spec PyProof.Rows L2
/-! ### what a for walks -/
structure FIt where
  items : List Tr
  ok : Mem → Prop
abbrev FI := Loc → Mem → (FIt → Mem → Prop) → Prop
structure ItSim (K : PySem.W.Frag) (it : FIt) (J : It) (S : Hp → List Addr → Prop) : Prop where
  st : ∀ {H ρ H' ρ'}, Grow K H ρ H' ρ' → S H ρ → S H' ρ'
  stop : ∀ {H ρ M}, S H ρ → RM K H ρ M → it.ok M → J.stop it.items.length H
  go : ∀ {H ρ M} {i : Nat} {t : Tr}, S H ρ → RM K H ρ M → it.ok M → it.items[i]? = some t → J.go i H
  yld : ∀ {H ρ M} {i : Nat} {t : Tr} {x H'}, S H ρ → RM K H ρ M → it.ok M → it.items[i]? = some t → J.yld i H x H' → Grow K H ρ H' ρ ∧ RM K H' ρ M ∧ RT K H' ρ t x
structure SimI (K : PySem.W.Frag) (B : Bs) (wi : TI) (fi : FI) : Prop where
  run : ∀ {σ H ρ L M R R'}, RX K B H ρ L σ → RM K H ρ M → fi L M R → (∀ it J S H' ρ' M', Grow K H ρ H' ρ' → RM K H' ρ' M' → ItSim K it J S → S H' ρ' → R it M' → R' J H') → wi σ H R'
def fIL (fe : FE) : FI := fun L M R => fe L M fun x M1 => ∃ ts, lstAt M1 x = some ts ∧ R ⟨ts, fun M => lstAt M x = some ts⟩ M1
def fIT (fe : FE) : FI := fun L M R => fe L M fun x M1 => ∃ ts, tupOf x = some ts ∧ R ⟨ts, fun _ => True⟩ M1
def rngT (lo : Int) (n : Nat) : List Tr := (List.range n).map fun (k : Nat) => Tr.int (lo + (k : Int))
def fIR1 (fa : FA) : FI := fun L M R => fa L M fun vs M1 => ∃ j : Int, vs = [.int j] ∧ -(2 ^ 62) ≤ j ∧ j < 2 ^ 62 ∧ R ⟨rngT 0 j.toNat, fun _ => True⟩ M1
def fIR2 (fa : FA) : FI := fun L M R => fa L M fun vs M1 => ∃ i j : Int, vs = [.int i, .int j] ∧ (-(2 ^ 62) ≤ i ∧ i < 2 ^ 62 ∧ -(2 ^ 62) ≤ j ∧ j < 2 ^ 62) ∧ R ⟨rngT i (j - i).toNat, fun _ => True⟩ M1
def chrsT (x : Str) : List Tr := x.cps.toList.map fun (c : Nat) => Tr.str ⟨#[c]⟩
def fIS (fe : FE) : FI := fun L M R => fe L M fun x M1 => ∃ z, x = .str z ∧ R ⟨chrsT z, fun _ => True⟩ M1
def enumT (k : Nat) : List Tr → List Tr
  | [] => []
  | t :: ts => .tup [.int (k : Int), t] :: enumT (k + 1) ts
theorem enumT_get : ∀ {ts : List Tr} {k i : Nat} {t : Tr}, (enumT k ts)[i]? = some t → ∃ u, ts[i]? = some u ∧ t = .tup [.int ((k + i : Nat) : Int), u]
  | [], _, _, _, e => by simp [enumT] at e
  | u :: ts, k, 0, t, e => by
    simp only [enumT, List.getElem?_cons_zero] at e
    cases e
    exact ⟨u, rfl, rfl⟩
  | u :: ts, k, i + 1, t, e => by
    simp only [enumT, List.getElem?_cons_succ] at e
    obtain ⟨v, h1, h2⟩ := enumT_get e
    refine ⟨v, by simpa using h1, ?_⟩
    rw [h2]
    congr 4
    omega
theorem enumT_len : ∀ (ts : List Tr) (k : Nat), (enumT k ts).length = ts.length
  | [], _ => rfl
  | t :: ts, k => by simp [enumT, enumT_len ts]
def zipT : List Tr → List Tr → List Tr
  | a :: r, b :: s => .tup [a, b] :: zipT r s
  | _, _ => []
theorem zipT_len : ∀ (xs ys : List Tr), (zipT xs ys).length = min xs.length ys.length
  | [], _ => by simp [zipT]
  | _ :: _, [] => by simp [zipT]
  | a :: r, b :: s => by simp [zipT, zipT_len r s, Nat.succ_min_succ]
theorem zipT_get : ∀ {xs ys : List Tr} {i : Nat} {t : Tr}, (zipT xs ys)[i]? = some t → ∃ a b, xs[i]? = some a ∧ ys[i]? = some b ∧ t = .tup [a, b]
  | [], _, _, _, e => by simp [zipT] at e
  | _ :: _, [], _, _, e => by simp [zipT] at e
  | a :: r, b :: s, 0, t, e => by
    simp only [zipT, List.getElem?_cons_zero] at e
    cases e
    exact ⟨a, b, rfl, rfl, rfl⟩
  | a :: r, b :: s, i + 1, t, e => by
    simp only [zipT, List.getElem?_cons_succ] at e
    obtain ⟨u, v, h1, h2, h3⟩ := zipT_get e
    exact ⟨u, v, by simpa using h1, by simpa using h2, h3⟩
def fIEn (fa : FA) : FI := fun L M R => fa L M fun vs M1 => ∃ x ts, vs = [x] ∧ lstAt M1 x = some ts ∧ R ⟨enumT 0 ts, fun M => lstAt M x = some ts⟩ M1
def fIZ (fa : FA) : FI := fun L M R => fa L M fun vs M1 => ∃ x y ts us, vs = [x, y] ∧ lstAt M1 x = some ts ∧ lstAt M1 y = some us ∧ R ⟨zipT ts us, fun M => lstAt M x = some ts ∧ lstAt M y = some us⟩ M1
section
variable {K : PySem.W.Frag} {B : Bs} {te : TE} {fe : FE} {ta : TA} {fa : FA}
theorem lst_again {H H' : Hp} {ρ ρ' : List Addr} {M M' : Mem} {x : Tr} {a : Addr} {ts : List Tr} (g : ∃ n, x = .ref n ∧ ρ[n]? = some a) (hm : RM K H ρ M) (e : lstAt M x = some ts) : ∃ xs, H a = some (.lst xs) ∧ RTs K H ρ ts xs := by
  obtain ⟨n, rfl, hn⟩ := g
  obtain ⟨k, b, xs, h0, h1, _, h2, h3, h4⟩ := lstAt_ok hm (xv := .ref a) (by unfold RT; exact ⟨a, hn, rfl⟩) e
  cases h2
  exact ⟨xs, h3, h4⟩
theorem i_list (a : SimE K B te fe) : SimI K B (iList K te) (fIL fe) := ⟨fun hl hm h k => a.run hl hm h fun x xv H1 ρ1 M1 g1 m1 rx ⟨ts, e, r⟩ => by
  obtain ⟨n, b, xs, rfl, hn, _, rfl, h3, h4⟩ := lstAt_ok m1 rx e
  refine ⟨b, rfl, ⟨xs, .inl (.inl h3)⟩, k _ _ (fun H ρ => ∃ m, Tr.ref n = .ref m ∧ ρ[m]? = some b) H1 ρ1 M1 g1 m1 ⟨fun g ⟨m, e, z⟩ => ⟨m, e, ext_get g.ext z⟩, fun s hm e => ?_, fun s hm e ei => ?_, fun s hm e ei y => ?_⟩ ⟨n, rfl, hn⟩ r⟩
  · obtain ⟨xs, h1, h2⟩ := lst_again (ρ' := []) (M' := []) (H' := fun _ => none) s hm e
    exact ⟨xs, .inl (.inl h1), by rw [h2.len]; exact Nat.le_refl _⟩
  · obtain ⟨xs, h1, h2⟩ := lst_again (ρ' := []) (M' := []) (H' := fun _ => none) s hm e
    obtain ⟨x, h3, _⟩ := h2.get ei
    exact ⟨xs, x, .inl (.inl h1), h3⟩
  · obtain ⟨xs, h1, h2⟩ := lst_again (ρ' := []) (M' := []) (H' := fun _ => none) s hm e
    obtain ⟨x, h3, h4⟩ := h2.get ei
    obtain ⟨rfl, y⟩ := y
    have := y xs (.inl (.inl h1))
    rw [h3] at this
    cases this
    exact ⟨Grow.refl, hm, h4⟩⟩
theorem i_tup (a : SimE K B te fe) : SimI K B (iTup K te) (fIT fe) := ⟨fun hl hm h k => a.run hl hm h fun x xv H1 ρ1 M1 g1 m1 rx ⟨ts, e, r⟩ => by
  obtain ⟨b, xs, rfl, h3, h4⟩ := tupOf_ok rx e
  refine ⟨b, rfl, ⟨xs, h3⟩, k _ _ (fun H ρ => SqT K H b xs ∧ RTs K H ρ ts xs) H1 ρ1 M1 g1 m1 ⟨fun g ⟨s1, s2⟩ => ⟨g.tup _ _ s1, s2.mono g⟩, fun s hm e => ?_, fun s hm e ei => ?_, fun s hm e ei y => ?_⟩ ⟨h3, h4⟩ r⟩
  · exact ⟨xs, s.1, by rw [s.2.len]; exact Nat.le_refl _⟩
  · obtain ⟨x, h3, _⟩ := s.2.get ei
    exact ⟨xs, x, s.1, h3⟩
  · obtain ⟨x, h3, h4⟩ := s.2.get ei
    obtain ⟨rfl, y⟩ := y
    have := y xs s.1
    rw [h3] at this
    cases this
    exact ⟨Grow.refl, hm, h4⟩⟩
theorem rngT_get {lo : Int} {n i : Nat} {t : Tr} (e : (rngT lo n)[i]? = some t) : i < n ∧ t = .int (lo + (i : Int)) := by
  unfold rngT at e
  by_cases h : i < n
  · rw [List.getElem?_map, List.getElem?_range h] at e
    cases e
    exact ⟨h, rfl⟩
  · rw [List.getElem?_eq_none (by rw [List.length_map, List.length_range]; omega)] at e
    cases e
theorem rngT_len (lo : Int) (n : Nat) : (rngT lo n).length = n := by unfold rngT; rw [List.length_map, List.length_range]
theorem itr_sim {lo : Int} {n : Nat} : ItSim K ⟨rngT lo n, fun _ => True⟩ (Itr lo n) (fun _ _ => True) :=
  ⟨fun _ s => s, fun _ _ _ => by show n ≤ (rngT lo n).length; rw [rngT_len]; exact Nat.le_refl _, fun _ _ _ e => (rngT_get e).1, fun _ hm _ e y => by
    obtain ⟨rfl, rfl⟩ := y
    rw [(rngT_get e).2]
    exact ⟨Grow.refl, hm, RT.int_⟩⟩
theorem i_rng1 (a : SimA K B ta fa) : SimI K B (iRng1 ta) (fIR1 fa) := ⟨fun hl hm h k => a.run hl hm h fun xs xvs H1 ρ1 M1 g1 m1 rx ⟨j, e, q1, q2, r⟩ => by
  subst e
  obtain ⟨xv, rfl, r1⟩ := rx.one
  exact ⟨j, by rw [r1.int_inv], q1, q2, k _ _ _ H1 ρ1 M1 g1 m1 itr_sim trivial r⟩⟩
theorem i_rng2 (a : SimA K B ta fa) : SimI K B (iRng2 ta) (fIR2 fa) := ⟨fun hl hm h k => a.run hl hm h fun xs xvs H1 ρ1 M1 g1 m1 rx ⟨i, j, e, q, r⟩ => by
  subst e
  obtain ⟨x, y, rfl, r1, r2⟩ := rx.two
  exact ⟨i, j, by rw [r1.int_inv, r2.int_inv], q, k _ _ _ H1 ρ1 M1 g1 m1 itr_sim trivial r⟩⟩
theorem i_str (a : SimE K B te fe) : SimI K B (iStr te) (fIS fe) := ⟨fun hl hm h k => a.run hl hm h fun x xv H1 ρ1 M1 g1 m1 rx ⟨z, e, r⟩ => by
  subst e
  refine ⟨z, rx.str_inv, k _ _ (fun _ _ => True) H1 ρ1 M1 g1 m1 ⟨fun _ s => s, fun _ _ _ => ?_, fun {H ρ M i t} _ _ _ e => ?_, fun {H ρ M i t x H'} _ hm _ e y => ?_⟩ trivial r⟩
  · show z.cps.size ≤ (chrsT z).length
    unfold chrsT
    rw [List.length_map, Array.length_toList]
    exact Nat.le_refl _
  · show i < z.cps.size
    have h := (List.getElem?_eq_some_iff.mp e).1
    have h2 : (chrsT z).length = z.cps.size := by unfold chrsT; rw [List.length_map, Array.length_toList]
    have h : i < (chrsT z).length := h
    omega
  · obtain ⟨rfl, c, h1, rfl⟩ := y
    have e : (chrsT z)[i]? = some t := e
    unfold chrsT at e
    rw [List.getElem?_map, Array.getElem?_toList, h1] at e
    cases e
    exact ⟨Grow.refl, hm, RT.str_⟩⟩

theorem pair_new {H : Hp} {ρ : List Addr} {M : Mem} {p : Addr} {a b : Tr} {x y : V} (hm : RM K H ρ M) (hp : H p = none) (r1 : RT K H ρ a x) (r2 : RT K H ρ b y) : Grow K H ρ (upd H p (.tup [x, y])) ρ ∧ RM K (upd H p (.tup [x, y])) ρ M ∧ RT K (upd H p (.tup [x, y])) ρ (.tup [a, b]) (.ref p) :=
  ⟨Grow.laid hp, hm.laid hp, by unfold RT; exact ⟨p, _, rfl, .inl (.inl upd_same), RTs.cons (r1.mono (Grow.laid hp)) (RTs.cons (r2.mono (Grow.laid hp)) RTs.nil)⟩⟩
theorem i_enum (a : SimA K B ta fa) : SimI K B (iEnum K ta) (fIEn fa) := ⟨fun hl hm h k => a.run hl hm h fun xs xvs H1 ρ1 M1 g1 m1 rx ⟨x, ts, e, e1, r⟩ => by
  subst e
  obtain ⟨xv, rfl, r1⟩ := rx.one
  obtain ⟨n, b, us, rfl, hn, _, rfl, h3, h4⟩ := lstAt_ok m1 r1 e1
  refine ⟨b, us, rfl, .inl (.inl h3), k _ _ (fun H ρ => ∃ m, Tr.ref n = .ref m ∧ ρ[m]? = some b) H1 ρ1 M1 g1 m1 ⟨fun g ⟨m, e, z⟩ => ⟨m, e, ext_get g.ext z⟩, fun s hm e => ?_, fun s hm e ei => ?_, fun s hm e ei y => ?_⟩ ⟨n, rfl, hn⟩ r⟩
  · obtain ⟨xs, h1, h2⟩ := lst_again (ρ' := []) (M' := []) (H' := fun _ => none) s hm e
    exact ⟨xs, .inl (.inl h1), by rw [h2.len]; show _ ≤ (enumT 0 ts).length; rw [enumT_len]; exact Nat.le_refl _⟩
  · obtain ⟨xs, h1, h2⟩ := lst_again (ρ' := []) (M' := []) (H' := fun _ => none) s hm e
    obtain ⟨u, hu, _⟩ := enumT_get ei
    obtain ⟨x, h3, _⟩ := h2.get hu
    exact ⟨xs, x, .inl (.inl h1), h3⟩
  · obtain ⟨xs, h1, h2⟩ := lst_again (ρ' := []) (M' := []) (H' := fun _ => none) s hm e
    obtain ⟨u, hu, e2⟩ := enumT_get ei
    obtain ⟨x, h3, h5⟩ := h2.get hu
    obtain ⟨p, w, rfl, hp, rfl, y⟩ := y
    have := y xs (.inl (.inl h1))
    rw [h3] at this
    cases this
    rw [e2, Nat.zero_add]
    exact pair_new hm hp RT.int_ h5⟩
theorem i_zip (a : SimA K B ta fa) : SimI K B (iZip K ta) (fIZ fa) := ⟨fun hl hm h k => a.run hl hm h fun xs xvs H1 ρ1 M1 g1 m1 rx ⟨x, y, ts, us, e, e1, e2, r⟩ => by
  subst e
  obtain ⟨xv, yv, rfl, r1, r2⟩ := rx.two
  obtain ⟨n, b, xs, rfl, hn, _, rfl, h3, h4⟩ := lstAt_ok m1 r1 e1
  obtain ⟨n', b', ys, rfl, hn', _, rfl, h3', h4'⟩ := lstAt_ok m1 r2 e2
  refine ⟨b, b', xs, ys, rfl, .inl (.inl h3), .inl (.inl h3'), k _ _ (fun H ρ => (∃ m, Tr.ref n = .ref m ∧ ρ[m]? = some b) ∧ ∃ m, Tr.ref n' = .ref m ∧ ρ[m]? = some b') H1 ρ1 M1 g1 m1
    ⟨fun g ⟨⟨m, e, z⟩, ⟨m', e', z'⟩⟩ => ⟨⟨m, e, ext_get g.ext z⟩, ⟨m', e', ext_get g.ext z'⟩⟩, fun s hm e => ?_, fun s hm e ei => ?_, fun s hm e ei y => ?_⟩ ⟨⟨n, rfl, hn⟩, ⟨n', rfl, hn'⟩⟩ r⟩
  · obtain ⟨xs, h1, h2⟩ := lst_again (ρ' := []) (M' := []) (H' := fun _ => none) s.1 hm e.1
    obtain ⟨ys, h1', h2'⟩ := lst_again (ρ' := []) (M' := []) (H' := fun _ => none) s.2 hm e.2
    refine ⟨xs, ys, .inl (.inl h1), .inl (.inl h1'), ?_⟩
    rw [h2.len, h2'.len]
    show _ ≤ (zipT ts us).length ∨ _ ≤ (zipT ts us).length
    rw [zipT_len]
    omega
  · obtain ⟨xs, h1, h2⟩ := lst_again (ρ' := []) (M' := []) (H' := fun _ => none) s.1 hm e.1
    obtain ⟨ys, h1', h2'⟩ := lst_again (ρ' := []) (M' := []) (H' := fun _ => none) s.2 hm e.2
    obtain ⟨u, v, hu, hv, _⟩ := zipT_get ei
    obtain ⟨x, h3, _⟩ := h2.get hu
    obtain ⟨y, h3', _⟩ := h2'.get hv
    exact ⟨xs, ys, x, y, .inl (.inl h1), .inl (.inl h1'), h3, h3'⟩
  · obtain ⟨xs, h1, h2⟩ := lst_again (ρ' := []) (M' := []) (H' := fun _ => none) s.1 hm e.1
    obtain ⟨ys, h1', h2'⟩ := lst_again (ρ' := []) (M' := []) (H' := fun _ => none) s.2 hm e.2
    obtain ⟨u, v, hu, hv, e3⟩ := zipT_get ei
    obtain ⟨x, h3, h5⟩ := h2.get hu
    obtain ⟨x', h3', h5'⟩ := h2'.get hv
    obtain ⟨p, w, w', rfl, hp, rfl, z, z'⟩ := y
    have q1 := z xs (.inl (.inl h1))
    have q2 := z' ys (.inl (.inl h1'))
    rw [h3] at q1
    rw [h3'] at q2
    cases q1
    cases q2
    rw [e3]
    exact pair_new hm hp h5 h5'⟩
end
/-! ### for, while, comprehensions -/
theorem forget_at {K : PySem.W.Frag} {B : Bs} {H : Hp} {ρ : List Addr} {L : Loc} {σ : L2.St} {M : Mem} {k : Nat} {J : Loc → Mem → Prop} (hl : RX K B H ρ L σ) (hm : RM K H ρ M) (f : Forget k J L M) (hB : B.2.length ≤ k) :
    ∃ ρ' L' M', RX K B H ρ' L' σ ∧ RM K H ρ' M' ∧ J L' M' ∧ ∀ {H0 : Hp} {ρ0 : List Addr}, ρ0.length ≤ k → Grow K H0 ρ0 H ρ → Grow K H0 ρ0 H ρ' := by
  obtain ⟨n, L', hn, le, bl, bm, j⟩ := f
  exact ⟨ρ.take n, L', M.take n, ⟨(hl.rl.le le).cut bl, hl.gr.cut (Nat.le_trans hB hn)⟩, hm.cut bm, j, fun h g => g.cut (Nat.le_trans h hn)⟩
def fFor (fi : FI) (fg : FG) (fb : FS) : FS := fun D L M => fi L M fun it M1 => ∃ I : Nat → Loc → Mem → Prop, I 0 L M1 ∧ (∀ i L2 M2, i ≤ it.items.length → I i L2 M2 → it.ok M2) ∧
  (∀ (i : Nat) (t : Tr) L2 M2, it.items[i]? = some t → I i L2 M2 → fg t L2 M2 fun L3 M3 => fb { D with nx := Forget M1.length (I (i + 1)), ct := Forget M1.length (I (i + 1)), bk := D.nx } L3 M3) ∧ (∀ L2 M2, I it.items.length L2 M2 → D.nx L2 M2)
def fWhile (ft : FT) (fb : FS) : FS := fun D L M => ∃ W : Nat → Loc → Mem → Prop, (∃ m, W m L M) ∧ ∀ m L1 M1, W m L1 M1 → ft L1 M1 fun b M2 =>
  if b = true then fb { D with nx := Forget M.length (fun L' M' => ∃ m', m' < m ∧ W m' L' M'), ct := Forget M.length (fun L' M' => ∃ m', m' < m ∧ W m' L' M'), bk := D.nx } L1 M2 else D.nx L1 M2
section
variable {K : PySem.W.Frag} {B : Bs} {wi : TI} {fi : FI} {g : TG} {fg : FG} {tb : TS} {fb : FS} {tt : TT} {ft : FT} {te : TE} {fe : FE}
theorem base_len {H : Hp} {ρ : List Addr} {L : Loc} {σ : L2.St} {M : Mem} (hl : RX K B H ρ L σ) (hm : RM K H ρ M) : B.2.length ≤ M.length := by
  obtain ⟨t, e⟩ := hl.gr.ext
  rw [← hm.len, e, List.length_append]
  exact Nat.le_add_right _ _
theorem sim_for (hi : SimI K B wi fi) (hg : SimG K B g fg) (hb : SimS K B tb fb) : SimS K B (tFor wi g tb) (fFor fi fg fb) := ⟨fun {σ H ρ L M D' D} hl hm h e => hi.run hl hm h fun it J S H1 ρ1 M1 g1 m1 is s1 ⟨I, i0, iok, ist, ien⟩ => by
  have hB := base_len (hl.mono g1) m1
  have hk : ρ1.length ≤ M1.length := Nat.le_of_eq m1.len
  refine ⟨fun i m σ H => m = it.items.length - i ∧ i ≤ it.items.length ∧ ∃ ρ L M, Grow K H1 ρ1 H ρ ∧ RX K B H ρ L σ ∧ RM K H ρ M ∧ I i L M, ⟨it.items.length, by omega, Nat.zero_le _, ρ1, L, M1, Grow.refl, hl.mono g1, m1, i0⟩, ?_⟩
  rintro i m σ2 H2 ⟨rfl, hi', ρ2, L2, M2, g2, l2, m2, iv⟩
  have s2 := is.st g2 s1
  have ok2 := iok i L2 M2 hi' iv
  by_cases hlt : i < it.items.length
  · obtain ⟨t, et⟩ : ∃ t, it.items[i]? = some t := ⟨_, List.getElem?_eq_getElem hlt⟩
    refine .inr ⟨is.go s2 m2 ok2 et, fun σ H => ∃ ρ L M, Grow K H1 ρ1 H ρ ∧ RX K B H ρ L σ ∧ RM K H ρ M ∧ I (i + 1) L M, fun σ' H' z => ⟨it.items.length - (i + 1), by omega, rfl, hlt, z⟩, fun x H3 y => ?_⟩
    obtain ⟨g3, m3, rx⟩ := is.yld s2 m2 ok2 et y
    refine hg.run (l2.mono g3) m3 rx (ist i t L2 M2 et iv) fun L4 σ4 H4 ρ4 M4 g4 l4 m4 p4 => hb.run l4 m4 p4 ?_
    have g24 := (g2.trans g3).trans g4
    have nx : OutL K B H4 ρ4 (Forget M1.length (I (i + 1))) (fun σ H => ∃ ρ L M, Grow K H1 ρ1 H ρ ∧ RX K B H ρ L σ ∧ RM K H ρ M ∧ I (i + 1) L M) := fun L5 σ5 H5 ρ5 M5 g5 l5 m5 p5 => by
      obtain ⟨ρ6, L6, M6, l6, m6, j6, up⟩ := forget_at l5 m5 p5 hB
      exact ⟨ρ6, L6, M6, up hk (g24.trans g5), l6, m6, j6⟩
    exact ⟨nx, e.rt.step (g1.trans g24), e.nx.step (g1.trans g24), nx⟩
  · have e1 : i = it.items.length := by omega
    subst e1
    exact .inl ⟨is.stop s2 m2 ok2, e.nx _ _ _ _ _ (g1.trans g2) l2 m2 (ien L2 M2 iv)⟩⟩
theorem sim_while (hc : SimT K B tt ft) (hb : SimS K B tb fb) : SimS K B (tWhile tt tb) (fWhile ft fb) := ⟨fun {σ H ρ L M D' D} hl hm ⟨W, ⟨m0, w0⟩, st⟩ e => by
  have hB := base_len hl hm
  have hk : ρ.length ≤ M.length := Nat.le_of_eq hm.len
  refine ⟨fun m σ1 H1 => ∃ ρ1 L1 M1, Grow K H ρ H1 ρ1 ∧ RX K B H1 ρ1 L1 σ1 ∧ RM K H1 ρ1 M1 ∧ W m L1 M1, ⟨m0, ρ, L, M, Grow.refl, hl, hm, w0⟩, ?_⟩
  rintro m σ1 H1 ⟨ρ1, L1, M1, g1, l1, m1, w1⟩
  refine hc.run l1 m1 (st m L1 M1 w1) fun b H2 ρ2 M2 g2 m2 p2 => ?_
  cases b with
  | false =>
    rw [if_neg (by decide)] at p2
    exact e.nx _ _ _ _ _ (g1.trans g2) (l1.mono g2) m2 p2
  | true =>
    rw [if_pos rfl] at p2
    refine ⟨fun σ3 H3 => ∃ m', m' < m ∧ ∃ ρ1 L1 M1, Grow K H ρ H3 ρ1 ∧ RX K B H3 ρ1 L1 σ3 ∧ RM K H3 ρ1 M1 ∧ W m' L1 M1, fun _ _ z => z, hb.run (l1.mono g2) m2 p2 ?_⟩
    have nx : OutL K B H2 ρ2 (Forget M.length (fun L' M' => ∃ m', m' < m ∧ W m' L' M')) (fun σ3 H3 => ∃ m', m' < m ∧ ∃ ρ1 L1 M1, Grow K H ρ H3 ρ1 ∧ RX K B H3 ρ1 L1 σ3 ∧ RM K H3 ρ1 M1 ∧ W m' L1 M1) := fun L5 σ5 H5 ρ5 M5 g5 l5 m5 p5 => by
      obtain ⟨ρ6, L6, M6, l6, m6, ⟨m', hm', j6⟩, up⟩ := forget_at l5 m5 p5 hB
      exact ⟨m', hm', ρ6, L6, M6, up hk ((g1.trans g2).trans g5), l6, m6, j6⟩
    exact ⟨nx, e.rt.step (g1.trans g2), e.nx.step (g1.trans g2), nx⟩⟩
end
end Fm

set_option Elab.async false
set_option linter.all false
set_option maxRecDepth 100000
set_option maxHeartbeats 4000000
namespace Fm
open PySem PySem.Spec PyProof.Rows L2
/-! ### list comprehensions -/
def wipeF (L : Loc) : List Nat → Loc
  | [] => L
  | v :: vs => (wipeF L vs).set v none
def ForgetA (k : Nat) (J : List Tr → Mem → Prop) : List Tr → Mem → Prop := fun acc M => ∃ n, k ≤ n ∧ Tr.bels n acc = true ∧ belM n (M.take n) = true ∧ J acc (M.take n)
def fLc (fi : FI) (fg : FG) (ft : FT) (fe : FE) (vs : List Nat) : FE := fun L M P => fi L M fun it M1 => ∃ I : Nat → List Tr → Mem → Prop, I 0 [] M1 ∧ (∀ i acc M2, i ≤ it.items.length → I i acc M2 → it.ok M2) ∧
  (∀ (i : Nat) (t : Tr) acc M2, it.items[i]? = some t → I i acc M2 → fg t (wipeF L vs) M2 fun L3 M3 => ft L3 M3 fun b M4 => if b = true then fe L3 M4 fun y M5 => acc.length < sizeLine ∧ ForgetA M1.length (I (i + 1)) (acc ++ [y]) M5 else ForgetA M1.length (I (i + 1)) acc M4) ∧
  (∀ acc M2, I it.items.length acc M2 → P (.ref M2.length) (M2 ++ [.lst acc]))
structure SimGw (K : PySem.W.Frag) (B : Bs) (vs : List Nat) (g : TG) (fg : FG) : Prop where
  run : ∀ {σ H ρ L M x xv P Q}, RX K B H ρ L σ → RM K H ρ M → RT K H ρ x xv → fg x L M P → (∀ L' σ' H' ρ' M', Grow K H ρ H' ρ' → RX K B H' ρ' L' σ' → RM K H' ρ' M' → wipe σ' vs = wipe σ vs → P L' M' → Q σ' H') → g xv σ H Q
structure SimGsw (K : PySem.W.Frag) (B : Bs) (vs : List Nat) (g : TGs) (fg : List Tr → Loc → Mem → (Loc → Mem → Prop) → Prop) : Prop where
  run : ∀ {σ H ρ L M xs xvs P Q}, RX K B H ρ L σ → RM K H ρ M → RTs K H ρ xs xvs → fg xs L M P → (∀ L' σ' H' ρ' M', Grow K H ρ H' ρ' → RX K B H' ρ' L' σ' → RM K H' ρ' M' → wipe σ' vs = wipe σ vs → P L' M' → Q σ' H') → g xvs σ H Q
theorem wipe_at (σ : L2.St) (j : Nat) : ∀ vs : List Nat, (wipe σ vs)[j]? = if j ∈ vs then σ[j]?.map (fun _ => none) else σ[j]?
  | [] => by simp [wipe]
  | v :: vs => by
    unfold wipe
    have ih := wipe_at σ j vs
    by_cases h : v = j
    · subst h
      rw [if_pos List.mem_cons_self, List.getElem?_set, if_pos rfl, wipe_length]
      by_cases hl : v < σ.length
      · rw [if_pos hl, List.getElem?_eq_getElem hl]; rfl
      · rw [if_neg hl, List.getElem?_eq_none (by omega)]; rfl
    · rw [List.getElem?_set_ne h, ih]
      by_cases hj : j ∈ vs
      · rw [if_pos hj, if_pos (List.mem_cons_of_mem _ hj)]
      · rw [if_neg hj, if_neg (fun z => by
          rcases List.mem_cons.mp z with z | z
          · exact h z.symm
          · exact hj z)]
theorem wipe_set {σ : L2.St} {vs : List Nat} {i : Nat} {x : Option V} (h : i ∈ vs) : wipe (σ.set i x) vs = wipe σ vs := by
  refine List.ext_getElem? fun j => ?_
  rw [wipe_at, wipe_at]
  by_cases hj : j ∈ vs
  · rw [if_pos hj, if_pos hj, List.getElem?_set]
    split
    · split
      · rename_i h1 h2
        subst h1
        rw [List.getElem?_eq_getElem h2]; rfl
      · rename_i h1 h2
        subst h1
        rw [List.getElem?_eq_none (by omega)]
    · rfl
  · rw [if_neg hj, if_neg hj, List.getElem?_set_ne (show i ≠ j from fun z => hj (by rw [← z]; exact h))]
theorem wipe_idem {σ : L2.St} {vs : List Nat} : wipe (wipe σ vs) vs = wipe σ vs := by
  refine List.ext_getElem? fun j => ?_
  rw [wipe_at, wipe_at]
  by_cases hj : j ∈ vs
  · rw [if_pos hj, if_pos hj]
    cases σ[j]? <;> rfl
  · rw [if_neg hj, if_neg hj]
section
variable {K : PySem.W.Frag} {B : Bs} {H H1 H' : Hp} {ρ ρ1 ρ' : List Addr}
theorem RL.setNone : ∀ {L : Loc} {σ : L2.St} (i : Nat) (x : Option V), RL K H ρ L σ → RL K H ρ (L.set i none) (σ.set i x)
  | [], _, _, _, h => by
    have h : _ = ([] : L2.St) := h
    subst h
    exact rfl
  | u :: L, _, 0, x, h => by
    obtain ⟨v, τ, rfl, h2, h3⟩ := h
    exact ⟨_, _, rfl, trivial, h3⟩
  | u :: L, _, i + 1, x, h => by
    obtain ⟨v, τ, rfl, h2, h3⟩ := h
    exact ⟨_, _, rfl, h2, RL.setNone i x h3⟩
theorem RL.wipe {L : Loc} {σ : L2.St} (h : RL K H ρ L σ) : ∀ vs : List Nat, RL K H ρ (wipeF L vs) (L2.wipe σ vs)
  | [] => h
  | v :: vs => RL.setNone v none (RL.wipe h vs)
theorem RX.wipe {L : Loc} {σ : L2.St} (h : RX K B H ρ L σ) (vs : List Nat) : RX K B H ρ (wipeF L vs) (L2.wipe σ vs) := ⟨h.rl.wipe vs, h.gr⟩
theorem sim_namew {vs : List Nat} {i : Nat} (hi : i ∈ vs) : SimGw K B vs (gName i) (fName i) := ⟨fun hl hm rx p o => o _ _ _ _ _ Grow.refl (hl.set rx i) hm (wipe_set hi) p⟩
theorem sim_gnilw {vs : List Nat} : SimGsw K B vs gNil fGNil := ⟨fun hl hm rx ⟨e, p⟩ o => by
  subst e
  unfold RTs at rx
  exact ⟨rx, o _ _ _ _ _ Grow.refl hl hm rfl p⟩⟩
theorem sim_gconsw {vs : List Nat} {g : TG} {fg : FG} {gs : TGs} {fgs : List Tr → Loc → Mem → (Loc → Mem → Prop) → Prop} (a : SimGw K B vs g fg) (b : SimGsw K B vs gs fgs) : SimGsw K B vs (gCons g gs) (fGCons fg fgs) := ⟨fun hl hm rx ⟨t, us, e, p⟩ o => by
  subst e
  unfold RTs at rx
  obtain ⟨x, ys, rfl, r1, r2⟩ := rx
  exact ⟨x, ys, rfl, a.run hl hm r1 p fun L1 σ1 H1 ρ1 M1 g1 l1 m1 w1 p1 => b.run l1 m1 (r2.mono g1) p1 fun L2 σ2 H2 ρ2 M2 g2 l2 m2 w2 p2 => o _ _ _ _ _ (g1.trans g2) l2 m2 (w2.trans w1) p2⟩⟩
theorem sim_gtupw {vs : List Nat} {n : Nat} {gs : TGs} {fgs : List Tr → Loc → Mem → (Loc → Mem → Prop) → Prop} (b : SimGsw K B vs gs fgs) : SimGw K B vs (gTup K n gs) (fGTup n fgs) := ⟨fun hl hm rx ⟨ts, e, en, p⟩ o => by
  obtain ⟨a, xs, h1, h2, h3⟩ := tupOf_ok rx e
  exact ⟨a, xs, h1, h2, by rw [h3.len]; exact en, b.run hl hm h3 p o⟩⟩
theorem notin_grow {D : Addr} {xs : List V} (g : Grow K H ρ H' ρ') (hD : H D = some (.lst xs)) (n : D ∉ ρ) : D ∉ ρ' := fun z => by
  obtain ⟨ps, e⟩ := g.new D z n _ hD
  cases e
theorem oth_lst {D : Addr} {xs : List V} (g : Grow K H ρ H' ρ') (hD : H D = some (.lst xs)) (n : D ∉ ρ) : H' D = some (.lst xs) := g.oth _ _ hD n (fun _ z => nomatch z)
theorem Grow.updD {D : Addr} {xs ys : List V} (g : Grow K H1 ρ1 H ρ) (h1 : H1 D = none) (hD : H D = some (.lst xs)) : Grow K H1 ρ1 (upd H D (.lst ys)) ρ :=
  ⟨g.ext, fun _ _ h => sqt_upd (g.tup _ _ h) (.inr (.inl ⟨xs, hD⟩)), fun a o h n nt => by rw [upd_ne (ne_of_none h h1)]; exact g.oth a o h n nt, g.new, fun c q i h => cod_upd (.inr (.inl ⟨xs, hD⟩)) c q i (g.cod c q i h)⟩
theorem RM.updD {M : Mem} {D : Addr} {xs ys : List V} (r : RM K H ρ M) (hD : H D = some (.lst xs)) (n : D ∉ ρ) : RM K (upd H D (.lst ys)) ρ M := by
  have g : Gw K H ρ (upd H D (.lst ys)) ρ := ⟨⟨[], by simp⟩, fun _ _ h => sqt_upd h (.inr (.inl ⟨xs, hD⟩)), fun c q i h => cod_upd (.inr (.inl ⟨xs, hD⟩)) c q i h⟩
  exact ⟨r.len, fun k o e => let ⟨a, h1, h2⟩ := r.at_ k o e; ⟨a, h1, h2.mono0 g (upd_ne fun z => n (z ▸ List.mem_of_getElem? h1)) fun d q => by rw [upd_ne (ne_of q hD (fun z => nomatch z))]; exact q⟩, r.nd⟩
theorem RTs.updD {D : Addr} {xs ys : List V} {ts : List Tr} {vs : List V} (h : RTs K H ρ ts vs) (hD : H D = some (.lst xs)) : RTs K (upd H D (.lst ys)) ρ ts vs :=
  RTs.mono0 ⟨⟨[], by simp⟩, fun _ _ h => sqt_upd h (.inr (.inl ⟨xs, hD⟩)), fun c q i h => cod_upd (.inr (.inl ⟨xs, hD⟩)) c q i h⟩ h
theorem RM.addD {M : Mem} {D : Addr} {xs : List V} {ts : List Tr} (r : RM K H ρ M) (hD : H D = some (.lst xs)) (n : D ∉ ρ) (h : RTs K H ρ ts xs) : RM K H (ρ ++ [D]) (M ++ [.lst ts]) := by
  have g : Gw K H ρ H (ρ ++ [D]) := ⟨⟨[D], rfl⟩, fun _ _ h => h, fun _ _ _ h => h⟩
  have lt := r.len
  refine ⟨by simp [lt], fun k o e => ?_, ?_⟩
  · by_cases hn : k < M.length
    · rw [List.getElem?_append_left hn] at e
      obtain ⟨a, h1, h2⟩ := r.at_ k o e
      exact ⟨a, by rw [List.getElem?_append_left (by rw [lt]; exact hn)]; exact h1, h2.mono0 g rfl fun d q => q⟩
    · rw [List.getElem?_append_right (by omega)] at e
      match hz : k - M.length, e with
      | 0, e =>
        cases e
        exact ⟨D, by rw [List.getElem?_append_right (by omega), lt, hz]; rfl, xs, hD, RTs.mono0 g h⟩
      | j + 1, e => simp at e
  · rw [List.nodup_append]
    exact ⟨r.nd, by simp, fun a ha b hb => by rw [List.mem_singleton.mp hb]; exact fun e => n (e ▸ ha)⟩
variable {wi : TI} {fi : FI} {g : TG} {fg : FG} {tt : TT} {ft : FT} {te : TE} {fe : FE} {vs : List Nat}
theorem sim_lc (hi : SimI K B wi fi) (hg : SimGw K B vs g fg) (ht : SimT K B tt ft) (he : SimE K B te fe) : SimE K B (tLc wi g tt te vs) (fLc fi fg ft fe vs) := ⟨fun {σ H ρ L M P Q} hl hm h o => hi.run hl hm h fun it J S H1 ρ1 M1 g1 m1 is s1 ⟨I, i0, iok, ist, ien⟩ => by
  intro D hD
  have hB := base_len (hl.mono g1) m1
  have hk : ρ1.length ≤ M1.length := Nat.le_of_eq m1.len
  let W : Nat → Nat → Hp → Prop := fun i m H2 => m = it.items.length - i ∧ i ≤ it.items.length ∧ ∃ acc xs ρ2 M2, H2 D = some (.lst xs) ∧ D ∉ ρ2 ∧ Grow K H1 ρ1 H2 ρ2 ∧ RM K H2 ρ2 M2 ∧ RTs K H2 ρ2 acc xs ∧ I i acc M2
  refine ⟨W, ⟨it.items.length, by omega, Nat.zero_le _, [], [], ρ1, M1, upd_same, m1.fresh hD, Grow.laid hD, m1.laid hD, RTs.nil, i0⟩, ?_⟩
  rintro i m H2 ⟨rfl, hi', acc, xs, ρ2, M2, hD2, nD2, g2, m2, ra, iv⟩
  have s2 := is.st g2 s1
  have ok2 := iok i acc M2 hi' iv
  by_cases hlt : i < it.items.length
  · obtain ⟨t, et⟩ : ∃ t, it.items[i]? = some t := ⟨_, List.getElem?_eq_getElem hlt⟩
    refine .inr ⟨is.go s2 m2 ok2 et, W (i + 1) (it.items.length - (i + 1)), fun H' z => ⟨it.items.length - (i + 1), by omega, z⟩, fun x H3 y => ?_⟩
    obtain ⟨g3, m3, rx⟩ := is.yld s2 m2 ok2 et y
    refine hg.run ((hl.mono (g1.trans (g2.trans g3))).wipe vs) m3 rx (ist i t acc M2 et iv) fun L4 σ4 H4 ρ4 M4 g4 l4 m4 w4 p4 => ⟨w4.trans wipe_idem, ht.run l4 m4 p4 fun b H5 ρ5 M5 g5 m5 p5 => ?_⟩
    have g25 := (g3.trans g4).trans g5
    have hD5 := oth_lst g25 hD2 nD2
    have nD5 := notin_grow g25 hD2 nD2
    have ra5 := ra.mono g25
    cases b with
    | false =>
      rw [if_neg (by decide)] at p5 ⊢
      obtain ⟨n, hn, ba, bm, j⟩ := p5
      exact ⟨rfl, hlt, acc, xs, ρ5.take n, M5.take n, hD5, fun z => nD5 (List.mem_of_mem_take z), (g2.trans g25).cut (Nat.le_trans hk hn), m5.cut bm, RTs.cutN ra5 ba, j⟩
    | true =>
      rw [if_pos rfl] at p5 ⊢
      refine he.run (l4.mono g5) m5 p5 fun v xv H6 ρ6 M6 g6 m6 ry ⟨z, n, hn, ba, bm, j⟩ => ?_
      have hD6 := oth_lst g6 hD5 nD5
      have nD6 := notin_grow g6 hD5 nD5
      have ra6 := (ra5.mono g6).app (RTs.cons ry RTs.nil)
      refine ⟨xs, hD6, by rw [ra.len]; exact z, rfl, hlt, acc ++ [v], xs ++ [xv], ρ6.take n, M6.take n, upd_same, fun z => nD6 (List.mem_of_mem_take z), (((g2.trans g25).trans g6).cut (Nat.le_trans hk hn)).updD hD hD6, (m6.cut bm).updD hD6 (fun z => nD6 (List.mem_of_mem_take z)), (RTs.cutN ra6 ba).updD hD6, j⟩
  · have e1 : i = it.items.length := by omega
    subst e1
    refine .inl ⟨is.stop s2 m2 ok2, o (.ref M2.length) (.ref D) H2 (ρ2 ++ [D]) (M2 ++ [.lst acc]) (g1.trans ?_) (m2.addD hD2 nD2 ra) (by unfold RT; exact ⟨D, m2.ref, rfl⟩) (ien acc M2 iv)⟩
    obtain ⟨t, e⟩ := g2.ext
    exact ⟨⟨t ++ [D], by rw [e, List.append_assoc]⟩, g2.tup, g2.oth, fun a ha hn o ho => by
      rcases List.mem_append.mp ha with ha | ha
      · exact g2.new a ha hn o ho
      · rw [List.mem_singleton.mp ha, hD] at ho
        (cases ho), g2.cod⟩⟩
theorem sim_yes : SimT K B tYes (fun _ M P => P true M) := ⟨fun _ hm p o => o _ _ _ _ Grow.refl hm p⟩
end
/-! ### a def's body -/
def startL (N : List Str) (ts : List Tr) : Loc := ts.map some ++ List.replicate (N.length - ts.length) none
/-- what is handed back; what lies behind place n is forgotten -/
def Keep (k : Nat) (P : PF) : PF := fun v M => ∃ n, k ≤ n ∧ Tr.bel n v = true ∧ belM n (M.take n) = true ∧ P v (M.take n)
def KeepX (k : Nat) (P : PXF) : PXF := fun C fs M => ∃ n, k ≤ n ∧ belF n fs = true ∧ belM n (M.take n) = true ∧ P C fs (M.take n)
section
variable {K : PySem.W.Frag} {H : Hp} {ρ : List Addr}
theorem RL.nones : ∀ (n : Nat) (xs : List (Option V)), xs.length = n → RL K H ρ (List.replicate n none) xs
  | 0, [], _ => rfl
  | n + 1, x :: xs, h => ⟨x, xs, rfl, trivial, RL.nones n xs (by simpa using h)⟩
theorem RL.start : ∀ {ts : List Tr} {vs : List V} {L : Loc} {τ : L2.St}, RTs K H ρ ts vs → RL K H ρ L τ → RL K H ρ (ts.map some ++ L) (vs.map some ++ τ)
  | [], _, _, _, h, k => by
    unfold RTs at h
    subst h
    exact k
  | t :: ts, _, _, _, h, k => by
    unfold RTs at h
    obtain ⟨x, ys, rfl, h1, h2⟩ := h
    exact ⟨some x, _, rfl, ⟨x, rfl, h1⟩, RL.start h2 k⟩
theorem out_keep {P : PF} {Q : VK} (o : Out K H ρ P Q) : Out K H ρ (Keep ρ.length P) Q := fun v x H' ρ' M' g m r ⟨n, hn, b, bm, p⟩ => o v x H' (ρ'.take n) (M'.take n) (g.cut hn) (m.cut bm) (r.cut b) p
theorem XR.cut {fs : List (Str × Tr)} {d : Option Addr} {n : Nat} (x : XR K H ρ fs d) (b : belF n fs = true) : XR K H (ρ.take n) fs d := by
  rcases x with x | ⟨dd, gs, h1, h2, h3⟩
  · exact .inl x
  · exact .inr ⟨dd, gs, h1, h2, h3.cut b⟩
theorem outX_keep {P : PXF} {E : XK} (o : OutX K H ρ P E) : OutX K H ρ (KeepX ρ.length P) E := fun C fs d H' ρ' M' g m r ⟨n, hn, b, bm, p⟩ => o C fs d H' (ρ'.take n) (M'.take n) (g.cut hn) (m.cut bm) (r.cut b) p
/-- a def's body, said of trees: the wish of its caller, from the promise -/
theorem run_body {N : List Str} {t : TS} {fs : PXF → FS} {fsp : FSp} {vs : List V} {Q : VK} {E : XK} (h : spF K fsp vs H Q E)
    (sim : ∀ (B : Bs) (PX : PXF), OutX K B.1 B.2 PX E → SimS K B t (fs PX))
    (sp : ∀ ts M P PX, fsp ts M P PX → fs (KeepX M.length PX) { nx := fun _ M' => Keep M.length P .non M', rt := Keep M.length P } (startL N ts) M) :
    t { nx := fun _ H' => Q .non H', rt := Q } (L2.start N vs) H := by
  obtain ⟨ts, ρ, M, P, PX, r, m, h, o, ox⟩ := h
  have s := sim (H, ρ) (KeepX M.length PX) (by rw [← m.len]; exact outX_keep ox)
  have hl : RX K (H, ρ) H ρ (startL N ts) (L2.start N vs) := ⟨by
    unfold startL L2.start
    rw [← r.len]
    exact RL.start r (RL.nones _ _ (by simp)), Grow.refl⟩
  have o' : Out K H ρ (Keep M.length P) Q := by rw [← m.len]; exact out_keep o
  exact s.run hl m (sp ts M P PX h) ⟨fun L σ H' ρ' M' g _ m' p => o' .non .non H' ρ' M' g m' RT.non_ p, o', fun _ _ _ _ _ _ _ _ p => p.elim, fun _ _ _ _ _ _ _ _ p => p.elim⟩
end
end Fm

set_option Elab.async false
set_option linter.all false
set_option maxRecDepth 100000
set_option maxHeartbeats 4000000
namespace Fm
open PySem PySem.Spec PyProof.Rows L2
/-! ### texts -/
def fAddS : F2 := fun x y M P => ∃ i j, x = .str i ∧ y = .str j ∧ i.length + j.length ≤ sizeLine ∧ P (.str (i ++ j)) M
def fLeS : F2 := fun x y M P => ∃ i j : Str, x = .str i ∧ y = .str j ∧ P (.bl (!decide (j.cps.toList < i.cps.toList))) M
def fLtS : F2 := fun x y M P => ∃ i j : Str, x = .str i ∧ y = .str j ∧ P (.bl (decide (i.cps.toList < j.cps.toList))) M
def fM0b (g : Str → Bool) : Tr → FC := fun x xs M P => ∃ a, x = .str a ∧ xs = [] ∧ P (.bl (g a)) M
def fM1b (g : Str → Str → Bool) : Tr → FC := fun x xs M P => ∃ a b, x = .str a ∧ xs = [.str b] ∧ P (.bl (g a b)) M
def fSplit : Tr → FC := fun x xs M P => ∃ a b, x = .str a ∧ xs = [.str b] ∧ (b.length == 0) = false ∧ a.length + 2 ≤ sizeLine ∧ P (.ref M.length) (M ++ [.lst ((Txt.split a b).map Tr.str)])
def fJoin : Tr → FC := fun x xs M P => ∃ a y, ∃ ys : List Str, x = .str a ∧ xs = [y] ∧ seqAt M y = some (ys.map Tr.str) ∧ (ys.map (·.length)).sum + ys.length * a.length ≤ 16777216 ∧ P (.str (Txt.join a ys)) M
def fmtS : Tr → Str
  | .str y => y
  | .int i => toString i
  | _ => Str.empty
def fmtOk : Tr → Prop
  | .str y => y.length ≤ sizeLine
  | .int i => i.natAbs.log2 < 1920
  | _ => False
theorem fmtS_i (i : Int) : fmtS (.int i) = toString i := rfl
theorem fmtS_s (i : Str) : fmtS (.str i) = i := rfl
theorem fmtOk_i (i : Int) : fmtOk (.int i) = (i.natAbs.log2 < 1920) := rfl
theorem fmtOk_s (i : Str) : fmtOk (.str i) = (i.length ≤ sizeLine) := rfl
def fFmt (fe : FE) : FE := fun L M P => fe L M fun x M1 => fmtOk x ∧ P (.str (fmtS x)) M1
def fJs : List FE → Str → Loc → Mem → (Str → Mem → Prop) → Prop
  | [], acc, _, M, P => P acc M
  | f :: fs, acc, L, M, P => f L M fun x M1 => ∃ y : Str, x = .str y ∧ (acc ++ y).length ≤ sizeLine ∧ fJs fs (acc ++ y) L M1 P
def fJoined (fs : List FE) : FE := fun L M P => fJs fs Str.empty L M fun out M1 => P (.str out) M1
def fBM0S (fr : Tr → FC) (fo : FE) : FE := fun L M P => fo L M fun x M1 => isStr x = true ∧ fr x [] M1 P
def fBMS (fr : Tr → FC) (fo : FE) (fa : FA) : FE := fun L M P => fo L M fun x M1 => isStr x = true ∧ fa L M1 fun xs M2 => fr x xs M2 P
section
variable {K : PySem.W.Frag} {B : Bs} {H : Hp} {ρ : List Addr} {to te : TE} {fo fe : FE} {ta : TA} {fa : FA} {r : V → List V → Hp → VK → Prop} {fr : Tr → FC}
theorem s_addS : Sim2 K (fun x y H Q => ∃ i j : Str, x = V.str i ∧ y = V.str j ∧ i.length + j.length ≤ sizeLine ∧ Q (V.str (i ++ j)) H) fAddS := ⟨fun hm rx ry ⟨i, j, e1, e2, z, p⟩ o => by
  subst e1; subst e2
  exact ⟨i, j, rx.str_inv, ry.str_inv, z, o _ _ _ _ _ Grow.refl hm RT.str_ p⟩⟩
theorem s_leS : Sim2 K (fun x y H Q => ∃ i j : Str, x = V.str i ∧ y = V.str j ∧ Q (V.bl (!decide (j.cps.toList < i.cps.toList))) H) fLeS := ⟨fun hm rx ry ⟨i, j, e1, e2, p⟩ o => by
  subst e1; subst e2
  exact ⟨i, j, rx.str_inv, ry.str_inv, o _ _ _ _ _ Grow.refl hm RT.bl_ p⟩⟩
theorem s_ltS : Sim2 K (fun x y H Q => ∃ i j : Str, x = V.str i ∧ y = V.str j ∧ Q (V.bl (decide (i.cps.toList < j.cps.toList))) H) fLtS := ⟨fun hm rx ry ⟨i, j, e1, e2, p⟩ o => by
  subst e1; subst e2
  exact ⟨i, j, rx.str_inv, ry.str_inv, o _ _ _ _ _ Grow.refl hm RT.bl_ p⟩⟩
theorem m_0b {g : Str → Bool} : SimM K (fun x xs H Q => ∃ a, x = V.str a ∧ xs = [] ∧ True ∧ Q (V.bl (g a)) H) (fM0b g) := ⟨fun hm rx rxs ⟨a, e1, e2, p⟩ o => by
  subst e1; subst e2
  unfold RTs at rxs
  exact ⟨a, rx.str_inv, rxs, trivial, o _ _ _ _ _ Grow.refl hm RT.bl_ p⟩⟩
theorem m_1b {g : Str → Str → Bool} : SimM K (fun x xs H Q => ∃ a b, x = V.str a ∧ xs = [V.str b] ∧ Q (V.bl (g a b)) H) (fM1b g) := ⟨fun hm rx rxs ⟨a, b, e1, e2, p⟩ o => by
  subst e1; subst e2
  obtain ⟨y, rfl, ry⟩ := rxs.one
  exact ⟨a, b, rx.str_inv, by rw [ry.str_inv], o _ _ _ _ _ Grow.refl hm RT.bl_ p⟩⟩
theorem RTs.strs : ∀ ys : List Str, RTs K H ρ (ys.map Tr.str) (ys.map V.str)
  | [] => RTs.nil
  | y :: ys => RTs.cons RT.str_ (RTs.strs ys)
theorem RTs.strs_inv : ∀ {ys : List Str} {vs : List V}, RTs K H ρ (ys.map Tr.str) vs → vs = ys.map V.str
  | [], _, h => by unfold RTs at h; exact h
  | y :: ys, _, h => by
    unfold RTs at h
    obtain ⟨x, zs, rfl, h1, h2⟩ := h
    rw [h1.str_inv, RTs.strs_inv (ys := ys) h2]
    rfl
theorem m_split : SimM K (fun x xs H Q => ∃ a b, x = V.str a ∧ xs = [V.str b] ∧ (b.length == 0) = false ∧ a.length + 2 ≤ sizeLine ∧ rNewStrs (Txt.split a b) H Q) fSplit := ⟨fun hm rx rxs ⟨a, b, e1, e2, h1, h2, p⟩ o => by
  subst e1; subst e2
  obtain ⟨y, rfl, ry⟩ := rxs.one
  exact ⟨a, b, rx.str_inv, by rw [ry.str_inv], h1, h2, out_list hm (RTs.strs _) o p⟩⟩
theorem m_join : SimM K (fun x xs H Q => ∃ a p, ∃ ys : List Str, x = V.str a ∧ xs = [V.ref p] ∧ (SqL K H p (ys.map V.str) ∨ SqT K H p (ys.map V.str)) ∧ (ys.map (·.length)).sum + ys.length * a.length ≤ 16777216 ∧ Q (V.str (Txt.join a ys)) H) fJoin := ⟨fun hm rx rxs ⟨a, y, ys, e1, e2, e3, z, p⟩ o => by
  subst e1; subst e2
  obtain ⟨yv, rfl, ry⟩ := rxs.one
  obtain ⟨b, us, rfl, h2, h3⟩ := seqAt_ok hm ry e3
  rw [h3.strs_inv] at h2
  exact ⟨a, b, ys, rx.str_inv, rfl, h2, z, o _ _ _ _ _ Grow.refl hm RT.str_ p⟩⟩
theorem sim_BM0S (s : SimM K r fr) (a : SimE K B to fo) : SimE K B (tBM0 K "str" r to) (fBM0S fr fo) :=
  ⟨fun hl hm h o => a.run hl hm h fun x xv H1 ρ1 M1 g1 m1 rx ⟨e, h1⟩ => by
    cases x with
    | str z => exact ⟨by rw [rx.str_inv]; rfl, s.run m1 rx RTs.nil h1 (o.step g1)⟩
    | _ => cases e⟩
theorem sim_BMS (s : SimM K r fr) (a : SimE K B to fo) (b : SimA K B ta fa) : SimE K B (tBM K "str" r to ta) (fBMS fr fo fa) :=
  ⟨fun hl hm h o => a.run hl hm h fun x xv H1 ρ1 M1 g1 m1 rx ⟨e, h1⟩ => by
    cases x with
    | str z => exact ⟨by rw [rx.str_inv]; rfl, b.run (hl.mono g1) m1 h1 fun xs xvs H2 ρ2 M2 g2 m2 rxs h2 => s.run m2 (rx.mono g2) rxs h2 (o.step (g1.trans g2))⟩
    | _ => cases e⟩
theorem sim_fmt (a : SimE K B te fe) : SimE K B (tFmt te) (fFmt fe) := ⟨fun hl hm h o => a.run hl hm h fun x xv H1 ρ1 M1 g1 m1 rx ⟨z, p⟩ => by
  cases x with
  | str y => exact .inl ⟨y, rx.str_inv, z, o _ _ _ _ _ g1 m1 RT.str_ p⟩
  | int i => exact .inr ⟨i, rx.int_inv, z, o _ _ _ _ _ g1 m1 RT.str_ p⟩
  | _ => exact z.elim⟩
/-- the parts of a joined text -/
inductive SimJ (K : PySem.W.Frag) (B : Bs) : List TE → List FE → Prop where
  | nil : SimJ K B [] []
  | cons {te : TE} {fe : FE} {ts : List TE} {fs : List FE} (a : SimE K B te fe) (b : SimJ K B ts fs) : SimJ K B (te :: ts) (fe :: fs)
theorem js_run {ts : List TE} {fs : List FE} (s : SimJ K B ts fs) : ∀ {acc : Str} {σ : L2.St} {H : Hp} {ρ : List Addr} {L : Loc} {M : Mem} {P : Str → Mem → Prop} {Q : Str → Hp → Prop}, RX K B H ρ L σ → RM K H ρ M → fJs fs acc L M P →
    (∀ out H' ρ' M', Grow K H ρ H' ρ' → RM K H' ρ' M' → P out M' → Q out H') → tJs ts acc σ H Q := by
  induction s with
  | nil => intro acc σ H ρ L M P Q hl hm p o; exact o _ _ _ _ Grow.refl hm p
  | cons a b ih =>
    intro acc σ H ρ L M P Q hl hm p o
    refine a.run hl hm p fun x xv H1 ρ1 M1 g1 m1 rx ⟨y, e, z, p1⟩ => ?_
    subst e
    exact ⟨y, rx.str_inv, z, ih (hl.mono g1) m1 p1 fun out H' ρ' M' g m p => o out H' ρ' M' (g1.trans g) m p⟩
theorem sim_joined {ts : List TE} {fs : List FE} (s : SimJ K B ts fs) : SimE K B (fun σ H Q => tJs ts Str.empty σ H fun out H1 => Q (V.str out) H1) (fJoined fs) :=
  ⟨fun hl hm p o => js_run s hl hm p fun out H' ρ' M' g m p => o _ _ _ _ _ g m RT.str_ p⟩
end
end Fm
namespace Fm
open PySem PySem.Spec PyProof.Rows L2
theorem nox_K {CX : CXT} {P : Program} {w : World} {K : PySem.W.Frag} {mg : Str → Option Value} {base : Heap} {N : List Str} {qual : Str} {scope : Scope} {f : Addr} {cd : Value} {A : Around} {outer : List Env} {s : Shared} {H : Hp} {E : XK} : (cxOf CX P w K mg base N qual scope f cd A outer s H E).nox.K = K := rfl
theorem cx_K {CX : CXT} {P : Program} {w : World} {K : PySem.W.Frag} {mg : Str → Option Value} {base : Heap} {N : List Str} {qual : Str} {scope : Scope} {f : Addr} {cd : Value} {A : Around} {outer : List Env} {s : Shared} {H : Hp} {E : XK} : (cxOf CX P w K mg base N qual scope f cd A outer s H E).K = K := rfl
section
variable {K : PySem.W.Frag} {H : Hp} {ρ : List Addr} {M : Mem}
theorem keepX_of {PX : PXF} {E : XK} (m : RM K H ρ M) (ox : OutX K H ρ PX E) : OutX K (H, ρ).1 (H, ρ).2 (KeepX M.length PX) E := by rw [← m.len]; exact outX_keep ox
theorem run_in {N : List Str} {t : TS} {f : FS} {ts : List Tr} {vs : List V} {P : PF} {Q : VK} (r : RTs K H ρ ts vs) (m : RM K H ρ M) (o : Out K H ρ P Q) (sim : SimS K (H, ρ) t f)
    (sp : f { nx := fun _ M' => Keep M.length P .non M', rt := Keep M.length P } (startL N ts) M) : t { nx := fun _ H' => Q .non H', rt := Q } (L2.start N vs) H := by
  have hl : RX K (H, ρ) H ρ (startL N ts) (L2.start N vs) := ⟨by
    unfold startL L2.start
    rw [← r.len]
    exact RL.start r (RL.nones _ _ (by simp)), Grow.refl⟩
  have o' : Out K H ρ (Keep M.length P) Q := by rw [← m.len]; exact out_keep o
  exact sim.run hl m sp ⟨fun L σ H' ρ' M' g _ m' p => o' .non .non H' ρ' M' g m' RT.non_ p, o', fun _ _ _ _ _ _ _ _ p => p.elim, fun _ _ _ _ _ _ _ _ p => p.elim⟩
/-- nothing is left behind: what the def has made is forgotten -/
theorem keep_all {P : PF} {v : Tr} {M' : Mem} {k : Nat} (hk : k ≤ M'.length) (b : Tr.bel k v = true) (bm : belM k (M'.take k) = true) (p : P v (M'.take k)) : Keep k P v M' := ⟨k, Nat.le_refl _, b, bm, p⟩
end
mutual
theorem RT.belT {K : PySem.W.Frag} {H : Hp} {ρ : List Addr} : ∀ {t : Tr} {v : V}, RT K H ρ t v → Tr.bel ρ.length t = true
  | .non, _, _ => rfl
  | .bl _, _, _ => rfl
  | .int _, _, _ => rfl
  | .str _, _, _ => rfl
  | .raw _, _, _ => rfl
  | .ref k, _, h => by
    unfold RT at h
    obtain ⟨a, h1, _⟩ := h
    unfold Tr.bel
    exact decide_eq_true (List.getElem?_eq_some_iff.mp h1).1
  | .tup ts, _, h => by
    unfold RT at h
    obtain ⟨a, xs, _, _, h3⟩ := h
    unfold Tr.bel
    exact RTs.belT h3
theorem RTs.belT {K : PySem.W.Frag} {H : Hp} {ρ : List Addr} : ∀ {ts : List Tr} {vs : List V}, RTs K H ρ ts vs → Tr.bels ρ.length ts = true
  | [], _, _ => rfl
  | t :: ts, _, h => by
    unfold RTs at h
    obtain ⟨x, ys, _, h3, h4⟩ := h
    unfold Tr.bels
    rw [Bool.and_eq_true]
    exact ⟨RT.belT h3, RTs.belT h4⟩
end
theorem RFs.belT {K : PySem.W.Frag} {H : Hp} {ρ : List Addr} : ∀ {fs : List (Str × Tr)} {gs : List (Str × V)}, RFs K H ρ fs gs → belF ρ.length fs = true
  | [], _, _ => rfl
  | t :: ts, _, h => by
    obtain ⟨x, ys, _, h3, h4⟩ := h
    unfold belF
    rw [Bool.and_eq_true]
    exact ⟨RT.belT h3, RFs.belT h4⟩
theorem RKs.belT {K : PySem.W.Frag} {H : Hp} {ρ : List Addr} : ∀ {fs : List (L2.Key × Tr)} {gs : List (L2.Key × V)}, RKs K H ρ fs gs → belK ρ.length fs = true
  | [], _, _ => rfl
  | t :: ts, _, h => by
    obtain ⟨x, ys, _, h3, h4⟩ := h
    unfold belK
    rw [Bool.and_eq_true]
    exact ⟨RT.belT h3, RKs.belT h4⟩
theorem belM_of {n : Nat} : ∀ {M : Mem}, (∀ (k : Nat) (o : O), M[k]? = some o → O.bel n o = true) → belM n M = true
  | [], _ => rfl
  | o :: M, h => by
    unfold belM
    rw [Bool.and_eq_true]
    exact ⟨h 0 o rfl, belM_of fun k u e => h (k + 1) u (by simpa using e)⟩
/-- a memory that is held has no number beyond itself -/
theorem RM.belM {K : PySem.W.Frag} {H : Hp} {ρ : List Addr} {M : Mem} (r : RM K H ρ M) : Fm.belM M.length M = true := belM_of fun k o e => by
  obtain ⟨a, _, h⟩ := r.at_ k o e
  rw [← r.len]
  cases o with
  | lst ts =>
    obtain ⟨xs, _, h2⟩ := h
    exact RTs.belT h2
  | ins C fs =>
    obtain ⟨dx, gs, _, _, h2⟩ := h
    exact RFs.belT h2
  | tab P q =>
    have e1 := (List.getElem?_eq_some_iff.mp e).1
    have e2 := r.len
    exact decide_eq_true (by omega)
  | scr ns k m r => rfl
  | dic ps =>
    obtain ⟨kvs, _, h2⟩ := h
    exact RKs.belT h2
end Fm
namespace Fm
open PySem PySem.Spec PyProof.Rows L2
theorem keep_app {K : PySem.W.Frag} {H : Hp} {ρ : List Addr} {M g : Mem} {P : PF} {v : Tr} (m : RM K H ρ M) (b : Tr.bel M.length v = true) (p : P v M) : Keep M.length P v (M ++ g) :=
  ⟨M.length, Nat.le_refl _, b, by rw [List.take_left]; exact m.belM, by rw [List.take_left]; exact p⟩
theorem keep_same {K : PySem.W.Frag} {H : Hp} {ρ : List Addr} {M : Mem} {P : PF} {v : Tr} (m : RM K H ρ M) (b : Tr.bel M.length v = true) (p : P v M) : Keep M.length P v M :=
  ⟨M.length, Nat.le_refl _, b, by rw [List.take_length]; exact m.belM, by rw [List.take_length]; exact p⟩
/-- all is kept -/
theorem keep_whole {M M' : Mem} {P : PF} {v : Tr} (h : M.length ≤ M'.length) (b : Tr.bel M'.length v = true) (bm : belM M'.length M' = true) (p : P v M') : Keep M.length P v M' :=
  ⟨M'.length, h, b, by rw [List.take_length]; exact bm, by rw [List.take_length]; exact p⟩
theorem belM_app {n : Nat} : ∀ {M g : Mem}, belM n (M ++ g) = (belM n M && belM n g)
  | [], g => by simp [belM]
  | o :: M, g => by simp [belM, belM_app (M := M), Bool.and_assoc]
theorem Tr.bels_mono {n m : Nat} (h : n ≤ m) : ∀ {ts : List Tr}, Tr.bels n ts = true → Tr.bels m ts = true
  | [], _ => rfl
  | t :: ts, b => by
    unfold Tr.bels at b ⊢
    rw [Bool.and_eq_true] at b ⊢
    exact ⟨Tr.bel_mono h b.1, Tr.bels_mono h b.2⟩
theorem belF_mono {n m : Nat} (h : n ≤ m) : ∀ {ts : List (Str × Tr)}, belF n ts = true → belF m ts = true
  | [], _ => rfl
  | t :: ts, b => by
    unfold belF at b ⊢
    rw [Bool.and_eq_true] at b ⊢
    exact ⟨Tr.bel_mono h b.1, belF_mono h b.2⟩
theorem belK_mono {n m : Nat} (h : n ≤ m) : ∀ {ts : List (L2.Key × Tr)}, belK n ts = true → belK m ts = true
  | [], _ => rfl
  | t :: ts, b => by
    unfold belK at b ⊢
    rw [Bool.and_eq_true] at b ⊢
    exact ⟨Tr.bel_mono h b.1, belK_mono h b.2⟩
theorem belM_mono {n m : Nat} (h : n ≤ m) : ∀ {M : Mem}, belM n M = true → belM m M = true
  | [], _ => rfl
  | .lst ts :: M, b => by
    unfold belM at b ⊢
    rw [Bool.and_eq_true] at b ⊢
    exact ⟨Tr.bels_mono h b.1, belM_mono h b.2⟩
  | .ins C fs :: M, b => by
    unfold belM at b ⊢
    rw [Bool.and_eq_true] at b ⊢
    exact ⟨belF_mono h b.1, belM_mono h b.2⟩
  | .tab P q :: M, b => by
    unfold belM at b ⊢
    rw [Bool.and_eq_true] at b ⊢
    exact ⟨decide_eq_true (Nat.le_trans (of_decide_eq_true b.1) h), belM_mono h b.2⟩
  | .scr ns k q r :: M, b => by
    unfold belM at b ⊢
    rw [Bool.and_eq_true] at b ⊢
    exact ⟨rfl, belM_mono h b.2⟩
  | .dic ps :: M, b => by
    unfold belM at b ⊢
    rw [Bool.and_eq_true] at b ⊢
    exact ⟨belK_mono h b.1, belM_mono h b.2⟩
theorem bels_strs {n : Nat} : ∀ ys : List Str, Tr.bels n (ys.map Tr.str) = true
  | [] => rfl
  | y :: ys => by
    rw [List.map_cons]
    unfold Tr.bels
    rw [Bool.and_eq_true]
    exact ⟨rfl, bels_strs ys⟩
theorem bels_ints {n : Nat} : ∀ ys : List Int, Tr.bels n (ys.map Tr.int) = true
  | [] => rfl
  | y :: ys => by
    rw [List.map_cons]
    unfold Tr.bels
    rw [Bool.and_eq_true]
    exact ⟨rfl, bels_ints ys⟩
theorem lstAt_of {M : Mem} {n : Nat} {ts : List Tr} (h : M[n]? = some (.lst ts)) : lstAt M (.ref n) = some ts := by simp only [lstAt, h]
theorem seqAt_of {M : Mem} {n : Nat} {ts : List Tr} (h : M[n]? = some (.lst ts)) : seqAt M (.ref n) = some ts := lstAt_of h
theorem refAt_of {M : Mem} {n : Nat} {ts : List Tr} (h : M[n]? = some (.lst ts)) : refAt M (.ref n) = some (n, ts) := by simp only [refAt, h]
/-- what stands behind M -/
theorem at_0 {M g : Mem} {o : O} : (M ++ o :: g)[M.length]? = some o := by rw [List.getElem?_append_right (Nat.le_refl _), Nat.sub_self]; rfl
theorem at_k {M g : Mem} {k : Nat} : (M ++ g)[M.length + k]? = g[k]? := by rw [List.getElem?_append_right (Nat.le_add_right _ _), Nat.add_sub_cancel_left]
theorem set_k {M g : Mem} {k : Nat} {o : O} : (M ++ g).set (M.length + k) o = M ++ g.set k o := by rw [List.set_append_right _ _ (Nat.le_add_right _ _), Nat.add_sub_cancel_left]
theorem set_0 {M g : Mem} {o u : O} : (M ++ u :: g).set M.length o = M ++ o :: g := by rw [List.set_append_right _ _ (Nat.le_refl _), Nat.sub_self]; rfl
end Fm
namespace Fm
open PySem PySem.Spec PyProof.Rows L2
def lstO : Option O → Option (List Tr)
  | some (.lst ts) => some ts
  | _ => none
theorem lstO_lst (ts : List Tr) : lstO (some (.lst ts)) = some ts := rfl
theorem lstAt_ref (M : Mem) (n : Nat) : lstAt M (.ref n) = lstO (M[n]?) := by
  simp only [lstAt]
  cases M[n]? with
  | none => rfl
  | some o => cases o <;> rfl
theorem seqAt_ref (M : Mem) (n : Nat) : seqAt M (.ref n) = lstO (M[n]?) := lstAt_ref M n
theorem seqAt_tup (M : Mem) (ts : List Tr) : seqAt M (.tup ts) = some ts := rfl
theorem refAt_ref (M : Mem) (n : Nat) : refAt M (.ref n) = (lstO (M[n]?)).map fun ts => (n, ts) := by
  simp only [refAt]
  cases M[n]? with
  | none => rfl
  | some o => cases o <;> rfl
theorem app_assoc2 (M : Mem) (a b : List O) : (M ++ a) ++ b = M ++ (a ++ b) := List.append_assoc ..
theorem len_app1 (M : Mem) (g : List O) : List.length (M ++ g) = List.length M + List.length g := List.length_append
theorem at_kk {M g : Mem} {k : Nat} : (M ++ g)[List.length M + k]? = g[k]? := at_k
theorem at_00 {M g : Mem} : (M ++ g)[List.length M]? = g[0]? := by
  have := at_k (M := M) (g := g) (k := 0)
  simpa using this
theorem set_00 {M g : Mem} {o : O} : (M ++ g).set (List.length M) o = M ++ g.set 0 o := by
  have := set_k (M := M) (g := g) (k := 0) (o := o)
  simpa using this
theorem at_left {M g : Mem} {n : Nat} {o : O} (h : M[n]? = some o) : (M ++ g)[n]? = some o := by
  rw [List.getElem?_append_left (List.getElem?_eq_some_iff.mp h).1]; exact h
theorem int_cast_inj {a b : Nat} : ((a : Int) = (b : Int)) = (a = b) := propext Int.ofNat_inj
end Fm
namespace Fm
open PySem PySem.Spec PyProof.Rows L2
theorem asg_len (env : Env) : ∀ ts : List Expr, (assignEach ts env).length = ts.length
  | [] => by simp [assignEach]
  | t :: ts => by cases t <;> simp [assignEach, asg_len env ts]
theorem belM_ext {M g : Mem} (hM : belM M.length M = true) (hg : belM (M.length + g.length) g = true) : belM (List.length M + List.length g) (M ++ g) = true := by
  rw [belM_app, Bool.and_eq_true]
  exact ⟨belM_mono (Nat.le_add_right _ _) hM, hg⟩
/-- nothing is forgotten -/
theorem forget_not {k : Nat} {J : Loc → Mem → Prop} {L : Loc} {M g : Mem} (hk : k ≤ List.length M + List.length g) (j : J L (M ++ g)) (bl : belL (List.length M + List.length g) L = true) (hM : belM M.length M = true) (hg : belM (M.length + g.length) g = true) : Forget k J L (M ++ g) :=
  ⟨List.length M + List.length g, L, hk, LocLe.refl L, bl, by rw [List.take_of_length_le (by rw [List.length_append]; exact Nat.le_refl _)]; exact belM_ext hM hg, by rw [List.take_of_length_le (by rw [List.length_append]; exact Nat.le_refl _)]; exact j⟩
/-- what lies behind M ++ g is forgotten -/
theorem forget_to {k : Nat} {J : Loc → Mem → Prop} {L L' : Loc} {M g h : Mem} (hk : k ≤ List.length M + List.length g) (le : LocLe L' L) (j : J L' (M ++ g)) (bl : belL (List.length M + List.length g) L' = true) (hM : belM M.length M = true) (hg : belM (M.length + g.length) g = true) : Forget k J L (M ++ (g ++ h)) :=
  ⟨List.length M + List.length g, L', hk, le, bl, by rw [← List.append_assoc, ← List.length_append, List.take_left, List.length_append]; exact belM_ext hM hg, by rw [← List.append_assoc, ← List.length_append, List.take_left]; exact j⟩
theorem zip_strs {ws ps : List Str} {i : Nat} {t : Tr} (e : (zipT (ws.map Tr.str) (ps.map Tr.str))[i]? = some t) : ∃ w p, ws[i]? = some w ∧ ps[i]? = some p ∧ t = .tup [.str w, .str p] := by
  obtain ⟨a, b, h1, h2, rfl⟩ := zipT_get e
  rw [List.getElem?_map] at h1 h2
  cases e1 : ws[i]? with
  | none => rw [e1] at h1; cases h1
  | some w =>
    cases e2 : ps[i]? with
    | none => rw [e2] at h2; cases h2
    | some p =>
      rw [e1] at h1
      rw [e2] at h2
      cases h1
      cases h2
      exact ⟨w, p, rfl, rfl, rfl⟩
theorem drop_at {α : Type} {l : List α} {i : Nat} {x : α} (h : l[i]? = some x) : l.drop i = x :: l.drop (i + 1) := by
  obtain ⟨h1, h2⟩ := List.getElem?_eq_some_iff.mp h
  rw [List.drop_eq_getElem_cons h1, h2]
end Fm
namespace Fm
open PySem PySem.Spec PyProof.Rows L2
theorem tupOf_tup (ts : List Tr) : tupOf (.tup ts) = some ts := rfl
theorem eqS_ii (i j : Int) : eqS (.int i) (.int j) = some (decide (i = j)) := rfl
theorem eqS_ss (i j : Str) : eqS (.str i) (.str j) = some (decide (i = j)) := rfl
theorem eqS_bb (i j : Bool) : eqS (.bl i) (.bl j) = some (decide (i = j)) := rfl
theorem eqS_ni (i : Int) : eqS .non (.int i) = some false := rfl
theorem eqS_in (i : Int) : eqS (.int i) .non = some false := rfl
theorem eqS_nn : eqS .non .non = some true := rfl
theorem isStr_s (z : Str) : isStr (.str z) = true := rfl
theorem isN_n : isN .non = true := rfl
theorem isN_i (i : Int) : isN (.int i) = false := rfl
theorem isN_b (i : Bool) : isN (.bl i) = false := rfl
theorem isN_s (i : Str) : isN (.str i) = false := rfl
theorem isN_t (i : List Tr) : isN (.tup i) = false := rfl
theorem isN_r (i : Nat) : isN (.ref i) = false := rfl
theorem noRaw_n : noRaw .non = true := rfl
theorem noRaw_i (i : Int) : noRaw (.int i) = true := rfl
theorem noRaw_b (i : Bool) : noRaw (.bl i) = true := rfl
theorem noRaw_s (i : Str) : noRaw (.str i) = true := rfl
theorem noRaw_t (i : List Tr) : noRaw (.tup i) = true := rfl
theorem noRaw_r (i : Nat) : noRaw (.ref i) = true := rfl
end Fm

set_option Elab.async false
set_option linter.all false
set_option maxRecDepth 100000
set_option maxHeartbeats 4000000
namespace Fm
open PySem PySem.Spec PyProof.Rows L2
/-! ### objects -/
def insAt (M : Mem) : Tr → Option (Nat × Addr × List (Str × Tr))
  | .ref n => match M[n]? with
    | some (.ins C fs) => some (n, C, fs)
    | _ => none
  | _ => none
def insO : Option O → Option (Addr × List (Str × Tr))
  | some (.ins C fs) => some (C, fs)
  | _ => none
theorem insO_ins (C : Addr) (fs : List (Str × Tr)) : insO (some (.ins C fs)) = some (C, fs) := rfl
theorem insAt_ref (M : Mem) (n : Nat) : insAt M (.ref n) = (insO (M[n]?)).map fun p => (n, p.1, p.2) := by
  simp only [insAt]
  cases M[n]? with
  | none => rfl
  | some o => cases o <;> rfl
def putT (f : Str) (v : Tr) : List (Str × Tr) → List (Str × Tr)
  | [] => [(f, v)]
  | (g, x) :: r => if g = f then (g, v) :: r else (g, x) :: putT f v r
def fFld (K : PySem.W.Frag) (fe : FE) (f : Str) : FE := fun L M P => fe L M fun x M1 => ∃ n C fs v, insAt M1 x = some (n, C, fs) ∧ Cls K C ∧ NoAttr K C f ∧ fs.lookup f = some v ∧ P v M1
def fCon (K : PySem.W.Frag) (fe : FE) (f : Str) : FE := fun L M P => fe L M fun x M1 => ∃ n C fs v i u, insAt M1 x = some (n, C, fs) ∧ Cls K C ∧ Con K C f (.int i) u ∧ fs.lookup f = none ∧ v = Tr.int i ∧ P v M1
def fSetFld (K : PySem.W.Frag) (fa fv : FE) (f : Str) : FS := fun D L M => fv L M fun y M1 => fa L M1 fun x M2 => ∃ n C fs, insAt M2 x = some (n, C, fs) ∧ Cls K C ∧ NoAttr K C f ∧ fs.length < 1000 ∧ D.nx L (M2.set n (.ins C (putT f y fs)))
def fMake (C : Addr) (fsp : FSp) (PX : PXF) (fa : FA) : FE := fun L M P => fa L M fun ts M1 => fsp (.ref M1.length :: ts) (M1 ++ [.ins C []]) (fun v M2 => v = .non ∧ P (.ref M1.length) M2) PX
def fProp (C : Addr) (fsp : FSp) (PX : PXF) (fe : FE) : FE := fun L M P => fe L M fun x M1 => ∃ n fs, insAt M1 x = some (n, C, fs) ∧ fsp [x] M1 P PX
def fMeth (C : Addr) (m : Str) (fsp : FSp) (PX : PXF) (fe : FE) (fa : FA) : FE := fun L M P => fe L M fun x M1 => ∃ n fs, insAt M1 x = some (n, C, fs) ∧ fs.lookup m = none ∧ fa L M1 fun ts M2 => fsp (x :: ts) M2 P PX
def fCMeth (C : Addr) (fsp : FSp) (PX : PXF) (fe : FE) (fa : FA) : FE := fun L M P => fe L M fun x M1 => x = .raw (.ref C) ∧ fa L M1 fun ts M2 => fsp (.raw (.ref C) :: ts) M2 P PX
section
variable {K : PySem.W.Frag} {B : Bs} {H H' : Hp} {ρ : List Addr} {M : Mem}
theorem insAt_ok {x : Tr} {xv : V} {n : Nat} {C : Addr} {fs : List (Str × Tr)} (hm : RM K H ρ M) (rx : RT K H ρ x xv) (e : insAt M x = some (n, C, fs)) : ∃ a dx gs, x = .ref n ∧ ρ[n]? = some a ∧ M[n]? = some (.ins C fs) ∧ xv = .ref a ∧ H a = some (.ins C dx gs) ∧ H dx = some (.own a) ∧ RFs K H ρ fs gs := by
  cases x with
  | ref m =>
    simp only [insAt] at e
    split at e
    · rename_i C' us hu
      cases e
      obtain ⟨a, h1, dx, gs, h2, h3, h4⟩ := hm.at_ n _ hu
      obtain ⟨b, h5, h6⟩ := rx.ref_inv
      rw [h1] at h5
      cases h5
      exact ⟨a, dx, gs, rfl, h1, hu, h6, h2, h3, h4⟩
    · cases e
  | _ => cases e
theorem RFs.look : ∀ {fs : List (Str × Tr)} {gs : List (Str × V)} {f : Str} {t : Tr}, RFs K H ρ fs gs → fs.lookup f = some t → ∃ v, gs.lookup f = some v ∧ RT K H ρ t v
  | [], _, _, _, _, e => by cases e
  | p :: fs, _, f, t, h, e => by
    obtain ⟨x, hs, rfl, h1, h2⟩ := h
    rw [List.lookup_cons] at e ⊢
    cases hf : (f == p.1) with
    | true =>
      simp only [hf] at e ⊢
      cases e
      exact ⟨x, rfl, h1⟩
    | false =>
      simp only [hf] at e ⊢
      exact RFs.look h2 e
theorem RFs.lookN : ∀ {fs : List (Str × Tr)} {gs : List (Str × V)} {f : Str}, RFs K H ρ fs gs → fs.lookup f = none → gs.lookup f = none
  | [], _, _, h, _ => by
    have h : _ = ([] : List (Str × V)) := h
    subst h
    rfl
  | p :: fs, _, f, h, e => by
    obtain ⟨x, hs, rfl, h1, h2⟩ := h
    rw [List.lookup_cons] at e ⊢
    cases hf : (f == p.1) with
    | true =>
      simp only [hf] at e
      cases e
    | false =>
      simp only [hf] at e ⊢
      exact RFs.lookN h2 e
theorem RFs.put {f : Str} {t : Tr} {v : V} (r : RT K H ρ t v) : ∀ {fs : List (Str × Tr)} {gs : List (Str × V)}, RFs K H ρ fs gs → RFs K H ρ (putT f t fs) (putF f v gs)
  | [], _, h => by
    have h : _ = ([] : List (Str × V)) := h
    subst h
    exact ⟨v, [], rfl, r, rfl⟩
  | p :: fs, _, h => by
    obtain ⟨x, hs, rfl, h1, h2⟩ := h
    obtain ⟨g, u⟩ := p
    unfold putT putF
    by_cases hf : g = f
    · rw [if_pos hf, if_pos hf]
      exact ⟨v, hs, rfl, r, h2⟩
    · rw [if_neg hf, if_neg hf]
      exact ⟨x, _, rfl, h1, RFs.put r h2⟩
theorem RFs.len : ∀ {fs : List (Str × Tr)} {gs : List (Str × V)}, RFs K H ρ fs gs → gs.length = fs.length
  | [], _, h => by
    have h : _ = ([] : List (Str × V)) := h
    subst h
    rfl
  | p :: fs, _, h => by
    obtain ⟨x, hs, rfl, h1, h2⟩ := h
    simp [RFs.len h2]
variable {te ta tv : TE} {fe fa fv : FE} {as : TA} {fs : FA} {sp : Sp} {fsp : FSp} {E : XK} {PX : PXF} {C : Addr}
theorem sim_fld {f : Str} (a : SimE K B te fe) : SimE K B (tFld K te f) (fFld K fe f) := ⟨fun hl hm h o => a.run hl hm h fun x xv H1 ρ1 M1 g1 m1 rx ⟨n, C, fs, v, e, c, na, lk, p⟩ => by
  obtain ⟨b, dx, gs, rfl, h1, h2, rfl, h3, h4, h5⟩ := insAt_ok m1 rx e
  obtain ⟨w, k1, k2⟩ := h5.look lk
  exact ⟨b, C, dx, gs, w, rfl, h3, c, na, k1, o _ _ _ _ _ g1 m1 k2 p⟩⟩
theorem sim_con {f : Str} (a : SimE K B te fe) : SimE K B (tCon K te f) (fCon K fe f) := ⟨fun hl hm h o => a.run hl hm h fun x xv H1 ρ1 M1 g1 m1 rx ⟨n, C, fs, v, i, u, e, c, co, lk, ev, p⟩ => by
  subst ev
  obtain ⟨b, dx, gs, rfl, h1, h2, rfl, h3, h4, h5⟩ := insAt_ok m1 rx e
  exact ⟨b, C, dx, gs, .int i, u, rfl, h3, c, co, h5.lookN lk, o _ _ _ _ _ g1 m1 RT.int_ p⟩⟩
theorem sim_setFld {f : Str} (a : SimE K B ta fa) (b : SimE K B tv fv) : SimS K B (sFld K ta tv f) (fSetFld K fa fv f) := ⟨fun hl hm h e => b.run hl hm h fun y yv H1 ρ1 M1 g1 m1 ry h1 => a.run (hl.mono g1) m1 h1 fun x xv H2 ρ2 M2 g2 m2 rx ⟨n, C, fs, ei, c, na, z, p⟩ => by
  obtain ⟨b, dx, gs, rfl, h1, h2, rfl, h3, h4, h5⟩ := insAt_ok m2 rx ei
  have g3 := Grow.wi (hs := putF f yv gs) m2 h3 (List.mem_of_getElem? h1)
  exact ⟨b, C, dx, gs, rfl, h3, c, na, by rw [h5.len]; exact z, e.nx _ _ _ _ _ ((g1.trans g2).trans g3) (hl.mono ((g1.trans g2).trans g3)) (m2.wi h3 h4 h1 (RFs.put (ry.mono g2) h5)) p⟩⟩
theorem RM.ins {x dx : Addr} (r : RM K H ρ M) (hx : H x = none) (hd : H dx = none) (n : dx ≠ x) : Grow K H ρ (upd (upd H dx (.own x)) x (.ins C dx [])) (ρ ++ [x]) ∧ RM K (upd (upd H dx (.own x)) x (.ins C dx [])) (ρ ++ [x]) (M ++ [.ins C []]) := by
  have g1 : Grow K H ρ (upd H dx (.own x)) ρ := Grow.laid hd
  have m1 : RM K (upd H dx (.own x)) ρ M := r.laid hd
  have hx1 : upd H dx (.own x) x = none := by rw [upd_ne (Ne.symm n)]; exact hx
  have g2 := Grow.list (o := .ins C dx []) m1 hx1
  have lt := r.len
  refine ⟨g1.trans g2, by simp [lt], fun k o e => ?_, ?_⟩
  · by_cases hn : k < M.length
    · rw [List.getElem?_append_left hn] at e
      obtain ⟨a, h1, h2⟩ := m1.at_ k o e
      refine ⟨a, by rw [List.getElem?_append_left (by rw [lt]; exact hn)]; exact h1, h2.mono g2 (upd_ne fun e => m1.fresh hx1 (e ▸ List.mem_of_getElem? h1)) fun d q => by rw [upd_ne (ne_of_none q hx1)]; exact q⟩
    · rw [List.getElem?_append_right (by omega)] at e
      match hz : k - M.length, e with
      | 0, e =>
        cases e
        refine ⟨x, by rw [List.getElem?_append_right (by omega), lt, hz]; rfl, dx, [], upd_same, ?_, rfl⟩
        rw [upd_ne n, upd_same]
      | j + 1, e => simp at e
  · rw [List.nodup_append]
    exact ⟨r.nd, by simp, fun a ha b hb => by rw [List.mem_singleton.mp hb]; exact fun e => r.fresh hx (e ▸ ha)⟩
theorem sim_makeX (hE : OutX K B.1 B.2 PX E) (s : SimSp K sp fsp) (a : SimA K B as fs) : SimE K B (tMake C sp [] E as) (fMake C fsp PX fs) :=
  ⟨fun hl hm h o => a.run hl hm h fun ts xs H1 ρ1 M1 g1 m1 rx h1 => fun x dx hx hd n => by
    obtain ⟨g2, m2⟩ := m1.ins (C := C) hx hd n
    have rself : RT K (upd (upd H1 dx (.own x)) x (.ins C dx [])) (ρ1 ++ [x]) (.ref M1.length) (.ref x) := by unfold RT; exact ⟨x, m1.ref, rfl⟩
    refine s.run (P := fun v M2 => v = .non ∧ _) (RTs.cons rself (by rw [List.append_nil]; exact rx.mono g2)) m2 h1 (fun v xv H3 ρ3 M3 g3 m3 rv ⟨ev, p⟩ => ?_) (hE.step ((hl.gr.trans g1).trans g2))
    subst ev
    exact ⟨rv.non_inv, o _ _ _ _ _ ((g1.trans g2).trans g3) m3 (rself.mono g3) p⟩⟩
theorem sim_make (s : SimSp K sp fsp) (a : SimA K B as fs) : SimE K B (tMake C sp [] E as) (fMake C fsp noX fs) := sim_makeX outX_no s a
theorem sim_prop (s : SimSp K sp fsp) (a : SimE K B te fe) : SimE K B (tProp C sp [] E te) (fProp C fsp noX fe) := ⟨fun hl hm h o => a.run hl hm h fun x xv H1 ρ1 M1 g1 m1 rx ⟨n, fs, e, p⟩ => by
  obtain ⟨b, dx, gs, rfl, h1, h2, rfl, h3, h4, h5⟩ := insAt_ok m1 rx e
  exact ⟨b, dx, gs, rfl, h3, s.run (RTs.cons rx RTs.nil) m1 p (o.step g1) outX_no⟩⟩
theorem sim_methX {m : Str} (hE : OutX K B.1 B.2 PX E) (s : SimSp K sp fsp) (a : SimE K B te fe) (b : SimA K B as fs) : SimE K B (tMeth C m sp [] E te as) (fMeth C m fsp PX fe fs) := ⟨fun hl hm h o => a.run hl hm h fun x xv H1 ρ1 M1 g1 m1 rx ⟨n, fs, e, lk, p⟩ => by
  obtain ⟨b', dx, gs, rfl, h1, h2, rfl, h3, h4, h5⟩ := insAt_ok m1 rx e
  exact ⟨b', dx, gs, rfl, h3, h5.lookN lk, b.run (hl.mono g1) m1 p fun ts xs H2 ρ2 M2 g2 m2 rts p2 => s.run (RTs.cons (rx.mono g2) (by rw [List.append_nil]; exact rts)) m2 p2 (o.step (g1.trans g2)) (hE.step ((hl.gr.trans g1).trans g2))⟩⟩
theorem sim_meth {m : Str} (s : SimSp K sp fsp) (a : SimE K B te fe) (b : SimA K B as fs) : SimE K B (tMeth C m sp [] E te as) (fMeth C m fsp noX fe fs) := sim_methX outX_no s a b
theorem sim_cmethX (hE : OutX K B.1 B.2 PX E) (s : SimSp K sp fsp) (a : SimE K B te fe) (b : SimA K B as fs) : SimE K B (ClX.tCMeth C sp E te as) (fCMeth C fsp PX fe fs) := ⟨fun hl hm h o => a.run hl hm h fun x xv H1 ρ1 M1 g1 m1 rx ⟨e, p⟩ => by
  subst e
  exact ⟨rx.raw_inv, b.run (hl.mono g1) m1 p fun ts xs H2 ρ2 M2 g2 m2 rts p2 => s.run (RTs.cons (by unfold RT; rfl) rts) m2 p2 (o.step (g1.trans g2)) (hE.step ((hl.gr.trans g1).trans g2))⟩⟩
theorem sim_cmeth (s : SimSp K sp fsp) (a : SimE K B te fe) (b : SimA K B as fs) : SimE K B (ClX.tCMeth C sp E te as) (fCMeth C fsp noX fe fs) := sim_cmethX outX_no s a b
end
/-! ### isinstance -/
def tyN (M : Mem) : Tr → Option String
  | .non => some "NoneType"
  | .bl _ => some "bool"
  | .int _ => some "int"
  | .str _ => some "str"
  | .tup _ => some "tuple"
  | t => match lstAt M t with
    | some _ => some "list"
    | none => none
def fIsi : FC := fun xs M P => ∃ x b a r, xs = [x, .raw (.ty b)] ∧ tyN M x = some a ∧ kitB a b = some r ∧ P (.bl r) M
def fIsiT (b c : String) (fe : FE) : FE := fun L M P => fe L M fun x M1 => ∃ a r s, tyN M1 x = some a ∧ kitB a b = some r ∧ kitB a c = some s ∧ P (.bl (r || s)) M1
section
variable {K : PySem.W.Frag} {B : Bs} {H : Hp} {ρ : List Addr} {M : Mem} {te : TE} {fe : FE}
theorem sq_ty {a : Addr} {xs : List V} (h : SqT K H a xs) : TyX K H (.ref a) (.type "tuple") := by
  rcases h with (h | ⟨o, h⟩) | ⟨o, its, n, h, c, _⟩
  · exact .base (.tup h)
  · exact .fTuple h
  · exact .kTuple h c
theorem ty_ok {x : Tr} {xv : V} {a : String} (hm : RM K H ρ M) (rx : RT K H ρ x xv) (e : tyN M x = some a) : TyX K H xv (.type a) := by
  cases x with
  | non => cases e; rw [rx.non_inv]; exact .base .non
  | bl b => cases e; rw [rx.bl_inv]; exact .base (.bl b)
  | int b => cases e; rw [rx.int_inv]; exact .base (.int b)
  | str b => cases e; rw [rx.str_inv]; exact .base (.str b)
  | tup ts =>
    cases e
    obtain ⟨p, xs, rfl, h2, _⟩ := rx.tup_inv
    exact sq_ty h2
  | ref n =>
    simp only [tyN] at e
    split at e
    · rename_i ts hts
      cases e
      obtain ⟨n, p, xs, _, _, _, rfl, h3, _⟩ := lstAt_ok hm rx hts
      exact .base (.lst h3)
    · cases e
  | raw v => simp [tyN, lstAt] at e
theorem kitA2 {a b c : String} {r s : Bool} (h1 : kitB a b = some r) (h2 : kitB a c = some s) : PySem.W.kitAny K (.type a) [.type b, .type c] = some (r || s) := by
  refine kitAny_cons (kit_ty h1) (fun e => ?_) fun e => by rw [e] <;> rfl
  subst e
  refine kitAny_cons (kit_ty h2) (fun e => ?_) fun e => by rw [e] <;> rfl
  subst e
  exact kitAny_nil
theorem c_isi : SimC K (rIsi K) fIsi := ⟨fun hm rx ⟨x, b, a, r, e, ty, k, p⟩ o => by
  subst e
  obtain ⟨xv, cv, rfl, r1, r2⟩ := rx.two
  rw [r2.raw_inv]
  exact ⟨xv, .ty b, .type a, .type b, r, rfl, .ty b, ty_ok hm r1 ty, kit_ty k, o _ _ _ _ _ Grow.refl hm RT.bl_ p⟩⟩
theorem sim_isiT {b c : String} (s : SimE K B te fe) : SimE K B (tCB (rIsiT K) (tCons te (tCons (tTup (tCons (tC (.ty b)) (tCons (tC (.ty c)) tNil))) tNil))) (fIsiT b c fe) := ⟨fun hl hm h o => s.run hl hm h fun x xv H1 ρ1 M1 g1 m1 rx ⟨a, r, s, ty, k1, k2, p⟩ => by
  refine ⟨by show 2 ≤ sizeLine; rw [sizeLine_eq]; decide, fun q hq => ?_⟩
  have g2 := Grow.laid (K := K) (ρ := ρ1) (o := .tup [.ty b, .ty c]) hq
  exact ⟨xv, q, [.ty b, .ty c], .type a, [.type b, .type c], r || s, rfl, upd_same, .cons (.ty b) (.cons (.ty c) .nil), ty_ok (m1.laid hq) (rx.mono g2) ty, kitA2 k1 k2, o _ _ _ _ _ (g1.trans g2) (m1.laid hq) RT.bl_ p⟩⟩
end
/-! ### == of data -/
mutual
inductive Da (M : Mem) : Tr → PyData → Prop
  | non : Da M .non .none
  | bl (b : Bool) : Da M (.bl b) (.bool b)
  | int (i : Int) : Da M (.int i) (.int i)
  | str (x : Str) : Da M (.str x) (.str x)
  | lst {t : Tr} {ts : List Tr} {ds : List PyData} : lstAt M t = some ts → DaAll M ts ds → Da M t (.list ds)
  | tup {ts : List Tr} {ds : List PyData} : DaAll M ts ds → Da M (.tup ts) (.tuple ds)
inductive DaAll (M : Mem) : List Tr → List PyData → Prop
  | nil : DaAll M [] []
  | cons {v : Tr} {vs : List Tr} {d : PyData} {ds : List PyData} : Da M v d → DaAll M vs ds → DaAll M (v :: vs) (d :: ds)
end
section
variable {K : PySem.W.Frag} {B : Bs} {H : Hp} {ρ : List Addr} {M : Mem}
mutual
theorem Da.dp (hm : RM K H ρ M) : ∀ {t : Tr} {d : PyData} {v : V}, Da M t d → RT K H ρ t v → Dp K H v d
  | _, _, _, .non, r => by rw [r.non_inv]; exact .non
  | _, _, _, .bl b, r => by rw [r.bl_inv]; exact .bl b
  | _, _, _, .int i, r => by rw [r.int_inv]; exact .int i
  | _, _, _, .str x, r => by rw [r.str_inv]; exact .str x
  | _, _, _, .lst e a, r => by
    obtain ⟨n, p, xs, _, _, _, rfl, h3, h4⟩ := lstAt_ok hm r e
    exact .lst (.inl (.inl h3)) (DaAll.dp hm a h4)
  | _, _, _, .tup a, r => by
    obtain ⟨p, xs, rfl, h2, h3⟩ := r.tup_inv
    exact .tup h2 (DaAll.dp hm a h3)
theorem DaAll.dp (hm : RM K H ρ M) : ∀ {ts : List Tr} {ds : List PyData} {vs : List V}, DaAll M ts ds → RTs K H ρ ts vs → DpAll K H vs ds
  | _, _, _, .nil, r => by unfold RTs at r; rw [r]; exact .nil
  | _, _, _, .cons a b, r => by
    unfold RTs at r
    obtain ⟨x, ys, rfl, h1, h2⟩ := r
    exact .cons (Da.dp hm a h1) (DaAll.dp hm b h2)
end
def fEqD : F2 := fun x y M P => ∃ d e, Da M x d ∧ Da M y e ∧ SeqAt.shaped d = true ∧ SeqAt.shaped e = true ∧ P (.bl (PyData.eqv d e)) M
def fNeD : F2 := fun x y M P => ∃ d e, Da M x d ∧ Da M y e ∧ SeqAt.shaped d = true ∧ SeqAt.shaped e = true ∧ P (.bl (!PyData.eqv d e)) M
theorem s_eqD : Sim2 K (rEqD K) fEqD := ⟨fun hm rx ry ⟨d, e, h1, h2, s1, s2, p⟩ o => ⟨d, e, h1.dp hm rx, h2.dp hm ry, s1, s2, o _ _ _ _ _ Grow.refl hm RT.bl_ p⟩⟩
theorem s_neD : Sim2 K (rNeD K) fNeD := ⟨fun hm rx ry ⟨d, e, h1, h2, s1, s2, p⟩ o => ⟨d, e, h1.dp hm rx, h2.dp hm ry, s1, s2, o _ _ _ _ _ Grow.refl hm RT.bl_ p⟩⟩
end
end Fm

set_option Elab.async false
set_option linter.all false
set_option maxRecDepth 100000
set_option maxHeartbeats 4000000
namespace Fm
open PySem PySem.Spec PyProof.Rows L2
/-! ### comprehensions whose elements leave nothing behind -/
section
variable {L : Loc} {M : Mem} {P : PF} {fg : FG} {ft : FT} {fe : FE} {vs : List Nat}
/-- one turn: what the element is (none: passed by) -/
def LcStep (F : Tr → Option Tr) (fg : FG) (ft : FT) (fe : FE) (vs : List Nat) (L : Loc) (M : Mem) (t : Tr) : Prop :=
  ∀ (R : Tr → Mem → Prop) (N : Mem → Prop), (∀ y, F t = some y → R y M ∧ ∀ g, R y (M ++ g)) → (F t = none → N M ∧ ∀ g, N (M ++ g)) →
    fg t (wipeF L vs) M fun L3 M3 => ft L3 M3 fun b M4 => if b = true then fe L3 M4 fun y M5 => R y M5 else N M4
theorem bels_all {n : Nat} : ∀ {ts : List Tr}, (∀ t ∈ ts, Tr.bel n t = true) → Tr.bels n ts = true
  | [], _ => rfl
  | t :: ts, h => by
    unfold Tr.bels
    rw [Bool.and_eq_true]
    exact ⟨h t List.mem_cons_self, bels_all fun u hu => h u (List.mem_cons_of_mem _ hu)⟩
theorem lc_core {it : FIt} (F : Tr → Option Tr) (hok : it.ok M) (hM : belM M.length M = true) (hn : it.items.length ≤ sizeLine) (hF : ∀ t ∈ it.items, ∀ y, F t = some y → Tr.bel M.length y = true)
    (step : ∀ t ∈ it.items, LcStep F fg ft fe vs L M t) (fin : P (.ref M.length) (M ++ [.lst (it.items.filterMap F)])) :
    ∃ I : Nat → List Tr → Mem → Prop, I 0 [] M ∧ (∀ i acc M2, i ≤ it.items.length → I i acc M2 → it.ok M2) ∧
  (∀ (i : Nat) (t : Tr) acc M2, it.items[i]? = some t → I i acc M2 → fg t (wipeF L vs) M2 fun L3 M3 => ft L3 M3 fun b M4 => if b = true then fe L3 M4 fun y M5 => acc.length < sizeLine ∧ ForgetA M.length (I (i + 1)) (acc ++ [y]) M5 else ForgetA M.length (I (i + 1)) acc M4) ∧
  (∀ acc M2, I it.items.length acc M2 → P (.ref M2.length) (M2 ++ [.lst acc])) := by
  have hb : ∀ i, Tr.bels M.length ((it.items.take i).filterMap F) = true := fun i => bels_all fun u hu => by
    obtain ⟨t, ht, e⟩ := List.mem_filterMap.mp hu
    exact hF t (List.mem_of_mem_take ht) u e
  refine ⟨fun i acc M2 => M2 = M ∧ acc = (it.items.take i).filterMap F, ⟨rfl, rfl⟩, fun i acc M2 _ ⟨e, _⟩ => e ▸ hok, ?_, ?_⟩
  · rintro i t acc M2 ht ⟨rfl, rfl⟩
    have hi := (List.getElem?_eq_some_iff.mp ht).1
    have snoc : (it.items.take (i + 1)).filterMap F = (it.items.take i).filterMap F ++ (F t).toList := by
      rw [List.take_succ, ht, List.filterMap_append]
      congr 1
    have hl : ((it.items.take i).filterMap F).length < sizeLine := by
      have h1 := List.length_filterMap_le F (it.items.take i)
      rw [List.length_take] at h1
      omega
    have hb1 := hb (i + 1)
    refine step t (List.mem_of_getElem? ht) _ _ (fun y hy => ?_) fun hy => ?_
    · have key : ∀ g, ForgetA M2.length (fun acc M3 => M3 = M2 ∧ acc = (it.items.take (i + 1)).filterMap F) ((it.items.take i).filterMap F ++ [y]) (M2 ++ g) := fun g =>
        ⟨M2.length, Nat.le_refl _, by rw [snoc, hy] at hb1; exact hb1, by rw [List.take_left]; exact hM, by rw [List.take_left], by rw [snoc, hy]; rfl⟩
      exact ⟨⟨hl, by have := key []; rwa [List.append_nil] at this⟩, fun g => ⟨hl, key g⟩⟩
    · have key : ∀ g, ForgetA M2.length (fun acc M3 => M3 = M2 ∧ acc = (it.items.take (i + 1)).filterMap F) ((it.items.take i).filterMap F) (M2 ++ g) := fun g =>
        ⟨M2.length, Nat.le_refl _, hb i, by rw [List.take_left]; exact hM, by rw [List.take_left], by rw [snoc, hy]; simp⟩
      exact ⟨by have := key []; rwa [List.append_nil] at this, key⟩
  · rintro acc M2 ⟨rfl, rfl⟩
    rw [List.take_length]
    exact fin
theorem lc_T {i : Nat} {ts : List Tr} (F : Tr → Option Tr) (hv : L[i]? = some (some (.tup ts))) (hM : belM M.length M = true) (hn : ts.length ≤ sizeLine) (hF : ∀ t ∈ ts, ∀ y, F t = some y → Tr.bel M.length y = true)
    (step : ∀ t ∈ ts, LcStep F fg ft fe vs L M t) (fin : P (.ref M.length) (M ++ [.lst (ts.filterMap F)])) : fLc (fIT (fVar i)) fg ft fe vs L M P :=
  ⟨.tup ts, hv, ts, rfl, lc_core F trivial hM hn hF step fin⟩
theorem lc_S {i : Nat} {z : Str} (F : Tr → Option Tr) (hv : L[i]? = some (some (.str z))) (hM : belM M.length M = true) (hn : z.length ≤ sizeLine) (hF : ∀ t ∈ chrsT z, ∀ y, F t = some y → Tr.bel M.length y = true)
    (step : ∀ t ∈ chrsT z, LcStep F fg ft fe vs L M t) (fin : P (.ref M.length) (M ++ [.lst ((chrsT z).filterMap F)])) : fLc (fIS (fVar i)) fg ft fe vs L M P :=
  ⟨.str z, hv, z, rfl, lc_core (it := ⟨chrsT z, fun _ => True⟩) F trivial hM (by show (chrsT z).length ≤ _; unfold chrsT; rw [List.length_map]; exact hn) hF step fin⟩
theorem lc_L {i : Nat} {x : Tr} {ts : List Tr} (F : Tr → Option Tr) (hv : L[i]? = some (some x)) (hx : lstAt M x = some ts) (hM : belM M.length M = true) (hn : ts.length ≤ sizeLine) (hF : ∀ t ∈ ts, ∀ y, F t = some y → Tr.bel M.length y = true)
    (step : ∀ t ∈ ts, LcStep F fg ft fe vs L M t) (fin : P (.ref M.length) (M ++ [.lst (ts.filterMap F)])) : fLc (fIL (fVar i)) fg ft fe vs L M P :=
  ⟨x, hv, ts, hx, lc_core (it := ⟨ts, fun M => lstAt M x = some ts⟩) F hx hM hn hF step fin⟩
end
end Fm

set_option Elab.async false
set_option linter.all false
set_option maxRecDepth 100000
set_option maxHeartbeats 4000000
namespace Fm
open PySem PySem.Spec PyProof.Rows L2
/-! ### a cut that forgets; xs[::-1] -/
def fCutF (f g : FS) : FS := fun D L M => ∃ J : Loc → Mem → Prop, f { D with nx := Forget M.length J } L M ∧ ∀ L' M', J L' M' → g D L' M'
def fRevL (fe : FE) : FE := fun L M P => fe L M fun x M1 => ∃ ts, lstAt M1 x = some ts ∧ P (.ref M1.length) (M1 ++ [.lst ts.reverse])
section
variable {K : PySem.W.Frag} {B : Bs} {H : Hp} {ρ : List Addr} {t u : TS} {f f' : FS} {te : TE} {fe : FE}
theorem sim_cutF (a : SimS K B t f) (b : SimS K B u f') : SimS K B (C8.tCut t u) (fCutF f f') :=
  ⟨fun {σ H ρ L M D' D} hl hm ⟨J, p, q⟩ e => ⟨u D, a.run hl hm p ⟨fun L1 σ1 H1 ρ1 M1 g1 l1 m1 p1 => by
    have hB := base_len hl hm
    obtain ⟨ρ6, L6, M6, l6, m6, j6, up⟩ := forget_at l1 m1 p1 hB
    have g6 : Grow K H ρ H1 ρ6 := up (Nat.le_of_eq hm.len) g1
    exact b.run l6 m6 (q _ _ j6) (e.step g6), e.rt, e.bk, e.ct⟩, fun _ _ h => h⟩⟩
theorem RTs.rev : ∀ {ts : List Tr} {xs : List V}, RTs K H ρ ts xs → RTs K H ρ ts.reverse xs.reverse
  | [], _, h => by
    unfold RTs at h
    subst h
    exact RTs.nil
  | t :: ts, _, h => by
    unfold RTs at h
    obtain ⟨x, ys, rfl, h1, h2⟩ := h
    rw [List.reverse_cons, List.reverse_cons]
    exact (RTs.rev h2).app (RTs.cons h1 RTs.nil)
theorem sim_revL (a : SimE K B te fe) : SimE K B (tRevL K te) (fRevL fe) := ⟨fun hl hm h o => a.run hl hm h fun x xv H1 ρ1 M1 g1 m1 rx ⟨ts, e, p⟩ => by
  obtain ⟨n, b, us, _, _, _, h1, h2, h3⟩ := lstAt_ok m1 rx e
  exact ⟨b, us, h1, .inl (.inl h2), out_list m1 h3.rev (o.step g1) p⟩⟩
end
end Fm

set_option Elab.async false
set_option linter.all false
set_option maxRecDepth 100000
set_option maxHeartbeats 4000000
namespace T1
open PySem PySem.Spec PyProof.Rows L2 C8 Fm
local macro_rules | `(tactic| walk_at "hf") => `(tactic| (fail_if_success (show (fun _ => none : Hp) _ = _)); first | assumption | with_reducible exact upd_same | ((with_reducible show upd _ _ _ _ = _); first | exact up_new' (by assumption) (by walk_at "hf") | exact up_set (by walk_at "ne") (by walk_at "hf")) | exact Same.at' (by assumption) (by walk_at "hf") | exact But.at' (by assumption) (by walk_at "ne") (by walk_at "ne") (by walk_at "hf"))
local macro_rules | `(tactic| walk_at "hf0") => `(tactic| (fail_if_success (show (fun _ => none : Hp) _ = _)); first | assumption | with_reducible exact upd_same | ((with_reducible show upd _ _ _ _ = _); exact up_new' (by assumption) (by walk_at "hf0")))
local macro_rules | `(tactic| walk_at "ne") => `(tactic| first | assumption | (apply Ne.symm; assumption) | exact ne_of_none' (by assumption) (by walk_at "hf0") | exact Ne.symm (ne_of_none' (by assumption) (by walk_at "hf0")) | exact LSt.f1 (by assumption) (by walk_at "lst") | exact LSt.f2 (by assumption) (by walk_at "lst"))
local macro_rules | `(tactic| walk_at "sqt") => `(tactic| (fail_if_success (show SqT _ (fun _ => none) _ _)); first | assumption | exact SqT.of' (by walk_at "hf") | ((with_reducible show SqT _ (upd _ _ _) _ _); first | exact SqT.new' (by assumption) (by walk_at "sqt") | exact SqT.put' (by walk_at "hf") (by walk_at "sqt")) | exact Same.tup (by assumption) (by walk_at "sqt") | exact But.tup (by assumption) (by walk_at "lst") (by walk_at "sqt"))
local macro_rules | `(tactic| walk_at "sql") => `(tactic| (fail_if_success (show SqL _ (fun _ => none) _ _)); first | assumption | exact SqL.of' (by walk_at "hf") | ((with_reducible show SqL _ (upd _ _ _) _ _); exact SqL.new' (by assumption) (by walk_at "sql")) | exact Same.sql' (by assumption) (by walk_at "sql"))
local macro_rules | `(tactic| walk_at "lst") => `(tactic| (fail_if_success (show LSt (fun _ => none) _ _)); first | assumption | ((with_reducible show LSt (upd _ _ _) _ _); first | exact LSt.new (by walk_at "lst") (by assumption) | exact LSt.put (by walk_at "lst") (by walk_at "ne") (by walk_at "ne")) | exact LSt.same' (by assumption) (by walk_at "lst"))
local macro_rules | `(tactic| walk_at "but") => `(tactic| first | assumption | exact But.refl _ _ _ | ((with_reducible show But _ _ _ (upd _ _ _)); exact But.nw (by assumption) (by walk_at "but")) | exact But.bu (by assumption) (by walk_at "but") | exact But.sm (by assumption) (by walk_at "but"))
local macro_rules | `(tactic| walk_at "ls") => `(tactic| first | assumption | exact Ls.same (by walk_at "ls") (Same.upd' (by assumption)))
local macro_rules | `(tactic| walk_at "ll") => `(tactic| first | assumption | exact LL.same (by walk_at "ll") (Same.upd' (by assumption)) | exact LL.same' (by assumption) (by walk_at "ll") | exact LL.but' (by assumption) (by walk_at "lst") (by walk_at "ll"))
local macro_rules | `(tactic| walk_at "sm") => `(tactic| first | assumption | exact Same.refl _ | ((with_reducible show Same _ (upd _ _ _)); first | exact Same.put' (by assumption) (by walk_at "sm") | exact Same.trans (by walk_at "sm") (Same.upd' (by assumption))) | exact Same.trans (by walk_at "sm") (by assumption))
/-- one step of a reading -/
local macro_rules | `(tactic| walk_at "rd") => `(tactic| first
  | with_reducible refine iteF ?_
  | with_reducible refine iteT ?_
  | with_reducible refine itNotF ?_
  | with_reducible refine itNotT ?_
  | refine ⟨_, rfl, ?_⟩
  | refine ⟨_, _, rfl, rfl, ?_⟩
  | refine ⟨_, _, rfl, ?_⟩
  | refine ⟨(_ : Addr), (_ : List V), (_ : Int), (_ : V), rfl, rfl, SqL.of' (by walk_at "hf"), (by first | assumption | rfl), ?_⟩
  | refine ⟨(_ : Addr), (_ : List V), (_ : Int), (_ : V), rfl, rfl, (by walk_at "sqt" : SqT _ _ _ _), (by first | assumption | rfl), ?_⟩
  | refine .inl ⟨_, rfl, ?_⟩
  | refine ⟨_, _, rfl, .inl (by walk_at "sql" : SqL _ _ _ _), ?_⟩
  | refine ⟨_, _, rfl, .inl ⟨(by walk_at "sql" : SqL _ _ _ _), fun p hp => ?_⟩⟩
  | refine ⟨_, _, rfl, .inr ⟨(by walk_at "sqt" : SqT _ _ _ _), ?_⟩⟩
  | refine fun (p : Addr) (hp : (_ : Hp) p = none) => ?_
  | refine ⟨_, _, rfl, .inr (by walk_at "sqt" : SqT _ _ _ _), ?_⟩
  | refine And.intro (by show _ ≤ sizeLine; first | decide | walk_at "sz") (fun p hp => ?_)
  | refine ⟨(_ : Addr), (_ : Addr), (_ : List V), (_ : List V), rfl, rfl, (by walk_at "hf"), (by walk_at "hf"), (by walk_at "sz"), fun p hp => ?_⟩
  | refine ⟨(_ : Addr), (_ : Addr), (_ : List V), (_ : List V), rfl, rfl, (by walk_at "hf"), (by walk_at "hf"), (by walk_at "sz"), ?_⟩
  | refine ⟨(_ : Addr), (_ : List V), (_ : Int), (_ : Nat), rfl, rfl, (by walk_at "hf"), (by rfl), ?_⟩
  | refine And.intro ⟨_, (by walk_at "sql" : SqL _ _ _ _)⟩ ?_
  | refine And.intro ⟨_, (by walk_at "sqt" : SqT _ _ _ _)⟩ ?_
  | refine And.intro (.inl ⟨rfl, _, SqL.of' (by walk_at "hf")⟩) ?_
  | refine And.intro (by walk_at "cond") ?_
  | exact .inl ⟨rfl, _, SqL.of' (by walk_at "hf")⟩
  | with_reducible refine iteT ?_
  | with_reducible refine iteF ?_
  | refine And.intro (by rfl : scal _ _ = true) ?_
  | refine And.intro (by rfl : _ = V.non) ?_
  | refine And.intro (by rfl : wipe _ _ = wipe _ _) ?_
  | refine And.intro (by rfl : (_ : List V) = []) ?_
  | refine ⟨(_ : Addr), (_ : List V), rfl, (by walk_at "sqt" : SqT _ _ _ _), (by rfl), ?_⟩)
/-- a test: known, or both ways -/
local macro_rules | `(tactic| walk_at "if") => `(tactic| first
  | with_reducible refine itD (by omega) ?_
  | with_reducible refine itN (by omega) ?_
  | with_reducible refine itnD (by omega) ?_
  | with_reducible refine itnN (by omega) ?_
  | with_reducible refine itE (by omega) ?_
  | with_reducible refine itEn (by omega) ?_
  | with_reducible refine itnE (by omega) ?_
  | with_reducible refine itnEn (by omega) ?_
  | with_reducible refine itN (by intro z; cases z) ?_
  | with_reducible refine itD (by decide) ?_
  | with_reducible refine itN (by decide) ?_
  | with_reducible refine itnD (by decide) ?_
  | with_reducible refine itnN (by decide) ?_)
local macro_rules | `(tactic| walk_at "if2") => `(tactic| first
  | with_reducible refine itS (fun z => ?_) (fun z => ?_)
  | with_reducible refine itS' (fun z => ?_) (fun z => ?_)
  | with_reducible refine itSE (fun z => ?_) (fun z => ?_)
  | with_reducible refine itnS (fun z => ?_) (fun z => ?_)
  | with_reducible refine itnS' (fun z => ?_) (fun z => ?_)
  | with_reducible refine itnSE (fun z => ?_) (fun z => ?_))
local macro_rules | `(tactic| walk_at "go") => `(tactic| repeat' (first | walk_at "rd" | walk_at "if" | walk_at "if2" | fail))
local macro_rules | `(tactic| walk_at "sz") => `(tactic| (rw [sizeLine_eq]; simp only [List.length_append, List.length_map, List.length_cons, List.length_nil]; omega))
local macro_rules | `(tactic| walk_at "cond") => `(tactic| first | assumption | (show (_ : Int) ≠ 0; first | omega | (split <;> omega)) | (show (0 : Int) < _; first | assumption | decide) | exact ⟨by decide, by decide, by decide⟩ | exact .inr ⟨by decide, by decide⟩ | exact wide_div (b := 64) (by assumption) (by omega) (by decide) (by decide) | exact ⟨by decide, by decide⟩)


abbrev sStart : Stmt := top 22
abbrev sDrawn : Stmt := top 23
/-! ### the drawing state [script, k, m, r] -/
structure St4 (K : PySem.W.Frag) (H : Hp) (h : Addr) (ns : List Int) (k m r : Int) : Prop where
  ex : ∃ s, H h = some (.lst [.ref s, .int k, .int m, .int r]) ∧ Fz K H s (ns.map V.int)
  k0 : 0 ≤ k
  m0 : 0 ≤ m
  m1 : m < 2147483647
  r0 : 0 ≤ r
  len : ns.length ≤ 63
theorem fz_put {K : PySem.W.Frag} {H : Hp} {s h : Addr} {o : HO} {xs ys : List V} (f : Fz K H s xs) (e : H h = some (.lst ys)) : Fz K (upd H h o) s xs := by
  rcases f with ⟨u, f⟩ | f
  · exact .inl ⟨u, by rw [upd_ne (ne_of f e (fun z => nomatch z))]; exact f⟩
  · exact .inr f
theorem fz_nw {K : PySem.W.Frag} {H : Hp} {s h : Addr} {o : HO} {xs : List V} (f : Fz K H s xs) (e : H h = none) : Fz K (upd H h o) s xs := by
  rcases f with ⟨u, f⟩ | f
  · exact .inl ⟨u, by rw [upd_ne (ne_of_none f e)]; exact f⟩
  · exact .inr f
def But1 (h : Addr) (H H' : Hp) : Prop := ∀ b o, b ≠ h → H b = some o → H' b = some o
def spStart (K : PySem.W.Frag) : Sp := fun vs H Q _ => ∃ (a : Addr) (ns : List Int), vs = [.ref a] ∧ Fz K H a (ns.map V.int) ∧ ns.length ≤ 63 ∧
  ∀ h m H', H h = none → St4 K H' h ns 0 m 0 → Same H H' → Q (.ref h) H'
def spDrawn (K : PySem.W.Frag) : Sp := fun vs H Q _ => ∃ (h : Addr) (ns : List Int) (k m r n : Int), vs = [.ref h, .int n] ∧ St4 K H h ns k m r ∧ 0 < n ∧ n ≤ 2000000000000000000 ∧
  ∀ x k' m' r' H', 0 ≤ x → x < n → St4 K H' h ns k' m' r' → But1 h H H' → Q (.int x) H'
section
variable {P : Program} {w : World} {K : PySem.W.Frag} {mg : Str → Option Value} {base : Heap}
theorem scStart : FnScope ["_law_script", "_law_mixed", "_law_cell"] ["_law_script"] (fnScope sStart) := fnScope_by (by decide +kernel)
theorem ok_start {f : Addr} {fd : FuncData} (F : Def K mg "_law_start" sStart f fd) (b : Binds K fd ["_law_script"] []) (T : BT mg) : Cal P w K mg base 1 "_law_start" (spStart K) [] := by
  refine cal0 F b .nil scStart (fun vs H Q E h => ?_) (fun cdv A outer s H vs Q E hr h => ?_)
  · obtain ⟨h, ns, rfl, _⟩ := h; rfl
  · obtain ⟨a, ns, rfl, fz, hl, q⟩ := h
    have ha := fz.sql
    refine ⟨_, (pss_cons (ps_set (i := 1) scStart.nd rfl (Or.inl rfl) pe_int)
 (pss_cons (ps_for PassesOwn.never rfl (pi_list (pv 0)) (pg_name (i := 2) scStart.nd rfl (Or.inl rfl)) (pss_one (ps_set (i := 1) scStart.nd rfl (Or.inl rfl) (pe_op op_modN (pe_op op_add (pe_op op_add (pe_op op_mul (pv 1) pe_int) (pv 2)) pe_int) pe_int))))
 (pss_one (ps_ret (pe_lst (pa_cons (pv 0) (pa_cons pe_int (pa_cons (pv 1) (pa_cons pe_int pa_nil))))))))), ?_⟩
    repeat walk_at "rd"
    refine for_list (K := K) (a := a) (xs := ns.map V.int) (fun i σ H' => H' = H ∧ ∃ (m : Int) (v : Option V), σ = [some (.ref a), some (.int m), v] ∧ 0 ≤ m ∧ m < 2147483647)
      ⟨rfl, 1, none, rfl, by decide, by decide⟩ (fun i σ H' _ ⟨e, _⟩ => by rw [e]; exact ha) ?_ ?_
    · rintro i y σ H' hi ⟨rfl, m, v, rfl, m0, m1⟩
      obtain ⟨z, hz, rfl⟩ := int_get hi
      repeat walk_at "rd"
      obtain ⟨u0, u1⟩ := fdN (a := m * 48271 + z + 7) (b := 2147483647) (by decide)
      exact ⟨rfl, _, _, rfl, u0, u1⟩
    · rintro σ H' ⟨rfl, m, v, rfl, m0, m1⟩
      repeat walk_at "rd"
      rename_i p1 hp1
      exact q p1 _ _ hp1 ⟨⟨a, upd_same, fz_nw fz hp1⟩, Int.le_refl 0, m0, m1, Int.le_refl 0, hl⟩ fun b o e => by walk_at "hf"
theorem scDrawn : FnScope ["_law_state", "_law_count", "_law_result", "_law_cell"] ["_law_state", "_law_count"] (fnScope sDrawn) := fnScope_by (by decide +kernel)
theorem ok_drawn {f : Addr} {fd : FuncData} (F : Def K mg "_law_drawn" sDrawn f fd) (b : Binds K fd ["_law_state", "_law_count"] []) (T : BT mg) : Cal P w K mg base 1 "_law_drawn" (spDrawn K) [] := by
  refine cal0 F b .nil scDrawn (fun vs H Q E h => ?_) (fun cdv A outer s H vs Q E hr h => ?_)
  · obtain ⟨h, ns, k, m, r, n, rfl, _⟩ := h; rfl
  · obtain ⟨h, ns, k, m, r, n, rfl, ⟨⟨a, e1, fz⟩, k0, m0, m1, r0, xl⟩, n0, n1, q⟩ := h
    have ha := fz.sql
    refine ⟨_, (pss_cons (ps_if (pt_cmpR op_gt (pe_ix ix_list (pv 0) pe_int (fun _ _ => rfl)) pe_int (nomark _)) (pss_cons (ps_set (i := 2) scDrawn.nd rfl (Or.inl rfl) (pe_op op_modN (pe_callTy call_int1 (by rfl) T.int (by decide +kernel) (pa_cons (pe_ix ix_list (pv 0) pe_int (fun _ _ => rfl)) pa_nil)) (pv 1)))
 (pss_cons (ps_asg (pe_op op_fdivW (pe_ix ix_list (pv 0) pe_int (fun _ _ => rfl)) (pv 1)) (pg_sub (pv 0) pe_int set_list))
 (pss_one (ps_ret (pv 2))))) pss_nil)
 (pss_cons (ps_asg (pe_op op_add (pe_ix ix_list (pv 0) pe_int (fun _ _ => rfl)) pe_int) (pg_sub (pv 0) pe_int set_list))
 (pss_cons (ps_if (pt_cmpR op_le (pe_ix ix_list (pv 0) pe_int (fun _ _ => rfl)) (pe_callB call_len_seq (by rfl) T.len PySem.boot_len (pa_cons (pe_ix ix_list (pv 0) pe_int (fun _ _ => rfl)) pa_nil)) (nomark _)) (pss_cons (ps_set (i := 3) scDrawn.nd rfl (Or.inl rfl) (pe_ix ix_list (pe_ix ix_list (pv 0) pe_int (fun _ _ => rfl)) (pe_op op_sub (pe_ix ix_list (pv 0) pe_int (fun _ _ => rfl)) pe_int) (fun _ _ => rfl)))
 (pss_cons (ps_asg (pe_ifExp (pt_cmpR op_ge (pv 3) (pe_op op_pow pe_int pe_int) (nomark _)) (pe_op op_fdivW (pv 3) (pv 1)) pe_int) (pg_sub (pv 0) pe_int set_list))
 (pss_one (ps_ret (pe_op op_modN (pe_callTy call_int1 (by rfl) T.int (by decide +kernel) (pa_cons (pv 3) pa_nil)) (pv 1)))))) pss_nil)
 (pss_cons (ps_asg (pe_op op_modN (pe_op op_add (pe_op op_mul (pe_ix ix_list (pv 0) pe_int (fun _ _ => rfl)) pe_int) pe_int) pe_int) (pg_sub (pv 0) pe_int set_list))
 (pss_one (ps_ret (pe_op op_modN (pe_op op_fdiv (pe_ix ix_list (pv 0) pe_int (fun _ _ => rfl)) pe_int) (pv 1)))))))), ?_⟩
    have hs2 : ∀ o, SqL K (upd H h o) a (ns.map V.int) := fun o => (fz_put fz e1).sql
    repeat walk_at "rd"
    refine ite2 (fun c1 => ?_) (fun c1 => ?_)
    · have c1 : 0 < r := of_decide_eq_true c1
      repeat walk_at "rd"
      obtain ⟨i0, i1⟩ := fdN (a := r) n0
      refine q _ k m (r / n) _ i0 i1 ⟨⟨a, upd_same, fz_put fz e1⟩, k0, m0, m1, Int.ediv_nonneg r0 (by omega), xl⟩ fun b o nh e => up_set nh e
    · have c1 : ¬ 0 < r := fun z => c1 (decide_eq_true z)
      repeat walk_at "rd"
      have xl' : (ns.map V.int).length = ns.length := List.length_map ..
      refine ⟨_, _, rfl, .inl (hs2 _), ?_⟩
      repeat walk_at "rd"
      refine ite2 (fun c2 => ?_) (fun c2 => ?_)
      · have c2 : k + 1 ≤ ((ns.map V.int).length : Int) := of_decide_eq_true c2
        obtain ⟨c, hc⟩ : ∃ c, ns[k.toNat]? = some c := ⟨_, List.getElem?_eq_getElem (by omega)⟩
        have hc' : atI (ns.map V.int) (k + 1 - 1) = some (V.int c) := by
          rw [show k + 1 - 1 = k by omega]
          exact atI_get k0 (by rw [List.getElem?_map, hc]; rfl)
        repeat walk_at "rd"
        refine ⟨_, _, _, _, rfl, rfl, hs2 _, hc', ?_⟩
        repeat walk_at "rd"
        obtain ⟨i0, i1⟩ := fdN (a := c) n0
        refine ite2 (fun c3 => ?_) (fun c3 => ?_)
        · have c3 : (10 : Int) ^ 18 ≤ c := of_decide_eq_true c3
          repeat walk_at "rd"
          exact q _ (k + 1) m (c / n) _ i0 i1 ⟨⟨a, upd_same, fz_put (fz_put fz e1) upd_same⟩, by omega, m0, m1, Int.ediv_nonneg (Int.le_trans (by decide) c3) (by omega), xl⟩ fun b o nh e => up_set nh (up_set nh e)
        · repeat walk_at "rd"
          exact q _ (k + 1) m 0 _ i0 i1 ⟨⟨a, upd_same, fz_put (fz_put fz e1) upd_same⟩, by omega, m0, m1, Int.le_refl 0, xl⟩ fun b o nh e => up_set nh (up_set nh e)
      · repeat walk_at "rd"
        obtain ⟨i0, i1⟩ := fdN (a := (m * 48271 + 11).fmod 2147483647 / 7) n0
        obtain ⟨u0, u1⟩ := fdN (a := m * 48271 + 11) (b := 2147483647) (by decide)
        exact q _ (k + 1) _ r _ i0 i1 ⟨⟨a, upd_same, fz_put (fz_put fz e1) upd_same⟩, by omega, u0, u1, r0, xl⟩ fun b o nh e => up_set nh (up_set nh e)
end
end T1

set_option Elab.async false
set_option linter.all false
set_option maxRecDepth 100000
set_option maxHeartbeats 3200000
/-! XN: own errors raised where nothing is handled (context None); a base's __init__ by name; C(*xs) by a variable; one of two readings. -/
namespace XNx
open PySem PySem.Spec PyProof.Rows L2
section
variable {X : Cx} {e : Expr} {es : List Expr} {ta : TA} {p pos : Pos}
theorem pmkN_oex {CX : CXT} {x : Str} {C fI : Addr} {k : Nat} {fd : FuncData} {ps : List Str} {sp : Sp} (T : OexC X.K C) (iC : PySem.W.findIn X.K (.ref C) "__init__" = some (some (.ref fI))) (tI : PySem.W.typeIn X.K (.ref fI) = some (.type "function"))
    (F1 : FnOk X.prog X.w X.K X.mg X.base CX k fI fd ps sp) (hr : Room (k + 1) X.A) (hb : Binds X.K fd ps []) (hx : Passes CX X (fun _ _ _ => False)) (hg : Gl X x) (hm : X.mg x = some (.ref C)) (ha : PA X (e :: es) ta)
    (hdb : (x == ("__debug__" : Str)) = false := by decide) (he : starEach (e :: es) X.env = (false, eval e X.env) :: starEach es X.env := by rfl) (hpl : (backTo pos (starEach es X.env)).any (·.1) = false := by rfl) :
    L2N.PMk X (.Call (.Name x p) (e :: es) [] pos) (tMkO C sp [] ta) := by
  intro pins s σ H Q I h
  obtain ⟨nm, q, N, bs, bm, sn, sub, ab, col, dd, k0, k1, k2, k3, k5, hC, hbm⟩ := T.cls
  refine wpAny_Call_Name_kw (ld_glob I hg hm ?_ hdb)
  refine PySem.W.callWith_K (h₀ := X.base) I.ok.mod.kin T.kC (thn (ha.run pos pins s σ H _ I h) fun us s1 ⟨vs, H1, I1, r1, hz, q1⟩ => ⟨I1.kIn, ?_⟩) he hpl
  show wpAny _ _ (call (.ref C) us) _ _ _
  obtain ⟨hp, g, dr, tk, os⟩ := s1
  have hsz : hp.objs.size ≤ hp.objs.size + 1 := Nat.le_succ _
  have hn : H1 (hp.objs.size + 1) = none := I1.hok.fresh hsz
  have hq := q1 (hp.objs.size + 1) hn
  rw [List.append_nil] at hq
  have kk : ∀ b o, hp.get? b = some o → ((hp.push (PySem.W.kdv_tup us)).push (PySem.HandSPX.excO C hp.objs.size)).get? b = some o := fun b o e => Heap.get?_push_of_some _ (Heap.get?_push_of_some _ e)
  have hget : ((hp.push (PySem.W.kdv_tup us)).push (PySem.HandSPX.excO C hp.objs.size)).get? (hp.objs.size + 1) = some (PySem.HandSPX.excO C hp.objs.size) := by heap_get
  have I2 : Inv X pins σ (upd H1 (hp.objs.size + 1) (exo (hp.objs.size + 1) C none)) ⟨(hp.push (PySem.W.kdv_tup us)).push (PySem.HandSPX.excO C hp.objs.size), g, dr, tk, os⟩ :=
    I1.laid (t' := tk) (a := hp.objs.size + 1) (o := exo (hp.objs.size + 1) C none) (h' := (hp.push (PySem.W.kdv_tup us)).push (PySem.HandSPX.excO C hp.objs.size)) kk hsz (exo_ok hget)
  have r2 : Vals (V.ref (hp.objs.size + 1) :: vs) (Value.ref (hp.objs.size + 1) :: us) := .cons rfl r1
  have hl : (Value.ref (hp.objs.size + 1) :: us ++ []).length = ps.length := by
    have e := r2.length
    rw [F1.len _ _ _ _ hq] at e
    rw [List.append_nil]
    exact e.symm
  have hus : us.length ≤ sizeLine := by
    rw [← Paired.length r1, sizeLine_eq]
    omega
  have b2 := hb _ (Value.ref (hp.objs.size + 1) :: us) I2.kIn hl
  rw [List.append_nil] at b2
  refine wpAny_call (PySem.HandSPX.call_own F.excBase_ValueError (fun Y => PySem.HandSPX.refsVE_contains Y bm hbm) (I1.kIn _ _ hC) (PySem.W.looks_findIn I1.kIn iC) (fun self => PySem.W.bind_fn I1.kIn self tI) hus
    (codeAny_mono (F1.run _ X.stack _ _ ⟨Value.ref (hp.objs.size + 1) :: us, []⟩ (Value.ref (hp.objs.size + 1) :: us) _ _ (fun _ _ _ => False) (hr.make C us []) (I2.env0.make C us []) b2 r2 hq) fun r s' hq' => ?_))
  cases r with
  | error er => exact hx pins σ _ _ er s' I2 hq'
  | ok fl =>
    cases fl with
    | ret u =>
      obtain ⟨v, H2, os2, bare2, un2, hok2, rv, ev, d, fs, ea, ed, hd1, q2⟩ := hq'
      subst ev
      obtain ⟨h2, g2, d2, t2, os'⟩ := s'
      obtain ⟨t0, G, J, kG, ge, hoe, na⟩ := mk_end0 (d2 := d2) (t2 := t2) I1 hsz kk un2 hok2 os2 bare2 ea ed hd1
      refine ⟨rv, hp.objs.size + 1, _, _, ⟨G, g2, d2, t2, os'⟩, _, .ref C, some d, rfl, J, kG, ge, hoe, ⟨rfl, rfl, fun vs hv => ?_⟩, rfl, rfl, na, rfl, bare2, raises_own T.exC T.tyC, q2⟩
      cases hv
      rfl
    | next => exact False.elim hq'
    | brk => exact False.elim hq'
    | cont => exact False.elim hq'
/-- one of two readings -/
def tOr (t1 t2 : TE) : TE := fun σ H Q => t1 σ H Q ∨ t2 σ H Q
theorem pe_or {t1 t2 : TE} (a : PE X e t1) (b : PE X e t2) : PE X e (tOr t1 t2) := ⟨fun pins s σ H Q I h => h.elim (a.run pins s σ H Q I) (b.run pins s σ H Q I)⟩
def tOrG (t1 t2 : TGen) : TGen := fun σ H Q => t1 σ H Q ∨ t2 σ H Q
theorem pgen_or {k : Nat} {E : XK} {t1 t2 : TGen} (a : PGen X k e t1 E) (b : PGen X k e t2 E) : PGen X k e (tOrG t1 t2) E := ⟨fun pins s σ H c I h => h.elim (a.run pins s σ H c I) (b.run pins s σ H c I)⟩
/-- B.__init__(self, ..), B a plain class with an own __init__ -/
theorem pe_unb {CX : CXT} {k : Nat} {C f : Addr} {mc : Value} {fd : FuncData} {ps : List Str} {sp : Sp} {E : XK} {B m : Str} {p1 p3 : Pos} {pl : Sem Bool} (hg : Gl X B) (hm : X.mg B = some (.ref C)) (r : ClX.CRead X.K C mc)
    (at_ : PySem.W.findCls X.K (.ref C) mc m = some (.val (.ref f))) (kp : PySem.W.keepIn X.K (.ref f) = true) (F : FnOk X.prog X.w X.K X.mg X.base CX k f fd ps sp) (hr : Room k X.A) (hb : Binds X.K fd ps []) (hx : Passes CX X E) (ha : PA X (e :: es) ta)
    (hh : PySem.W.handedIn (.ref f) = true := by rfl) (hd : (B == ("__debug__" : Str)) = false := by decide) (he : starEach (e :: es) X.env = (false, eval e X.env) :: starEach es X.env := by rfl) (hpl : (backTo pos (starEach es X.env)).any (·.1) = false := by rfl)
    (hc : eval (.Call (.Attribute (.Name B p3) m p1) (e :: es) [] pos) X.env =
    (eval (.Name B p3) X.env >>= fun ov => standAt p1.atName >>= fun _ => holding [ov] (getMethod ov m pl) >>= fun r => callWith pos r.1 r.2 (backTo pos (starEach (e :: es) X.env)) (backToKw pos (keywordEach [] X.env))) := by rfl) :
    PE X (.Call (.Attribute (.Name B p3) m p1) (e :: es) [] pos) (tCall sp [] E ta) where
  run := fun pins s σ H Q I h => by
    refine PySem.W.methodCall_KW (pl := pl) (ld_glob I hg hm (PySem.W.method_cls I.kIn r.ga (PySem.W.cls_value I.kIn r.rd at_ hh (PySem.W.callWith_K (first := []) (h₀ := X.base) I.ok.mod.kin kp (thn (ha.run pos pins _ σ H _ (I.tok _) h) ?_) he hpl))) hd) hc
    rintro us z ⟨vs, H1, I1, rvs, q⟩
    exact ⟨I1.kIn, run_fn F hr hb .nil hx I1 rvs q⟩
/-- x(*y), x a variable that holds the class -/
def tMakeVS (K : PySem.W.Frag) (i : Nat) (C : Addr) (sp : Sp) (E : XK) (te : TE) : TE := fun σ H Q => σ[i]? = some (some (V.ref C)) ∧ te σ H fun y H1 => ∃ a xs, y = V.ref a ∧ (SqT K H1 a xs ∨ SqL K H1 a xs) ∧ ∀ x dx, H1 x = none → H1 dx = none → dx ≠ x →
  sp (V.ref x :: xs) (upd (upd H1 dx (.own x)) x (.ins C dx [])) (fun v H2 => v = .non ∧ Q (.ref x) H2) E
theorem pe_makeVS {CX : CXT} {k i : Nat} {f C : Addr} {sp : Sp} {E : XK} {x : Str} {ex : Expr} {sp_ : Pos} {te : TE} (M : Mk X.K C f) (F : FnR X.prog X.w X.K X.mg X.base CX k f sp) (hr : Room (k + 1) X.A)
    (hN : X.N[i]? = some x) (hv : Vis X.env.scope x) (hx : Passes CX X E) (he : PE X ex te) (hdb : (x == ("__debug__" : Str)) = false := by decide) (hcd : (x == ("__classdict__" : Str)) = false := by decide)
    (hst : starEach [.Starred ex sp_] X.env = [(true, eval ex X.env)] := by rfl) :
    PE X (.Call (.Name x p) [.Starred ex sp_] [] pos) (tMakeVS X.K i C sp E te) := by
  refine ⟨fun pins s σ H Q I ⟨hs, h⟩ => ?_⟩
  refine wpAny_Call_Name_kw (thn ((pe_var (pos := p) (i := i) hN hv hdb hcd).run pins s σ H (fun v H1 => v = .ref C ∧ H1 = H) I ⟨.ref C, hs, rfl, rfl⟩) fun u s1 ⟨v, H1, I1, r1, ev, eH⟩ => ?_)
  subst ev
  rw [eH] at I1
  cases r1
  refine PySem.W.callWith_S (h₀ := X.base) I.ok.mod.kin M.kp (thn (he.run pins s1 σ H _ I1 h) fun v s2 ⟨y, H2, I2, ry, a, xs, ey, hxs, q⟩ => ?_) hst
  subst ey
  obtain rfl : v = Value.ref a := ry
  exact StX.star_any I2 hxs fun us s3 I3 rv => ⟨I3.kIn, StX.run_makeR M F hr hx I3 rv q⟩
end
end XNx

set_option Elab.async false
set_option linter.all false
set_option maxRecDepth 100000
set_option maxHeartbeats 1000000
/-! GL: yield from a list. -/
namespace GCx
open PySem PySem.Spec PyProof.Rows L2 GenW
section
variable {prog : Program} {w : World} {A : Around} {E : Value → Shared → Prop} {s : Shared}
theorem lst_item {z l : Addr} {k : Nat} {vs : Array Value} {u : Value} {Q : Option Value → Shared → Prop} (hz : s.heap.IsListIter z l k) (hv : s.heap.IsList l vs) (hu : vs[k]? = some u)
    (q : ∀ g, g.IsListIter z l (k + 1) → Heap.SameBut z s.heap g → Q (some u) { s with heap := g }) : wpAny (model prog w) A (callSpecial? (.ref z) "__next__") Q E s := by
  obtain ⟨oz, e1, e2, e3⟩ := id hz
  obtain ⟨ov, f1, _, nv, f3⟩ := hv
  refine wpAny_callSpecial?_slot (name := Str.ofString "__next__") hz.typeIs slot_listiter_next (wpAny_call_entry slot_listiter_next hz.typeIs entry_listiter_next ?_ (args_listiter_next _))
  show wpAny _ _ (field (.ref z) 0 >>= _) _ _ s
  refine wpAny_bind (wpAny_field e1 e3 (x := .ref l) rfl ?_)
  show wpAny _ _ (if (Value.ref l == Value.none) = true then _ else _) _ _ s
  rw [if_neg (fun c : (Value.ref l == Value.none) = true => Bool.noConfusion c)]
  show wpAny _ _ (field (.ref z) 1 >>= _) _ _ s
  refine wpAny_bind (wpAny_field e1 e3 (x := .int k 0) rfl ?_)
  show wpAny _ _ (seqItems? (.ref l) >>= _) _ _ s
  refine wpAny_bind (wpAny_seqItems f1 f3 ?_)
  simp only [Int.toNat_natCast, hu]
  refine wpAny_bind (wpAny_setField e1 e3 (by simp) (wpAny_pure ⟨u, rfl, q _ ?_ (Heap.SameBut.update ..)⟩))
  refine ⟨_, Heap.get?_update_self _ e1 (Obj.isFreed_of_fields (Obj.data_mapFields e3 _)), (Obj.cls_mapFields ..).trans e2, ?_⟩
  rw [Obj.data_mapFields e3]
  simp [rawInt]
theorem lst_end {z l : Addr} {k : Nat} {vs : Array Value} {Q : Option Value → Shared → Prop} (ha : A.handled = none) (hz : s.heap.IsListIter z l k) (hv : s.heap.IsList l vs) (hu : vs[k]? = none)
    (q : ∀ e g, StopX e g → Heap.ExtBut z s.heap g → E e { s with heap := g }) : wpAny (model prog w) A (callSpecial? (.ref z) "__next__") Q E s := by
  obtain ⟨oz, e1, e2, e3⟩ := id hz
  obtain ⟨ov, f1, _, nv, f3⟩ := hv
  refine wpAny_callSpecial?_slot (name := Str.ofString "__next__") hz.typeIs slot_listiter_next (wpAny_call_entry slot_listiter_next hz.typeIs entry_listiter_next ?_ (args_listiter_next _))
  show wpAny _ _ (field (.ref z) 0 >>= _) _ _ s
  refine wpAny_bind (wpAny_field e1 e3 (x := .ref l) rfl ?_)
  show wpAny _ _ (if (Value.ref l == Value.none) = true then _ else _) _ _ s
  rw [if_neg (fun c : (Value.ref l == Value.none) = true => Bool.noConfusion c)]
  show wpAny _ _ (field (.ref z) 1 >>= _) _ _ s
  refine wpAny_bind (wpAny_field e1 e3 (x := .int k 0) rfl ?_)
  show wpAny _ _ (seqItems? (.ref l) >>= _) _ _ s
  refine wpAny_bind (wpAny_seqItems f1 f3 ?_)
  simp only [Int.toNat_natCast, hu]
  refine wpAny_bind (wpAny_rule (wpAny_bind (wpAny_setField e1 e3 (by simp) ?_)))
  show wpAny _ _ (newExc (.type "StopIteration") [] >>= _) _ _ _
  refine wpAny_bind ?_
  simp only [newExc, newTuple]
  refine wpAny_bind (wpAny_newObj_type ?_ (by size_fits))
  refine wpAny_bind (m := firstArgMember _ _) (wpAny_of_eq (a := Value.none) (by first | rfl | (simp only [firstArgMember]; rfl)) ?_)
  refine wpAny_newObj_type ?_ (by size_fits)
  simp only [raiseNew]
  refine wpAny_bind (wpAny_handled ?_)
  first | rw [show A.in1.handled = none from ha] | rw [ha]
  refine wpAny_bind (wpAny_pure (wpAny_throw ?_))
  refine q _ _ ⟨_, _, _, rfl, Heap.get?_push_size _ rfl, rfl, rfl, ?_⟩ (((Heap.SameBut.update ..).extBut.push _).push _)
  first
    | rfl
    | (rw [Array.getElem?_append_left (by decide)]; rfl)
    | kernel_rfl
end
section
variable {X : Cx} {e : Expr} {te : TE}
def tYfL (K : PySem.W.Frag) (te : TE) : TYf := fun σ H Q => te σ H fun x H1 => ∃ a xs, x = .ref a ∧ H1 a = some (.lst xs) ∧ Q xs H1
theorem close_lst : typeLookup (.type "list_iterator") "close" = pure none := by rw [typeLookup_type, builtinLookup_eq_fast]; kernel_rfl
theorem yf_lst (he : PE X e te) : YfE X e (tYfL X.K te) := by
  refine ⟨fun pins s σ H Q I h => ?_⟩
  refine thn (he.run pins s σ H _ I h) fun v s1 ⟨x, H1, I1, r1, a, xs, ex, ha, hq⟩ => ?_
  subst ex
  obtain rfl : v = Value.ref a := r1
  obtain ⟨its, ri, pl, hz⟩ := I1.list (.inl (.inl ha))
  have hl := pl.isList
  refine ⟨"list", hl.typeIs, by decide, wpAny_pyIter_list hl ?_⟩
  have young : ∀ b o, s1.heap.get? b = some o → b ≠ s1.heap.objs.size := fun b o q => Nat.ne_of_lt (Heap.lt_size q)
  have kp : ∀ b o, s1.heap.get? b = some o → (s1.heap.push { cls := .type "list_iterator", data := .fields #[.ref a, .int 0 0] }).get? b = some o := fun b o q => Heap.get?_push_of_some _ q
  have neA : a ≠ s1.heap.objs.size := let ⟨o, q, _⟩ := hl; young a o q
  refine ⟨s1.heap.objs.size, H1, xs, fun j g => g.IsListIter s1.heap.objs.size a j ∧ g.IsList a its.toArray, rfl, I1.kept (t' := s1.toks) kp, .inr I1.sz, Nat.ne_of_gt I1.lt, fun y c hy => ?_, I1.hok.fresh (Nat.le_refl _), fun p hp => ?_,
    ⟨⟨_, Heap.get?_push_size _ rfl, rfl, rfl⟩, hl.push _⟩, ⟨⟨"list_iterator", fun j g q => ?_, close_lst, by decide⟩, fun j g g' q hk => ?_, fun A' j x s2 Q' E' hA hx q hQ => ?_, fun A' s2 Q' E' hA q hE => ?_⟩, hq⟩
  · obtain ⟨v, o, ho, _⟩ := I1.cell y c hy
    exact young c o ho
  · exact young p.1 _ (I1.pin p hp).1
  · obtain ⟨⟨o, ho, hc, _⟩, _⟩ := q
    exact ⟨o, ho, hc⟩
  · obtain ⟨⟨o, ho, r⟩, o2, ho2, r2⟩ := q
    exact ⟨⟨o, hk _ o (.inl rfl) ho, r⟩, o2, hk _ o2 (.inr (by rw [ha]; exact fun z => by cases z)) ho2, r2⟩
  · obtain ⟨u, hu, ru⟩ := ri.get hx
    exact lst_item q.1 q.2 (u := u) (by simpa using hu) fun g q1 sb => hQ u g s2.toks ru ⟨q1, q.2.extBut sb.extBut neA⟩ fun b o hb eb => sb.extBut b o hb eb
  · have hnone : its.toArray[xs.length]? = none := by
      have e1 := ri.length
      have e2 : its[xs.length]? = none := List.getElem?_eq_none_iff.mpr (by omega)
      simpa using e2
    exact lst_end hA q.1 q.2 hnone fun e g hS hk => hE e g s2.toks hS fun b o hb eb => hk b o hb eb
end
end GCx

set_option Elab.async false
set_option linter.all false
set_option maxRecDepth 100000
set_option maxHeartbeats 1000000
/-! GC: [x for x in g()], g a generator def whose last statement is yield from a list. -/
namespace GCx
open PySem PySem.Spec PyProof.Rows L2 GenW
/-- asleep: the consumer lays v behind its list at S and writes its own names at C -/
structure Nap (S C : Addr) (v : Value) (s s' : Shared) : Prop where
  same : s'.os = s.os
  bare : AllBare s'.gens
  rest : ∀ b o, b ≠ S → b ≠ C → s.heap.get? b = some o → s'.heap.get? b = some o
  more : ∀ acc c, s.heap.get? S = some (lstObj acc c) → ∃ c', s'.heap.get? S = some (lstObj (acc.push v) c')
  own : ∃ co, s'.heap.get? C = some co ∧ ∀ u, co.data ≠ .cell u
/-- ys is out and stands in the list at S; co stands at C -/
def GJ (X : Cx) (S C : Addr) (co : Obj) (ys : List V) (σ : L2.St) (H : Hp) (s : Shared) : Prop :=
  ∃ (acc : Array Value) (c : Nat), Vals ys acc.toList ∧ Inv X [(S, lstObj acc c), (C, co)] σ H s
/-- S and C: younger than the call, none of its frame's -/
structure Far (X : Cx) (S C : Addr) : Prop where
  s : Apart X S
  c : Apart X C
  ne : S ≠ C
  pn : ∀ p ∈ X.pn, p.1 ≠ S ∧ p.1 ≠ C
section
variable {X : Cx} {S C : Addr} {co : Obj} {ys : List V} {σ : L2.St} {H : Hp} {s s' : Shared}
theorem GJ.facts (h : GJ X S C co ys σ H s) : (H S = none ∧ S ≠ X.env.locals ∧ S ∉ X.fs) ∧ (s.heap.get? C = some co ∧ H C = none ∧ C ≠ X.env.locals ∧ C ∉ X.fs) ∧ ∃ acc c, Vals ys acc.toList ∧ s.heap.get? S = some (lstObj acc c) := by
  obtain ⟨acc, c, r, I⟩ := h
  obtain ⟨h1, h2, h3, h4, _⟩ := I.pin (S, lstObj acc c) (List.mem_append_right _ List.mem_cons_self)
  obtain ⟨k1, k2, k3, k4, _⟩ := I.pin (C, co) (List.mem_append_right _ (List.mem_cons_of_mem _ List.mem_cons_self))
  exact ⟨⟨h2, h3, h4⟩, ⟨k1, k2, k3, k4⟩, acc, c, r, h1⟩
theorem GJ.wakes {x : V} {v : Value} (f : Far X S C) (h : GJ X S C co ys σ H s) (rv : RelV x v) (z : Nap S C v s s') : ∃ co', s'.heap.get? C = some co' ∧ GJ X S C co' (ys ++ [x]) σ H s' := by
  obtain ⟨⟨nS, sL, sF⟩, ⟨eC, nC, cL, cF⟩, _⟩ := h.facts
  obtain ⟨acc, c, r, I⟩ := h
  have eS : s.heap.get? S = some (lstObj acc c) := (I.pin (S, lstObj acc c) (List.mem_append_right _ List.mem_cons_self)).1
  have I0 : Inv X [] σ H s := I.pins_of fun p hp => nomatch hp
  have tS : ∀ b u, H b = some u → b ≠ S ∧ b ≠ C := fun b u q => ⟨fun e => by rw [e, nS] at q; (cases q), fun e => by rw [e, nC] at q; cases q⟩
  obtain ⟨z1, z2, z3, z4, co', z5, z6⟩ := z
  obtain ⟨c', eS'⟩ := z4 acc c eS
  obtain ⟨hh, g, d, t, o⟩ := s'
  have ho : o = s.os := z1
  subst ho
  have out : ∀ b, b ∉ [S, C] → b ≠ S ∧ b ≠ C := fun b hb => ⟨fun e => hb (by rw [e]; simp), fun e => hb (by rw [e]; simp)⟩
  have J : Inv X [] σ H { s with heap := hh, gens := g, drawn := d, toks := t } := by
    refine I0.step (g' := g) (t' := t) (d' := d) (ch := [S, C]) (fun b hb => ?_)
      (fun b ob _ _ hc q _ => z3 b ob (out b hc).1 (out b hc).2 q) (fun b ob _ _ hc q _ => ⟨ob.slots, z3 b ob (out b hc).1 (out b hc).2 q⟩) (fun _ _ _ _ n => n) (fun b ob hc q => ⟨ob, z3 b ob (out b hc).1 (out b hc).2 q⟩)
      (fun _ _ q => q) (fun _ _ _ q => q) (fun b ps q => ⟨#[], by rw [q]; simp⟩) (fun m hm => ?_) (fun b u q => ?_) z2
    · have hb : b = S ∨ b = C := by simpa using hb
      rcases hb with rfl | rfl
      · exact ⟨.inr f.s.1, f.s.2.1, f.s.2.2, fun p hp => (f.pn p (by simpa using hp)).1⟩
      · exact ⟨.inr f.c.1, f.c.2.1, f.c.2.2, fun p hp => (f.pn p (by simpa using hp)).2⟩
    · obtain ⟨ob, es, ep, ho, r⟩ := hm
      exact ⟨ob, es, ep, z3 _ ob (Ne.symm sL) (Ne.symm cL) ho, r⟩
    · refine (I0.hok b u q).stay (fun c v hc y => ?_) (fun _ y => y) fun _ _ y => y
      have : c ≠ S ∧ c ≠ C := by
        rcases hc with e | e
        · rw [e]; exact tS b u q
        · exact tS c _ e
      exact z3 c v this.1 this.2 y
  refine ⟨co', z5, acc.push v, c', ?_, J.pins_of fun p hp => ?_⟩
  · rw [Array.toList_push]
    exact r.append (.cons rv .nil)
  · have hp : p = (S, lstObj (acc.push v) c') ∨ p = (C, co') := by simpa using hp
    rcases hp with rfl | rfl
    · exact ⟨eS', nS, sL, sF, fun v q => by cases q⟩
    · exact ⟨z5, nC, cL, cF, z6⟩
end
/-- the protocol of such a generator -/
def YJ (X : Cx) (S C : Addr) : Protocol := fun n s₀ v s kap => ∃ ys x σ H co, n + 1 + ys.length = sizeLine ∧ RelV x v ∧ GJ X S C co ys σ H s ∧ s₀.heap.get? C = some co ∧ ∀ s', Nap S C v s s' → kap (.send .none) s'
structure GCJ (X : Cx) (S C : Addr) (A : Around) (c : Code) (fs : List Frame) (gd : Bool → Bool) : Prop where
  far : Far X S C
  over : A.over c fs = X.A
  split : splitAtGen fs = none
  guard : fs.any Frame.guarded = false
  gd : gd false = false
/-- what follows the body: all that it hands out is out -/
structure GKJ (X : Cx) (S C : Addr) (A : Around) (R : GenEnd) (c : Code) (fs : List Frame) (K : Flow → Sem PySem.Fin) (J : Value → Sem PySem.Fin) (Q : List V → Hp → Prop) : Prop where
  ok : ∀ (n : Nat) (ys : List V) (s₀ s : Shared) (σ : L2.St) (H : Hp) (co : Obj), n + ys.length = sizeLine → GJ X S C co ys σ H s → s₀.heap.get? C = some co → Q ys H → Seg (model X.prog X.w) A R (YJ X S C) n s₀ c (K .next) fs s
  exc : ∀ (n : Nat) (s₀ : Shared) (e : Value) (s : Shared), X.xe e s → Seg (model X.prog X.w) A R (YJ X S C) n s₀ c (J e) fs s
abbrev TGj := L2.St → Hp → (List V → Hp → Prop) → Prop
structure GB (X : Cx) (st : List Stmt) (t : TGj) : Prop where
  run : ∀ (A : Around) (S C : Addr) (R : GenEnd) (s₀ : Shared) (c : Code) (fs : List Frame) (K : Flow → Sem PySem.Fin) (J : Value → Sem PySem.Fin) (gd : Bool → Bool) (lv : List Value → List Value) (s : Shared) (σ : L2.St) (H : Hp) (co : Obj) (Q : List V → Hp → Prop),
    GCJ X S C A c fs gd → GKJ X S C A R c fs K J Q → GJ X S C co [] σ H s → s₀.heap.get? C = some co → t σ H Q →
    Seg (model X.prog X.w) A R (YJ X S C) sizeLine s₀ c ((execs st X.env).wrap K J gd lv) fs s
section
variable {X : Cx}
theorem gb_cons {st : Stmt} {rest : List Stmt} {t : TS} {u : TGj} (h : PS X st t) (b : GB X rest u) : GB X (st :: rest) (fun σ H Q => t { nx := fun σ' H' => u σ' H' Q, rt := fun _ _ => False } σ H) := by
  refine ⟨fun A S C R s₀ c fs K J gd lv s σ H co Q g k hI hC ht => ?_⟩
  refine seg_execs_cons ?_
  obtain ⟨acc, cc, r, I⟩ := hI
  refine seg_wrap ?_
  rw [g.over]
  refine wpAny_mono (h.run _ s σ H _ I ht) (fun f s' hs => ?_) fun x s' hx => k.exc _ s₀ x s' hx
  cases f with
  | next =>
    obtain ⟨σ', H', I', q⟩ := hs
    exact b.run A S C R s₀ c fs K J gd lv s' σ' H' co Q g k ⟨acc, cc, r, I'⟩ hC q
  | brk => obtain ⟨_, _, _, q⟩ := hs; exact q.elim
  | cont => obtain ⟨_, _, _, q⟩ := hs; exact q.elim
  | ret u => obtain ⟨_, _, _, _, _, q⟩ := hs; exact q.elim
theorem yf_turns {S C : Addr} {A : Around} {R : GenEnd} {fs : List Frame} {z : Addr} {xs : List V} {St : Nat → Heap → Prop} {σ : L2.St} {H : Hp} (f : Far X S C) (hp : ∀ p ∈ X.pn, p.1 ≠ z) (hx : z ∈ X.ex ∨ X.s_0.heap.objs.size ≤ z) (hL : z ≠ X.env.locals) (hc : ∀ x c, X.env.cells.lookup x = some c → c ≠ z) (hS : z ≠ S) (hC : z ≠ C) (hH : H z = none) (q : QIt X H z xs St)
    (ho : (A.over (.builtin "proto.yield_from" ⟨[.ref z, .bool false, .none], []⟩) fs).handled = none) (hsp : splitAtGen fs = none) (hgd : fs.any Frame.guarded = false)
    (fin : ∀ (n : Nat) (s₀ s : Shared) (co : Obj), n + xs.length = sizeLine → GJ X S C co xs σ H s → s₀.heap.get? C = some co → Seg (model X.prog X.w) A R (YJ X S C) n s₀ (.builtin "proto.yield_from" ⟨[.ref z, .bool false, .none], []⟩) (.pure (.done (.ret .none))) fs s) :
    ∀ (m j n : Nat) (s₀ s : Shared) (co : Obj), j + m = xs.length → n + j = sizeLine → GJ X S C co (xs.take j) σ H s → s₀.heap.get? C = some co → St j s.heap → xs.length ≤ sizeLine →
      Seg (model X.prog X.w) A R (YJ X S C) n s₀ (.builtin "proto.yield_from" ⟨[.ref z, .bool false, .none], []⟩) ((model X.prog X.w).den (.builtin "proto.yield_from" ⟨[.ref z, .bool false, .none], []⟩)) fs s := by
  obtain ⟨T, hT, hcl, hng⟩ := q.ty
  have turn : ∀ {co : Obj} {zs : List V} {s : Shared} {h' : Heap} {tk : Nat}, GJ X S C co zs σ H s → (∀ b o, b ≠ z → s.heap.get? b = some o → h'.get? b = some o) → GJ X S C co zs σ H { s with heap := h', toks := tk } := fun {co zs s h' tk} hI hk => by
    obtain ⟨acc, cc, r, I⟩ := hI
    refine ⟨acc, cc, r, I.turned (it := z) hk hH hL hx hc fun p hp' => ?_⟩
    rcases List.mem_append.mp hp' with h | h
    · exact hp p h
    · have h : p = (S, lstObj acc cc) ∨ p = (C, co) := by simpa using h
      rcases h with rfl | rfl
      · exact Ne.symm hS
      · exact Ne.symm hC
  intro m
  induction m with
  | zero =>
    intro j n s₀ s co hj hn hI hC0 hst hle
    have hj' : j = xs.length := by omega
    subst hj'
    rw [List.take_length] at hI
    rw [den_yf]
    unfold Builtin.«proto.yield_from»
    try dsimp only
    refine seg_bind (wpAny_pure ?_)
    try dsimp only
    refine seg_bind (wpAny_attempt (wpAny_holding ?_))
    rw [if_neg (fun c : false = true => Bool.noConfusion c), if_pos (show (Value.none == Value.none) = true by rfl)]
    refine wpAny_bind (wpAny_rule (wpAny_bind ?_))
    refine q.done _ s _ _ ho hst fun e g tk hX hk => ?_
    obtain ⟨a, o, vs, rfl, b1, b2, b3, b4⟩ := hX
    try dsimp only
    refine seg_bind (wpAny_endsTurn b1 b2 ?_)
    try dsimp only
    rw [if_pos rfl]
    first
      | refine seg_bind (wpAny_rule ?_)
      | (rw [if_neg (fun c : false = true => Bool.noConfusion c)]; refine seg_bind (wpAny_rule ?_))
      | (rw [if_neg (fun c : false = true => Bool.noConfusion c)]; refine seg_bind (wpAny_pure ?_); refine seg_bind (wpAny_rule ?_))
    refine seg_bind (wpAny_field b1 b3 b4 ?_)
    exact fin n s₀ _ co hn (turn hI hk) hC0
  | succ m ih =>
    intro j n s₀ s co hj hn hI hC0 hst hle
    obtain ⟨x, hx'⟩ : ∃ x, xs[j]? = some x := ⟨_, List.getElem?_eq_getElem (by omega)⟩
    obtain ⟨n, rfl⟩ : ∃ m, n = m + 1 := ⟨n - 1, by omega⟩
    have htl : (xs.take j).length = j := by rw [List.length_take]; omega
    rw [den_yf]
    unfold Builtin.«proto.yield_from»
    try dsimp only
    refine seg_bind (wpAny_pure ?_)
    try dsimp only
    refine seg_bind (wpAny_attempt (wpAny_holding ?_))
    rw [if_neg (fun c : false = true => Bool.noConfusion c), if_pos (show (Value.none == Value.none) = true by rfl)]
    refine wpAny_bind (wpAny_rule (wpAny_bind ?_))
    refine q.item _ j x s _ _ ho hx' hst fun v g tk rv hst' hk => ?_
    have hI' := turn (tk := tk) hI hk
    obtain ⟨oi, k1, k2⟩ := hT (j + 1) g hst'
    refine wpAny_pure ?_
    try dsimp only
    refine seg_bind (wpAny_typeOf (T := T) ⟨oi, k1, k2⟩ ?_)
    try dsimp only
    first
      | (refine seg_bind (wpAny_of_eq hcl ?_); refine seg_bind (wpAny_pure ?_))
      | refine seg_bind (wpAny_bind (wpAny_of_eq hcl (wpAny_pure ?_)))
      | refine seg_bind (wpAny_of_eq hcl ?_)
    try dsimp only
    refine seg_bind (wpAny_sleptOver k1 k2 hng ?_)
    refine seg_yield hsp rfl hgd ?_
    refine ⟨xs.take j, x, σ, H, co, ?_, rv, hI', hC0, fun s2 nap => ?_⟩
    · rw [htl]; omega
    obtain ⟨⟨nS, _⟩, ⟨_, nC, _⟩, _⟩ := hI'.facts
    obtain ⟨co2, eC2, hI2⟩ := hI'.wakes f rv nap
    have hst2 : St (j + 1) s2.heap := q.frame (j + 1) g s2.heap hst' fun b o hb e => by
      refine nap.rest b o (fun w => ?_) (fun w => ?_) e
      · rcases hb with y | y
        · exact hS (y.symm.trans w)
        · exact y (by rw [w]; exact nS)
      · rcases hb with y | y
        · exact hC (y.symm.trans w)
        · exact y (by rw [w]; exact nC)
    obtain ⟨oj, m1, m2⟩ := hT (j + 1) s2.heap hst2
    have etk : xs.take j ++ [x] = xs.take (j + 1) := by rw [List.take_add_one, hx']; rfl
    rw [etk] at hI2
    show Seg _ _ _ _ n s2 _ (Builtin.Generator.sleptOver (.ref z) false >>= fun _ => _) fs s2
    refine seg_bind (wpAny_sleptOver m1 m2 hng ?_)
    try dsimp only
    refine seg_bind (wpAny_pure ?_)
    exact seg_again (plainId_quiet plain_yf _) (ih (j + 1) n s2 s2 co2 (by omega) (by omega) hI2 eC2 hst2 hle)
def tYfEnd (t : TYf) : TGj := fun σ H Q => t σ H fun xs H1 => xs.length ≤ sizeLine ∧ Q xs H1
theorem gb_yf {e : Expr} {yp pos : Pos} {t : TYf} (he : YfE X e t) (hc : X.A.handled = none) (hi : interactive X.env = false := by rfl) : GB X [.Expr (.YieldFrom e yp) pos] (tYfEnd t) := by
  refine ⟨fun A S C R s₀ c fs K J gd lv s σ H co Q g k hI hC ht => ?_⟩
  refine seg_execs_cons ?_
  rw [exec_Expr X.env _ pos hi rfl]
  refine seg_at ?_
  obtain ⟨acc, cc, r, I⟩ := hI
  refine segw_bind2 ?_
  rw [g.over]
  refine wpAny_mono (he.run _ s σ H _ I ht) (fun v s1 hv => ?_) fun x s' hx => k.exc _ s₀ x s' hx
  obtain ⟨T, hT, hne, hit⟩ := hv
  refine seg_at ?_
  show Seg _ _ _ _ sizeLine s₀ c ((yieldFrom X.env v).wrap (fun b => (dropValue (.YieldFrom e yp) pos b).wrap _ J gd lv) J gd lv) fs s1
  unfold yieldFrom
  refine seg_bind_wrap (wpAny_typeOf hT ?_)
  rw [if_neg (fun c => by rw [hne] at c; cases c)]
  refine seg_bind_wrap (wpAny_holding ?_)
  rw [g.over]
  refine wpAny_mono hit (fun u s2 hu => ?_) fun x s' hx => k.exc _ s₀ x s' hx
  obtain ⟨z, H', xs, St, rfl, I2, q1, q2, q3, q4, q5, q6, q7, hle, hq⟩ := hu
  refine seg_call fun p => ?_
  have hS : z ≠ S := fun w => q5 (S, lstObj acc cc) (List.mem_append_right _ List.mem_cons_self) w.symm
  have hC' : z ≠ C := fun w => q5 (C, co) (List.mem_append_right _ (List.mem_cons_of_mem _ List.mem_cons_self)) w.symm
  refine yf_turns (xs := xs) (St := St) (σ := σ) (H := H') g.far (fun p hp => q5 p (List.mem_append_left _ hp)) q1 q2 q3 hS hC' q4 q7 ?_ ?_ ?_
    (fun n' s₀' s' co' hn' hG hC2 => ?_) xs.length 0 sizeLine s₀ s2 co (Nat.zero_add _) rfl ⟨acc, cc, by rw [List.take_zero]; exact r, I2⟩ hC q6 hle
  · show (A.over c fs).handled = none
    rw [g.over]; exact hc
  · show (splitAtGen fs).map _ = none
    rw [g.split]; rfl
  · show (gd false || fs.any Frame.guarded) = false
    rw [g.gd, g.guard]; rfl
  · exact seg_leaf (.ok (.ret .none)) (k.ok n' xs s₀' s' σ H' co' hn' hG hC2 hq)
end
end GCx

set_option Elab.async false
set_option linter.all false
set_option maxRecDepth 100000
set_option maxHeartbeats 1000000
/-! GD: the call of such a generator def; the comprehension over it. -/
namespace GCx
open PySem PySem.Spec PyProof.Rows L2 GenW
abbrev noE : XK := fun _ _ _ => False
/-- a run's end -/
def EJ (P : Program) (w : World) (outer : List Env) (H : Hp) (s : Shared) (S C : Addr) (Q : List V → Hp → Prop) : Nat → Shared → Shared → Prop := fun n s₀ s1 =>
  ∃ H' ys acc c, s1.os = s.os ∧ AllBare s1.gens ∧ Un (frs outer) [] H H' s.heap s1.heap ∧ HOk P w H' s1.heap ∧ H' S = none ∧ H' C = none ∧ s1.heap.get? S = some (lstObj acc c) ∧ Vals ys acc.toList ∧ ys.length ≤ sizeLine ∧ (∃ co, s₀.heap.get? C = some co ∧ s1.heap.get? C = some co) ∧ Q ys H'
def RJ (P : Program) (w : World) (outer : List Env) (H : Hp) (s : Shared) (S C : Addr) (Q : List V → Hp → Prop) : GenEnd := fun n s₀ r s1 => ((r = .ok (.ret .none) ∨ r = .ok .next) ∧ EJ P w outer H s S C Q n s₀ s1) ∨ ∃ e, r = .error e ∧ False
/-- an item comes -/
def XJ (s : Shared) (S C a : Addr) (g : Nat) : Protocol := fun n s₀ v s1 kap =>
  s1.os = s.os ∧ AllBare s1.gens ∧ s1.heap.NoLimit ∧ s1.heap.IsGen a g ∧ (∃ (acc : Array Value) (c : Nat), s1.heap.get? S = some (lstObj acc c) ∧ n + 1 + acc.size = sizeLine) ∧ (∃ co, s₀.heap.get? C = some co ∧ s1.heap.get? C = some co) ∧ ∀ s', Nap S C v s1 s' → kap (.send .none) s'
/-- a generator that has not begun -/
def MadeJ (P : Program) (w : World) (k : Nat) (outer : List Env) (H : Hp) (s : Shared) (Q : List V → Hp → Prop) (u : Value) (s' : Shared) : Prop :=
  ∃ (a : Addr) (g : Nat) (c : Code), u = .ref a ∧ s.heap.objs.size ≤ a ∧ a < s'.heap.objs.size ∧ s'.heap.IsGen a g ∧ s'.gens[g]? = some (.fresh c) ∧ s'.os = s.os ∧ AllBare s'.gens ∧ s'.heap.NoLimit ∧ (∀ b o, s.heap.get? b = some o → s'.heap.get? b = some o) ∧
    ∀ (A : Around) (S C : Addr) (s2 : Shared) (co : Obj), Room k A → A.frames = some outer → s'.heap.objs.size ≤ S → s'.heap.objs.size ≤ C → S ≠ C → (∀ b o, s'.heap.get? b = some o → s2.heap.get? b = some o) → (∃ c, s2.heap.get? S = some (lstObj #[] c)) →
      s2.heap.get? C = some co → (∀ v, co.data ≠ .cell v) → s2.os = s.os → AllBare s2.gens → Seg (model P w) A (RJ P w outer H s S C Q) (XJ s S C a g) sizeLine s2 c ((model P w).den c) [] s2
abbrev SpJ := List V → Hp → (List V → Hp → Prop) → Prop
structure GFnJ (P : Program) (w : World) (K : PySem.W.Frag) (mg : Str → Option Value) (base : Heap) (k : Nat) (f : Addr) (fd : FuncData) (ps : List Str) (sp : SpJ) : Prop where
  len : ∀ vs H Q, sp vs H Q → vs.length = ps.length
  run : ∀ (A : Around) (outer : List Env) (s : Shared) (H : Hp) (args : Args) (us : List Value) (vs : List V) (Q : List V → Hp → Prop), Room k A → Env0 P w K mg base A outer s H → BindsTo s fd args (ps.zip us) → Vals vs us → sp vs H Q →
    codeAny (model P w) A (.call (.ref f) args) (fun r s' => match r with | .ok (.ret u) => MadeJ P w k outer H s Q u s' | _ => False) s
theorem gfnJ_of {P : Program} {w : World} {K : PySem.W.Frag} {mg : Str → Option Value} {base : Heap} {k : Nat} {f : Addr} {name qual : Str} {params : Arguments} {body : List Stmt} {scope : Scope} {dV kV doc pm cdv ct oc : Value} {an od : Option Addr}
    {osl : Array (Option Value)} {N ps : List Str} {sp : SpJ} (lk : K.lookup f = some ⟨oc, od, .func (PySem.W.fnOf name qual params body scope dV kV doc pm an cdv ct), osl⟩) (hcd : PySem.W.codeIn K cdv qual = true) (S : GScope N ps scope)
    (len : ∀ vs H Q, sp vs H Q → vs.length = ps.length)
    (hbody : ∀ (A : Around) (outer : List Env) (s : Shared) (H : Hp) (vs : List V) (Q : List V → Hp → Prop) (pn : List (Addr × Obj)), Room k (A.deeper (envOfC qual scope s.heap.objs.size f cdv)) → sp vs H Q →
      ∃ t, GB (gcxOf P w K mg base N qual scope f cdv A outer s H noE pn) body t ∧ t (L2.start N vs) H Q) :
    GFnJ P w K mg base (k + 1) f (PySem.W.fnOf name qual params body scope dV kV doc pm an cdv ct) ps sp := by
  refine ⟨len, fun A outer s H args us vs Q hr e0 hb r hsp => ?_⟩
  have hl := len _ _ _ hsp
  have KX : K.In s.heap := e0.mod.kin.keeps fun b o e => (e0.bs b o e).1
  have lim : s.heap.NoLimit := e0.mod.nolimit.keeps fun b o e => (e0.bs b o e).1
  have kinds : ∀ y ∈ ps.zip us, scope.names.lookup y.1 = some .local ∨ (scope.names.lookup y.1 = some .cell ∧ ((cellsFrom (s.heap.objs.size + 1) scope.names []).lookup y.1).isSome = true) := fun ⟨n, v⟩ hy => by
    rcases S.par n (List.of_mem_zip hy).1 with q | q
    · exact .inl q
    · exact .inr ⟨q, PySem.W.cellsFrom_some _ _ _ (.inl q)⟩
  refine codeAny_call_generator hr.depth (KX _ _ lk) rfl S.co S.gen rfl (PySem.W.codeRec_of KX hcd) (hb _ _ _ _ ?_)
  refine wpAny_newFunctionEnv_cells S.kind kinds fun env he s1 x => ?_
  subst he
  have lim1 : s1.heap.NoLimit := lim.keeps x.toInCall.keep
  refine ⟨lim1, ?_⟩
  obtain ⟨h1, tk, es1, hk1⟩ := x.done
  have os1 : s1.os = s.os := by rw [es1]
  have gen1 : s1.gens = s.gens := by rw [es1]
  have lt1 : s.heap.objs.size < s1.heap.objs.size := x.toInCall.ns.lt
  have kp1 : ∀ b o, s.heap.get? b = some o → s1.heap.get? b = some o := x.toInCall.keep
  have main : ∀ (go : Obj) (nm qn : Value) (tk2 : Nat), go.cls = .type "generator" → go.data = .fields #[.int s1.gens.size 0, nm, qn] → go.slots = #[] → (∀ h : Heap, (h.push go).get? h.objs.size = some go) →
      MadeJ P w (k + 1) outer H s Q (.ref s1.heap.objs.size) { s1 with gens := s1.gens.push (.fresh (.func body (envOfC qual scope s.heap.objs.size f cdv))), toks := tk2, heap := s1.heap.push go } := by
    intro go nm qn tk2 g1 g2 g3 g4
    have isg : ∀ h : Heap, h.get? s1.heap.objs.size = some go → h.IsGen s1.heap.objs.size s1.gens.size := fun h e => ⟨go, nm, qn, e, g1, g2, g3⟩
    have pushed : (s1.heap.push go).get? s1.heap.objs.size = some go := g4 _
    have sz2 : (s1.heap.push go).objs.size = s1.heap.objs.size + 1 := Heap.size_push ..
    refine ⟨s1.heap.objs.size, s1.gens.size, _, rfl, Nat.le_of_lt lt1, ?_, isg _ pushed, Array.getElem?_push_size .., os1, ?_, lim1.keeps fun b o e => Heap.get?_push_of_some _ e, fun b o e => Heap.get?_push_of_some _ (kp1 b o e), ?_⟩
    · show _ < (s1.heap.push _).objs.size
      rw [sz2]; exact Nat.lt_succ_self _
    · exact AllBare.push (by rw [gen1]; exact e0.bare) rfl
    intro Aw Sx Cx s2 co hrw hfr hS hC hSC hk2 hSo hCo hcc hos hba
    have hS : (s1.heap.push go).objs.size ≤ Sx := hS
    have hC : (s1.heap.push go).objs.size ≤ Cx := hC
    rw [sz2] at hS hC
    have e0w : Env0 P w K mg base Aw outer s H := ⟨hfr, e0.mod, e0.bs, e0.bsz, e0.funs, e0.frf, e0.hok, e0.bare⟩
    obtain ⟨t, ht, hq⟩ := hbody Aw outer s H vs Q [(s1.heap.objs.size, go)] (hrw.deeper _) hsp
    have I1 : Inv (gcxOf P w K mg base N qual scope f cdv Aw outer s H noE []) [] (L2.start N vs) H s1 := inv_startG S hrw.hd e0w hl r x
    have kp2 : ∀ b o, s1.heap.get? b = some o → s2.heap.get? b = some o := fun b o e => hk2 b o (Heap.get?_push_of_some _ e)
    have I2 : Inv (gcxOf P w K mg base N qual scope f cdv Aw outer s H noE []) [] (L2.start N vs) H s2 :=
      I1.call' (ch := []) (hos.trans os1.symm) (Un.kept kp2) (I1.hok.kept kp2) hba fun b z => by simp at z
    obtain ⟨cS, heS⟩ := hSo
    have hea : s2.heap.get? s1.heap.objs.size = some go := hk2 s1.heap.objs.size go pushed
    have young : ∀ b, s1.heap.objs.size ≤ b → H b = none ∧ b ≠ s.heap.objs.size ∧ b ∉ frs outer ∧ s.heap.objs.size ≤ b ∧ ∀ y c, (cellsFrom (s.heap.objs.size + 1) scope.names []).lookup y = some c → c ≠ b := fun b hb => by
      refine ⟨I1.hok.fresh hb, Nat.ne_of_gt (Nat.lt_of_lt_of_le lt1 hb), I1.nofs hb, Nat.le_trans (Nat.le_of_lt lt1) hb, fun y c e z => ?_⟩
      obtain ⟨v, ob, ho, _⟩ := I1.cell y c e
      have lt := Heap.lt_size ho
      rw [z] at lt
      exact Nat.lt_irrefl _ (Nat.lt_of_lt_of_le lt hb)
    have yA := young s1.heap.objs.size (Nat.le_refl _)
    have yS := young Sx (by omega)
    have yC := young Cx (by omega)
    have hG : GJ (gcxOf P w K mg base N qual scope f cdv Aw outer s H noE [(s1.heap.objs.size, go)]) Sx Cx co [] (L2.start N vs) H s2 := by
      refine ⟨#[], cS, .nil, Inv.pinnedG I2 fun p hp => ?_⟩
      have hp : p = (s1.heap.objs.size, go) ∨ p = (Sx, lstObj #[] cS) ∨ p = (Cx, co) := by simpa using hp
      rcases hp with rfl | rfl | rfl
      · exact ⟨hea, yA.1, yA.2.1, yA.2.2.1, fun v q => by rw [g2] at q; cases q⟩
      · exact ⟨heS, yS.1, yS.2.1, yS.2.2.1, fun v q => by cases q⟩
      · exact ⟨hCo, yC.1, yC.2.1, yC.2.2.1, hcc⟩
    have far : Far (gcxOf P w K mg base N qual scope f cdv Aw outer s H noE [(s1.heap.objs.size, go)]) Sx Cx :=
      ⟨⟨yS.2.2.2.1, yS.2.1, yS.2.2.2.2⟩, ⟨yC.2.2.2.1, yC.2.1, yC.2.2.2.2⟩, hSC, fun p hp => by
        rw [List.mem_singleton.mp hp]
        exact ⟨by show s1.heap.objs.size ≠ Sx; omega, by show s1.heap.objs.size ≠ Cx; omega⟩⟩
    have pinned : ∀ {co' : Obj} {ys : List V} {s' : Shared} {σ' : L2.St} {H' : Hp}, GJ (gcxOf P w K mg base N qual scope f cdv Aw outer s H noE [(s1.heap.objs.size, go)]) Sx Cx co' ys σ' H' s' → s'.heap.IsGen s1.heap.objs.size s1.gens.size := fun {co' ys s' σ' H'} hI => by
      obtain ⟨acc, cc, _, J⟩ := hI
      exact isg _ (J.pin (s1.heap.objs.size, go) (List.mem_append_left _ (List.mem_singleton.mpr rfl))).1
    refine seg_func ?_
    refine seg_imp (R := RJ P w outer H s Sx Cx Q) (Y := YJ (gcxOf P w K mg base N qual scope f cdv Aw outer s H noE [(s1.heap.objs.size, go)]) Sx Cx) (fun n s₀ r s1' hR => hR) (fun n s₀ v s1' kap kap' hkk hY => ?_) sizeLine ?_
    · obtain ⟨ys, xx, σ', H', co', hn, h2, hI, hC3, h3⟩ := hY
      obtain ⟨_, ⟨eC, _⟩, acc, cc, ra, ea⟩ := hI.facts
      have hg := pinned hI
      obtain ⟨_, _, _, J⟩ := hI
      have hsz : acc.size = ys.length := by
        have e1 := ra.length
        have e2 : acc.toList.length = acc.size := by simp
        omega
      exact ⟨J.os, J.bare, J.nolimit, hg, ⟨acc, cc, ea, by rw [hsz]; exact hn⟩, ⟨co', hC3, eC⟩, fun s' z => hkk _ _ (h3 s' z)⟩
    · refine ht.run Aw Sx Cx _ s2 _ [] _ _ id id s2 (L2.start N vs) H co Q ⟨far, over_func, rfl, rfl, rfl⟩ ⟨fun n ys s₀ s' σ' H' co' hn hI hC3 hQ => ?_, fun n s₀ e s' hx => ?_⟩ hG hCo hq
      · obtain ⟨⟨nS, _⟩, ⟨eC, nC, _⟩, acc, cc, ra, ea⟩ := hI.facts
        obtain ⟨_, _, _, J⟩ := hI
        exact seg_end (.ok (.ret .none)) (.inl ⟨.inl rfl, H', ys, acc, cc, J.os, J.bare, J.base, J.hok, nS, nC, ea, ra, by omega, ⟨co', hC3, eC⟩, hQ⟩)
      · refine seg_wrap ?_
        rw [over_func]
        refine wpAny_mono (show wpAny (model P w) (Aw.deeper (envOfC qual scope s.heap.objs.size f cdv)) (leaving (envOfC qual scope s.heap.objs.size f cdv) e) (fun _ s'' => CX P w outer H s noE e s'' ∧ ∀ p ∈ [(s1.heap.objs.size, go)], s''.heap.get? p.1 = some p.2) (fun _ _ => False) s' from hx) (fun _ s'' q => ?_) fun _ s'' q => q.elim
        obtain ⟨⟨_, _, _, _, _, _, _, _, _, _, _, _, z⟩, _⟩ := q
        exact z.elim
  exact main _ _ _ _ rfl rfl rfl fun h => Heap.get?_push_size _ rfl
end GCx

set_option Elab.async false
set_option linter.all false
set_option maxRecDepth 100000
set_option maxHeartbeats 1000000
/-! GE: the comprehension over such a generator. -/
namespace GCx
open PySem PySem.Spec PyProof.Rows L2 GenW
structure PGenJ (X : Cx) (k : Nat) (e : Expr) (tg : TGj) : Prop where
  run : ∀ (pins : List (Addr × Obj)) (s : Shared) (σ : L2.St) (H : Hp) (Q : List V → Hp → Prop), Inv X pins σ H s → tg σ H Q → wpAny (model X.prog X.w) X.A (eval e X.env)
    (fun u s' => ∃ H1 sc, Inv X pins σ H1 sc ∧ MadeJ X.prog X.w k X.stack H1 sc Q u s') X.xe s
section
variable {X : Cx} {k : Nat} {f C : Addr} {fd : FuncData} {ps : List Str} {sp : SpJ} {x m : Str} {pos apos : Pos} {o : Expr} {ta : TE}
def tMethJ (C : Addr) (m : Str) (sp : SpJ) (ta : TE) : TGj := fun σ H Q => ta σ H fun x H1 => ∃ a dx fs, x = .ref a ∧ H1 a = some (.ins C dx fs) ∧ fs.lookup m = none ∧ sp [x] H1 Q
theorem runJ {pins : List (Addr × Obj)} {σ : L2.St} {H : Hp} {s : Shared} {us : List Value} {vs : List V} {Q : List V → Hp → Prop} {E1 : Value → Shared → Prop} (F : GFnJ X.prog X.w X.K X.mg X.base k f fd ps sp) (hr : Room k X.A) (hb : Binds X.K fd ps [])
    (I : Inv X pins σ H s) (r : Vals vs us) (h : sp vs H Q) : wpAny (model X.prog X.w) X.A (call (.ref f) us) (fun u s' => ∃ H1 sc, Inv X pins σ H1 sc ∧ MadeJ X.prog X.w k X.stack H1 sc Q u s') E1 s := by
  have hl2 : us.length = ps.length := by rw [← r.length]; exact F.len _ _ _ h
  refine wpAny_call (codeAny_mono (F.run X.A X.stack s H ⟨us, []⟩ us vs Q hr I.env0 (by have := hb s us I.kIn (by simpa using hl2); simpa using this) r h) fun r s' hq => ?_)
  cases r with
  | error e => exact False.elim hq
  | ok fl =>
    cases fl with
    | ret u => exact ⟨H, s, I, hq⟩
    | next => exact False.elim hq
    | brk => exact False.elim hq
    | cont => exact False.elim hq
/-- o.m() -/
theorem pgenJ_meth0 {pl : Sem Bool} (he : PE X o ta) (c : Cls X.K C) (hm : Meth X.K C m f) (F : GFnJ X.prog X.w X.K X.mg X.base k f fd ps sp) (hr : Room k X.A) (hb : Binds X.K fd ps [])
    (ht : eval (.Call (.Attribute o m apos) [] [] pos) X.env = (do
      let ov ← eval o X.env
      standAt apos.atName
      let (f, first) ← holding [ov] (getMethod ov m pl)
      callWith pos f first (backTo pos (starEach [] X.env)) (backToKw pos (keywordEach [] X.env))) := by rfl) :
    PGenJ X k (.Call (.Attribute o m apos) [] [] pos) (tMethJ C m sp ta) := by
  refine ⟨fun pins s σ H Q I h => ?_⟩
  refine PySem.W.methodCall_KW (pl := pl) (thn (he.run pins s σ H _ I h) fun u s1 ⟨x, H1, I1, rx, a, dx, fs, ex, ea, l, q⟩ => ?_) ht
  subst ex
  obtain rfl : u = Value.ref a := rx
  refine getmeth_ok I1 ea c hm l ?_
  exact PySem.W.callWith_K0 (first := [.ref a]) I1.kIn hm.kp (runJ (us := [.ref a]) (vs := [.ref a]) F hr hb I1 (.cons rfl .nil) q)
def tLcG (tg : TGj) : TE := fun σ H Q => tg σ H fun out H2 => ∀ p, H2 p = none → Q (.ref p) (upd H2 p (.lst out))
/-- [x for x in g()] -/
theorem pe_lcG {e : Expr} {tg : TGj} {y : Str} {p1 p2 : Pos} {scope : Scope} (hc : X.calm = true) (h : PGenJ X k e tg) (hr : Room (k + 3) X.A) (hk : scope.kind = .function) (hn : scope.names = [((".0" : Str), .local), (y, .local)]) (hy : (y == ("__debug__" : Str)) = false)
    (hs : ∀ x, foldedSetIterable e X.env x = pure x := by intro _; rfl) : PE X (.ListComp (.Name y p1) [⟨.Name y p2, e, [], 0⟩] scope pos) (tLcG tg) := by
  refine ⟨fun pins s σ H Q I hq => ?_⟩
  rw [eval_ListComp]
  have nof : ∀ z ∈ scope.names, z.2 = .free → ∃ c, X.env.cells.lookup z.1 = some c := fun z hz q => by
    rw [hn] at hz
    simp only [List.mem_cons, List.not_mem_nil, or_false] at hz
    rcases hz with rfl | rfl <;> cases q
  have kind : scope.names.lookup y = some .local := by
    rw [hn, List.lookup_cons]
    cases h : (y == (".0" : Str))
    · simp
    · rfl
  have kind0 : scope.names.lookup (".0" : Str) = some .local := by
    rw [hn, List.lookup_cons]
    rfl
  refine wpAny_comprehension_free (use := none) rfl hs (closure_ok nof) hk (fun z hz q => by
    rw [hn] at hz
    simp only [List.mem_cons, List.not_mem_nil, or_false] at hz
    rcases hz with rfl | rfl
    · exact kind0
    · exact kind) (thn (h.run pins s σ H _ I hq) fun u s1 ⟨H1, sc, I1, hG⟩ => ?_)
  obtain ⟨a, g, c, rfl, ha1, ha2, hg, hgs, hos, hb, hl, hkp, wake⟩ := hG
  have ha2 : @LT.lt Nat _ a s1.heap.objs.size := ha2
  refine wpAny_pyIter_gen hg ?_
  refine wpAny_newObj_type (newEnv_comp ?_) (by show 0 ≤ sizeLine; decide)
  have cells : ∀ q : Heap, pushCells q scope.names = q := fun q => by rw [hn]; rfl
  rw [cells]
  generalize hD : s1.heap.objs.size = D
  have hD' : @Eq Nat s1.heap.objs.size D := hD
  have hC : (s1.heap.push { cls := .type "list", data := .seq ([] : List Value).toArray }).objs.size = D + 1 := by rw [Heap.size_push, hD]
  show codeAny _ X.A (.compStart (.ListComp (.Name y p1) [⟨.Name y p2, e, [], 0⟩] scope pos) 0 (.ref a) (.ref D) (compEnvC scope _ _ X.env)) _ _
  simp only [hC]
  generalize hce : compEnvC scope (cellsFrom (D + 1 + 1) scope.names (cloFrom X.env.cells scope.names [])) (D + 1) X.env = ce
  have cL : ce.locals = D + 1 := by rw [← hce]; rfl
  have cK : ce.scope.kind = .function := by rw [← hce]; exact hk
  have cN : ce.kindOf y = some .local := by rw [← hce]; exact lookup_relabel_local kind
  have kp : ∀ b o, s1.heap.get? b = some o → ((s1.heap.push { cls := .type "list", data := .seq ([] : List Value).toArray }).push { cls := .type "dict", data := .dict #[] }).get? b = some o := fun b o q => Heap.get?_push_of_some _ (Heap.get?_push_of_some _ q)
  have eD : ((s1.heap.push { cls := .type "list", data := .seq ([] : List Value).toArray }).push { cls := .type "dict", data := .dict #[] }).get? D = some (lstObj #[] 0) := by
    refine Heap.get?_push_of_some _ ?_
    rw [← hD]
    exact Heap.get?_push_size _ rfl
  have nC := Heap.Ns.new (s1.heap.push { cls := .type "list", data := .seq ([] : List Value).toArray }) (.type "dict")
  rw [hC] at nC
  generalize hs4 : ({ s1 with heap := (s1.heap.push { cls := .type "list", data := .seq ([] : List Value).toArray }).push { cls := .type "dict", data := .dict #[] } } : Shared) = s4
  have h4 : s4.heap = (s1.heap.push { cls := .type "list", data := .seq ([] : List Value).toArray }).push { cls := .type "dict", data := .dict #[] } := by rw [← hs4]
  have g4 : s4.gens = s1.gens := by rw [← hs4]
  have o4 : s4.os = s1.os := by rw [← hs4]
  rw [← h4] at kp eD nC
  have szD : sc.heap.objs.size ≤ D := by omega
  -- the turns
  let St : Nat → Shared → Prop := fun n s' => s'.heap.IsGen a g ∧ s'.heap.NoLimit ∧ s'.os = sc.os ∧ AllBare s'.gens ∧ (∃ ns, s'.heap.Ns (D + 1) ns) ∧ (∃ acc c, s'.heap.get? D = some (lstObj acc c)) ∧
    ∃ gs, s'.gens[g]? = some gs ∧ gs.Goes (model X.prog X.w) X.A.in1 (RJ X.prog X.w X.stack H1 sc D (D + 1) (fun out H2 => ∀ p, H2 p = none → Q (.ref p) (upd H2 p (.lst out)))) (XJ sc D (D + 1) a g) n (.send .none) (s'.setGen g .running)
  have Dne : D ≠ D + 1 := by omega
  have aD : @Ne Nat a D ∧ @Ne Nat a (D + 1) := by omega
  have hcst : cStatics < s1.heap.objs.size := let ⟨_, hn, _⟩ := hl; hn.lt
  have hcst' : @LT.lt Nat _ cStatics s1.heap.objs.size := hcst
  have cD : @Ne Nat cStatics D ∧ @Ne Nat cStatics (D + 1) := by omega
  have st0 : St sizeLine s4 := by
    refine ⟨hg.keeps kp, hl.keeps kp, o4.trans hos, by rw [g4]; exact hb, ⟨_, nC⟩, ⟨_, _, eD⟩, .fresh c, by rw [g4]; exact hgs, rfl, ?_⟩
    obtain ⟨oC, es, ep, eC, dC, _⟩ := nC
    refine wake _ D (D + 1) _ oC ⟨hr.hd, ?_, ?_⟩ I1.ok.frames (by omega) (by omega) Dne (fun b o q => kp b o q) ⟨0, eD⟩ eC (fun v q => by rw [dC] at q; cases q) (o4.trans hos) (allBare_setGen (s := s4) (by rw [g4]; exact hb) rfl)
    · have := hr.dp
      show X.A.depth + 3 * k + 5 < _
      omega
    · have := hr.un
      show X.A.units + 1 + 16 * k + 200 < _
      omega
  have loop : codeAny (model X.prog X.w) X.A (.compLoop (.ListComp (.Name y p1) [⟨.Name y p2, e, [], 0⟩] scope pos) 0 (.ref a) (.ref D) ce) (compPost (model X.prog X.w) X.A X.xe none (EP X pins σ Q) (.ref D) (D + 1)) s4 := by
    refine compLoop_any St ?_ sizeLine st0
    rintro n s5 ⟨hg5, hl5, os5, hb5, ⟨ns5, hns5⟩, ⟨acc5, c5, eD5⟩, gs, hgs5, hgo⟩
    have hgl : g < s5.gens.size := (Array.getElem?_eq_some_iff.mp hgs5).1
    have goes : gs.Goes (model X.prog X.w) X.A.in1 (fun n s₀ r s1 => ((r = .ok (.ret .none) ∨ r = .ok .next) ∧ EJ X.prog X.w X.stack H1 sc D (D + 1) (fun out H2 => ∀ p, H2 p = none → Q (.ref p) (upd H2 p (.lst out))) n s₀ s1) ∨ ∃ e, r = .error e ∧ (fun _ _ => False) e s1) (XJ sc D (D + 1) a g) n (.send .none) (s5.setGen g .running) := hgo
    refine wpAny_gsz (n := g + 1) hgl (next_genG (A := X.A) (I.ok.hd hc) hl5 (by have := hr.dp; omega) hg5 hgs5 goes (fun v s6 gs' hbare hv => ?_) (fun s6 hp h' hk' => ?_) fun _ _ z => z.elim)
    · intro hsz
      obtain ⟨os6, hb6, hl6, hg6, ⟨acc6, c6, eD6, hacc⟩, ⟨co, eC5, eC6⟩, hk6⟩ := hv
      obtain ⟨oC, es, ep, eC, dC, rC⟩ := hns5
      have eC5 : s5.heap.get? (D + 1) = some co := eC5
      rw [eC] at eC5
      cases eC5
      have gsz : g < s6.gens.size := by
        have q : (s6.setGen g gs').gens.size = s6.gens.size := setGen_size _ _ _
        have hsz' : g + 1 ≤ (s6.setGen g gs').gens.size := hsz
        omega
      obtain ⟨og, nm, qn, e1, e2, e3, _⟩ := id hg6
      refine go_of (s := s6.setGen g gs') (o := og) e1 e2 e3 (by decide) ?_
      refine wpAny_assign_Name (wpAny_storeName_local cN (m := ns5) (by rw [cL]; exact ⟨co, es, ep, eC6, dC, rC⟩) (fun h7 n7 sb7 => ?_) (by rw [cK]; rfl))
      rw [cL] at n7 sb7
      refine wpAny_tests_nil ?_
      rw [if_pos rfl]
      refine wpAny_Name (wpAny_loadName_local cK cN (by rw [cL]; exact n7) (v := v) (by simp) ?_) hy
      have e7 : h7.get? D = some { cls := .type "list", data := .seq acc6 c6 } := (sb7.2 D Dne).trans eD6
      refine append_at (hsz := by omega) e7 fun h8 sb8 e8 => ?_
      have nap : Nap D (D + 1) v s6 ({ s6.setGen g gs' with heap := h8, toks := s6.toks + 1 } : Shared) := by
        refine ⟨rfl, allBare_setGen hb6 hbare, fun b o n1 n2 q => (sb8.2 b n1).trans ((sb7.2 b n2).trans q), fun acc c q => ?_, ?_⟩
        · rw [eD6] at q
          cases q
          exact ⟨_, e8⟩
        · obtain ⟨o9, _, _, q9, d9, _⟩ := n7
          exact ⟨o9, (sb8.2 _ (Ne.symm Dne)).trans q9, fun u z => by rw [d9] at z; cases z⟩
      cases n with
      | zero => exact (hk6 _ nap).elim
      | succ n =>
        refine ⟨n, Nat.lt_succ_self n, ?_, ?_, os6, allBare_setGen hb6 hbare, ⟨_, n7.sameBut sb8 (Ne.symm Dne)⟩, ⟨_, _, e8⟩, gs', setGen_at gsz, ?_⟩
        · exact ⟨og, nm, qn, (sb8.2 a aD.1).trans ((sb7.2 a aD.2).trans e1), e2, e3, by assumption⟩
        · obtain ⟨mc, k1, k2⟩ := hl6
          exact ⟨mc, k1.at' fun o q => (sb8.2 _ cD.1).trans ((sb7.2 _ cD.2).trans q), k2⟩
        · refine hk6 _ ⟨rfl, allBare_setGen (allBare_setGen hb6 hbare) rfl, nap.rest, nap.more, nap.own⟩
    · intro _
      obtain ⟨H', out, acc, cc, os6, hb6, un, hok, nD, nC', eD6, hv, hle, ⟨co, eC5, eC6⟩, hQ⟩ := hp
      obtain ⟨oC, es, ep, eC, dC, rC⟩ := hns5
      have eC5 : s5.heap.get? (D + 1) = some co := eC5
      rw [eC] at eC5
      cases eC5
      refine ⟨ns5, ⟨co, es, ep, hk' _ _ eC6, dC, rC⟩, fun h'' sb => ?_⟩
      have I7 := I1.drained (s' := ({ s6.setGen g .finished with heap := h' } : Shared)) szD hle (hk' _ _ eD6) hv .nil os6 (allBare_setGen hb6 rfl) (un.trans (Un.kept hk')) (hok.kept hk') nD
      have nC2 : upd H' D (.lst out) (D + 1) = none := by rw [upd_ne (Ne.symm Dne)]; exact nC'
      obtain ⟨f0, f1, f2, f3, f4, f5⟩ := I1.fpOk (b := D + 1) (H' := upd H' D (.lst out)) (by omega) nC2
      exact ⟨.ref D, upd H' D (.lst out), I7.turned (t' := s6.toks) (fun b o hb e => (sb.2 b hb).trans e) f0 f1 f3 f4 f5, rfl, hQ D nD⟩
  have e := codeAny_compStart_list loop (wpAny_pyIter_gen (hg.keeps kp) loop)
  rw [← hce] at e
  exact e
end
end GCx

set_option Elab.async false
set_option linter.all false
set_option maxRecDepth 100000
set_option maxHeartbeats 2000000
/-! SK: sorted(xs, key=lambda y: y[1]) of a list of tuples. -/
namespace SKx
open PySem PySem.Spec PyProof.Rows L2 LamX
abbrev h00 : Heap := { objs := #[] }
section
variable {prog : Program} {w : World} {A : Around} {s : Shared}
/-- the key function's call -/
theorem key_call {f c' t : Addr} {q y : Str} {params : Arguments} {scope : Scope} {cl : List (Str × Addr)} {pm ctv : Value} {p1 p2 p3 : Pos} {jc : Nat} {items : Array Value} {k : Int} {tk0 : Tok}
    (hd : A.depth < recursionLimit) (hl : s.heap.NoLimit) (hf : s.heap.get? f = some (PySem.W.kla_obj "<lambda>" q params (.Subscript (.Name y p1) (.Constant (.int 1) jc p2) p3) scope cl pm c' ctv))
    (hk : scope.kind = .function) (hco : scope.isCoroutine = false) (hge : scope.isGenerator = false) (hn : scope.names = [(y, .local)]) (hy : (y == ("__debug__" : Str)) = false)
    (hbind : ∀ v : Value, bindArgs (PySem.W.kla_fn "<lambda>" q params (.Subscript (.Name y p1) (.Constant (.int 1) jc p2) p3) scope cl pm (.ref c') ctv) ⟨[v], []⟩ = pure [(y, v)])
    (hc : ∃ (oc : Obj) (vs : Array Value) (t : Tok), s.heap.get? c' = some oc ∧ oc.data = .fields vs ∧ vs[1]? = some (.str q t)) (ht : IsTup s.heap t items) (hi : items[1]? = some (.int k tk0)) :
    wpAny (model prog w) A (call (.ref f) [.ref t]) (fun r s' => ∃ h' tk' t', s' = { s with heap := h', toks := tk' } ∧ r = .int k t' ∧ ∀ b o, s.heap.get? b = some o → h'.get? b = some o) (fun _ _ => False) s := by
  obtain ⟨oc, vs, tq, c1, c2, c3⟩ := hc
  have kind : scope.names.lookup y = some .local := by rw [hn]; simp
  refine wpAny_call (PySem.W.kla_callFunE hd hf rfl hco hge rfl ⟨c', oc, vs, tq, rfl, c1, c2, c3⟩ ?_)
  rw [hbind]
  refine wpAny_pure (wpAny_newFunctionEnv (fun z hz => ?_) (fun z hz => ?_) (fun h1 hns hsb => ⟨hl.fresh _ hsb, ?_⟩) hk)
  · have hz : z ∈ scope.names := hz
    rw [hn] at hz
    rw [List.mem_singleton.mp hz]
    intro e
    cases e
  · rw [List.mem_singleton.mp hz]
    exact kind
  have kp : ∀ b o, s.heap.get? b = some o → h1.get? b = some o := fun b o e => hsb.extBut b o (Nat.ne_of_lt (Heap.lt_size e)) (Heap.get?_push_of_some _ e)
  refine PySem.W.kla_codeExpr (Subscript_ (wpAny_Name (wpAny_loadName_local hk kind hns (v := .ref t) (by simp) ?_) hy))
  refine wpAny_Constant_int ?_
  have ht1 := ht.keeps kp
  have h2 : 1 < items.size := (Array.getElem?_eq_some_iff.mp hi).1
  have ix : seqIndex? 1 items.size = some 1 := by
    unfold seqIndex?
    simp
    omega
  exact subscriptTail_builtinR (x := .int k tk0) ht1.typeIs slot_tuple_getitem.lookup (getItem_tuple (j := 1) ht1 (by decide) (by decide) ix hi ⟨rfl, _, _, tk0, rfl, rfl, kp⟩) rfl
end
/-- the tuples of xs: their second items -/
def Keyed1 (K : PySem.W.Frag) (H : Hp) (xs : List V) (ks : List Int) : Prop := xs.length = ks.length ∧ ∀ (i : Nat) (x : V) (k : Int), xs[i]? = some x → ks[i]? = some k → ∃ t ys, x = .ref t ∧ SqT K H t ys ∧ ys[1]? = some (.int k)
/-- qs: the pairs of keys and items, sorted and stable -/
def SortedBy (ks : List Int) (xs : List V) (qs : List (Int × V)) : Prop := qs.Perm (ks.zip xs) ∧ qs.Pairwise (fun p q => p.1 ≤ q.1) ∧ ∀ c, qs.filter (fun p => p.1 == c) = (ks.zip xs).filter (fun p => p.1 == c)
def tSortKey (K : PySem.W.Frag) (T : List (Addr × Str)) (te : TE) : TE := fun σ H Q => te σ H fun x H1 => Tabs T H1 ∧ ∀ H2, ExtN H1 H2 → Tabs T H2 → ∃ a xs ks, x = .ref a ∧ SqL K H2 a xs ∧ Keyed1 K H2 xs ks ∧ ∀ qs p, SortedBy ks xs qs → H2 p = none → Q (.ref p) (upd H2 p (.lst (qs.map (·.2))))
theorem zip_get {α β : Type} : ∀ {as : List α} {bs : List β} {p : α × β}, p ∈ as.zip bs → ∃ i : Nat, as[i]? = some p.1 ∧ bs[i]? = some p.2
  | a :: as, b :: bs, p, h => by
    rw [List.zip_cons_cons] at h
    rcases List.mem_cons.mp h with rfl | h
    · exact ⟨0, rfl, rfl⟩
    · obtain ⟨i, h1, h2⟩ := zip_get h
      exact ⟨i + 1, h1, h2⟩
  | [], _, _, h => by simp at h
  | _ :: _, [], _, h => by simp at h
theorem obj_has {P : Program} {w : World} {H : Hp} {h : Heap} {a : Addr} {o : HO} (x : ObjOk P w H h a o) : ∃ u, h.get? a = some u := by
  cases o with
  | lst xs => obtain ⟨_, _, _, _, e⟩ := x; exact ⟨_, e⟩
  | tup xs => obtain ⟨_, _, _, u, e, _⟩ := x; exact ⟨u, e⟩
  | dK kvs => obtain ⟨_, _, _, _, o, _, _, e, _⟩ := x; exact ⟨o, e⟩
  | dT kvs => obtain ⟨_, _, _, _, o, _, _, e, _⟩ := x; exact ⟨o, e⟩
  | set S n => obtain ⟨o, _, _, _, e, _⟩ := x; exact ⟨o, e⟩
  | ins C dx fs => obtain ⟨_, _, _, e, _⟩ := x; exact ⟨_, e⟩
  | own y => exact x
  | xd fs => obtain ⟨_, ⟨o, _, _, e, _⟩, _⟩ := x; exact ⟨o, e⟩
  | rng lo hi => obtain ⟨_, _, _, e⟩ := x; exact ⟨_, e⟩
  | frz ob u => exact ⟨_, x.1⟩
  | tbl ps => exact ⟨_, x⟩
  | met f y => exact ⟨_, x⟩
  | ext φ => exact x.2.1
section
variable {X : Cx}
theorem pe_sortKey {T : List (Addr × Str)} {c P : Addr} {k : Nat} {e : Expr} {te : TE} {y : Str} {params : Arguments} {scope : Scope} {p p1 p2 p3 lpos kpos pos : Pos} {jc : Nat} (he : PE X e te) (hcm : X.calm = true) (hg : Gl X "sorted") (hm : X.mg "sorted" = none)
    (TB : TabB X.base X.mg c P) (hcode : X.env.code = .ref c) (hmT : (P, X.env.qual ++ "<lambda>") ∈ T) (hu : ∀ p ∈ T, p.1 = P → p.2 = X.env.qual ++ "<lambda>") (hr : Room (k + 1) X.A) (hdef : defaultsOf params X.env = ([], []))
    (hk : scope.kind = .function) (hco : scope.isCoroutine = false) (hge : scope.isGenerator = false) (hn : scope.names = [(y, .local)]) (hy : (y == ("__debug__" : Str)) = false)
    (hbind : ∀ (q : Str) (cl : List (Str × Addr)) (pm cv ctv v : Value), bindArgs (PySem.W.kla_fn "<lambda>" q params (.Subscript (.Name y p1) (.Constant (.int 1) jc p2) p3) scope cl pm cv ctv) ⟨[v], []⟩ = pure [(y, v)])
    (h1 : backTo pos (starEach [e] X.env) = (false, eval e X.env) :: backTo pos (starEach [] X.env) := by rfl) (h2 : (backTo pos (starEach [e] X.env)).any (·.1) = false := by rfl) :
    PE X (.Call (.Name "sorted" p) [e] [⟨some "key", .Lambda params (.Subscript (.Name y p1) (.Constant (.int 1) jc p2) p3) scope lpos, kpos⟩] pos) (tSortKey X.K T te) := by
  refine ⟨fun pins s σ H Q I h => ?_⟩
  refine wpAny_Call_Name_kw (ld_blt (u := .builtin "sorted") I hg hm (by first | rfl | decide +kernel) ?_ (by decide) (by decide))
  refine PyProof.Rows.callWith_kw ?_ h1 h2 (by rfl) (by rfl)
  rw [h1]
  refine Calls.spliced_cons (thn (he.run pins s σ H _ I h) fun u s1 ⟨x, H1, I1, rx, hT, hq⟩ => ?_)
  refine Calls.spliced_nil ?_
  show wpAny _ _ (evalAll [do let v ← eval _ X.env; standAt pos; pure v]) _ _ s1
  have nof : ∀ z ∈ scope.names, z.2 = .free → ∃ c, X.env.cells.lookup z.1 = some c := fun z hz q => by
    rw [hn] at hz
    rw [List.mem_singleton.mp hz] at q
    cases q
  refine wpAny_evalAll_cons (wpAny_bind (lam_make2 I1 TB hcode hmT hu hT hdef nof fun f c' pm ctv H2 s2 I2 eN T2 hf hfn hfr hco' => wpAny_bind (wpAny_standAt (wpAny_pure (wpAny_evalAll_nil ?_)))))
  obtain ⟨a, xs, ks, rfl, hl, hK, q⟩ := hq H2 eN T2
  obtain rfl : u = Value.ref a := rx
  show wpAny _ X.A (call (.builtin "sorted") [.ref a] [(Str.ofString "key", .ref f)]) _ _ s2
  obtain ⟨its, rv, pl, hz⟩ := I2.list hl
  obtain ⟨m, hns, hlk⟩ := id I2.loc
  obtain ⟨oL, es, ep, eL, dL, rL⟩ := id hns
  -- all that stands, but the frame's own object
  let news : List (Addr × Obj) := (List.range s2.heap.objs.size).filterMap fun b => if b = X.env.locals then none else (s2.heap.get? b).map fun o => (b, o)
  have mem : ∀ b o, b ≠ X.env.locals → s2.heap.get? b = some o → (b, o) ∈ news := fun b o n e => List.mem_filterMap.mpr ⟨b, List.mem_range.mpr (Heap.lt_size e), by rw [if_neg n, e]; rfl⟩
  have inv : ∀ z ∈ news, z.1 ≠ X.env.locals ∧ s2.heap.get? z.1 = some z.2 := fun z hz => by
    obtain ⟨b, _, e⟩ := List.mem_filterMap.mp hz
    by_cases hb : b = X.env.locals
    · rw [if_pos hb] at e
      cases e
    · rw [if_neg hb] at e
      cases ho : s2.heap.get? b with
      | none => rw [ho] at e; cases e
      | some o => rw [ho] at e; cases e; exact ⟨hb, ho⟩
  have h0 : ∀ b, h00.get? b = none := fun b => by rfl
  have F : Fr h00 X.env.locals s2.heap m := ⟨hns, fun b o e => (by rw [h0] at e; cases e), Nat.zero_le _⟩
  have N : News h00 X.env.locals s2.heap news := fun z hz => ⟨(inv z hz).2, (inv z hz).1, h0 _⟩
  obtain ⟨hlen, hitem⟩ := hK
  have hvl := rv.length
  have refs := refs_back rv fun x hx => by
    obtain ⟨i, hi⟩ := List.getElem?_of_mem hx
    obtain ⟨t, ys, e, _⟩ := hitem i x (ks[i]'(by have := (List.getElem?_eq_some_iff.mp hi).1; omega)) hi (List.getElem?_eq_getElem _)
    exact ⟨t, e⟩
  have fL : f ≠ X.env.locals := fun e => by
    rw [e, eL] at hf
    cases hf
    cases dL
  have cL : c' ≠ X.env.locals := fun e => by
    rw [e] at hco'
    have := I2.free
    rw [hco'] at this
    cases this
  obtain ⟨⟨oc, vs, tq, c1, c2, c3⟩, _, _⟩ := I2.hok c' _ hco'
  obtain ⟨mc, k1, k2⟩ := I2.nolimit
  have sL : cStatics ≠ X.env.locals := fun e => by
    have h1 : cStatics < X.base.objs.size := let ⟨_, hn, _⟩ := I2.mod.nolimit; hn.lt
    have h2 := Nat.le_trans I2.ok.bsz I2.ok.above
    rw [e] at h1
    exact Nat.lt_irrefl _ (Nat.lt_of_lt_of_le h1 h2)
  refine PyProof.Rows.ksk_sortedSt (vs := its) (kz := ks) (b := false) F N (by simpa using pl.isList) (by omega) (by omega) (PyProof.Rows.ksk_s1 _ _) (fun _ => PyProof.Rows.ksk_l1 _ _) (fun z => PyProof.Rows.ksk_t1 f z) (fun i v kx hv hkx h tk own F' N' => ?_) fun D h' tk out cc F' N' hD hout => ?_
  · have at_ : ∀ b o, b ≠ X.env.locals → s2.heap.get? b = some o → h.get? b = some o := fun b o n e => (N' (b, o) (List.mem_append_left _ (mem b o n e))).1
    obtain ⟨x, hx, rx⟩ : ∃ x, xs[i]? = some x ∧ RelV x v := by
      have hi := (List.getElem?_eq_some_iff.mp hv).1
      have hi2 : i < xs.length := by omega
      obtain ⟨w', e1, e2⟩ := rv.get (List.getElem?_eq_getElem hi2)
      rw [hv] at e1
      cases e1
      exact ⟨_, List.getElem?_eq_getElem hi2, e2⟩
    obtain ⟨t, ys, rfl, ht, hys⟩ := hitem i x kx hx hkx
    obtain rfl : v = Value.ref t := rx
    obtain ⟨ti, rt, tup, _⟩ := I2.tuple ht
    obtain ⟨w', e1, e2⟩ := rt.get hys
    obtain ⟨tk0, rfl⟩ := e2
    have tL : t ≠ X.env.locals := fun e => by
      obtain ⟨o, ho, _, n, hd⟩ := tup
      rw [e, eL] at ho
      cases ho
      rw [dL] at hd
      cases hd
    have tup' : IsTup h t ti.toArray := by
      obtain ⟨o, ho, r⟩ := tup
      exact ⟨o, at_ t o tL ho, r⟩
    have := hr.dp
    refine wpAny_mono (key_call (s := { s2 with heap := h, toks := tk }) (c' := c') (A := X.A.in1.in1) (by show X.A.depth < _; omega) ⟨mc, k1.at' fun o e => at_ _ o sL e, k2⟩ (at_ f _ fL hf) hk hco hge hn hy (fun v => hbind _ _ _ _ _ v) ⟨oc, vs, tq, at_ c' _ cL c1, c2, c3⟩ tup' (by simpa using e1)) ?_ fun _ _ z => z
    rintro r s' ⟨h', tk', t', rfl, rfl, kp⟩
    exact ⟨h', tk', t', rfl, rfl, F'.kept kp, N'.grown kp⟩
  · have at_ : ∀ b o, b ≠ X.env.locals → s2.heap.get? b = some o → h'.get? b = some o := fun b o n e => (N' (b, o) (List.mem_cons_of_mem _ (mem b o n e))).1
    obtain ⟨eD, DL, _⟩ := N' _ List.mem_cons_self
    have nD : s2.heap.get? D = none := by
      cases e : s2.heap.get? D with
      | none => rfl
      | some o => exact absurd (hD _ (mem D o DL e)) (Nat.lt_irrefl _)
    have nDH : H2 D = none := by
      cases e : H2 D with
      | none => rfl
      | some o =>
        obtain ⟨o', e'⟩ := obj_has (I2.hok D o e)
        rw [nD] at e'
        cases e'
    obtain ⟨ps, o1, o2, o3, o4⟩ := hout
    have o3 : ps.Pairwise (fun p q => p.1 ≤ q.1) := o3
    obtain ⟨rx, rr⟩ := refs
    have inI : ∀ z ∈ ps, z.2 ∈ its := fun z hz => by
      obtain ⟨i, _, e⟩ := zip_get (o1.mem_iff.mp hz)
      exact List.mem_of_getElem? e
    have ez : ks.zip xs = (ks.zip its).map (fun z => (z.1, backV z.2)) := by
      rw [rx, List.zip_map_right]
      rfl
    have sb : SortedBy ks xs (ps.map fun z => (z.1, backV z.2)) := by
      refine ⟨by rw [ez]; exact o1.map _, ?_, fun c => ?_⟩
      · rw [List.pairwise_map]
        exact o3
      · rw [ez, List.filter_map, List.filter_map]
        have e1 : ((fun p : Int × V => p.1 == c) ∘ fun z : Int × Value => (z.1, backV z.2)) = fun p : Int × Value => p.1 == c := rfl
        rw [e1, o4 c]
    have eo : (ps.map fun z => (z.1, backV z.2)).map (·.2) = out.toList.map backV := by
      rw [o2, List.map_map, List.map_map]
      rfl
    have q' := q _ D sb nDH
    rw [eo] at q'
    have rout : Vals (out.toList.map backV) out.toList := vals_back fun u hu => by
      rw [o2] at hu
      obtain ⟨z, hz, rfl⟩ := List.mem_map.mp hu
      exact rr _ (inI z hz)
    have lout : (out.toList.map backV).length ≤ sizeLine := by
      rw [List.length_map, o2, List.length_map, o1.length_eq, List.length_zip]
      omega
    refine ⟨.ref D, upd H2 D (.lst (out.toList.map backV)), ?_, rfl, q'⟩
    refine I2.step (g' := s2.gens) (d' := s2.drawn) (ch := []) (fun b hb => absurd hb (by simp)) (fun b o nb _ _ e _ => at_ b o nb e) (fun b o nb _ _ e _ => ⟨o.slots, at_ b o nb e⟩) (fun b o _ e n => ?_) (fun b o _ e => ?_) (fun b us e => ?_) (fun b o us e => ?_) (fun b us e => ?_) (fun m' hm' => ?_) (fun b o e => ?_) I2.bare
    · rw [upd_ne (fun w => by rw [w, nD] at e; cases e)]
      exact n
    · by_cases hb : b = X.env.locals
      · obtain ⟨o', _, _, e', _⟩ := F'.ns
        exact ⟨o', by rw [hb]; exact e'⟩
      · exact ⟨o, at_ b o hb e⟩
    · rw [upd_ne (ne_of_none e nDH)]; exact e
    · rw [upd_ne (ne_of_none e nDH)]; exact e
    · exact ⟨#[], by rw [upd_ne (ne_of_none e nDH), e]; simp⟩
    · obtain ⟨o1', es', ep', ho', hd', hs', hf'⟩ := hm'
      rw [eL] at ho'
      cases ho'
      rw [dL] at hd'
      cases hd'
      obtain ⟨o2', es2, ep2, ho2, hd2, hs2, hf2⟩ := F'.ns
      exact ⟨o2', es2, ep2, ho2, hd2, hs2, fun nm => (hf2 nm).trans ((rL.2 nm).symm.trans (hf' nm))⟩
    · by_cases hb : b = D
      · subst hb
        rw [upd_same] at e
        cases e
        exact ⟨lout, out.toList, cc, rout, by simpa using eD⟩
      · rw [upd_ne hb] at e
        refine (I2.hok b o e).stay (fun d v hd q => at_ d v (fun w => ?_) q) (fun d q => by rw [upd_ne (ne_of_none q nDH)]; exact q) fun d us q => by rw [upd_ne (ne_of_none q nDH)]; exact q
        rcases hd with z | z
        · rw [w] at z
          rw [← z, I2.free] at e
          cases e
        · rw [w, I2.free] at z
          cases z
end
end SKx

set_option Elab.async false
set_option linter.all false
set_option maxRecDepth 100000
set_option maxHeartbeats 3200000
/-! SE: set(xs) of a list of ints. -/
namespace SEx
open PySem PySem.Spec PyProof.Rows L2
abbrev ob0 (w : World) : Obj := { cls := .type "set", dict := none, data := .set #[] 0 (.fresh 0 0 (!w.params.followText "set-order")) }
section
variable {P : Program} {w : World} {A : Around} {E : Value → Shared → Prop} {s : Shared}
theorem set_list {l : Addr} {xs : Array Value} (ns : List Int) {Q : Value → Shared → Prop} (ha : A.handled = none) (hl : s.heap.IsList l xs) (hi : IntsAre xs.toList ns) (hb : ns.length + 1 < scanBound)
    (q : ∀ (g : Heap) (tk c : Nat), SetR w g s.heap.objs.size (fun j => decide (j ∈ ns)) c → c ≤ ns.length → (∀ b o, s.heap.get? b = some o → g.get? b = some o) → Q (.ref s.heap.objs.size) { s with heap := g, toks := tk }) :
    wpAny (model P w) A (call (.type "set") [.ref l]) Q E s := by
  have sz : xs.size = ns.length := by
    have := IntsAre.length hi
    rwa [Array.length_toList] at this
  obtain ⟨_, _, cm⟩ := F.called_set.mro
  have c1 := F.called_set.made
  have c2 := F.called_set.sub
  refine wpAny_call (codeAny_of_tree ?_)
  show wpAny _ _ (callAny (.type "set") _) _ _ _
  refine wpAny_pure ⟨Code.quiet_builtin _ (by decide +kernel), codeAny_builtin F.entry_type_call ?_⟩
  rw [Around.under_plain (weight_type_call_type "set" [.ref l] []) rfl]
  have c3 := F.called_set.notType
  have c4 := F.called_set.canCreate
  have c5 := F.typeCall_set_1 (.ref l)
  repeat (any_goals (first | assumption | wp_step))
  refine codeAny_mono (code_set_led1 (.ref l) (E := E) (Q₁ := fun u z => u = .ref s.heap.objs.size ∧ z = { s with heap := s.heap.push (ob0 w) }) ⟨rfl, rfl⟩) fun r z hr => ?_
  cases r with
  | error e => exact hr
  | ok fl =>
    cases fl with
    | ret u =>
      obtain ⟨rfl, rfl⟩ := hr
      have hS : (s.heap.push (ob0 w)).get? s.heap.objs.size = some (ob0 w) := Heap.get?_push_size _ rfl
      have hT : Shared.TypeIs { s with heap := s.heap.push (ob0 w) } (.ref s.heap.objs.size) "set" := ⟨_, hS, rfl⟩
      have c6 := F.called_set.init.lookup
      have c7 := F.called_set.init.bind (.ref s.heap.objs.size)
      repeat (any_goals (first | assumption | wp_step))
      refine codeAny_mono (codeAny_call_builtin (R := wants (fun r z => r = .none ∧ ∃ g tk c, z = { s with heap := g, toks := tk } ∧ SetR w g s.heap.objs.size (fun j => decide (j ∈ ns)) c ∧ c ≤ ns.length ∧ ∀ b o, s.heap.get? b = some o → g.get? b = some o) E) F.called_set.init.plain F.entry_set_init (check_set_init_1 hT ?_)) fun r2 z2 hr2 => ?_
      · obtain ⟨⟨oc, od, oda, osl⟩, e1, e2, n, e3⟩ := hl
        simp only at e2 e3
        subst e2; subst e3
        have e1' : (s.heap.push (ob0 w)).get? l = some { cls := .type "list", dict := od, data := .seq xs n, slots := osl } := Heap.get?_push_of_some _ e1
        have d1 := F.sub_list_set
        have d2 := F.sub_list_frozenset
        have d3 : (Value.type "list" == Value.type "dict") = false := by decide
        have hl1 : (s.heap.push (ob0 w)).IsList l xs := ⟨_, e1', rfl, n, rfl⟩
        unfold Builtin.«set.__init__» noKeywords Builtin.Frozenset.updateFrom
        generalize hPI : pyIter = PI
        wp_walk
        subst hPI
        refine wpAny_pyIter_list hl1 ?_
        refine wpAny_bind (wpAny_runValue ?_)
        have lt : l < s.heap.objs.size := Heap.lt_size e1
        have psz : (s.heap.push (ob0 w)).objs.size = s.heap.objs.size + 1 := Heap.size_push ..
        have nI : l ≠ (s.heap.push (ob0 w)).objs.size := by rw [psz]; exact Nat.ne_of_lt (Nat.lt_succ_of_lt lt)
        have nS : s.heap.objs.size ∉ [(s.heap.push (ob0 w)).objs.size, l] := by
          rw [psz]
          simp only [List.mem_cons, List.mem_singleton, List.not_mem_nil, or_false, not_or]
          exact ⟨Nat.ne_of_lt (Nat.lt_succ_self _), Nat.ne_of_gt lt⟩
        have vals : ∀ (i : Nat) (v : Value), xs[i]? = some v → ∃ k t, ns[i]? = some k ∧ v = .int k t := fun i v hv => by
          have hlt : i < ns.length := by rw [← sz]; exact (Array.getElem?_eq_some_iff.mp hv).1
          obtain ⟨t, e⟩ := PyProof.Rows.IntsAre.int_at hi i v (by rw [Array.getElem?_toList]; exact hv)
          exact ⟨ns[i], t, List.getElem?_eq_getElem hlt, by rw [e, List.getD_eq_getElem?_getD, List.getElem?_eq_getElem hlt] <;> rfl⟩
        refine set_update_ints ((Walks.list (by simp [ha]) _ l nI xs).toS) s.heap.objs.size nS ns sz hb vals (xs.size - 0) 0 _ (by omega) (Nat.zero_le _) ⟨⟨_, Heap.get?_push_size _ rfl, rfl, rfl⟩, hl1.push _⟩ ?start ?fin
        case start => exact ⟨0, Nat.le_refl 0, setR_new_at (Heap.get?_push_of_some _ hS)⟩
        case fin =>
          intro z c' hm hc' hR
          obtain ⟨g, g2, d', tk', os'⟩ := z
          have z1 : g2 = s.gens := hm.gens
          have z2 : d' = s.drawn := hm.drawn
          have z3 : os' = s.os := hm.os
          subst z1; subst z2; subst z3
          show wpAny _ _ _ _ _ _
          refine wpAny_pure ?_
          show wpAny _ _ (ret Value.none) _ _ _
          rw [sz] at hc'
          refine wpAny_pure ⟨rfl, g, tk', c', rfl, hR, hc', fun b o e => ?_⟩
          have b0 : b < s.heap.objs.size := Heap.lt_size e
          refine hm.heap b o ?_ (Heap.get?_push_of_some _ (Heap.get?_push_of_some _ e))
          simp only [List.mem_cons, List.mem_singleton, List.not_mem_nil, or_false, not_or]
          exact ⟨Nat.ne_of_lt b0, by rw [psz]; exact Nat.ne_of_lt (Nat.lt_succ_of_lt b0)⟩
      · cases r2 with
        | error e => exact hr2
        | ok fl2 =>
          cases fl2 with
          | ret r =>
            obtain ⟨rfl, g, tk, c', rfl, hR, hc', kp⟩ := hr2
            repeat (any_goals (first | assumption | wp_step))
            exact q _ _ _ hR hc' kp
          | _ => exact hr2.elim
    | _ => exact hr.elim
end
section
variable {X : Cx}
def rSetL (K : PySem.W.Frag) (w : World) : List V → Hp → VK → Prop := fun vs H Q => ∃ (l : Addr) (ns : List Int), vs = [V.ref l] ∧ SqL K H l (ns.map V.int) ∧ ns.length < 1000 ∧ ∀ (p : Addr) (c : Nat), c ≤ ns.length → H p = none → Q (.ref p) (upd H p (SetO w p (fun j => decide (j ∈ ns)) c))
theorem cr_setL (hc : X.calm = true) : CallR X (.type "set") (rSetL X.K X.w) := by
  intro pins s σ H vs us Q I r h
  obtain ⟨l, ns, rfl, hl, hn, q⟩ := h
  obtain rfl := Vals.ref1 r
  obtain ⟨its, rv, pl, hz⟩ := I.list hl
  refine set_list ns (I.ok.hd hc) pl.isList (by simpa using rv.ints) (by unfold scanBound; omega) fun g tk c hR hcn kp => ?_
  have hn := I.hok.fresh (Nat.le_refl s.heap.objs.size)
  exact ⟨.ref s.heap.objs.size, upd H s.heap.objs.size (SetO X.w s.heap.objs.size (fun j => decide (j ∈ ns)) c), I.laid (t' := tk) kp (Nat.le_refl _) (setO_new hR), rfl, q _ c hcn hn⟩
end
end SEx

set_option Elab.async false
set_option linter.all false
set_option maxRecDepth 100000
/-! MA: a list taken apart into so many; match .. case [a, b] over a list. -/
namespace MA
open PySem PySem.Spec PyProof.Rows
section
variable {prog : Program} {w : World} {A : Around} {E : Value → Shared → Prop}
theorem draws {it l : Addr} {xs : Array Value} (ne : l ≠ it) : ∀ (n i : Nat) (s : Shared) (R : List Value → Shared → Prop), s.heap.IsListIter it l i → s.heap.IsList l xs → i + n ≤ xs.size →
    (∀ h', h'.IsListIter it l (i + n) → Heap.SameBut it s.heap h' → R ((xs.toList.drop i).take n) { s with heap := h' }) → wpAny (model prog w) A (draw (.ref it) n) R E s := by
  intro n
  induction n with
  | zero =>
    intro i s R a b c k
    exact wpAny_pure (by simpa using k s.heap a (Heap.SameBut.refl ..))
  | succ n ih =>
    intro i s R a b c k
    have lt : i < xs.size := by omega
    show wpAny _ _ (pyNext (.ref it) >>= _) R E s
    refine wpAny_bind (wpAny_pyNext_list_item a b (x := xs[i]) (by simp [lt]) fun g1 a1 e1 => wpAny_bind (wpAny_holding (ih (i + 1) _ _ a1 (b.extBut e1.extBut ne) (by omega) fun g2 a2 e2 => wpAny_pure ?_)))
    have cut : (xs.toList.drop i).take (n + 1) = xs[i] :: (xs.toList.drop (i + 1)).take n := by simp [List.drop_eq_getElem_cons, lt]
    rw [← cut]
    exact k g2 (by rw [show i + (n + 1) = i + 1 + n by omega]; exact a2) (e1.trans e2)
theorem unpackL {s : Shared} {l : Addr} {xs : Array Value} {R : List Value → Shared → Prop} (hh : A.handled = none) (hl : s.heap.IsList l xs)
    (k : ∀ h', Heap.ExtBut s.heap.objs.size s.heap h' → R xs.toList { s with heap := h' }) : wpAny (model prog w) A (unpackItems (.ref l) xs.size none) R E s := by
  have ne : l ≠ s.heap.objs.size := by
    obtain ⟨o, ho, _⟩ := hl
    exact Nat.ne_of_lt (Heap.lt_size ho)
  unfold unpackItems
  refine wpAny_bind ?_
  unfold notIterableAtAll
  refine wpAny_bind (wpAny_specialOf hl.typeIs slot_list_iter.lookup (wpAny_pure ?_))
  simp only [Bool.false_eq_true, if_false]
  refine wpAny_bind (wpAny_holding (wpAny_pyIter_list hl ?_))
  refine wpAny_bind (wpAny_holding (draws ne xs.size 0 _ _ ⟨_, Heap.get?_push_size _ rfl, rfl, rfl⟩ (hl.push _) (by omega) fun g1 a1 e1 => ?_))
  rw [List.drop_zero, List.take_of_length_le (by simp), if_neg (by simp)]
  refine wpAny_bind (wpAny_holding (wpAny_pyNext_list_end hh a1 ((hl.push _).extBut e1.extBut ne) (by simp) fun g2 e2 => ?_))
  simp only [Option.isSome_none, Bool.false_eq_true, if_false]
  exact wpAny_pure (k g2 fun b o nb e => e2 b o nb (e1.extBut b o nb (Heap.get?_push_of_some _ e)))
/-- patterns that are names: what they bind -/
theorem eachL {env : Env} (ns : List (Str × Pos)) : ∀ {us : List Value} {s : Shared} {R : Option (List (Str × Value)) → Shared → Prop}, us.length = ns.length →
    R (some ((ns.map (·.1)).zip us)) s → wpAny (model prog w) A (matchEach (ns.map fun n => .MatchAs none (some n.1) n.2) env us) R E s := by
  induction ns with
  | nil =>
    intro us s R e k
    cases us with
    | nil => exact wpAny_matchEach_nil k
    | cons u us => simp at e
  | cons n ns ih =>
    intro us s R e k
    cases us with
    | nil => simp at e
    | cons u us =>
      rw [List.map_cons]
      refine wpAny_matchEach_cons (wpAny_matchPattern_Capture ?_) rfl
      exact ih (R := fun r' s₂ => match r' with
        | none => R none s₂
        | some more => R (some ((Option.map (·, u) (some n.1)).toList ++ more)) s₂) (by simpa using e) k
end
end MA
namespace L2
open PySem PySem.Spec PyProof.Rows
/-! ### match e: case [x, ..]: .. over a list -/
def setAll (σ : St) : List Nat → List V → St
  | i :: is, x :: xs => setAll (σ.set i (some x)) is xs
  | _, _ => σ
def goM : List (List Nat × TS) → List V → TS
  | [], _ => fun D σ H => D.nx σ H
  | (is, t) :: r, xs => fun D σ H => (xs.length = is.length → t D (setAll σ is xs) H) ∧ (xs.length ≠ is.length → goM r xs D σ H)
def tMatch (K : PySem.W.Frag) (te : TE) (cs : List (List Nat × TS)) : TS := fun D σ H => te σ H fun x H1 => ∃ a xs, x = .ref a ∧ SqL K H1 a xs ∧ goM cs xs D σ H1
/-- the names of a case: their slots -/
inductive NmOk (X : Cx) : List (Str × Pos) → List Nat → Prop
  | nil : NmOk X [] []
  | cons {x : Str} {p : Pos} {i : Nat} {ns : List (Str × Pos)} {is : List Nat} (hi : X.N[i]? = some x) (hl : Loc X.env.scope x) (hf : X.fn x = true ∨ X.env.scope.names.lookup x = some .local) (r : NmOk X ns is) : NmOk X ((x, p) :: ns) (i :: is)
inductive CsOk (X : Cx) : List MatchCase → List (List Nat × TS) → Prop
  | nil : CsOk X [] []
  | cons {n : Str × Pos} {ns : List (Str × Pos)} {is : List Nat} {p : Pos} {b : List Stmt} {t : TS} {cs : List MatchCase} {l : List (List Nat × TS)} (hn : NmOk X (n :: ns) is) (hb : PSs X b t) (r : CsOk X cs l) :
      CsOk X (⟨.MatchSequence ((n :: ns).map fun n => .MatchAs none (some n.1) n.2) p, none, b⟩ :: cs) ((is, t) :: l)
section
variable {X : Cx}
theorem NmOk.len {ns : List (Str × Pos)} {is : List Nat} (h : NmOk X ns is) : ns.length = is.length := by
  induction h with
  | nil => rfl
  | cons _ _ _ _ ih => simp [ih]
theorem bindAll {pins : List (Addr × Obj)} (nd : X.N.Nodup) {ns : List (Str × Pos)} {is : List Nat} (h : NmOk X ns is) : ∀ {us : List Value} {xs : List V} {σ : St} {H : Hp} {s : Shared} {R : Unit → Shared → Prop}, Vals xs us → us.length = ns.length → Inv X pins σ H s →
    (∀ s', Inv X pins (setAll σ is xs) H s' → R () s') → wpAny (model X.prog X.w) X.A (assignInOrder (((ns.map (·.1)).zip us).map fun (n, _) => bindName X.env n) (((ns.map (·.1)).zip us).map (·.2))) R X.xe s := by
  induction h with
  | nil =>
    intro us xs σ H s R r e I k
    refine wpAny_assignInOrder_none (k s ?_)
    cases xs <;> exact I
  | cons hi hl hf r ih =>
    intro us xs σ H s R rv e I k
    cases rv with
    | nil => simp at e
    | cons r1 rv =>
      refine wpAny_assignInOrder_more (wpAny_bindName (store_ok I nd hi hl r1 (fun s' I' => ?_) hf))
      exact ih rv (by simpa using e) I' k
theorem starNo (ns : List (Str × Pos)) : (ns.map fun n => Pattern.MatchAs none (some n.1) n.2).findIdx? (·.isStar) = none := by
  induction ns with
  | nil => rfl
  | cons n ns ih =>
    rw [List.map_cons, List.findIdx?_cons, ih]
    rfl
theorem wildNo (n : Str × Pos) (ns : List (Str × Pos)) : (((n :: ns).map fun n => Pattern.MatchAs none (some n.1) n.2).all fun p => p.isWildcard || (p.isStar && p.names.isEmpty)) = false := by
  rw [List.map_cons, List.all_cons]
  rfl
theorem casesOk {pins : List (Addr × Obj)} (nd : X.N.Nodup) (hh : X.A.handled = none) {cs : List MatchCase} {l : List (List Nat × TS)} (h : CsOk X cs l) : ∀ {a : Addr} {xs : List V} {σ : St} {H : Hp} {s : Shared} {D : Ends} {first : Bool}, SqL X.K H a xs → Inv X pins σ H s → goM l xs D σ H →
    wpAny (model X.prog X.w) X.A (matchCases cs X.env (.ref a) first) (SP X pins D) X.xe s := by
  induction h with
  | nil => exact fun _ I k => wpAny_matchCases_nil ⟨_, _, I, k⟩
  | @cons n ns is p b t cs l hn hb r ih =>
    intro a xs σ H s D first hs I k
    obtain ⟨its, rv, ⟨o, m, e1, e2, e3, e4⟩, le⟩ := I.list hs
    have hl : s.heap.IsList a its.toArray := ⟨o, e1, e2, m, e4⟩
    have el := rv.length
    have fit : (its.toArray.size : Int) < 2 ^ 63 := by
      have := le
      rw [sizeLine_eq] at this
      simp only [List.size_toArray]
      omega
    have nl := hn.len
    refine wpAny_matchCases_cons ?_
    by_cases hz : xs.length = is.length
    · refine matchSeq_list_hit hl fit (by simp only [List.size_toArray, List.length_map]; omega) ?_ ?_ ?_
      · rw [show ((n :: ns).map fun n => Pattern.MatchAs none (some n.1) n.2).length = its.toArray.size by simp only [List.size_toArray, List.length_map]; omega]
        refine MA.unpackL hh (s := { s with toks := s.toks + 1 + 1 }) hl fun g ex => ?_
        refine MA.eachL (n :: ns) (by simp only [List.toList_toArray]; omega) ?_
        have I1 : Inv X pins σ H { s with heap := g, toks := s.toks + 1 + 1 } := I.kept fun b o e => ex b o (Nat.ne_of_lt (Heap.lt_size e)) e
        exact bindAll nd hn (by simpa using rv) (by simp only [List.toList_toArray]; omega) I1 fun s' I' => hb.run pins s' _ H D I' (k.1 hz)
      · exact starNo (n :: ns)
      · exact wildNo n ns
    · refine matchSeq_list_miss hl fit (by simp only [List.size_toArray, List.length_map]; omega) ?_ ?_ ?_
      · exact ih hs (I.tok _) (k.2 hz)
      · exact starNo (n :: ns)
      · exact wildNo n ns
theorem ps_match {e : Expr} {te : TE} {cs : List MatchCase} {l : List (List Nat × TS)} {pos : Pos} (nd : X.N.Nodup) (hc : X.calm = true) (he : PE X e te) (h : CsOk X cs l) : PS X (.Match e cs pos) (tMatch X.K te l) := by
  refine ⟨fun pins s σ H D I w => wpAny_Match (thn (he.run pins s σ H _ I w) fun u s1 ⟨x, H1, I1, rx, a, xs, ex, hs, k⟩ => ?_)⟩
  subst ex
  cases rx
  exact casesOk nd (I.ok.hd hc) h hs I1 k
end
end L2

set_option Elab.async false
set_option linter.all false
set_option maxRecDepth 100000
set_option maxHeartbeats 4000000
namespace Fm
open PySem PySem.Spec PyProof.Rows L2
/-! F11: one of two readings; constants that are texts; match; keywords; *xs; generators; sorted by a key. -/
section
variable {K : PySem.W.Frag} {B : Bs}
def fEither (f1 f2 : FE) : FE := fun L M P => f1 L M P ∨ f2 L M P
theorem sim_either {t1 t2 : TE} {f1 f2 : FE} (a : SimE K B t1 f1) (b : SimE K B t2 f2) : SimE K B (XNx.tOr t1 t2) (fEither f1 f2) := ⟨fun hl hm h o => h.elim (fun h => .inl (a.run hl hm h o)) fun h => .inr (b.run hl hm h o)⟩
def fConS (K : PySem.W.Frag) (fe : FE) (f : Str) : FE := fun L M P => fe L M fun x M1 => ∃ n C fs s u, insAt M1 x = some (n, C, fs) ∧ Cls K C ∧ Con K C f (.str s) u ∧ fs.lookup f = none ∧ P (.str s) M1
theorem sim_conS {te : TE} {fe : FE} {f : Str} (a : SimE K B te fe) : SimE K B (tCon K te f) (fConS K fe f) := ⟨fun hl hm h o => a.run hl hm h fun x xv H1 ρ1 M1 g1 m1 rx ⟨n, C, fs, z, u, e, c, co, lk, p⟩ => by
  obtain ⟨b, dx, gs, rfl, _, _, rfl, h3, _, h4⟩ := insAt_ok m1 rx e
  exact ⟨b, C, dx, gs, _, u, rfl, h3, c, co, h4.lookN lk, o _ _ _ _ _ g1 m1 RT.str_ p⟩⟩
/-- the truth of a text -/
def fTruS (fe : FE) : FT := fun L M P => fe L M fun x M1 => ∃ z : Str, x = .str z ∧ z.length ≤ sizeLine ∧ P (decide (z.length ≠ 0)) M1
theorem sim_truS {te : TE} {fe : FE} (a : SimE K B te fe) : SimT K B (fun σ H Q => te σ H fun x H' => ∃ k, TruV K x H' k ∧ Q k H') (fTruS fe) := ⟨fun hl hm h o => a.run hl hm h fun x xv H1 ρ1 M1 g1 m1 rx ⟨z, e, hz, p⟩ => by
  subst e
  rw [rx.str_inv]
  refine ⟨decide (z.length ≠ 0), ⟨hz, ?_⟩, o _ _ _ _ g1 m1 p⟩
  by_cases h : z.length = 0
  · rw [h]; rfl
  · have : (z.length : Int) ≠ 0 := by omega
    simp [h, this]⟩
/-- enumerate of a tuple -/
def fIEnT (fa : FA) : FI := fun L M R => fa L M fun vs M1 => ∃ ts, vs = [.tup ts] ∧ R ⟨enumT 0 ts, fun _ => True⟩ M1
theorem i_enumT {ta : TA} {fa : FA} (a : SimA K B ta fa) : SimI K B (T1.iEnumT K ta) (fIEnT fa) := ⟨fun hl hm h k => a.run hl hm h fun xs xvs H1 ρ1 M1 g1 m1 rx ⟨ts, e, r⟩ => by
  subst e
  obtain ⟨xv, rfl, r1⟩ := rx.one
  obtain ⟨b, xs, rfl, h3, h4⟩ := r1.tup_inv
  refine ⟨b, xs, rfl, h3, k _ _ (fun H ρ => SqT K H b xs ∧ RTs K H ρ ts xs) H1 ρ1 M1 g1 m1 ⟨fun g ⟨s1, s2⟩ => ⟨g.tup _ _ s1, s2.mono g⟩, fun s hm e => ?_, fun s hm e ei => ?_, fun {H ρ M i t x H'} s hm e ei y => ?_⟩ ⟨h3, h4⟩ r⟩
  · exact ⟨xs, s.1, by rw [s.2.len]; exact (enumT_len ts 0).symm⟩
  · obtain ⟨u, hu, _⟩ := enumT_get ei
    obtain ⟨x, h5, _⟩ := s.2.get hu
    exact ⟨xs, x, s.1, h5⟩
  · obtain ⟨u, hu, e2⟩ := enumT_get ei
    obtain ⟨x, h5, h6⟩ := s.2.get hu
    obtain ⟨T, y, rfl, hT, rfl, hy⟩ := y
    have := hy xs s.1
    rw [h5] at this
    cases this
    rw [e2]
    have := pair_new (a := .int ((0 + i : Nat) : Int)) (b := u) (x := .int ((0 + i : Nat) : Int)) (y := _) hm hT RT.int_ h6
    simpa using this⟩
/-! ### match -/
def setAllT (L : Loc) : List Nat → List Tr → Loc
  | i :: is, x :: xs => setAllT (L.set i (some x)) is xs
  | _, _ => L
theorem rx_setAll {H : Hp} {ρ : List Addr} : ∀ {is : List Nat} {ts : List Tr} {xs : List V} {L : Loc} {σ : L2.St}, RTs K H ρ ts xs → RX K B H ρ L σ → RX K B H ρ (setAllT L is ts) (setAll σ is xs)
  | [], ts, xs, _, _, r, x => by cases ts <;> cases xs <;> exact x
  | i :: is, [], xs, _, _, r, x => by
    unfold RTs at r
    subst r
    exact x
  | i :: is, t :: ts, _, _, _, r, x => by
    unfold RTs at r
    obtain ⟨y, ys, rfl, r1, r2⟩ := r
    exact rx_setAll (is := is) r2 (x.set r1 i)
def fGoM : List (List Nat × FS) → List Tr → FS
  | [], _ => fun D L M => D.nx L M
  | (is, t) :: r, xs => fun D L M => (xs.length = is.length → t D (setAllT L is xs) M) ∧ (xs.length ≠ is.length → fGoM r xs D L M)
def fMatch (fe : FE) (cs : List (List Nat × FS)) : FS := fun D L M => fe L M fun x M1 => ∃ xs, lstAt M1 x = some xs ∧ fGoM cs xs D L M1
inductive SimM2 (K : PySem.W.Frag) (B : Bs) : List (List Nat × TS) → List (List Nat × FS) → Prop
  | nil : SimM2 K B [] []
  | cons {is : List Nat} {t : TS} {f : FS} {r : List (List Nat × TS)} {r' : List (List Nat × FS)} (a : SimS K B t f) (b : SimM2 K B r r') : SimM2 K B ((is, t) :: r) ((is, f) :: r')
theorem go_run {cs : List (List Nat × TS)} {fs : List (List Nat × FS)} (s : SimM2 K B cs fs) : ∀ {H : Hp} {ρ : List Addr} {M : Mem} {L : Loc} {σ : L2.St} {ts : List Tr} {xs : List V} {D' : FEnds} {D : Ends}, RTs K H ρ ts xs → RX K B H ρ L σ → RM K H ρ M → EndR K B H ρ D' D → fGoM fs ts D' L M → goM cs xs D σ H := by
  induction s with
  | nil => exact fun r x m e p => e.nx _ _ _ _ _ Grow.refl x m p
  | cons a b ih =>
    intro H ρ M L σ ts xs D' D r x m e ⟨p1, p2⟩
    refine ⟨fun hl => ?_, fun hl => ?_⟩
    · exact a.run (rx_setAll r x) m (p1 (by rw [← r.len]; exact hl)) e
    · exact ih r x m e (p2 (by rw [← r.len]; exact hl))
theorem sim_match {te : TE} {fe : FE} {cs : List (List Nat × TS)} {fs : List (List Nat × FS)} (a : SimE K B te fe) (s : SimM2 K B cs fs) : SimS K B (tMatch K te cs) (fMatch fe fs) := ⟨fun hl hm h e => a.run hl hm h fun x xv H1 ρ1 M1 g1 m1 rx ⟨ts, ex, p⟩ => by
  obtain ⟨n, b, xs, rfl, hn, _, rfl, h3, h4⟩ := lstAt_ok m1 rx ex
  exact ⟨b, xs, rfl, .inl (.inl h3), go_run s h4 (hl.mono g1) m1 (e.step g1) p⟩⟩
/-! ### C(e, .., k = v, ..) -/
def fMakeK (C : Addr) (n m : Nat) (fsp : FSp) (PX : PXF) (fa fk : FA) : FE := fun L M P => fa L M fun ts M1 => fk L M1 fun us M2 => ts.length = n ∧ us.length = m ∧ fsp (.ref M2.length :: (ts ++ us)) (M2 ++ [.ins C []]) (fun v M3 => v = .non ∧ P (.ref M2.length) M3) PX
theorem sim_makeKX {C : Addr} {n m : Nat} {sp : Sp} {fsp : FSp} {E : XK} {PX : PXF} {as ks : TA} {fs fk : FA} (hE : OutX K B.1 B.2 PX E) (s : SimSp K sp fsp) (a : SimA K B as fs) (b : SimA K B ks fk) :
    SimE K B (tMakeK C n m sp (fun vs zs => vs ++ zs) E as ks) (fMakeK C n m fsp PX fs fk) :=
  ⟨fun hl hm h o => a.run hl hm h fun ts xs H1 ρ1 M1 g1 m1 rx h1 => b.run (hl.mono g1) m1 h1 fun us ys H2 ρ2 M2 g2 m2 ry ⟨e1, e2, h2⟩ => ⟨by rw [(rx.mono g2).len]; exact e1, by rw [ry.len]; exact e2, fun x dx hx hd nd => by
    obtain ⟨g3, m3⟩ := m2.ins (C := C) hx hd nd
    have rself : RT K (upd (upd H2 dx (.own x)) x (.ins C dx [])) (ρ2 ++ [x]) (.ref M2.length) (.ref x) := by unfold RT; exact ⟨x, m2.ref, rfl⟩
    refine s.run (P := fun v M3 => v = .non ∧ _) (RTs.app (RTs.cons rself ((rx.mono g2).mono g3)) (ry.mono g3)) m3 h2 (fun v xv H4 ρ4 M4 g4 m4 rv ⟨ev, p⟩ => ?_) (hE.step (((hl.gr.trans g1).trans g2).trans g3))
    subst ev
    exact ⟨rv.non_inv, o _ _ _ _ _ (((g1.trans g2).trans g3).trans g4) m4 (rself.mono g4) p⟩⟩⟩
/-! ### a def with *xs, a class made by x(*y) -/
def spStar (n : Nat) (sp : Sp) : Sp := fun vs H Q E => ∃ ws rest, vs = ws ++ rest ∧ ws.length = n ∧ rest.length ≤ sizeLine ∧ ∀ p, H p = none → sp (ws ++ [V.ref p]) (upd H p (.tup rest)) Q E
def fMakeVS (i : Nat) (C : Addr) (fsp : FSp) (PX : PXF) (fe : FE) : FE := fun L M P => L[i]? = some (some (.raw (.ref C))) ∧ fe L M fun x M1 => ∃ ts, lstAt M1 x = some ts ∧ ts.length ≤ sizeLine ∧ fsp [.ref M1.length, .tup ts] (M1 ++ [.ins C []]) (fun v M2 => v = .non ∧ P (.ref M1.length) M2) PX
theorem sim_makeVSX {i : Nat} {C : Addr} {sp : Sp} {fsp : FSp} {E : XK} {PX : PXF} {te : TE} {fe : FE} (hE : OutX K B.1 B.2 PX E) (s : SimSp K sp fsp) (a : SimE K B te fe) :
    SimE K B (XNx.tMakeVS K i C (spStar 1 sp) E te) (fMakeVS i C fsp PX fe) := ⟨fun hl hm ⟨e, h⟩ o => by
  obtain ⟨x, h1, h2⟩ := hl.get e
  cases h2.raw_inv
  refine ⟨h1, a.run hl hm h fun y yv H1 ρ1 M1 g1 m1 ry ⟨ts, ey, hz, h⟩ => ?_⟩
  obtain ⟨n, b, xs, rfl, hn, _, rfl, h3, h4⟩ := lstAt_ok m1 ry ey
  refine ⟨b, xs, rfl, .inr (.inl (.inl h3)), fun x dx hx hd nd => ?_⟩
  obtain ⟨g2, m2⟩ := m1.ins (C := C) hx hd nd
  have rself : RT K (upd (upd H1 dx (.own x)) x (.ins C dx [])) (ρ1 ++ [x]) (.ref M1.length) (.ref x) := by unfold RT; exact ⟨x, m1.ref, rfl⟩
  refine ⟨[.ref x], xs, rfl, rfl, by rw [h4.len]; exact hz, fun p hp => ?_⟩
  have g3 : Grow K (upd (upd H1 dx (.own x)) x (.ins C dx [])) (ρ1 ++ [x]) (upd (upd (upd H1 dx (.own x)) x (.ins C dx [])) p (.tup xs)) (ρ1 ++ [x]) := Grow.laid hp
  have m3 := m2.laid (o := .tup xs) hp
  have rt : RT K (upd (upd (upd H1 dx (.own x)) x (.ins C dx [])) p (.tup xs)) (ρ1 ++ [x]) (.tup ts) (.ref p) := by unfold RT; exact ⟨p, xs, rfl, .inl (.inl upd_same), (h4.mono g2).mono g3⟩
  refine s.run (P := fun v M2 => v = .non ∧ _) (RTs.cons (rself.mono g3) (RTs.cons rt RTs.nil)) m3 h (fun v xv H4 ρ4 M4 g4 m4 rv ⟨ev, p⟩ => ?_) (hE.step (((hl.gr.trans g1).trans g2).trans g3))
  subst ev
  exact ⟨rv.non_inv, o _ _ _ _ _ (((g1.trans g2).trans g3).trans g4) m4 ((rself.mono g3).mono g4) p⟩⟩
/-! ### generators -/
abbrev FGn := Loc → Mem → (List Tr → Mem → Prop) → Prop
abbrev TGa := L2.St → Hp → (List V → Hp → Prop) → Prop
structure SimGn (K : PySem.W.Frag) (B : Bs) (t : TGa) (f : FGn) : Prop where
  run : ∀ {σ H ρ L M P Q}, RX K B H ρ L σ → RM K H ρ M → f L M P → OutS K H ρ P Q → t σ H Q
abbrev FSg := List Tr → Mem → (List Tr → Mem → Prop) → Prop
def spFJ (K : PySem.W.Frag) (fsp : FSg) : List V → Hp → (List V → Hp → Prop) → Prop := fun vs H Q => ∃ ts ρ M P, RTs K H ρ ts vs ∧ RM K H ρ M ∧ fsp ts M P ∧ OutS K H ρ P Q
def spFJX (K : PySem.W.Frag) (fsp : FSg) : List V → Hp → (List V → Hp → Prop) → XK → Prop := fun vs H Q _ => spFJ K fsp vs H Q
def fMethJ (C : Addr) (m : Str) (fsp : FSg) (fe : FE) : FGn := fun L M P => fe L M fun x M1 => ∃ n fs, insAt M1 x = some (n, C, fs) ∧ fs.lookup m = none ∧ fsp [x] M1 P
theorem sim_methJ {C : Addr} {m : Str} {fsp : FSg} {te : TE} {fe : FE} (a : SimE K B te fe) : SimGn K B (GCx.tMethJ C m (spFJ K fsp) te) (fMethJ C m fsp fe) := ⟨fun hl hm h o => a.run hl hm h fun x xv H1 ρ1 M1 g1 m1 rx ⟨n, fs, e, lk, p⟩ => by
  obtain ⟨b, dx, gs, rfl, _, _, rfl, h3, _, h4⟩ := insAt_ok m1 rx e
  exact ⟨b, dx, gs, rfl, h3, h4.lookN lk, _, _, _, _, RTs.cons rx RTs.nil, m1, p, o.step g1⟩⟩
theorem sim_methG {C : Addr} {m : Str} {fsp : FSg} {te : TE} {fe : FE} {E : XK} (a : SimE K B te fe) : SimGn K B (tMethG C m (spFJX K fsp) [] E te tNil) (fMethJ C m fsp fe) := ⟨fun hl hm h o => a.run hl hm h fun x xv H1 ρ1 M1 g1 m1 rx ⟨n, fs, e, lk, p⟩ => by
  obtain ⟨b, dx, gs, rfl, _, _, rfl, h3, _, h4⟩ := insAt_ok m1 rx e
  exact ⟨b, dx, gs, rfl, h3, h4.lookN lk, _, _, _, _, RTs.cons rx RTs.nil, m1, p, o.step g1⟩⟩
def fEitherG (f1 f2 : FGn) : FGn := fun L M P => f1 L M P ∨ f2 L M P
theorem sim_eitherG {t1 t2 : TGen} {f1 f2 : FGn} (a : SimGn K B t1 f1) (b : SimGn K B t2 f2) : SimGn K B (XNx.tOrG t1 t2) (fEitherG f1 f2) := ⟨fun hl hm h o => h.elim (fun h => .inl (a.run hl hm h o)) fun h => .inr (b.run hl hm h o)⟩
def fListG (fg : FGn) : FE := fun L M P => fg L M fun ts M1 => P (.ref M1.length) (M1 ++ [.lst ts])
theorem sim_listG {t : TGen} {f : FGn} (a : SimGn K B t f) : SimE K B (tListG t) (fListG f) := ⟨fun hl hm h o => a.run hl hm h fun ts xs H1 ρ1 M1 g1 m1 rx p => out_list m1 rx (o.step g1) p⟩
theorem sim_lcG {t : TGa} {f : FGn} (a : SimGn K B t f) : SimE K B (GCx.tLcG t) (fListG f) := ⟨fun hl hm h o => a.run hl hm h fun ts xs H1 ρ1 M1 g1 m1 rx p => out_list m1 rx (o.step g1) p⟩
/-- yield from a list -/
def fYfL (fe : FE) : FGn := fun L M P => fe L M fun x M1 => ∃ ts, lstAt M1 x = some ts ∧ P ts M1
theorem sim_yfL {te : TE} {fe : FE} (a : SimE K B te fe) : SimGn K B (GCx.tYfL K te) (fYfL fe) := ⟨fun hl hm h o => a.run hl hm h fun x xv H1 ρ1 M1 g1 m1 rx ⟨ts, e, p⟩ => by
  obtain ⟨n, b, xs, rfl, hn, _, rfl, h3, h4⟩ := lstAt_ok m1 rx e
  exact ⟨b, xs, rfl, h3, o _ _ _ _ _ g1 m1 h4 p⟩⟩
end
/-! ### the stable sort -/
section
variable {α β : Type} (key : α → Int)
def insK (x : α) : List α → List α
  | [] => [x]
  | y :: ys => if key x ≤ key y then x :: y :: ys else y :: insK x ys
def stab : List α → List α
  | [] => []
  | x :: xs => insK key x (stab xs)
theorem mem_insK {x y : α} : ∀ {l : List α}, y ∈ insK key x l ↔ y = x ∨ y ∈ l
  | [] => by simp [insK]
  | z :: l => by
    unfold insK
    split
    · simp
    · rw [List.mem_cons, mem_insK (l := l), List.mem_cons]
      constructor
      · rintro (h | h | h)
        · exact .inr (.inl h)
        · exact .inl h
        · exact .inr (.inr h)
      · rintro (h | h | h)
        · exact .inr (.inl h)
        · exact .inl h
        · exact .inr (.inr h)
theorem mem_stab {y : α} : ∀ {l : List α}, y ∈ stab key l ↔ y ∈ l
  | [] => Iff.rfl
  | z :: l => by
    show y ∈ insK key z (stab key l) ↔ _
    rw [mem_insK, mem_stab (l := l), List.mem_cons]
theorem len_insK {x : α} : ∀ {l : List α}, (insK key x l).length = l.length + 1
  | [] => rfl
  | z :: l => by
    unfold insK
    split
    · rfl
    · rw [List.length_cons, len_insK (l := l), List.length_cons]
theorem len_stab : ∀ {l : List α}, (stab key l).length = l.length
  | [] => rfl
  | z :: l => by
    show (insK key z (stab key l)).length = _
    rw [len_insK, len_stab (l := l), List.length_cons]
theorem insK_pw {x : α} : ∀ {l : List α}, l.Pairwise (fun p q => key p ≤ key q) → (insK key x l).Pairwise (fun p q => key p ≤ key q)
  | [], _ => List.pairwise_singleton ..
  | z :: l, h => by
    unfold insK
    rw [List.pairwise_cons] at h
    split
    · rename_i hx
      refine List.pairwise_cons.mpr ⟨fun y hy => ?_, List.pairwise_cons.mpr h⟩
      rcases List.mem_cons.mp hy with rfl | hy
      · exact hx
      · exact Int.le_trans hx (h.1 y hy)
    · rename_i hx
      refine List.pairwise_cons.mpr ⟨fun y hy => ?_, insK_pw h.2⟩
      rcases (mem_insK key).mp hy with rfl | hy
      · omega
      · exact h.1 y hy
theorem stab_pw : ∀ {l : List α}, (stab key l).Pairwise (fun p q => key p ≤ key q)
  | [] => List.Pairwise.nil
  | z :: l => insK_pw key (stab_pw (l := l))
theorem insK_fl {x : α} {c : Int} : ∀ {l : List α}, l.Pairwise (fun p q => key p ≤ key q) → (insK key x l).filter (fun p => key p == c) = (x :: l).filter (fun p => key p == c)
  | [], _ => rfl
  | z :: l, h => by
    unfold insK
    rw [List.pairwise_cons] at h
    split
    · rfl
    · rename_i hx
      rw [List.filter_cons, insK_fl h.2, List.filter_cons, List.filter_cons, List.filter_cons]
      by_cases h1 : key z = c
      · have h2 : ¬ key x = c := by omega
        simp [h1, h2]
      · simp [h1]
theorem stab_fl {c : Int} : ∀ {l : List α}, (stab key l).filter (fun p => key p == c) = l.filter (fun p => key p == c)
  | [] => rfl
  | z :: l => by
    show (insK key z (stab key l)).filter _ = _
    rw [insK_fl key (stab_pw key), List.filter_cons, List.filter_cons, stab_fl (l := l)]
theorem sorted_eq : ∀ {p q : List α}, p.Pairwise (fun p q => key p ≤ key q) → q.Pairwise (fun p q => key p ≤ key q) → (∀ c, p.filter (fun p => key p == c) = q.filter (fun p => key p == c)) → p = q
  | [], [], _, _, _ => rfl
  | [], b :: q, _, _, h => by
    have := h (key b)
    simp at this
  | a :: p, [], _, _, h => by
    have := h (key a)
    simp at this
  | a :: p, b :: q, hp, hq, h => by
    rw [List.pairwise_cons] at hp hq
    have e1 : key b ≤ key a := by
      have : a ∈ (b :: q).filter (fun p => key p == key a) := by rw [← h (key a)]; simp
      rcases List.mem_cons.mp (List.mem_filter.mp this).1 with e | e
      · rw [e]; exact Int.le_refl _
      · exact hq.1 _ e
    have e2 : key a ≤ key b := by
      have : b ∈ (a :: p).filter (fun p => key p == key b) := by rw [h (key b)]; simp
      rcases List.mem_cons.mp (List.mem_filter.mp this).1 with e | e
      · rw [e]; exact Int.le_refl _
      · exact hp.1 _ e
    have e3 : key a = key b := by omega
    have h1 := h (key a)
    rw [List.filter_cons, List.filter_cons, if_pos (by simp), if_pos (by simp [e3])] at h1
    have hab : a = b := (List.cons.inj h1).1
    subst hab
    rw [sorted_eq hp.2 hq.2 fun c => ?_]
    have h2 := h c
    rw [List.filter_cons, List.filter_cons] at h2
    split at h2
    · exact (List.cons.inj h2).2
    · exact h2
theorem insK_map {key2 : β → Int} {f : α → β} (hk : ∀ a, key2 (f a) = key a) {x : α} : ∀ {l : List α}, (insK key x l).map f = insK key2 (f x) (l.map f)
  | [] => rfl
  | z :: l => by
    unfold insK
    rw [List.map_cons]
    simp only [hk]
    split
    · rfl
    · rw [List.map_cons, insK_map hk (l := l)]
theorem stab_map {key2 : β → Int} {f : α → β} (hk : ∀ a, key2 (f a) = key a) : ∀ {l : List α}, (stab key l).map f = stab key2 (l.map f)
  | [] => rfl
  | z :: l => by
    show (insK key z (stab key l)).map f = insK key2 (f z) (stab key2 (l.map f))
    rw [insK_map key hk, stab_map hk (l := l)]
end
/-! ### sorted(e, key=lambda y: y[1]) -/
def keyT : Tr → Int
  | .tup (_ :: .int k :: _) => k
  | _ => 0
def keyed : Tr → Bool
  | .tup (_ :: .int _ :: _) => true
  | _ => false
/-- the tables in the memory are those of T -/
def TabsM (T : List (Addr × Str)) (M : Mem) : Prop := (∀ p ∈ T, O.tab p.1 p.2 ∈ M) ∧ ∀ P q, O.tab P q ∈ M → (P, q) ∈ T
def ntab (M : Mem) : Bool := M.all fun o => match o with
  | .tab _ _ => false
  | _ => true
theorem ntab_app {a b : Mem} : ntab (a ++ b) = (ntab a && ntab b) := List.all_append
theorem ntab_mem {g : Mem} (h : ntab g = true) {P : Addr} {q : Str} : O.tab P q ∉ g := fun hm => by
  have := List.all_eq_true.mp h _ hm
  cases this
theorem TabsM.app {T : List (Addr × Str)} {M g : Mem} (h : TabsM T M) (n : ntab g = true) : TabsM T (M ++ g) := ⟨fun p hp => List.mem_append_left _ (h.1 p hp), fun P q hm => (List.mem_append.mp hm).elim (h.2 P q) fun z => absurd z (ntab_mem n)⟩
theorem TabsM.set {T : List (Addr × Str)} {M : Mem} {n : Nat} {u o : O} (h : TabsM T M) (e : M[n]? = some u) (h1 : ∀ P q, u ≠ .tab P q) (h2 : ∀ P q, o ≠ .tab P q) : TabsM T (M.set n o) := by
  refine ⟨fun p hp => ?_, fun P q hm => ?_⟩
  · obtain ⟨i, hi, ei⟩ := List.getElem_of_mem (h.1 p hp)
    have hne : n ≠ i := fun z => by
      subst z
      rw [List.getElem?_eq_getElem hi, ei] at e
      cases e
      exact h1 _ _ rfl
    have : (M.set n o)[i]? = some (O.tab p.1 p.2) := by rw [List.getElem?_set_ne hne, List.getElem?_eq_getElem hi, ei]
    exact List.mem_of_getElem? this
  · obtain ⟨i, hi, ei⟩ := List.getElem_of_mem hm
    by_cases hne : n = i
    · subst hne
      rw [List.getElem_set_self] at ei
      exact absurd ei (h2 P q)
    · rw [List.getElem_set_ne hne] at ei
      exact h.2 P q (by rw [← ei]; exact List.getElem_mem _)
def fSortKey (T : List (Addr × Str)) (fe : FE) : FE := fun L M P => fe L M fun x M1 => TabsM T M1 ∧ ∃ ts, lstAt M1 x = some ts ∧ ts.all keyed = true ∧ P (.ref M1.length) (M1 ++ [.lst (stab keyT ts)])
section
variable {K : PySem.W.Frag} {B : Bs} {H H1 : Hp} {ρ : List Addr} {M : Mem} {T : List (Addr × Str)}
theorem sqT_ext (e : LamX.ExtN H H1) {a : Addr} {xs : List V} (h : SqT K H a xs) : SqT K H1 a xs := by
  rcases h with (h | ⟨u, h⟩) | h
  · exact .inl (.inl (e _ _ h fun ps z => nomatch z))
  · exact .inl (.inr ⟨u, e _ _ h fun ps z => nomatch z⟩)
  · exact .inr h
theorem TabsM.heap (h : TabsM T M) (m : RM K H ρ M) : LamX.Tabs T H := fun p hp => by
  obtain ⟨i, hi⟩ := List.mem_iff_getElem?.mp (h.1 p hp)
  obtain ⟨a, _, rfl, h2⟩ := m.at_ i _ hi
  exact h2
theorem tabs_grow (e : LamX.ExtN H H1) (Tb : LamX.Tabs T H1) (ta : TabsM T M) (m : RM K H ρ M) : Grow K H ρ H1 ρ ∧ RM K H1 ρ M := by
  have g : Grow K H ρ H1 ρ := ⟨⟨[], by simp⟩, fun _ _ t => sqT_ext e t, fun a o h _ nt => e a o h nt, fun _ h n => absurd h n, fun c q i h => e _ _ h fun ps z => i.ne.2.2.2.1 _ z⟩
  refine ⟨g, m.len, fun k o ek => ?_, m.nd⟩
  obtain ⟨a, h1, h2⟩ := m.at_ k o ek
  refine ⟨a, h1, ?_⟩
  cases o with
  | tab P' q' =>
    obtain ⟨rfl, _⟩ := h2
    exact ⟨rfl, Tb _ (ta.2 _ _ (List.mem_of_getElem? ek))⟩
  | lst ts => exact h2.mono g (by obtain ⟨xs, z, _⟩ := h2; rw [z]; exact e _ _ z (fun ps y => nomatch y)) fun d z => e _ _ z (fun ps y => nomatch y)
  | ins C fs => exact h2.mono g (by obtain ⟨dx, gs, z, _⟩ := h2; rw [z]; exact e _ _ z (fun ps y => nomatch y)) fun d z => e _ _ z (fun ps y => nomatch y)
  | scr ns k m r => exact h2.mono g (by obtain ⟨s, z, _⟩ := h2; rw [z]; exact e _ _ z (fun ps y => nomatch y)) fun d z => e _ _ z (fun ps y => nomatch y)
  | dic ps => exact h2.mono g (by obtain ⟨kvs, z, _⟩ := h2; rw [z]; exact e _ _ z (fun ps y => nomatch y)) fun d z => e _ _ z (fun ps y => nomatch y)
theorem rts_zip : ∀ {ts : List Tr} {xs : List V}, RTs K H ρ ts xs → ∀ z ∈ ts.zip xs, RT K H ρ z.1 z.2
  | [], _, _, z, hz => by simp at hz
  | t :: ts, _, r, z, hz => by
    unfold RTs at r
    obtain ⟨y, ys, rfl, r1, r2⟩ := r
    rcases List.mem_cons.mp (by simpa using hz) with e | hz
    · rw [e]; exact r1
    · exact rts_zip r2 z hz
theorem rts_of : ∀ {zs : List (Tr × V)}, (∀ z ∈ zs, RT K H ρ z.1 z.2) → RTs K H ρ (zs.map (·.1)) (zs.map (·.2))
  | [], _ => RTs.nil
  | z :: zs, h => RTs.cons (h z List.mem_cons_self) (rts_of fun w hw => h w (List.mem_cons_of_mem _ hw))
theorem sim_sortKey {te : TE} {fe : FE} (a : SimE K B te fe) : SimE K B (SKx.tSortKey K T te) (fSortKey T fe) := ⟨fun hl hm h o => a.run hl hm h fun x xv H1 ρ1 M1 g1 m1 rx ⟨tm, ts, ex, hk, p⟩ => by
  refine ⟨tm.heap m1, fun H2 e2 T2 => ?_⟩
  obtain ⟨g2, m2⟩ := tabs_grow e2 T2 tm m1
  obtain ⟨n, b, xs, rfl, hn, _, rfl, h3, h4⟩ := lstAt_ok m2 (rx.mono g2) ex
  have hz := rts_zip h4
  have hl2 : xs.length = ts.length := h4.len
  refine ⟨b, xs, ts.map keyT, rfl, .inl (.inl h3), ⟨by rw [List.length_map]; exact hl2, fun i x k hx hkk => ?_⟩, fun qs p2 hs hp2 => ?_⟩
  · rw [List.getElem?_map] at hkk
    cases ht : ts[i]? with
    | none => rw [ht] at hkk; cases hkk
    | some t =>
      rw [ht] at hkk
      cases hkk
      have hkt := List.all_eq_true.mp hk t (List.mem_of_getElem? ht)
      obtain ⟨y, hy, ry⟩ := h4.get ht
      rw [hx] at hy
      cases hy
      unfold keyed at hkt
      split at hkt
      · rename_i u k r
        obtain ⟨c, ys, rfl, h5, h6⟩ := ry.tup_inv
        obtain ⟨y1, h7, h8⟩ := h6.get (i := 1) (t := .int k) rfl
        rw [h8.int_inv] at h7
        exact ⟨c, ys, rfl, h5, h7⟩
      · cases hkt
  · obtain ⟨s1, s2, s3⟩ := hs
    have ez : (ts.map keyT).zip xs = (ts.zip xs).map fun z => (keyT z.1, z.2) := by
      rw [List.zip_map_left]
      rfl
    have eq : qs = (stab (fun z : Tr × V => keyT z.1) (ts.zip xs)).map fun z => (keyT z.1, z.2) := by
      rw [stab_map (key2 := fun p : Int × V => p.1) _ (fun _ => rfl), ← ez]
      exact sorted_eq (fun p : Int × V => p.1) s2 (stab_pw _) fun c => by rw [stab_fl, s3 c]
    have et : (stab (fun z : Tr × V => keyT z.1) (ts.zip xs)).map (·.1) = stab keyT ts := by
      rw [stab_map (key2 := keyT) _ (fun _ => rfl), List.map_fst_zip (by omega)]
    have r := rts_of (zs := stab (fun z : Tr × V => keyT z.1) (ts.zip xs)) fun z hz2 => hz z ((mem_stab _).mp hz2)
    rw [et] at r
    rw [eq, List.map_map]
    exact out_list m2 r (o.step (g1.trans g2)) p p2 hp2⟩
end
/-! ### sorted(set(xs)) -/
def fSortSet (fe : FE) : FE := fun L M P => fe L M fun x M1 => ∃ ns : List Int, lstAt M1 x = some (ns.map Tr.int) ∧ ns.length < 64 ∧ ∀ out : List Int, out.Pairwise (· < ·) → (∀ k, k ∈ out ↔ k ∈ ns) → P (.ref M1.length) (M1 ++ [.lst (out.map Tr.int)])
section
variable {K : PySem.W.Frag} {B : Bs} {H : Hp} {ρ : List Addr}
theorem rts_i : ∀ ys : List Int, RTs K H ρ (ys.map Tr.int) (ys.map V.int)
  | [] => RTs.nil
  | y :: ys => RTs.cons RT.int_ (rts_i ys)
theorem rts_i_inv : ∀ {ys : List Int} {vs : List V}, RTs K H ρ (ys.map Tr.int) vs → vs = ys.map V.int
  | [], _, h => by unfold RTs at h; exact h
  | y :: ys, _, h => by
    unfold RTs at h
    obtain ⟨x, zs, rfl, h1, h2⟩ := h
    rw [h1.int_inv, rts_i_inv (ys := ys) h2]
    rfl
theorem sim_sortSet {w : World} {te : TE} {fe : FE} (a : SimE K B te fe) : SimE K B (tCB (rSortedSet w) (tCons (tCB (SEx.rSetL K w) (tCons te tNil)) tNil)) (fSortSet fe) := ⟨fun hl hm h o => a.run hl hm h fun x xv H1 ρ1 M1 g1 m1 rx ⟨ns, ex, hn, p⟩ => by
  obtain ⟨n, b, xs, rfl, hb, _, rfl, h3, h4⟩ := lstAt_ok m1 rx ex
  rw [rts_i_inv h4] at h3
  refine ⟨b, ns, rfl, .inl (.inl h3), by omega, fun p1 c hc hp1 => ⟨p1, _, c, rfl, upd_same, by omega, fun out p2 hpw hmem hlen hp2 => ?_⟩⟩
  have g2 : Grow K H1 ρ1 (upd H1 p1 (SetO w p1 (fun j => decide (j ∈ ns)) c)) ρ1 := Grow.laid hp1
  exact out_list (m1.laid hp1) (rts_i out) (o.step (g1.trans g2)) (p out hpw fun k => by rw [hmem k]; simp) p2 hp2⟩
end
end Fm

set_option Elab.async false
set_option linter.all false
set_option maxRecDepth 100000
set_option maxHeartbeats 4000000
namespace T1
open PySem PySem.Spec PyProof.Rows L2 C8 Fm
section
variable {K : PySem.W.Frag} {H : Hp} {ρ : List Addr}
theorem rts_ints : ∀ ys : List Int, RTs K H ρ (ys.map Tr.int) (ys.map V.int)
  | [] => RTs.nil
  | y :: ys => RTs.cons RT.int_ (rts_ints ys)
theorem rts_ints_inv : ∀ {ys : List Int} {vs : List V}, RTs K H ρ (ys.map Tr.int) vs → vs = ys.map V.int
  | [], _, h => by unfold RTs at h; exact h
  | y :: ys, _, h => by
    unfold RTs at h
    obtain ⟨x, zs, rfl, h1, h2⟩ := h
    rw [h1.int_inv, rts_ints_inv (ys := ys) h2]
    rfl

/-! ### the drawing state, first in the memory -/
structure Ds where
  ns : List Int
  k : Int
  m : Int
  r : Int
def Ds.ok (d : Ds) : Prop := 0 ≤ d.k ∧ 0 ≤ d.m ∧ d.m < 2147483647 ∧ 0 ≤ d.r ∧ d.ns.length ≤ 63
def sm (d : Ds) (g : Mem) : Mem := .scr d.ns d.k d.m d.r :: g
theorem sm_app {d : Ds} {g h : Mem} : sm d (g ++ h) = sm d g ++ h := rfl
theorem sm_len {d : Ds} {g : Mem} : List.length (sm d g) = List.length g + 1 := rfl
theorem sm_at {d : Ds} {g h : Mem} {k : Nat} : (sm d g ++ h)[List.length g + (k + 1)]? = h[k]? := by
  have := at_k (M := sm d g) (g := h) (k := k)
  rw [sm_len, Nat.add_assoc, Nat.add_comm 1 k] at this
  exact this
theorem sm_at0 {d : Ds} {g h : Mem} : (sm d g ++ h)[List.length g + 1]? = h[0]? := sm_at (k := 0)
theorem sm_set {d : Ds} {g h : Mem} {k : Nat} {o : O} : (sm d g ++ h).set (List.length g + (k + 1)) o = sm d g ++ h.set k o := by
  have := set_k (M := sm d g) (g := h) (k := k) (o := o)
  rw [sm_len, Nat.add_assoc, Nat.add_comm 1 k] at this
  exact this
theorem sm_set0 {d : Ds} {g h : Mem} {o : O} : (sm d g ++ h).set (List.length g + 1) o = sm d g ++ h.set 0 o := sm_set (k := 0)
def fsDrawn : FSp := fun ts M P _ => ∃ n d g, ts = [.ref 0, .int n] ∧ M = sm d g ∧ d.ok ∧ 0 < n ∧ n ≤ 2000000000000000000 ∧ ∀ x d', d'.ok → 0 ≤ x → x < n → P (.int x) (sm d' g)
theorem simDrawn : SimSp K (spDrawn K) fsDrawn := ⟨fun {H ρ M ts vs P PX Q E} r m h o x => by
  obtain ⟨n, d, g, rfl, rfl, ok, n0, n1, q⟩ := h
  obtain ⟨x1, x2, rfl, r1, r2⟩ := r.two
  obtain ⟨ah, h1, rfl⟩ := r1.ref_inv
  cases r2.int_inv
  obtain ⟨ah', h2, s, h3, h4⟩ := m.at_ 0 _ rfl
  rw [h1] at h2
  cases h2
  refine ⟨ah, d.ns, d.k, d.m, d.r, n, rfl, ⟨⟨s, h3, h4⟩, ok.1, ok.2.1, ok.2.2.1, ok.2.2.2.1, ok.2.2.2.2⟩, n0, n1, fun y k' m' r' H' y0 y1 st bu => ?_⟩
  obtain ⟨s', e1, e2⟩ := st.ex
  have mh : ah ∈ ρ := List.mem_of_getElem? h1
  have gr : Grow K H ρ H' ρ := ⟨⟨[], by simp⟩, fun _ _ t => by
    rcases t with (t | ⟨u, t⟩) | t
    · exact .inl (.inl (bu _ _ (ne_of t h3 (fun z => nomatch z)) t))
    · exact .inl (.inr ⟨u, bu _ _ (ne_of t h3 (fun z => nomatch z)) t⟩)
    · exact .inr t, fun a o e n _ => bu a o (fun z => n (z ▸ mh)) e, fun _ h n => absurd h n, fun c q i e => bu _ _ (ne_of e h3 (fun z => i.ne.1 _ z)) e⟩
  refine o (.int y) (.int y) H' ρ (sm ⟨d.ns, k', m', r'⟩ g) gr ⟨m.len, fun j u eu => ?_, m.nd⟩ RT.int_ (q y ⟨d.ns, k', m', r'⟩ ⟨st.k0, st.m0, st.m1, st.r0, st.len⟩ y0 y1)
  match j, eu with
  | 0, eu =>
    cases eu
    exact ⟨ah, h1, s', e1, e2⟩
  | j + 1, eu =>
    obtain ⟨a, h5, h6⟩ := m.at_ (j + 1) u eu
    have n1 : a ≠ ah := fun z => by
      have := nodup_ix m.nd h5 (z ▸ h1)
      omega
    refine ⟨a, h5, h6.mono gr ?_ fun d z => bu _ _ (ne_of z h3 (fun z => nomatch z)) z⟩
    cases u with
    | lst us => obtain ⟨xs, z, _⟩ := h6; rw [z]; exact bu _ _ n1 z
    | ins C fs => obtain ⟨dx, gs, z, _⟩ := h6; rw [z]; exact bu _ _ n1 z
    | tab P q => obtain ⟨rfl, ps, z, _⟩ := h6; rw [z]; exact bu _ _ n1 z
    | scr ns k m r => obtain ⟨s, z, _⟩ := h6; rw [z]; exact bu _ _ n1 z
    | dic ps => obtain ⟨kvs, z, _⟩ := h6; rw [z]; exact bu _ _ n1 z⟩
theorem same_grow {H' : Hp} {M : Mem} (sm : Same H H') (m : RM K H ρ M) : Grow K H ρ H' ρ ∧ RM K H' ρ M := by
  have g : Grow K H ρ H' ρ := ⟨⟨[], by simp⟩, fun _ _ t => Same.tup sm t, fun a o e _ _ => sm a o e, fun _ h n => absurd h n, fun c q _ e => sm _ _ e⟩
  refine ⟨g, m.len, fun k o e => ?_, m.nd⟩
  obtain ⟨a, h1, h2⟩ := m.at_ k o e
  refine ⟨a, h1, h2.mono g ?_ fun d q => sm _ _ q⟩
  cases o with
  | lst ts => obtain ⟨xs, z, _⟩ := h2; rw [z]; exact sm _ _ z
  | ins C fs => obtain ⟨dx, gs, z, _⟩ := h2; rw [z]; exact sm _ _ z
  | tab P q => obtain ⟨rfl, ps, z, _⟩ := h2; rw [z]; exact sm _ _ z
  | scr ns k m r => obtain ⟨s, z, _⟩ := h2; rw [z]; exact sm _ _ z
  | dic ps => obtain ⟨kvs, z, _⟩ := h2; rw [z]; exact sm _ _ z
end
end T1

set_option Elab.async false
set_option linter.all false
set_option maxRecDepth 100000
set_option maxHeartbeats 4000000
namespace T1
open PySem PySem.Spec PyProof.Rows L2 C8 Fm
local macro_rules | `(tactic| walk_at "hf") => `(tactic| (fail_if_success (show (fun _ => none : Hp) _ = _)); first | assumption | with_reducible exact upd_same | ((with_reducible show upd _ _ _ _ = _); first | exact up_new' (by assumption) (by walk_at "hf") | exact up_set (by walk_at "ne") (by walk_at "hf")) | exact Same.at' (by assumption) (by walk_at "hf") | exact But.at' (by assumption) (by walk_at "ne") (by walk_at "ne") (by walk_at "hf"))
local macro_rules | `(tactic| walk_at "hf0") => `(tactic| (fail_if_success (show (fun _ => none : Hp) _ = _)); first | assumption | with_reducible exact upd_same | ((with_reducible show upd _ _ _ _ = _); exact up_new' (by assumption) (by walk_at "hf0")))
local macro_rules | `(tactic| walk_at "ne") => `(tactic| first | assumption | (apply Ne.symm; assumption) | exact ne_of_none' (by assumption) (by walk_at "hf0") | exact Ne.symm (ne_of_none' (by assumption) (by walk_at "hf0")) | exact LSt.f1 (by assumption) (by walk_at "lst") | exact LSt.f2 (by assumption) (by walk_at "lst"))
local macro_rules | `(tactic| walk_at "sqt") => `(tactic| (fail_if_success (show SqT _ (fun _ => none) _ _)); first | assumption | exact SqT.of' (by walk_at "hf") | ((with_reducible show SqT _ (upd _ _ _) _ _); first | exact SqT.new' (by assumption) (by walk_at "sqt") | exact SqT.put' (by walk_at "hf") (by walk_at "sqt")) | exact Same.tup (by assumption) (by walk_at "sqt") | exact But.tup (by assumption) (by walk_at "lst") (by walk_at "sqt"))
local macro_rules | `(tactic| walk_at "sql") => `(tactic| (fail_if_success (show SqL _ (fun _ => none) _ _)); first | assumption | exact SqL.of' (by walk_at "hf") | ((with_reducible show SqL _ (upd _ _ _) _ _); exact SqL.new' (by assumption) (by walk_at "sql")) | exact Same.sql' (by assumption) (by walk_at "sql"))
local macro_rules | `(tactic| walk_at "lst") => `(tactic| (fail_if_success (show LSt (fun _ => none) _ _)); first | assumption | ((with_reducible show LSt (upd _ _ _) _ _); first | exact LSt.new (by walk_at "lst") (by assumption) | exact LSt.put (by walk_at "lst") (by walk_at "ne") (by walk_at "ne")) | exact LSt.same' (by assumption) (by walk_at "lst"))
local macro_rules | `(tactic| walk_at "but") => `(tactic| first | assumption | exact But.refl _ _ _ | ((with_reducible show But _ _ _ (upd _ _ _)); exact But.nw (by assumption) (by walk_at "but")) | exact But.bu (by assumption) (by walk_at "but") | exact But.sm (by assumption) (by walk_at "but"))
local macro_rules | `(tactic| walk_at "ls") => `(tactic| first | assumption | exact Ls.same (by walk_at "ls") (Same.upd' (by assumption)))
local macro_rules | `(tactic| walk_at "ll") => `(tactic| first | assumption | exact LL.same (by walk_at "ll") (Same.upd' (by assumption)) | exact LL.same' (by assumption) (by walk_at "ll") | exact LL.but' (by assumption) (by walk_at "lst") (by walk_at "ll"))
local macro_rules | `(tactic| walk_at "sm") => `(tactic| first | assumption | exact Same.refl _ | ((with_reducible show Same _ (upd _ _ _)); first | exact Same.put' (by assumption) (by walk_at "sm") | exact Same.trans (by walk_at "sm") (Same.upd' (by assumption))) | exact Same.trans (by walk_at "sm") (by assumption))
/-- one step of a reading -/
local macro_rules | `(tactic| walk_at "rd") => `(tactic| first
  | with_reducible refine iteF ?_
  | with_reducible refine iteT ?_
  | with_reducible refine itNotF ?_
  | with_reducible refine itNotT ?_
  | refine ⟨_, rfl, ?_⟩
  | refine ⟨_, _, rfl, rfl, ?_⟩
  | refine ⟨_, _, rfl, ?_⟩
  | refine ⟨(_ : Addr), (_ : List V), (_ : Int), (_ : V), rfl, rfl, SqL.of' (by walk_at "hf"), (by first | assumption | rfl), ?_⟩
  | refine ⟨(_ : Addr), (_ : List V), (_ : Int), (_ : V), rfl, rfl, (by walk_at "sqt" : SqT _ _ _ _), (by first | assumption | rfl), ?_⟩
  | refine .inl ⟨_, rfl, ?_⟩
  | refine ⟨_, _, rfl, .inl (by walk_at "sql" : SqL _ _ _ _), ?_⟩
  | refine ⟨_, _, rfl, .inl ⟨(by walk_at "sql" : SqL _ _ _ _), fun p hp => ?_⟩⟩
  | refine ⟨_, _, rfl, .inr ⟨(by walk_at "sqt" : SqT _ _ _ _), ?_⟩⟩
  | refine fun (p : Addr) (hp : (_ : Hp) p = none) => ?_
  | refine ⟨_, _, rfl, .inr (by walk_at "sqt" : SqT _ _ _ _), ?_⟩
  | refine And.intro (by show _ ≤ sizeLine; first | decide | walk_at "sz") (fun p hp => ?_)
  | refine ⟨(_ : Addr), (_ : Addr), (_ : List V), (_ : List V), rfl, rfl, (by walk_at "hf"), (by walk_at "hf"), (by walk_at "sz"), fun p hp => ?_⟩
  | refine ⟨(_ : Addr), (_ : Addr), (_ : List V), (_ : List V), rfl, rfl, (by walk_at "hf"), (by walk_at "hf"), (by walk_at "sz"), ?_⟩
  | refine ⟨(_ : Addr), (_ : List V), (_ : Int), (_ : Nat), rfl, rfl, (by walk_at "hf"), (by rfl), ?_⟩
  | refine And.intro ⟨_, (by walk_at "sql" : SqL _ _ _ _)⟩ ?_
  | refine And.intro ⟨_, (by walk_at "sqt" : SqT _ _ _ _)⟩ ?_
  | refine And.intro (.inl ⟨rfl, _, SqL.of' (by walk_at "hf")⟩) ?_
  | refine And.intro (by walk_at "cond") ?_
  | exact .inl ⟨rfl, _, SqL.of' (by walk_at "hf")⟩
  | with_reducible refine iteT ?_
  | with_reducible refine iteF ?_
  | refine And.intro (by rfl : scal _ _ = true) ?_
  | refine And.intro (by rfl : _ = V.non) ?_
  | refine And.intro (by rfl : wipe _ _ = wipe _ _) ?_
  | refine And.intro (by rfl : (_ : List V) = []) ?_
  | refine ⟨(_ : Addr), (_ : List V), rfl, (by walk_at "sqt" : SqT _ _ _ _), (by rfl), ?_⟩)
/-- a test: known, or both ways -/
local macro_rules | `(tactic| walk_at "if") => `(tactic| first
  | with_reducible refine itD (by omega) ?_
  | with_reducible refine itN (by omega) ?_
  | with_reducible refine itnD (by omega) ?_
  | with_reducible refine itnN (by omega) ?_
  | with_reducible refine itE (by omega) ?_
  | with_reducible refine itEn (by omega) ?_
  | with_reducible refine itnE (by omega) ?_
  | with_reducible refine itnEn (by omega) ?_
  | with_reducible refine itN (by intro z; cases z) ?_
  | with_reducible refine itD (by decide) ?_
  | with_reducible refine itN (by decide) ?_
  | with_reducible refine itnD (by decide) ?_
  | with_reducible refine itnN (by decide) ?_)
local macro_rules | `(tactic| walk_at "if2") => `(tactic| first
  | with_reducible refine itS (fun z => ?_) (fun z => ?_)
  | with_reducible refine itS' (fun z => ?_) (fun z => ?_)
  | with_reducible refine itSE (fun z => ?_) (fun z => ?_)
  | with_reducible refine itnS (fun z => ?_) (fun z => ?_)
  | with_reducible refine itnS' (fun z => ?_) (fun z => ?_)
  | with_reducible refine itnSE (fun z => ?_) (fun z => ?_))
local macro_rules | `(tactic| walk_at "go") => `(tactic| repeat' (first | walk_at "rd" | walk_at "if" | walk_at "if2" | fail))
local macro_rules | `(tactic| walk_at "sz") => `(tactic| (rw [sizeLine_eq]; simp only [List.length_append, List.length_map, List.length_cons, List.length_nil]; omega))
local macro_rules | `(tactic| walk_at "cond") => `(tactic| first | assumption | (show (_ : Int) ≠ 0; first | omega | (split <;> omega)) | (show (0 : Int) < _; first | assumption | decide) | exact ⟨by decide, by decide, by decide⟩ | exact .inr ⟨by decide, by decide⟩ | exact wide_div (b := 64) (by assumption) (by omega) (by decide) (by decide) | exact ⟨by decide, by decide⟩)


local macro_rules | `(tactic| walk_at "sim1") => `(tactic| with_reducible first
  | exact sim_nil | exact sim_var | exact sim_int | exact sim_str | exact sim_bl | exact sim_non | exact sim_raw
  | apply sim_cons | apply sim_op | apply sim_un | apply sim_tup | apply sim_lst
  | apply sim_CB | apply sim_if | apply sim_test | apply sim_B | apply sim_not | apply sim_and | apply sim_or
  | apply sim_andV | apply sim_orV | apply sim_notV | apply sim_chain | exact sim_nopart | apply sim_part
  | apply sim_sl | apply sim_BML | apply sim_BMS | apply sim_BM0S | apply sim_M1 | apply sim_M0
  | apply sim_fmt | apply sim_joined | exact SimJ.nil | apply SimJ.cons
  | exact s_I0i | exact s_I0b | exact s_Ii | exact s_Ui | exact s_eq | exact s_ne | exact s_isN | exact s_notN | exact s_ixL | exact s_ixT | exact s_ixS
  | exact s_cat | exact s_catA | exact s_rep | exact s_repT | exact s_in | exact s_slL | exact s_slA | exact s_slS | exact s_addS | exact s_leS | exact s_ltS
  | exact c_len | exact c_lenS | exact c_list | exact c_tuple | exact c_int1 | exact c_intS | exact c_strI | exact c_max2 | exact c_min2
  | exact m_append | exact m_extend | exact m_split | exact m_join | exact m_0b | exact m_1b
  | apply sim_call | exact simSpF
  | exact sim_name | exact sim_gnil | apply sim_gcons | apply sim_gtup | apply sim_gsub | exact set_list
  | exact sim_next | apply sim_seq | apply sim_cut | exact sim_break | exact sim_cont | apply sim_drop | apply sim_ret | exact sim_retN
  | apply sim_ifS | exact sim_never | apply sim_asg | apply sim_par | apply sim_aug
  | apply sim_for | apply sim_while | apply i_list | apply i_tup | apply i_rng1 | apply i_rng2 | apply i_str | apply i_enum | apply i_zip
  | apply sim_lc | exact sim_yes | exact sim_namew (by decide) | exact sim_gnilw | apply sim_gconsw | apply sim_gtupw
  | apply sim_fld | apply sim_con | apply sim_setFld | apply sim_make | apply sim_prop | apply sim_meth | apply sim_cmeth | exact c_isi | apply sim_isiT | exact s_eqD | exact s_neD
  | walk_at "sim2")
local macro_rules | `(tactic| walk_at "sim2") => `(tactic| fail)
local macro_rules | `(tactic| walk_at "sim") => `(tactic| repeat' (walk_at "sim1"))
/-- open the trees' reading as far as it goes by itself -/
local macro_rules | `(tactic| walk_at "fm") => `(tactic| simp (config := { failIfUnchanged := false }) only [fVar, fC, fOp, fUn, fNil, fCons, fTup, fLst, fCB, fIf, fTest, fNot, fAnd, fOr, fAndV, fOrV, fNotV, fChain, fNoPart, fPart, fI, fI0, fU, fEq, fNe, fIsN, fNotN, fIxL, fIxT, fIxS,
  fCat, fCatA, fRep, fRepT, fSlL, fSlA, fSlS, fSl, fLen, fLenS, fList, fTuple, fIntS, fStrI, fMax2, fMin2, fAppend, fExtend, fIn, fBM, fMS, fBMS, fBM0S, fAddS, fLeS, fLtS, fM0b, fM1b, fSplit, fJoin, fJoined, fJs,
  fName, fGNil, fGCons, fGTup, fSetL, fGSub, fNext, fSeq, fCut, fBreak, fCont, fDrop, fRet, fRetN, fIfS, fAsg, fPar, fAug, fCall, fFld, fCon, fSetFld, fMake, fProp, fMeth, fCMeth, fIsi, fIsiT, fEqD, fNeD, insAt_ref, insO_ins, fFmt, fmtS_i, fmtS_s, fmtOk_i, fmtOk_s, fIL, fIT, fIR1, fIR2, fIS, fIEn, fIZ,
  startL, List.map_cons, List.map_nil, List.length_cons, List.length_nil, List.cons_append, List.nil_append, List.replicate, List.getElem?_cons_zero, List.getElem?_cons_succ, List.set_cons_zero, List.set_cons_succ, Nat.reduceSub, Nat.reduceAdd,
  Option.some.injEq, Tr.int.injEq, Tr.str.injEq, Tr.bl.injEq, Tr.tup.injEq, Tr.ref.injEq, List.cons.injEq, exists_eq_left, exists_eq_left', exists_eq_right, true_and, and_true, and_self, exists_and_left, tupOf_tup, eqS_ii, eqS_ss, eqS_bb, eqS_ni, eqS_in, eqS_nn, isStr_s, isN_n, isN_i, isN_b, isN_s, isN_t, isN_r, noRaw_n, noRaw_i, noRaw_b, noRaw_s, noRaw_t, noRaw_r, and_assoc, reduceIte, Bool.false_eq_true, exists_const, lstAt_ref, seqAt_ref, seqAt_tup, refAt_ref, lstO_lst, app_assoc2, len_app1, at_kk, at_00, set_k, set_00, Nat.add_assoc, Option.map_some, Prod.mk.injEq, int_cast_inj, Nat.zero_le, decide_eq_true_eq, Bool.not_eq_true', decide_eq_false_iff_not, Nat.add_zero, implies_true, forall_const, ite_true, ite_false, if_true, if_false, decide_true, decide_false, Bool.not_true, Bool.not_false, asg_len, Option.isSome_some])
local macro_rules | `(tactic| walk_at "bel") => `(tactic| first | rfl | (simp (config := { failIfUnchanged := false }) only [belM, O.bel, bels_strs, bels_ints, belL, Tr.bel, Tr.bels, Bool.and_true, Bool.true_and, Bool.and_self, decide_eq_true_eq, Bool.and_eq_true, true_and, and_true, List.length_cons, List.length_nil, Nat.reduceAdd]; try omega))

abbrev sITi : Stmt := L2.inClass (top 3) 0
abbrev sIWi : Stmt := L2.inClass (top 4) 0
/-- the base of the errors -/
structure ProgB (K : PySem.W.Frag) (mg : Str → Option Value) (CB : Addr) (mB : Value) : Prop where
  gB : mg "BridgeError" = some (.ref CB)
  rdB : PySem.W.readsIn K CB mB = true
  sgB : PySem.W.specialIn K (.ref CB) "__getattribute__" = some (some (.builtin "type.__getattribute__"))
  inB : PySem.W.findCls K (.ref CB) mB "__init__" = some (.val (.builtin "ValueError.__init__"))
/-- an error with one field of its own -/
structure ProgX (K : PySem.W.Frag) (mg : Str → Option Value) (x fld : Str) (CX fX : Addr) : Prop where
  gX : mg x = some (.ref CX)
  ox : OexC K CX
  iX : PySem.W.findIn K (.ref CX) "__init__" = some (some (.ref fX))
  tX : PySem.W.typeIn K (.ref fX) = some (.type "function")
  nR : PySem.W.findIn K (.ref CX) fld = some none
def ixF (fld : Str) (i : Int) : List (Str × V) := [(fld, .int i)]
def spIXi (K : PySem.W.Frag) (fld : Str) (CX : Addr) : Sp := fun vs H Q _ => ∃ (a : Addr) (i : Int), vs = [.ref a, .int i] ∧ H a = some (exo a CX none) ∧ 0 ≤ i ∧ i ≤ 1000000 ∧
  ∀ dx H', H dx = none → dx ≠ a → H' a = some (exo a CX (some dx)) → H' dx = some (exd dx (ixF fld i)) → (∀ b o, b ≠ a → H b = some o → H' b = some o) → Q .non H'
section
variable {P : Program} {w : World} {K : PySem.W.Frag} {mg : Str → Option Value} {base : Heap} {CB CX fX : Addr} {mB : Value}
theorem scITi : FnScope ["self", "row"] ["self", "row"] (L2.defScope sITi) := ⟨rfl, rfl, rfl, by decide +kernel, rfl, by decide +kernel, by decide +kernel⟩
theorem scIWi : FnScope ["self", "index"] ["self", "index"] (L2.defScope sIWi) := ⟨rfl, rfl, rfl, by decide +kernel, rfl, by decide +kernel, by decide +kernel⟩
theorem ok_ITi {fd : FuncData} (F : L2.Fun K "__init__" "InvalidText.__init__" sITi fX fd) (T : ProgB K mg CB mB) (TX : ProgX K mg "InvalidText" "row" CX fX) : FnOk P w K mg base L2.CX0 1 fX fd ["self", "row"] (spIXi K "row" CX) := by
  refine F.ok scITi (fun vs H Q E h => ?_) (fun cdv A outer s H vs Q E hr h => ?_)
  · obtain ⟨a, i, rfl, _⟩ := h; rfl
  · obtain ⟨a, i, rfl, ha, i0, i1, q⟩ := h
    refine ⟨_, pss_cons (ps_expr (pe_beinit (by rfl) T.gB T.rdB T.sgB T.inB (pa_cons (pv 0) (pa_cons (pe_joined (PJ.cons pe_str (PJ.cons (pe_fmt (pv 1)) PJ.nil))) pa_nil))))
      (pss_one (ps_ost (pv 0) (pv 1))), ?_⟩
    have L0 : (Str.empty : Str).length = 0 := rfl
    have L1 : ("invalid text: row " : Str).length = 18 := by decide +kernel
    have L3 : (Str.ofString (toString i)).length ≤ 7 := PyProof.Rows.toString_length_le i0 (by decide) (by omega)
    have lg : i.natAbs.log2 < 1920 := Nat.lt_of_lt_of_le (PySem.Flt.log2_lt_of (k := 20) (by decide) (by omega)) (by decide)
    walk_at "go"
    refine ⟨by rw [sizeLine_eq, Str.length_append, L0, L1]; omega, _, rfl, .inr ⟨i, rfl, lg, _, rfl, by rw [sizeLine_eq, Str.length_append, Str.length_append, L0, L1]; omega, ?_⟩⟩
    refine ⟨a, CX, _, rfl, by show 1 ≤ 1000; decide, TX.ox, ha, ?_⟩
    refine ⟨_, rfl, _, rfl, a, CX, rfl, TX.ox, TX.nR, .inl ⟨ha, fun dx hdx nda => ?_⟩⟩
    exact q dx _ hdx nda (by first | exact upd_same | exact up_set (Ne.symm nda) upd_same) (by first | exact upd_same | exact up_set nda upd_same) fun b o nb e => by first | exact up_set nb (up_new e hdx) | exact up_set (ne_of_none e hdx) (up_set nb e)
/-- InvalidWork.__init__, as a body anywhere -/
theorem iw_body {X : Cx} (hN : X.N = (["self", "index"] : List Str)) (T : ProgB X.K X.mg CB mB) (TX : ProgX X.K X.mg "InvalidWork" "index" CX fX) (hg : Gl X "BridgeError") (hv0 : Vis X.env.scope "self") (hv1 : Vis X.env.scope "index") {Q : VK} {H : Hp} {a : Addr} {i : Int} (ha : H a = some (exo a CX none)) (i0 : 0 ≤ i) (i1 : i ≤ 1000000)
    (q : ∀ dx H', H dx = none → dx ≠ a → H' a = some (exo a CX (some dx)) → H' dx = some (exd dx (ixF "index" i)) → (∀ b o, b ≠ a → H b = some o → H' b = some o) → Q .non H') :
    ∃ t, PSs X (L2.defBody sIWi) t ∧ t { nx := fun _ H' => Q .non H', rt := Q } [some (.ref a), some (.int i)] H := by
  refine ⟨_, pss_cons (ps_expr (pe_beinit hg T.gB T.rdB T.sgB T.inB (pa_cons (pv 0 (by rw [hN]; rfl) hv0) (pa_cons (pe_joined (PJ.cons pe_str (PJ.cons (pe_fmt (pv 1 (by rw [hN]; rfl) hv1)) PJ.nil))) pa_nil))))
      (pss_one (ps_ost (pv 0 (by rw [hN]; rfl) hv0) (pv 1 (by rw [hN]; rfl) hv1))), ?_⟩
  have L0 : (Str.empty : Str).length = 0 := rfl
  have L1 : ("invalid work: index " : Str).length = 20 := by decide +kernel
  have L3 : (Str.ofString (toString i)).length ≤ 7 := PyProof.Rows.toString_length_le i0 (by decide) (by omega)
  have lg : i.natAbs.log2 < 1920 := Nat.lt_of_lt_of_le (PySem.Flt.log2_lt_of (k := 20) (by decide) (by omega)) (by decide)
  walk_at "go"
  refine ⟨by rw [sizeLine_eq, Str.length_append, L0, L1]; omega, _, rfl, .inr ⟨i, rfl, lg, _, rfl, by rw [sizeLine_eq, Str.length_append, Str.length_append, L0, L1]; omega, ?_⟩⟩
  refine ⟨a, CX, _, rfl, by show 1 ≤ 1000; decide, TX.ox, ha, ?_⟩
  refine ⟨_, rfl, _, rfl, a, CX, rfl, TX.ox, TX.nR, .inl ⟨ha, fun dx hdx nda => ?_⟩⟩
  exact q dx _ hdx nda (by first | exact upd_same | exact up_set (Ne.symm nda) upd_same) (by first | exact upd_same | exact up_set nda upd_same) fun b o nb e => by first | exact up_set nb (up_new e hdx) | exact up_set (ne_of_none e hdx) (up_set nb e)
theorem ok_IWi {fd : FuncData} (F : L2.Fun K "__init__" "InvalidWork.__init__" sIWi fX fd) (T : ProgB K mg CB mB) (TX : ProgX K mg "InvalidWork" "index" CX fX) : FnOk P w K mg base L2.CX0 1 fX fd ["self", "index"] (spIXi K "index" CX) := by
  refine F.ok scIWi (fun vs H Q E h => ?_) (fun cdv A outer s H vs Q E hr h => ?_)
  · obtain ⟨a, i, rfl, _⟩ := h; rfl
  · obtain ⟨a, i, rfl, ha, i0, i1, q⟩ := h
    exact iw_body rfl T TX (by rfl) (Or.inl rfl) (Or.inl rfl) ha i0 i1 q
theorem ok_IWh {fd : FuncData} (F : L2.Fun K "__init__" "InvalidWork.__init__" sIWi fX fd) (T : ProgB K mg CB mB) (TX : ProgX K mg "InvalidWork" "index" CX fX) : L2H.FnH P w K mg base L2.CX0 1 fX fd ["self", "index"] (spIXi K "index" CX) := by
  obtain ⟨oc, od, kV, doc, pm, an, cdv, ct, osl, rfl, lk, hcd⟩ := F.ex
  refine L2H.fn_ofH lk hcd scIWi (fun vs H Q E h => ?_) (fun A outer s H vs Q E p hot hr h => ?_)
  · obtain ⟨a, i, rfl, _⟩ := h; rfl
  · obtain ⟨a, i, rfl, ha, i0, i1, q⟩ := h
    exact iw_body rfl T TX (by rfl) (Or.inl rfl) (Or.inl rfl) ha i0 i1 q
variable {fld : Str}
theorem raise_ix {H1 : Hp} {i : Int} {Wk : XK} (i0 : 0 ≤ i) (i1 : i ≤ 1000000) (k : ∀ d H', Same H1 H' → H1 d = none → H' d = some (.xd (ixF fld i)) → Wk (.ref CX) (some d) H') :
    ([V.int i] : List V).length ≤ 1000 ∧ ∀ a, H1 a = none → spIXi K fld CX (.ref a :: ([.int i] ++ [])) (upd H1 a (exo a CX none))
      (fun v H2 => v = .non ∧ ∃ (d : Addr) (fs : List (Str × V)), H2 a = some (exo a CX (some d)) ∧ H2 d = some (exd d fs) ∧ H1 d = none ∧ Wk (.ref CX) (some d) (upd (L2.del H2 a) d (.xd fs))) (fun _ _ _ => False) := by
  refine ⟨by show 1 ≤ 1000; decide, fun a ha => ⟨a, i, rfl, upd_same, i0, i1, fun dx H' hdx nda e1 e2 old => ?_⟩⟩
  rw [upd_ne nda] at hdx
  refine ⟨rfl, dx, ixF fld i, e1, e2, hdx, k dx _ (fun b o e => ?_) hdx upd_same⟩
  have nba : b ≠ a := ne_of_none e ha
  have nbd : b ≠ dx := ne_of_none e hdx
  rw [upd_ne nbd, L2.del_ne nba]
  exact old b o nba (up_new e ha)
/-- raise X(i), X an own error with one field -/
def ixT (fld : Str) (i : Int) : List (Str × Tr) := [(fld, .int i)]
def fRaiseX (CX : Addr) (fld : Str) (PX : PXF) (fa : FA) : FS := fun _ L M => fa L M fun ts M1 => ∃ i : Int, ts = [.int i] ∧ 0 ≤ i ∧ i ≤ 1000000 ∧ PX CX (ixT fld i) M1
theorem sim_raiseX {B : Bs} {E : XK} {PX : PXF} {as : TA} {fs : FA} (hE : OutX K B.1 B.2 PX E) (a : SimA K B as fs) : SimS K B (fun _ σ H => tMkO CX (spIXi K fld CX) [] as σ H fun cls d H' => E cls d H') (fRaiseX CX fld PX fs) :=
  ⟨fun hl hm h e => a.run hl hm h fun ts xs H1 ρ1 M1 g1 m1 rx ⟨i, et, i0, i1, p⟩ => by
    subst et
    obtain ⟨x, rfl, r1⟩ := rx.one
    cases r1.int_inv
    refine raise_ix i0 i1 fun d H' sm hd hx => ?_
    obtain ⟨g2, m2⟩ := same_grow sm m1
    exact hE CX (ixT fld i) (some d) H' ρ1 M1 ((hl.gr.trans g1).trans g2) m2 (.inr ⟨d, _, rfl, hx, _, _, rfl, RT.int_, rfl⟩) p⟩
end
end T1

set_option Elab.async false
set_option linter.all false
set_option maxRecDepth 100000
set_option maxHeartbeats 4000000
namespace T1
open PySem PySem.Spec PyProof.Rows L2 C8 Fm
theorem forget_same {k : Nat} {J : Fm.Loc → Mem → Prop} {L L' : Fm.Loc} {M : Mem} (le : LocLe L' L) (j : J L' M) (hk : k ≤ List.length M ∧ belL (List.length M) L' = true) (hM : belM (List.length M) M = true) : Forget k J L M :=
  ⟨M.length, L', hk.1, le, hk.2, by rw [List.take_length]; exact hM, by rw [List.take_length]; exact j⟩
theorem forget_base {k : Nat} {J : Fm.Loc → Mem → Prop} {L L' : Fm.Loc} {M h : Mem} (hk : k ≤ List.length M) (le : LocLe L' L) (j : J L' M) (bl : belL (List.length M) L' = true) (hM : belM M.length M = true) : Forget k J L (M ++ h) :=
  ⟨M.length, L', hk, le, bl, by rw [List.take_left]; exact hM, by rw [List.take_left]; exact j⟩
theorem keepX_same {H : Hp} {ρ : List Addr} {K : PySem.W.Frag} {M : Mem} {PX : PXF} {D : Addr} {fs : List (Str × Tr)} (m : RM K H ρ M) (b : belF M.length fs = true) (p : PX D fs M) : KeepX M.length PX D fs M :=
  ⟨M.length, Nat.le_refl _, b, by rw [List.take_length]; exact m.belM, by rw [List.take_length]; exact p⟩
theorem insAt_of {M : Mem} {k : Nat} {C : Addr} {fs : List (Str × Tr)} (e : M[k]? = some (.ins C fs)) : insAt M (.ref k) = some (k, C, fs) := by
  rw [insAt_ref, e]
  rfl
theorem insM_of {M : Mem} {k : Nat} {C : Addr} {fs : List (Str × Tr)} (e : M[k]? = some (.ins C fs)) : (insO M[k]?).map (fun p => (k, p.1, p.2)) = some (k, C, fs) := by
  rw [e]
  rfl
theorem at_l {M g : Mem} {k : Nat} {o : O} (e : M[k]? = some o) : (M ++ g)[k]? = some o := by
  rw [List.getElem?_append_left (List.getElem?_eq_some_iff.mp e).1]
  exact e
theorem belM_set {k : Nat} {o : O} (ho : O.bel k o = true) : ∀ {M : Mem} {n : Nat}, belM k M = true → belM k (M.set n o) = true
  | [], _, h => h
  | u :: M, 0, h => by
    unfold belM at h
    rw [Bool.and_eq_true] at h
    show (O.bel k o && belM k M) = true
    rw [ho, h.2]
    rfl
  | u :: M, n + 1, h => by
    unfold belM at h
    rw [Bool.and_eq_true] at h
    show (O.bel k u && belM k (M.set n o)) = true
    rw [h.1, belM_set ho h.2]
    rfl
theorem keep_set {K : PySem.W.Frag} {H : Hp} {ρ : List Addr} {M : Mem} {P : PF} {v : Tr} {n : Nat} {o : O} (m : RM K H ρ M) (b : Tr.bel M.length v = true) (ho : O.bel M.length o = true) (p : P v (M.set n o)) : Keep M.length P v (M.set n o) :=
  keep_whole (by simp) (by rw [List.length_set]; exact b) (by rw [List.length_set]; exact belM_set ho m.belM) p
theorem set_same {M : Mem} {n : Nat} {o u : O} (e : M[n]? = some u) : (M.set n o)[n]? = some o := by rw [List.getElem?_set_self (List.getElem?_eq_some_iff.mp e).1]
theorem int1_i {i : Int} {M : Mem} {P : PF} : fInt1 [.int i] M P ↔ P (.int i) M := by
  unfold fInt1
  simp
def fCVal (K : PySem.W.Frag) (fe : FE) (f : Str) : FE := fun L M P => fe L M fun x M1 => ∃ (C : Addr) (mc : Value) (i : Int) (u : Value), x = .raw (.ref C) ∧ ClX.CRead K C mc ∧ ClX.CVal K C mc f (.int i) u ∧ P (.int i) M1
theorem sim_cval {K : PySem.W.Frag} {B : Bs} {te : TE} {fe : FE} {f : Str} (a : SimE K B te fe) : SimE K B (ClX.tCVal K te f) (fCVal K fe f) := ⟨fun hl hm h o => a.run hl hm h fun x xv H1 ρ1 M1 g1 m1 rx ⟨C, mc, i, u, ex, cr, cv, p⟩ => by
  subst ex
  exact ⟨C, mc, .int i, u, rx.raw_inv, cr, cv, o _ _ _ _ _ g1 m1 RT.int_ p⟩⟩
/-- an expression that is never reached -/
def tNv : TE := fun _ _ _ => False
def fNv : FE := fun _ _ _ => False
theorem pe_nv {X : Cx} {e : Expr} : PE X e tNv := ⟨fun _ _ _ _ _ _ h => h.elim⟩
theorem sim_nv {K : PySem.W.Frag} {B : Bs} : SimE K B tNv fNv := ⟨fun _ _ h _ => h⟩
/-! ### defs out of which an exception may come -/
structure CalX (P : Program) (w : World) (K : PySem.W.Frag) (mg : Str → Option Value) (base : Heap) (CX : CXT) (k : Nat) (x : Str) (sp : Sp) : Prop where
  ex : ∃ (f : Addr) (fd : FuncData) (ps : List Str), FnOk P w K mg base CX k f fd ps sp ∧ mg x = some (.ref f) ∧ PySem.W.keepIn K (.ref f) = true ∧ L2.Binds K fd ps []
structure MetX (P : Program) (w : World) (K : PySem.W.Frag) (mg : Str → Option Value) (base : Heap) (CX : CXT) (k : Nat) (C : Addr) (m : Str) (sp : Sp) : Prop where
  ex : ∃ (f : Addr) (fd : FuncData) (ps : List Str), Cls K C ∧ L2.Meth K C m f ∧ FnOk P w K mg base CX k f fd ps sp ∧ L2.Binds K fd ps []
section
variable {X : Cx} {CX : CXT} {k j : Nat} {x m : Str} {sp : Sp} {E : XK} {t : TA} {ta : TE} {e o : Expr} {es : List Expr} {p pos apos : Pos} {C : Addr}
theorem pe_cX (c : CalX X.prog X.w X.K X.mg X.base CX k x sp) (hr : Room j X.A) (hk : k ≤ j) (hg : Gl X x) (hx : L2.Passes CX X E) (ha : PA X (e :: es) t)
    (hdb : (x == ("__debug__" : Str)) = false := by decide) (he : starEach (e :: es) X.env = (false, eval e X.env) :: starEach es X.env := by rfl) (hpl : (backTo pos (starEach es X.env)).any (·.1) = false := by rfl) :
    PE X (.Call (.Name x p) (e :: es) [] pos) (tCall sp [] E t) := by
  obtain ⟨f, fd, ps, F, hm, kp, b⟩ := c.ex
  exact pe_call F (hr.mono hk) hg hm kp b .nil hx ha hdb he hpl
theorem pe_mX {pl : Sem Bool} (c : MetX X.prog X.w X.K X.mg X.base CX k C m sp) (hr : Room j X.A) (hk : k ≤ j) (hx : L2.Passes CX X E) (he : PE X o ta) (ha : PA X (e :: es) t)
    (hst : starEach (e :: es) X.env = (false, eval e X.env) :: starEach es X.env := by rfl) (hpl : (backTo pos (starEach es X.env)).any (·.1) = false := by rfl)
    (ht : eval (.Call (.Attribute o m apos) (e :: es) [] pos) X.env = (do
      let ov ← eval o X.env
      standAt apos.atName
      let (f, first) ← holding [ov] (getMethod ov m pl)
      callWith pos f first (backTo pos (starEach (e :: es) X.env)) (backToKw pos (keywordEach [] X.env))) := by rfl) :
    PE X (.Call (.Attribute o m apos) (e :: es) [] pos) (tMeth C m sp [] E ta t) := by
  obtain ⟨f, fd, ps, hc, hm, F, b⟩ := c.ex
  exact pe_meth (pl := pl) he hc hm F (hr.mono hk) b .nil hx ha hst hpl ht
theorem pe_mX0 {pl : Sem Bool} (c : MetX X.prog X.w X.K X.mg X.base CX k C m sp) (hr : Room j X.A) (hk : k ≤ j) (hx : L2.Passes CX X E) (he : PE X o ta)
    (ht : eval (.Call (.Attribute o m apos) [] [] pos) X.env = (do
      let ov ← eval o X.env
      standAt apos.atName
      let (f, first) ← holding [ov] (getMethod ov m pl)
      callWith pos f first (backTo pos (starEach [] X.env)) (backToKw pos (keywordEach [] X.env))) := by rfl) :
    PE X (.Call (.Attribute o m apos) [] [] pos) (tMeth C m sp [] E ta tNil) := by
  obtain ⟨f, fd, ps, hc, hm, F, b⟩ := c.ex
  exact pe_meth0 (pl := pl) he hc hm F (hr.mono hk) b .nil hx ht
end
/-- B.__init__(self, ..) by the base's name -/
structure BasX (P : Program) (w : World) (K : PySem.W.Frag) (mg : Str → Option Value) (base : Heap) (CX : CXT) (k : Nat) (B m : Str) (sp : Sp) : Prop where
  ex : ∃ (C f : Addr) (mc : Value) (fd : FuncData) (ps : List Str), mg B = some (.ref C) ∧ ClX.CRead K C mc ∧ PySem.W.findCls K (.ref C) mc m = some (.val (.ref f)) ∧ PySem.W.handedIn (.ref f) = true ∧ PySem.W.keepIn K (.ref f) = true ∧ FnOk P w K mg base CX k f fd ps sp ∧ L2.Binds K fd ps []
section
variable {X : Cx} {CX : CXT} {k j : Nat} {B m : Str} {sp : Sp} {E : XK} {t : TA} {e : Expr} {es : List Expr} {p3 p1 pos : Pos} {pl : Sem Bool}
theorem pe_bX (c : BasX X.prog X.w X.K X.mg X.base CX k B m sp) (hr : Room j X.A) (hk : k ≤ j) (hg : Gl X B) (hx : L2.Passes CX X E) (ha : PA X (e :: es) t)
    (hd : (B == ("__debug__" : Str)) = false := by decide) (he : starEach (e :: es) X.env = (false, eval e X.env) :: starEach es X.env := by rfl) (hpl : (backTo pos (starEach es X.env)).any (·.1) = false := by rfl)
    (hc : eval (.Call (.Attribute (.Name B p3) m p1) (e :: es) [] pos) X.env =
    (eval (.Name B p3) X.env >>= fun ov => standAt p1.atName >>= fun _ => holding [ov] (getMethod ov m pl) >>= fun r => callWith pos r.1 r.2 (backTo pos (starEach (e :: es) X.env)) (backToKw pos (keywordEach [] X.env))) := by rfl) :
    PE X (.Call (.Attribute (.Name B p3) m p1) (e :: es) [] pos) (tCall sp [] E t) := by
  obtain ⟨C, f, mc, fd, ps, hm, r, at_, hh, kp, F, b⟩ := c.ex
  exact XNx.pe_unb (pl := pl) hg hm r at_ kp F (hr.mono hk) b hx ha hh hd he hpl hc
end
theorem pass_no {X : Cx} : L2.Passes (L2.CX X.prog X.w) X (fun _ _ _ => False) := fun _ _ _ _ _ _ _ ⟨_, _, _, _, _, _, _, _, _, _, _, _, h⟩ => h.elim
/-- a class's constant, a number or a text -/
def conV : Tr → V → Prop
  | .int i, v => v = .int i
  | .str z, v => v = .str z
  | _, _ => False
def fConA (K : PySem.W.Frag) (fe : FE) (f : Str) : FE := fun L M P => fe L M fun x M1 => ∃ n C fs t v u, insAt M1 x = some (n, C, fs) ∧ Cls K C ∧ L2.Con K C f v u ∧ fs.lookup f = none ∧ conV t v ∧ P t M1
theorem sim_conA {K : PySem.W.Frag} {B : Bs} {te : TE} {fe : FE} {f : Str} (a : SimE K B te fe) : SimE K B (tCon K te f) (fConA K fe f) := ⟨fun hl hm h o => a.run hl hm h fun x xv H1 ρ1 M1 g1 m1 rx ⟨n, C, fs, t, v, u, e, c, co, lk, cv, p⟩ => by
  obtain ⟨b, dx, gs, rfl, _, _, rfl, h3, _, h4⟩ := insAt_ok m1 rx e
  refine ⟨b, C, dx, gs, v, u, rfl, h3, c, co, h4.lookN lk, ?_⟩
  cases t with
  | int i => cases cv; exact o _ _ _ _ _ g1 m1 RT.int_ p
  | str z => cases cv; exact o _ _ _ _ _ g1 m1 RT.str_ p
  | _ => exact cv.elim⟩
/-- an error, raised where nothing is handled -/
structure RaisesX (P : Program) (w : World) (K : PySem.W.Frag) (mg : Str → Option Value) (base : Heap) (x fld : Str) (CW : Addr) : Prop where
  ex : ∃ (fW : Addr) (fd : FuncData) (ps : List Str), ProgX K mg x fld CW fW ∧ FnOk P w K mg base L2.CX0 1 fW fd ps (spIXi K fld CW) ∧ Binds K fd ps []
theorem ps_raiseN {X : Cx} {x fld : Str} {CW : Addr} {W : WX} {e : Expr} {es : List Expr} {ta : TA} {p pos rp : Pos} {j : Nat} (c : RaisesX X.prog X.w X.K X.mg X.base x fld CW) (hc : X.calm = true) (tk : L2N.Takes X W) (hr : Room j X.A) (hj : 2 ≤ j) (hg : Gl X x) (ha : PA X (e :: es) ta)
    (hdb : (x == ("__debug__" : Str)) = false := by decide) (he : starEach (e :: es) X.env = (false, eval e X.env) :: starEach es X.env := by rfl) (hpl : (backTo pos (starEach es X.env)).any (·.1) = false := by rfl) :
    PS X (.Raise (some (.Call (.Name x p) (e :: es) [] pos)) none rp) (fun _ σ H => tMkO CW (spIXi X.K fld CW) [] ta σ H fun cls d H' => W cls d σ H') := by
  obtain ⟨fW, fd, ps, T, F, b⟩ := c.ex
  exact L2N.ps_raise hc tk (XNx.pmkN_oex T.ox T.iX T.tX F (hr.mono hj) b L2.pass0 hg T.gX ha hdb he hpl)
theorem ps_raiseC {X : Cx} {x fld : Str} {CW : Addr} {W : WX} {e : Expr} {es : List Expr} {ta : TA} {p pos rp : Pos} {j : Nat} (c : RaisesX X.prog X.w X.K X.mg X.base x fld CW) (hc : X.calm = true) (tk : L2.Takes X W) (hr : Room j X.A) (hj : 2 ≤ j) (hg : Gl X x) (ha : PA X (e :: es) ta)
    (hdb : (x == ("__debug__" : Str)) = false := by decide) (he : starEach (e :: es) X.env = (false, eval e X.env) :: starEach es X.env := by rfl) (hpl : (backTo pos (starEach es X.env)).any (·.1) = false := by rfl) :
    PS X (.Raise (some (.Call (.Name x p) (e :: es) [] pos)) none rp) (fun _ σ H => tMkO CW (spIXi X.K fld CW) [] ta σ H fun cls d H' => W cls d σ H') := by
  obtain ⟨fW, fd, ps, T, F, b⟩ := c.ex
  exact L2.ps_raise hc tk (pmk_oex T.ox T.iX T.tX F (hr.mono hj) b .nil L2.pass0 hg T.gX ha hdb he hpl)
/-- as L2.Fun.okX, for any way that exceptions leave -/
theorem fun_okC {CX : CXT} {P : Program} {w : World} {K : PySem.W.Frag} {mg : Str → Option Value} {base : Heap} {x qual : Str} {st : Stmt} {f : Addr} {fd : FuncData} {N ps : List Str} {k : Nat} {sp : Sp} (F : L2.Fun K x qual st f fd) (S : FnScope N ps (L2.defScope st)) (len : ∀ vs H Q E, sp vs H Q E → vs.length = ps.length)
    (hbody : ∀ (cdv : Value) (A : Around) (outer : List Env) (s : Shared) (H : Hp) (vs : List V) (Q : VK) (E : XK), Room k (A.deeper (envOfC qual (L2.defScope st) s.heap.objs.size f cdv)) → sp vs H Q E →
      ∃ t, PSs (cxOf CX P w K mg base N qual (L2.defScope st) f cdv A outer s H E) (L2.defBody st) t ∧ t { nx := fun _ H' => Q .non H', rt := Q } (L2.start N vs) H) : FnOk P w K mg base CX (k + 1) f fd ps sp := by
  obtain ⟨oc, od, kV, doc, pm, an, cdv, ct, osl, rfl, lk, hcd⟩ := F.ex
  exact fn_of lk hcd S len fun A outer s H vs Q E hr hsp => hbody cdv A outer s H vs Q E hr hsp
/-- the built-in names and the numbers of the modules -/
structure BQ (mg : Str → Option Value) : Prop where
  len : mg "len" = none
  int : mg "int" = none
  range : mg "range" = none
  list : mg "list" = none
  tuple : mg "tuple" = none
  isinstance : mg "isinstance" = none
  enumerate : mg "enumerate" = none
  sorted : mg "sorted" = none
  set : mg "set" = none
  zip : mg "zip" = none
  str : mg "str" = none
  bool : mg "bool" = none
  g_MAX_COUNT : ∃ u, mg "MAX_COUNT" = some u ∧ RelV (.int 1000000000000000000) u
  g_MOST_DIGITS : ∃ u, mg "MOST_DIGITS" = some u ∧ RelV (.int 20) u
abbrev sIsNum : Stmt := top 8
abbrev sNumOf : Stmt := top 9
abbrev sRead : Stmt := top 10
abbrev sCheck : Stmt := top 12
abbrev sWi : Stmt := L2.inClass (top 13) 2
abbrev sWline : Stmt := L2.inClass (top 13) 6
abbrev sWplan : Stmt := L2.inClass (top 13) 7
abbrev sCch : Stmt := L2.inClass (top 14) 1
abbrev sMi : Stmt := L2.inClass (top 15) 1
abbrev sMline : Stmt := L2.inClass (top 15) 2
abbrev sMch : Stmt := L2.inClass (top 15) 3
abbrev sMat : Stmt := L2.inClass (top 15) 4
abbrev sUi : Stmt := L2.inClass (top 16) 2
abbrev sUline : Stmt := L2.inClass (top 16) 4
abbrev sUch : Stmt := L2.inClass (top 16) 5
abbrev sLnN : Stmt := top 18
abbrev sWorkOf : Stmt := top 19
abbrev sSi : Stmt := L2.inClass (top 20) 2
abbrev sStext : Stmt := L2.inClass (top 20) 5
abbrev sParse : Stmt := L2.inClass (top 20) 6
abbrev sSplan : Stmt := L2.inClass (top 20) 7
end T1

set_option Elab.async false
set_option linter.all false
set_option maxRecDepth 100000
set_option maxHeartbeats 4000000
namespace T1
open PySem PySem.Spec PyProof.Rows L2 C8 Fm T2
local macro_rules | `(tactic| walk_at "sim1") => `(tactic| with_reducible first
  | exact sim_nil | exact sim_var | exact sim_int | exact sim_str | exact sim_bl | exact sim_non | exact sim_raw
  | apply sim_cons | apply sim_op | apply sim_un | apply sim_tup | apply sim_lst
  | apply sim_CB | apply sim_if | apply sim_test | apply sim_B | apply sim_not | apply sim_and | apply sim_or
  | apply sim_andV | apply sim_orV | apply sim_notV | apply sim_chain | exact sim_nopart | apply sim_part
  | apply sim_sl | apply sim_BML | apply sim_BMS | apply sim_BM0S | apply sim_M1 | apply sim_M0
  | apply sim_fmt | apply sim_joined | exact SimJ.nil | apply SimJ.cons
  | exact s_I0i | exact s_I0b | exact s_Ii | exact s_Ui | exact s_eq | exact s_ne | exact s_isN | exact s_notN | exact s_ixL | exact s_ixT | exact s_ixS
  | exact s_cat | exact s_catA | exact s_rep | exact s_repT | exact s_in | exact s_slL | exact s_slA | exact s_slS | exact s_addS | exact s_leS | exact s_ltS
  | exact c_len | exact c_lenS | exact c_list | exact c_tuple | exact c_int1 | exact c_intS | exact c_strI | exact c_max2 | exact c_min2
  | exact m_append | exact m_extend | exact m_split | exact m_join | exact m_0b | exact m_1b
  | apply sim_call | exact simSpF
  | exact sim_name | exact sim_gnil | apply sim_gcons | apply sim_gtup | apply sim_gsub | exact set_list
  | exact sim_next | apply sim_seq | apply sim_cut | exact sim_break | exact sim_cont | apply sim_drop | apply sim_ret | exact sim_retN
  | apply sim_ifS | exact sim_never | apply sim_asg | apply sim_par | apply sim_aug
  | apply sim_for | apply sim_while | apply i_list | apply i_tup | apply i_rng1 | apply i_rng2 | apply i_str | apply i_enum | apply i_zip
  | apply sim_lc | exact sim_yes | exact sim_namew (by decide) | exact sim_gnilw | apply sim_gconsw | apply sim_gtupw
  | apply sim_fld | apply sim_con | apply sim_setFld | apply sim_make | apply sim_prop | apply sim_meth | apply sim_cmeth | exact c_isi | apply sim_isiT | exact s_eqD | exact s_neD
  | walk_at "sim2")
local macro_rules | `(tactic| walk_at "sim2") => `(tactic| fail)
local macro_rules | `(tactic| walk_at "sim") => `(tactic| repeat' (walk_at "sim1"))
/-- open the trees' reading as far as it goes by itself -/
local macro_rules | `(tactic| walk_at "fm") => `(tactic| simp (config := { failIfUnchanged := false }) only [fVar, fC, fOp, fUn, fNil, fCons, fTup, fLst, fCB, fIf, fTest, fNot, fAnd, fOr, fAndV, fOrV, fNotV, fChain, fNoPart, fPart, fI, fI0, fU, fEq, fNe, fIsN, fNotN, fIxL, fIxT, fIxS,
  fCat, fCatA, fRep, fRepT, fSlL, fSlA, fSlS, fSl, fLen, fLenS, fList, fTuple, fIntS, fStrI, fMax2, fMin2, fAppend, fExtend, fIn, fBM, fMS, fBMS, fBM0S, fAddS, fLeS, fLtS, fM0b, fM1b, fSplit, fJoin, fJoined, fJs,
  fName, fGNil, fGCons, fGTup, fSetL, fGSub, fNext, fSeq, fCut, fBreak, fCont, fDrop, fRet, fRetN, fIfS, fAsg, fPar, fAug, fCall, fFld, fCon, fSetFld, fMake, fProp, fMeth, fCMeth, fIsi, fIsiT, fEqD, fNeD, insAt_ref, insO_ins, fFmt, fmtS_i, fmtS_s, fmtOk_i, fmtOk_s, fIL, fIT, fIR1, fIR2, fIS, fIEn, fIZ,
  startL, List.map_cons, List.map_nil, List.length_cons, List.length_nil, List.cons_append, List.nil_append, List.replicate, List.getElem?_cons_zero, List.getElem?_cons_succ, List.set_cons_zero, List.set_cons_succ, Nat.reduceSub, Nat.reduceAdd,
  Option.some.injEq, Tr.int.injEq, Tr.str.injEq, Tr.bl.injEq, Tr.tup.injEq, Tr.ref.injEq, List.cons.injEq, exists_eq_left, exists_eq_left', exists_eq_right, true_and, and_true, and_self, exists_and_left, tupOf_tup, eqS_ii, eqS_ss, eqS_bb, eqS_ni, eqS_in, eqS_nn, isStr_s, isN_n, isN_i, isN_b, isN_s, isN_t, isN_r, noRaw_n, noRaw_i, noRaw_b, noRaw_s, noRaw_t, noRaw_r, and_assoc, reduceIte, Bool.false_eq_true, exists_const, lstAt_ref, seqAt_ref, seqAt_tup, refAt_ref, lstO_lst, app_assoc2, len_app1, at_kk, at_00, set_k, set_00, Nat.add_assoc, Option.map_some, Prod.mk.injEq, int_cast_inj, Nat.zero_le, decide_eq_true_eq, Bool.not_eq_true', decide_eq_false_iff_not, Nat.add_zero, implies_true, forall_const, ite_true, ite_false, if_true, if_false, decide_true, decide_false, Bool.not_true, Bool.not_false, asg_len, Option.isSome_some])
local macro_rules | `(tactic| walk_at "bel") => `(tactic| first | rfl | (simp (config := { failIfUnchanged := false }) only [belM, O.bel, bels_strs, bels_ints, belL, Tr.bel, Tr.bels, Bool.and_true, Bool.true_and, Bool.and_self, decide_eq_true_eq, Bool.and_eq_true, true_and, and_true, List.length_cons, List.length_nil, Nat.reduceAdd]; try omega))

def fsIsNum : FSp := fun ts M P _ => ∃ w, ts = [.str w] ∧ P (.bl (isNumW w)) M
def fsNumOf : FSp := fun ts M P _ => ∃ w, ts = [.str w] ∧ goodW w = true ∧ w.length ≤ 1000000 ∧ P (.int (num20 w)) M
/-- None, or a new list behind whatever else has come to stand -/
def fsRead : FSp := fun ts M P _ => ∃ line form : Str, ts = [.str line, .str form] ∧ line.length ≤ 1000000 ∧ form.length ≤ 1000 ∧ (∀ w ∈ Txt.split line " ", w.length ≤ 1000000) ∧ (Txt.split line " ").length ≤ 1000000 ∧
  (readN line form = none → P .non M) ∧ ∀ ns, readN line form = some ns → ∀ g : Mem, belM 0 g = true → P (.ref (List.length M + g.length)) (M ++ (g ++ [.lst (ns.map Tr.int)]))
section
variable {P : Program} {w : World} {K : PySem.W.Frag} {mg : Str → Option Value} {base : Heap}
structure Cs (P : Program) (w : World) (K : PySem.W.Frag) (mg : Str → Option Value) (base : Heap) : Prop where
  is_number : Cal P w K mg base 1 "is_number" (spF K fsIsNum) []
  number_of : Cal P w K mg base 1 "number_of" (spF K fsNumOf) []
theorem scIsNum : FnScope ["word"] ["word"] (fnScope sIsNum) := fnScope_by (by decide +kernel)
theorem ok_isNum {f : Addr} {fd : FuncData} (F : Def K mg "is_number" sIsNum f fd) (b : Binds K fd ["word"] []) (T : BQ mg) : Cal P w K mg base 1 "is_number" (spF K fsIsNum) [] := by
  refine cal0 F b .nil scIsNum (fun vs H Q E h => ?_) (fun cdv A outer s H vs Q E hr h => ?_)
  · obtain ⟨ts, ρ, M, P, PX, r, m, ⟨w, rfl, _⟩, o, ox⟩ := h
    exact r.len
  · refine ⟨_, (pss_one (ps_ret (pe_and (pe_bm0 PySem.F.plainAttrs_str PySem.F.slot_str_isascii PySem.F.type_str_isascii mt_isascii (pv 0)) (pe_and (pe_bm0 PySem.F.plainAttrs_str PySem.F.slot_str_isdigit PySem.F.type_str_isdigit mt_isdigit (pv 0)) (pe_one (pe_or (pe_cmpR op_eq (pv 0) pe_str (nomark _)) (pe_one (pe_not (pe_bm PySem.F.plainAttrs_str PySem.F.slot_str_startswith PySem.F.type_str_startswith mt_startswith (pv 0) (pa_cons pe_str pa_nil)))))))))), ?_⟩
    obtain ⟨ts, ρ, M, P, PX, r, m, ⟨w, rfl, q⟩, o, ox⟩ := h
    simp only [nox_K, cx_K]
    refine run_in r m o (by walk_at "sim") ?_
    walk_at "fm"
    have q' := keep_same m rfl q
    unfold isNumW at q'
    by_cases h3 : w = Str.ofString "0"
    · rw [decide_eq_true h3] at q'
      rw [if_pos h3]
      generalize Txt.isascii w = a at q' ⊢
      generalize Txt.isdigit w = b at q' ⊢
      cases a <;> cases b <;> exact q'
    · rw [decide_eq_false h3] at q'
      rw [if_neg h3]
      generalize Txt.isascii w = a at q' ⊢
      generalize Txt.isdigit w = b at q' ⊢
      cases a <;> cases b <;> exact q'
theorem scNumOf : FnScope ["word"] ["word"] (fnScope sNumOf) := fnScope_by (by decide +kernel)
theorem ok_numOf {f : Addr} {fd : FuncData} (F : Def K mg "number_of" sNumOf f fd) (b : Binds K fd ["word"] []) (T : BQ mg) : Cal P w K mg base 1 "number_of" (spF K fsNumOf) [] := by
  refine cal0 F b .nil scNumOf (fun vs H Q E h => ?_) (fun cdv A outer s H vs Q E hr h => ?_)
  · obtain ⟨ts, ρ, M, P, PX, r, m, ⟨w, rfl, _⟩, o, ox⟩ := h
    exact r.len
  · refine ⟨_, (pss_one (ps_ret (pe_callTy call_int_str (by rfl) T.int (by decide +kernel) (pa_cons (pe_slice sl_str (pv 0) po_none (po_some (pe_gc (v := .int 20) (by rfl) T.g_MOST_DIGITS))) pa_nil)))), ?_⟩
    obtain ⟨ts, ρ, M, P, PX, r, m, ⟨w, rfl, hg, hl, q⟩, o, ox⟩ := h
    refine run_in r m o (by walk_at "sim") ?_
    walk_at "fm"
    have hz : w.length ≤ sizeLine := by rw [sizeLine_eq]; omega
    exact ⟨hz, _, int_cut hg, by have := cut20_len w; omega, keep_same m rfl q⟩
theorem scRead : FnScope ["line", "form", "words", "parts", "numbers", "word", "part"] ["line", "form"] (fnScope sRead) := fnScope_by (by decide +kernel)
theorem ok_read {f : Addr} {fd : FuncData} (F : Def K mg "read_numbers" sRead f fd) (b : Binds K fd ["line", "form"] []) (T : BQ mg) (C : Cs P w K mg base) : Cal P w K mg base 2 "read_numbers" (spF K fsRead) [] := by
  refine cal0 F b .nil scRead (fun vs H Q E h => ?_) (fun cdv A outer s H vs Q E hr h => ?_)
  · obtain ⟨ts, ρ, M, P, PX, r, m, ⟨l, f, rfl, _⟩, o, ox⟩ := h
    exact r.len
  · refine ⟨_, (pss_cons (ps_set (i := 2) scRead.nd rfl (Or.inl rfl) (pe_split (pv 0) pe_str))
 (pss_cons (ps_set (i := 3) scRead.nd rfl (Or.inl rfl) (pe_split (pv 1) pe_str))
 (pss_cons (ps_if (pt_cmpR op_ne (pe_callB call_len_seq (by rfl) T.len PySem.boot_len (pa_cons (pv 2) pa_nil)) (pe_callB call_len_seq (by rfl) T.len PySem.boot_len (pa_cons (pv 3) pa_nil)) (nomark _)) (pss_one (ps_ret pe_non)) pss_nil)
 (pss_cons (ps_set (i := 4) scRead.nd rfl (Or.inl rfl) (pe_lst pa_nil))
 (pss_cons (ps_for PassesOwn.never rfl (pi_zip (by rfl) T.zip (pa_cons (pv 2) (pa_cons (pv 3) pa_nil))) (pg_tup rfl (pgs_cons (pg_name (i := 5) scRead.nd rfl (Or.inl rfl)) (pgs_cons (pg_name (i := 6) scRead.nd rfl (Or.inl rfl)) pgs_nil))) (pss_one (ps_if (PW.pt (pw_and (pt_cmpR op_eq (pv 6) pe_str (nomark _)) (pw_and1 (pt_val (pe_c C.is_number hr (by first | decide | omega) (by rfl) (pa_cons (pv 5) pa_nil)))))) (pss_one (ps_expr (pe_bm PySem.F.plainAttrs_list PySem.F.slot_list_append PySem.F.type_list_append mt_append (pv 4) (pa_cons (pe_c C.number_of hr (by first | decide | omega) (by rfl) (pa_cons (pv 5) pa_nil)) pa_nil)))) (pss_one (ps_if (PW.pt (pw_or (pt_cmpR op_eq (pv 6) pe_str (nomark _)) (pw_or1 (pt_cmpR op_ne (pv 5) (pv 6) (nomark _))))) (pss_one (ps_ret pe_non)) pss_nil)))))
 (pss_one (ps_ret (pv 4)))))))), ?_⟩
    obtain ⟨ts, ρ, M, P, PX, r, m, ⟨l, f, rfl, hl, hf, hw, hwl, q1, q2⟩, o, ox⟩ := h
    simp only [nox_K, cx_K]
    refine run_in r m o (by walk_at "sim") ?_
    walk_at "fm"
    refine ⟨rfl, by rw [sizeLine_eq]; omega, rfl, by rw [sizeLine_eq]; omega, ?_⟩
    rw [List.length_map, List.length_map]
    unfold readN at q1 q2
    generalize Txt.split l " " = ws at q1 q2 hw hwl ⊢
    generalize Txt.split f " " = ps at q1 q2 ⊢
    by_cases hlen : ws.length = ps.length
    · rw [if_neg (by simpa using hlen)] at q1 q2
      rw [if_neg (by simpa using hlen)]
      unfold fFor
      walk_at "fm"
      refine ⟨fun i L2 M2 => ∃ (acc : List Int) (w5 w6 : Option Tr), L2 = [some (.str l), some (.str f), some (.ref (List.length M)), some (.ref (List.length M + 1)), some (.ref (List.length M + 2)), w5, w6] ∧ M2 = M ++ [.lst (ws.map Tr.str), .lst (ps.map Tr.str), .lst (acc.map Tr.int)] ∧ acc.length ≤ i ∧ goR ws ps = (goR (ws.drop i) (ps.drop i)).map (acc ++ ·), ?_, ?_, ?_, ?_⟩
      · exact ⟨[], none, none, rfl, rfl, Nat.le_refl _, by cases h : goR ws ps <;> simp [h]⟩
      · rintro i L2 M2 hi ⟨acc, w5, w6, rfl, rfl, hacc, hg⟩
        walk_at "fm"
      · rintro i t L2 M2 ht ⟨acc, w5, w6, rfl, rfl, hacc, hg⟩
        obtain ⟨w, p, hw1, hp1, rfl⟩ := zip_strs ht
        rw [drop_at hw1, drop_at hp1, goR_cons] at hg
        have hwm := hw w (List.mem_of_getElem? hw1)
        have hi := (List.getElem?_eq_some_iff.mp hw1).1
        walk_at "fm"
        unfold fsIsNum fsNumOf
        walk_at "fm"
        by_cases hp : p = "N"
        · rw [if_pos hp]
          by_cases hn : isNumW w = true
          · rw [if_pos ⟨hp, hn⟩] at hg
            rw [if_pos hn]
            refine ⟨by rw [← isNumW_good]; exact hn, hwm, by rw [sizeLine_eq, List.length_map]; omega, ?_⟩
            refine forget_not (Nat.le_refl _) ⟨acc ++ [num20 w], _, _, rfl, by simp, by simp; omega, ?_⟩ (by walk_at "bel") m.belM (by simp [belM, O.bel, bels_strs]; rw [← List.map_singleton, ← List.map_append]; exact bels_ints _)
            rw [hg, Option.map_map]
            congr 1
            funext x
            simp
          · rw [if_neg (fun z => hn z.2), if_pos (.inl hp)] at hg
            rw [if_neg hn, if_pos hp]
            exact keep_app m rfl (q1 hg)
        · rw [if_neg hp, if_neg hp]
          rw [if_neg (fun z => hp z.1)] at hg
          by_cases hwp : w = p
          · rw [if_neg (by rintro (z | z); exact hp z; exact z hwp)] at hg
            rw [if_neg (by simpa using hwp)]
            refine forget_not (Nat.le_refl _) ⟨acc, _, _, rfl, rfl, by omega, hg⟩ (by walk_at "bel") m.belM (by walk_at "bel")
          · rw [if_pos (.inr hwp)] at hg
            rw [if_pos hwp]
            exact keep_app m rfl (q1 hg)
      · rintro L2 M2 ⟨acc, w5, w6, rfl, rfl, hacc, hg⟩
        rw [zipT_len, List.length_map, List.length_map, ← hlen, Nat.min_self] at hg
        rw [List.drop_of_length_le (Nat.le_refl _)] at hg
        walk_at "fm"
        have hg : goR ws ps = some acc := by rw [hg]; simp [goR]
        have q := q2 acc hg [.lst (ws.map Tr.str), .lst (ps.map Tr.str)] (by walk_at "bel")
        exact keep_whole (by simp) (by simp [Tr.bel]) (by simpa using belM_ext m.belM (g := [.lst (ws.map Tr.str), .lst (ps.map Tr.str), .lst (acc.map Tr.int)]) (by walk_at "bel")) q
    · rw [if_pos (by simpa using hlen)] at q1
      rw [if_pos (by simpa using hlen)]
      exact keep_app m rfl (q1 rfl)
end
end T1

set_option Elab.async false
set_option linter.all false
set_option maxRecDepth 100000
set_option maxHeartbeats 4000000
namespace T1
open PySem PySem.Spec PyProof.Rows L2 C8 Fm T2
local macro_rules | `(tactic| walk_at "sim1") => `(tactic| with_reducible first
  | exact sim_nil | exact sim_var | exact sim_int | exact sim_str | exact sim_bl | exact sim_non | exact sim_raw
  | apply sim_cons | apply sim_op | apply sim_un | apply sim_tup | apply sim_lst
  | apply sim_CB | apply sim_if | apply sim_test | apply sim_B | apply sim_not | apply sim_and | apply sim_or
  | apply sim_andV | apply sim_orV | apply sim_notV | apply sim_chain | exact sim_nopart | apply sim_part
  | apply sim_sl | apply sim_BML | apply sim_BMS | apply sim_BM0S | apply sim_M1 | apply sim_M0
  | apply sim_fmt | apply sim_joined | exact SimJ.nil | apply SimJ.cons
  | exact s_I0i | exact s_I0b | exact s_Ii | exact s_Ui | exact s_eq | exact s_ne | exact s_isN | exact s_notN | exact s_ixL | exact s_ixT | exact s_ixS
  | exact s_cat | exact s_catA | exact s_rep | exact s_repT | exact s_in | exact s_slL | exact s_slA | exact s_slS | exact s_addS | exact s_leS | exact s_ltS
  | exact c_len | exact c_lenS | exact c_list | exact c_tuple | exact c_int1 | exact c_intS | exact c_strI | exact c_max2 | exact c_min2
  | exact m_append | exact m_extend | exact m_split | exact m_join | exact m_0b | exact m_1b
  | apply sim_call | exact simSpF
  | exact sim_name | exact sim_gnil | apply sim_gcons | apply sim_gtup | apply sim_gsub | exact set_list
  | exact sim_next | apply sim_seq | apply sim_cut | exact sim_break | exact sim_cont | apply sim_drop | apply sim_ret | exact sim_retN
  | apply sim_ifS | exact sim_never | apply sim_asg | apply sim_par | apply sim_aug
  | apply sim_for | apply sim_while | apply i_list | apply i_tup | apply i_rng1 | apply i_rng2 | apply i_str | apply i_enum | apply i_zip
  | apply sim_lc | exact sim_yes | exact sim_namew (by decide) | exact sim_gnilw | apply sim_gconsw | apply sim_gtupw
  | apply sim_fld | apply sim_con | apply sim_setFld | apply sim_make | apply sim_prop | apply sim_meth | apply sim_cmeth | exact c_isi | apply sim_isiT | exact s_eqD | exact s_neD
  | walk_at "sim2")
local macro_rules | `(tactic| walk_at "sim2") => `(tactic| fail)
local macro_rules | `(tactic| walk_at "sim") => `(tactic| repeat' (walk_at "sim1"))
/-- open the trees' reading as far as it goes by itself -/
local macro_rules | `(tactic| walk_at "fm") => `(tactic| simp (config := { failIfUnchanged := false }) only [fVar, fC, fOp, fUn, fNil, fCons, fTup, fLst, fCB, fIf, fTest, fNot, fAnd, fOr, fAndV, fOrV, fNotV, fChain, fNoPart, fPart, fI, fI0, fU, fEq, fNe, fIsN, fNotN, fIxL, fIxT, fIxS,
  fCat, fCatA, fRep, fRepT, fSlL, fSlA, fSlS, fSl, fLen, fLenS, fList, fTuple, fIntS, fStrI, fMax2, fMin2, fAppend, fExtend, fIn, fBM, fMS, fBMS, fBM0S, fAddS, fLeS, fLtS, fM0b, fM1b, fSplit, fJoin, fJoined, fJs,
  fName, fGNil, fGCons, fGTup, fSetL, fGSub, fNext, fSeq, fCut, fBreak, fCont, fDrop, fRet, fRetN, fIfS, fAsg, fPar, fAug, fCall, fFld, fCon, fSetFld, fMake, fProp, fMeth, fCMeth, fIsi, fIsiT, fEqD, fNeD, insAt_ref, insO_ins, fFmt, fmtS_i, fmtS_s, fmtOk_i, fmtOk_s, fIL, fIT, fIR1, fIR2, fIS, fIEn, fIZ,
  startL, List.map_cons, List.map_nil, List.length_cons, List.length_nil, List.cons_append, List.nil_append, List.replicate, List.getElem?_cons_zero, List.getElem?_cons_succ, List.set_cons_zero, List.set_cons_succ, Nat.reduceSub, Nat.reduceAdd,
  Option.some.injEq, Tr.int.injEq, Tr.str.injEq, Tr.bl.injEq, Tr.tup.injEq, Tr.ref.injEq, List.cons.injEq, exists_eq_left, exists_eq_left', exists_eq_right, true_and, and_true, and_self, exists_and_left, tupOf_tup, eqS_ii, eqS_ss, eqS_bb, eqS_ni, eqS_in, eqS_nn, isStr_s, isN_n, isN_i, isN_b, isN_s, isN_t, isN_r, noRaw_n, noRaw_i, noRaw_b, noRaw_s, noRaw_t, noRaw_r, and_assoc, reduceIte, Bool.false_eq_true, exists_const, lstAt_ref, seqAt_ref, seqAt_tup, refAt_ref, lstO_lst, app_assoc2, len_app1, at_kk, at_00, set_k, set_00, Nat.add_assoc, Option.map_some, Prod.mk.injEq, int_cast_inj, Nat.zero_le, decide_eq_true_eq, Bool.not_eq_true', decide_eq_false_iff_not, Nat.add_zero, implies_true, forall_const, ite_true, ite_false, if_true, if_false, decide_true, decide_false, Bool.not_true, Bool.not_false, asg_len, Option.isSome_some])
local macro_rules | `(tactic| walk_at "bel") => `(tactic| first | rfl | (simp (config := { failIfUnchanged := false }) only [belM, O.bel, bels_strs, bels_ints, belL, Tr.bel, Tr.bels, Bool.and_true, Bool.true_and, Bool.and_self, decide_eq_true_eq, Bool.and_eq_true, true_and, and_true, List.length_cons, List.length_nil, Nat.reduceAdd]; try omega))

local macro_rules | `(tactic| walk_at "sim2") => `(tactic| first | exact simDrawn | assumption | apply sim_match | apply SimM2.cons | exact SimM2.nil | apply i_enumT | apply sim_truS | apply sim_listG | apply sim_lcG | apply sim_eitherG | apply sim_methG | apply sim_methJ | apply sim_either | apply sim_sortKey | apply sim_sortSet | apply sim_raiseX)
local macro_rules | `(tactic| walk_at "sim1") => `(tactic| first | (with_reducible apply sim_callX; assumption) | (with_reducible apply sim_methX; assumption) | (with_reducible apply sim_makeX; assumption) | (with_reducible apply sim_makeKX; assumption) | (with_reducible apply sim_makeVSX; assumption) | (with_reducible apply sim_conA) | (with_reducible apply sim_sortSet))
local macro_rules | `(tactic| walk_at "fm2") => `(tactic| simp (config := { failIfUnchanged := false }) only [sm_app, sm_len, sm_at, sm_at0, sm_set, sm_set0, List.getElem?_cons_zero, List.getElem?_cons_succ, List.set_cons_zero, List.set_cons_succ, lstO_lst, Option.isSome_some, Option.map_some, Option.some.injEq, Prod.mk.injEq, Nat.add_assoc, Nat.reduceAdd, exists_eq_left', exists_eq_left, true_and, and_assoc, fRaiseX, fCVal, fNv, int1_i, fEither, fTruS, fIEnT, fMatch, fGoM, setAllT, fMakeK, fMakeVS, fMethJ, fEitherG, fListG, fSortKey, fSortSet, fConA])
local macro_rules | `(tactic| walk_at "fd") => `(tactic| (walk_at "fm"; walk_at "fm2"; walk_at "fm"; walk_at "fm2"; walk_at "fm"))

/-! ### works: their making -/
def fsCheck (CW : Addr) : FSp := fun ts M P PX => ∃ n lo hi : Int, ts = [.int n, .int lo, .int hi] ∧ (lo ≤ n → n ≤ hi → P .non M) ∧ ((n < lo ∨ hi < n) → PX CW (ixT "index" 0) M)
/-- what is asked of a class of works -/
structure WC (K : PySem.W.Frag) (C : Addr) (z : Str) : Prop where
  cl : Cls K C
  n1 : NoAttr K C "_first"
  n2 : NoAttr K C "_bridge"
  n3 : NoAttr K C "_amount"
  n4 : NoAttr K C "_last"
  n5 : NoAttr K C "_every"
  n6 : NoAttr K C "_times"
  mb : ∃ u, L2.Con K C "MAX_BRIDGE" (.int 23) u
  wd : ∃ u, L2.Con K C "WORD" (.str z) u
def f2T (p b : Int) : List (Str × Tr) := [("_first", .int p), ("_bridge", .int b)]
def f3T (p b a : Int) : List (Str × Tr) := [("_first", .int p), ("_bridge", .int b), ("_amount", .int a)]
def f5T (p b a e t : Int) : List (Str × Tr) := [("_first", .int p), ("_bridge", .int b), ("_amount", .int a), ("_last", .int (p + e * (t - 1))), ("_every", .int e), ("_times", .int t)]
def f4T (p b a l : Int) : List (Str × Tr) := [("_first", .int p), ("_bridge", .int b), ("_amount", .int a), ("_last", .int l)]
def f6T (p b a l e : Int) : List (Str × Tr) := [("_first", .int p), ("_bridge", .int b), ("_amount", .int a), ("_last", .int l), ("_every", .int e)]
def ok2 (p b : Int) : Prop := 0 ≤ p ∧ p ≤ 1000000000000000000 ∧ 0 ≤ b ∧ b ≤ 23
def ok3 (p b a : Int) : Prop := ok2 p b ∧ 1 ≤ a ∧ a ≤ 1000000000000000000
def ok5 (p b a e t : Int) : Prop := ok3 p b a ∧ 1 ≤ e ∧ e ≤ 1000000000000000000 ∧ 1 ≤ t ∧ t ≤ 50 ∧ p + e * (t - 1) ≤ 1000000000000000000
instance {p b : Int} : Decidable (ok2 p b) := by unfold ok2; infer_instance
instance {p b a : Int} : Decidable (ok3 p b a) := by unfold ok3; infer_instance
instance {p b a e t : Int} : Decidable (ok5 p b a e t) := by unfold ok5; infer_instance
/-- an error that leaves the object as it may -/
def BadW (CW C : Addr) (n : Nat) (M : Mem) (PX : PXF) : Prop := ∀ fs, belF 0 fs = true → PX CW (ixT "index" 0) (M.set n (.ins C fs))
def fsWi (CW C : Addr) : FSp := fun ts M P PX => ∃ (n : Nat) (p b : Int), ts = [.ref n, .int p, .int b] ∧ M[n]? = some (.ins C []) ∧ (ok2 p b → P .non (M.set n (.ins C (f2T p b)))) ∧ (¬ ok2 p b → BadW CW C n M PX)
def fsMi (CW C : Addr) : FSp := fun ts M P PX => ∃ (n : Nat) (p b a : Int), ts = [.ref n, .int p, .int b, .int a] ∧ M[n]? = some (.ins C []) ∧ (ok3 p b a → P .non (M.set n (.ins C (f3T p b a)))) ∧ (¬ ok3 p b a → BadW CW C n M PX)
def fsUi (CW C : Addr) : FSp := fun ts M P PX => ∃ (n : Nat) (p b a e t : Int), ts = [.ref n, .int p, .int b, .int a, .int e, .int t] ∧ M[n]? = some (.ins C []) ∧ (ok5 p b a e t → P .non (M.set n (.ins C (f5T p b a e t)))) ∧ (¬ ok5 p b a e t → BadW CW C n M PX)
section
variable {P : Program} {w : World} {K : PySem.W.Frag} {mg : Str → Option Value} {base : Heap} {CB CW C D : Addr} {mB : Value}
theorem set_id {M : Mem} {n : Nat} {o : O} (e : M[n]? = some o) : M.set n o = M := by
  obtain ⟨h, rfl⟩ := List.getElem?_eq_some_iff.mp e
  exact List.set_getElem_self h
theorem keepX_set {H : Hp} {ρ : List Addr} {M g : Mem} {PX : PXF} {D : Addr} {fs : List (Str × Tr)} {n : Nat} {o : O} (m : RM K H ρ M) (ho : O.bel M.length o = true) (b : belF M.length fs = true) (p : PX D fs (M.set n o)) : KeepX M.length PX D fs (M.set n o ++ g) :=
  ⟨M.length, Nat.le_refl _, b, by rw [← List.length_set (i := n) (a := o), List.take_left]; rw [List.length_set]; exact belM_set ho m.belM, by rw [← List.length_set (i := n) (a := o), List.take_left]; exact p⟩
theorem keepX_set0 {H : Hp} {ρ : List Addr} {M : Mem} {PX : PXF} {D : Addr} {fs : List (Str × Tr)} {n : Nat} {o : O} (m : RM K H ρ M) (ho : O.bel M.length o = true) (b : belF M.length fs = true) (p : PX D fs (M.set n o)) : KeepX M.length PX D fs (M.set n o) := by
  have := keepX_set (g := []) m ho b p
  rwa [List.append_nil] at this
theorem belF0 {n : Nat} {fs : List (Str × Tr)} (h : belF 0 fs = true) : belF n fs = true := belF_mono (Nat.zero_le _) h
theorem badW_keep {H : Hp} {ρ : List Addr} {M : Mem} {PX : PXF} {n : Nat} {fs : List (Str × Tr)} (m : RM K H ρ M) (b : BadW CW C n M PX) (h : belF 0 fs = true) : KeepX M.length PX CW (ixT "index" 0) (M.set n (.ins C fs)) :=
  keepX_set0 m (by unfold O.bel; exact belF0 h) rfl (b fs h)
theorem badW_same {H : Hp} {ρ : List Addr} {M : Mem} {PX : PXF} {n : Nat} {fs : List (Str × Tr)} (m : RM K H ρ M) (e : M[n]? = some (.ins C fs)) (b : BadW CW C n M PX) (h : belF 0 fs = true) : KeepX M.length PX CW (ixT "index" 0) M := by
  have := badW_keep m b h
  rwa [set_id e] at this
theorem lkN5 {p b a : Int} : (f3T p b a).lookup ("MAX_TIMES" : Str) = none := by unfold f3T; repeat (rw [List.lookup_cons]; rw [show (("MAX_TIMES" : Str) == _) = false by decide +kernel]); rfl
theorem pf2 (p b : Int) : putT "_bridge" (.int b) (putT "_first" (.int p) []) = f2T p b := by
  show putT "_bridge" (.int b) [("_first", .int p)] = _
  unfold putT
  rw [if_neg (by decide +kernel)]
  rfl
theorem scCheck : FnScope ["number", "low", "high"] ["number", "low", "high"] (L2.defScope sCheck) := ⟨rfl, rfl, rfl, by decide +kernel, rfl, by decide +kernel, by decide +kernel⟩
theorem ok_check {f : Addr} {fd : FuncData} (F : L2.Fun K "_check_range" "_check_range" sCheck f fd) (RW : RaisesX P w K mg base "InvalidWork" "index" CW) : FnOk P w K mg base (L2N.CX P w) 3 f fd ["number", "low", "high"] (spF K (fsCheck CW)) := by
  refine fun_okC F scCheck (fun vs H Q E h => ?_) (fun cdv A outer s H vs Q E hr h => ?_)
  · obtain ⟨ts, ρ, M, P, PX, r, m, ⟨n, lo, hi, rfl, _⟩, o, ox⟩ := h
    exact r.len
  · refine ⟨_, (pss_one (ps_if (pt_not (pt_chain op_le op_le (pv 1) (pv 0) (pv 2))) (pss_one (ps_raiseN RW rfl (L2N.takes_of rfl rfl rfl rfl) hr (by decide) (by rfl) (pa_cons pe_int pa_nil))) pss_nil)), ?_⟩
    obtain ⟨ts, ρ, M, P, PX, r, m, ⟨n, lo, hi, rfl, q1, q2⟩, o, ox⟩ := h
    have hE := keepX_of m ox
    try simp only [nox_K, cx_K]
    refine run_in r m o (by walk_at "sim") ?_
    walk_at "fd"
    by_cases h1 : lo ≤ n
    · rw [if_pos h1]
      by_cases h2 : n ≤ hi
      · rw [if_neg (by simpa using h2)]
        exact keep_same m rfl (q1 h1 h2)
      · rw [if_pos h2]
        exact ⟨by decide, by decide, keepX_same m rfl (q2 (by omega))⟩
    · rw [if_neg h1]
      exact ⟨by decide, by decide, keepX_same m rfl (q2 (by omega))⟩
structure Cw (P : Program) (w : World) (K : PySem.W.Frag) (mg : Str → Option Value) (base : Heap) (CW : Addr) : Prop where
  _check_range : CalX P w K mg base (L2N.CX P w) 3 "_check_range" (spF K (fsCheck CW))
theorem scWi : FnScope ["self", "position", "bridge"] ["self", "position", "bridge"] (L2.defScope sWi) := ⟨rfl, rfl, rfl, by decide +kernel, rfl, by decide +kernel, by decide +kernel⟩
theorem ok_Wi {f : Addr} {fd : FuncData} {z : Str} (F : L2.Fun K "__init__" "Work.__init__" sWi f fd) (T : BQ mg) (C : Cw P w K mg base CW) (Wc : WC K D z) : FnOk P w K mg base (L2N.CX P w) 4 f fd ["self", "position", "bridge"] (spF K (fsWi CW D)) := by
  refine fun_okC F scWi (fun vs H Q E h => ?_) (fun cdv A outer s H vs Q E hr h => ?_)
  · obtain ⟨ts, ρ, M, P, PX, r, m, ⟨n, p, b, rfl, _⟩, o, ox⟩ := h
    exact r.len
  · refine ⟨_, (pss_cons (ps_expr (pe_cX C._check_range hr (by first | decide | omega) (by rfl) (L2N.passes_call (L2N.takes_of rfl rfl rfl rfl) (fun _ _ _ _ h => h)) (pa_cons (pv 1) (pa_cons pe_int (pa_cons (pe_gc (v := .int 1000000000000000000) (by rfl) T.g_MAX_COUNT) pa_nil)))))
 (pss_cons (ps_expr (pe_cX C._check_range hr (by first | decide | omega) (by rfl) (L2N.passes_call (L2N.takes_of rfl rfl rfl rfl) (fun _ _ _ _ h => h)) (pa_cons (pv 2) (pa_cons pe_int (pa_cons (pe_con (pv 0) rfl) pa_nil)))))
 (pss_cons (ps_fld (pv 0) (pv 1) rfl)
 (pss_one (ps_fld (pv 0) (pv 2) rfl))))), ?_⟩
    obtain ⟨ts, ρ, M, P, PX, r, m, ⟨n, p, b, rfl, hn, q1, q2⟩, o, ox⟩ := h
    have hE := keepX_of m ox
    try simp only [nox_K, cx_K]
    refine run_in r m o (by walk_at "sim") ?_
    walk_at "fd"
    obtain ⟨u, hu⟩ := Wc.mb
    refine ⟨p, 0, _, rfl, fun h1 h2 => ?_, fun h => badW_same m hn (q2 (by unfold ok2; omega)) rfl⟩
    refine ⟨n, D, [], insM_of hn, Wc.cl, .int 23, _, u, hu, rfl, rfl, b, 0, 23, rfl, fun h3 h4 => ?_, fun h => badW_same m hn (q2 (by unfold ok2; omega)) rfl⟩
    refine ⟨n, D, [], insM_of hn, Wc.cl, Wc.n1, by decide, ?_⟩
    refine ⟨n, D, _, insM_of (set_same hn), Wc.cl, Wc.n2, by show 1 < 1000; decide, ?_⟩
    rw [List.set_set, pf2]
    exact keep_set m rfl rfl (q1 ⟨h1, h2, h3, h4⟩)
theorem pf3 (p b a : Int) : putT "_amount" (.int a) (f2T p b) = f3T p b a := by
  unfold f2T f3T
  unfold putT
  rw [if_neg (by decide +kernel)]
  unfold putT
  rw [if_neg (by decide +kernel)]
  rfl
theorem pf4 (p b a l : Int) : putT "_last" (.int l) (f3T p b a) = f4T p b a l := by
  unfold f3T f4T
  repeat (unfold putT; rw [if_neg (by decide +kernel)])
  rfl
theorem pf5 (p b a l e : Int) : putT "_every" (.int e) (f4T p b a l) = f6T p b a l e := by
  unfold f4T f6T
  repeat (unfold putT; rw [if_neg (by decide +kernel)])
  rfl
theorem pf6 (p b a e t : Int) : putT "_times" (.int t) (f6T p b a (p + e * (t - 1)) e) = f5T p b a e t := by
  unfold f6T f5T
  repeat (unfold putT; rw [if_neg (by decide +kernel)])
  rfl
theorem lk4 {p b a l : Int} : (f4T p b a l).lookup ("_last" : Str) = some (.int l) := by
  unfold f4T
  repeat (rw [List.lookup_cons, show (("_last" : Str) == _) = false by decide +kernel])
  rfl
theorem scMi : FnScope ["self", "position", "bridge", "amount"] ["self", "position", "bridge", "amount"] (L2.defScope sMi) := ⟨rfl, rfl, rfl, by decide +kernel, rfl, by decide +kernel, by decide +kernel⟩
theorem ok_Mi {f : Addr} {fd : FuncData} {z : Str} (F : L2.Fun K "__init__" "Mending.__init__" sMi f fd) (T : BQ mg) (C : Cw P w K mg base CW) (Wc : WC K D z) (BW : BasX P w K mg base (L2N.CX P w) 4 "Work" "__init__" (spF K (fsWi CW D))) :
    FnOk P w K mg base (L2N.CX P w) 5 f fd ["self", "position", "bridge", "amount"] (spF K (fsMi CW D)) := by
  refine fun_okC F scMi (fun vs H Q E h => ?_) (fun cdv A outer s H vs Q E hr h => ?_)
  · obtain ⟨ts, ρ, M, P, PX, r, m, ⟨n, p, b, a, rfl, _⟩, o, ox⟩ := h
    exact r.len
  · refine ⟨_, (pss_cons (ps_expr (pe_bX BW hr (by decide) (by rfl) (L2N.passes_call (L2N.takes_of rfl rfl rfl rfl) (fun _ _ _ _ h => h)) (pa_cons (pv 0) (pa_cons (pv 1) (pa_cons (pv 2) pa_nil)))))
 (pss_cons (ps_expr (pe_cX C._check_range hr (by first | decide | omega) (by rfl) (L2N.passes_call (L2N.takes_of rfl rfl rfl rfl) (fun _ _ _ _ h => h)) (pa_cons (pv 3) (pa_cons pe_int (pa_cons (pe_gc (v := .int 1000000000000000000) (by rfl) T.g_MAX_COUNT) pa_nil)))))
 (pss_one (ps_fld (pv 0) (pv 3) rfl)))), ?_⟩
    obtain ⟨ts, ρ, M, P, PX, r, m, ⟨n, p, b, a, rfl, hn, q1, q2⟩, o, ox⟩ := h
    have hE := keepX_of m ox
    try simp only [nox_K, cx_K]
    refine run_in r m o (by walk_at "sim") ?_
    walk_at "fd"
    refine ⟨n, p, b, rfl, hn, fun h1 => ?_, fun h fs hf => badW_keep m (q2 (fun z => h z.1)) hf⟩
    refine ⟨a, 1, _, rfl, fun h2 h3 => ?_, fun h => badW_keep m (q2 (fun z => by obtain ⟨⟨_, _, _, _⟩, z2, z3⟩ := z; omega)) rfl⟩
    refine ⟨n, D, _, insM_of (set_same hn), Wc.cl, Wc.n3, by show 2 < 1000; decide, ?_⟩
    rw [List.set_set, pf3]
    exact keep_set m rfl rfl (q1 ⟨h1, h2, h3⟩)
theorem scUi : FnScope ["self", "position", "bridge", "amount", "every", "times"] ["self", "position", "bridge", "amount", "every", "times"] (L2.defScope sUi) := ⟨rfl, rfl, rfl, by decide +kernel, rfl, by decide +kernel, by decide +kernel⟩
theorem ok_Ui {f : Addr} {fd : FuncData} {z : Str} (F : L2.Fun K "__init__" "Upkeep.__init__" sUi f fd) (T : BQ mg) (C : Cw P w K mg base CW) (Wc : WC K D z) (mt : ∃ u, L2.Con K D "MAX_TIMES" (.int 50) u) (BM : BasX P w K mg base (L2N.CX P w) 5 "Mending" "__init__" (spF K (fsMi CW D))) :
    FnOk P w K mg base (L2N.CX P w) 6 f fd ["self", "position", "bridge", "amount", "every", "times"] (spF K (fsUi CW D)) := by
  refine fun_okC F scUi (fun vs H Q E h => ?_) (fun cdv A outer s H vs Q E hr h => ?_)
  · obtain ⟨ts, ρ, M, P, PX, r, m, ⟨n, p, b, a, e, t, rfl, _⟩, o, ox⟩ := h
    exact r.len
  · refine ⟨_, (pss_cons (ps_expr (pe_bX BM hr (by decide) (by rfl) (L2N.passes_call (L2N.takes_of rfl rfl rfl rfl) (fun _ _ _ _ h => h)) (pa_cons (pv 0) (pa_cons (pv 1) (pa_cons (pv 2) (pa_cons (pv 3) pa_nil))))))
 (pss_cons (ps_expr (pe_cX C._check_range hr (by first | decide | omega) (by rfl) (L2N.passes_call (L2N.takes_of rfl rfl rfl rfl) (fun _ _ _ _ h => h)) (pa_cons (pv 4) (pa_cons pe_int (pa_cons (pe_gc (v := .int 1000000000000000000) (by rfl) T.g_MAX_COUNT) pa_nil)))))
 (pss_cons (ps_expr (pe_cX C._check_range hr (by first | decide | omega) (by rfl) (L2N.passes_call (L2N.takes_of rfl rfl rfl rfl) (fun _ _ _ _ h => h)) (pa_cons (pv 5) (pa_cons pe_int (pa_cons (pe_con (pv 0) rfl) pa_nil)))))
 (pss_cons (ps_fld (pv 0) (pe_op op_add (pv 1) (pe_op op_mul (pv 4) (pe_op op_sub (pv 5) pe_int))) rfl)
 (pss_cons (ps_expr (pe_cX C._check_range hr (by first | decide | omega) (by rfl) (L2N.passes_call (L2N.takes_of rfl rfl rfl rfl) (fun _ _ _ _ h => h)) (pa_cons (pe_fld (pv 0) rfl) (pa_cons pe_int (pa_cons (pe_gc (v := .int 1000000000000000000) (by rfl) T.g_MAX_COUNT) pa_nil)))))
 (pss_cons (ps_fld (pv 0) (pv 4) rfl)
 (pss_one (ps_fld (pv 0) (pv 5) rfl)))))))), ?_⟩
    obtain ⟨ts, ρ, M, P, PX, r, m, ⟨n, p, b, a, e, t, rfl, hn, q1, q2⟩, o, ox⟩ := h
    have hE := keepX_of m ox
    try simp only [nox_K, cx_K]
    refine run_in r m o (by walk_at "sim") ?_
    walk_at "fd"
    obtain ⟨u, hu⟩ := mt
    refine ⟨n, p, b, a, rfl, hn, fun h1 => ?_, fun h fs hf => badW_keep m (q2 (fun z => h z.1)) hf⟩
    refine ⟨e, 1, _, rfl, fun h2 h3 => ?_, fun h => badW_keep m (q2 (fun z => by obtain ⟨z1, z2, z3, z4, z5, z6⟩ := z; omega)) rfl⟩
    refine ⟨n, D, _, insM_of (set_same hn), Wc.cl, .int 50, _, u, hu, lkN5, rfl, t, 1, 50, rfl, fun h4 h5 => ?_, fun h => badW_keep m (q2 (fun z => by obtain ⟨z1, z2, z3, z4, z5, z6⟩ := z; omega)) rfl⟩
    have hm : 0 ≤ e * (t - 1) := Int.mul_nonneg (by omega) (by omega)
    have hp : 0 ≤ p := h1.1.1
    refine ⟨.inr ⟨by omega, by omega⟩, ?_⟩
    refine ⟨n, D, _, insM_of (set_same hn), Wc.cl, Wc.n4, by show 3 < 1000; decide, ?_⟩
    rw [List.set_set, pf4]
    refine ⟨n, D, _, insM_of (set_same hn), Wc.cl, Wc.n4, _, lk4, _, 0, _, rfl, fun _ h6 => ?_, fun h => badW_keep m (q2 (fun z => by obtain ⟨z1, z2, z3, z4, z5, z6⟩ := z; omega)) rfl⟩
    refine ⟨n, D, _, insM_of (set_same hn), Wc.cl, Wc.n5, by show 4 < 1000; decide, ?_⟩
    rw [List.set_set, pf5]
    refine ⟨n, D, _, insM_of (set_same hn), Wc.cl, Wc.n6, by show 5 < 1000; decide, ?_⟩
    rw [List.set_set, pf6]
    exact keep_set m rfl rfl (q1 ⟨h1, h2, h3, h4, h5, h6⟩)
end
end T1

set_option Elab.async false
set_option linter.all false
set_option maxRecDepth 100000
set_option maxHeartbeats 4000000
namespace T1
open PySem PySem.Spec PyProof.Rows L2 C8 Fm T2
local macro_rules | `(tactic| walk_at "sim1") => `(tactic| with_reducible first
  | exact sim_nil | exact sim_var | exact sim_int | exact sim_str | exact sim_bl | exact sim_non | exact sim_raw
  | apply sim_cons | apply sim_op | apply sim_un | apply sim_tup | apply sim_lst
  | apply sim_CB | apply sim_if | apply sim_test | apply sim_B | apply sim_not | apply sim_and | apply sim_or
  | apply sim_andV | apply sim_orV | apply sim_notV | apply sim_chain | exact sim_nopart | apply sim_part
  | apply sim_sl | apply sim_BML | apply sim_BMS | apply sim_BM0S | apply sim_M1 | apply sim_M0
  | apply sim_fmt | apply sim_joined | exact SimJ.nil | apply SimJ.cons
  | exact s_I0i | exact s_I0b | exact s_Ii | exact s_Ui | exact s_eq | exact s_ne | exact s_isN | exact s_notN | exact s_ixL | exact s_ixT | exact s_ixS
  | exact s_cat | exact s_catA | exact s_rep | exact s_repT | exact s_in | exact s_slL | exact s_slA | exact s_slS | exact s_addS | exact s_leS | exact s_ltS
  | exact c_len | exact c_lenS | exact c_list | exact c_tuple | exact c_int1 | exact c_intS | exact c_strI | exact c_max2 | exact c_min2
  | exact m_append | exact m_extend | exact m_split | exact m_join | exact m_0b | exact m_1b
  | apply sim_call | exact simSpF
  | exact sim_name | exact sim_gnil | apply sim_gcons | apply sim_gtup | apply sim_gsub | exact set_list
  | exact sim_next | apply sim_seq | apply sim_cut | exact sim_break | exact sim_cont | apply sim_drop | apply sim_ret | exact sim_retN
  | apply sim_ifS | exact sim_never | apply sim_asg | apply sim_par | apply sim_aug
  | apply sim_for | apply sim_while | apply i_list | apply i_tup | apply i_rng1 | apply i_rng2 | apply i_str | apply i_enum | apply i_zip
  | apply sim_lc | exact sim_yes | exact sim_namew (by decide) | exact sim_gnilw | apply sim_gconsw | apply sim_gtupw
  | apply sim_fld | apply sim_con | apply sim_setFld | apply sim_make | apply sim_prop | apply sim_meth | apply sim_cmeth | exact c_isi | apply sim_isiT | exact s_eqD | exact s_neD
  | walk_at "sim2")
local macro_rules | `(tactic| walk_at "sim2") => `(tactic| fail)
local macro_rules | `(tactic| walk_at "sim") => `(tactic| repeat' (walk_at "sim1"))
/-- open the trees' reading as far as it goes by itself -/
local macro_rules | `(tactic| walk_at "fm") => `(tactic| simp (config := { failIfUnchanged := false }) only [fVar, fC, fOp, fUn, fNil, fCons, fTup, fLst, fCB, fIf, fTest, fNot, fAnd, fOr, fAndV, fOrV, fNotV, fChain, fNoPart, fPart, fI, fI0, fU, fEq, fNe, fIsN, fNotN, fIxL, fIxT, fIxS,
  fCat, fCatA, fRep, fRepT, fSlL, fSlA, fSlS, fSl, fLen, fLenS, fList, fTuple, fIntS, fStrI, fMax2, fMin2, fAppend, fExtend, fIn, fBM, fMS, fBMS, fBM0S, fAddS, fLeS, fLtS, fM0b, fM1b, fSplit, fJoin, fJoined, fJs,
  fName, fGNil, fGCons, fGTup, fSetL, fGSub, fNext, fSeq, fCut, fBreak, fCont, fDrop, fRet, fRetN, fIfS, fAsg, fPar, fAug, fCall, fFld, fCon, fSetFld, fMake, fProp, fMeth, fCMeth, fIsi, fIsiT, fEqD, fNeD, insAt_ref, insO_ins, fFmt, fmtS_i, fmtS_s, fmtOk_i, fmtOk_s, fIL, fIT, fIR1, fIR2, fIS, fIEn, fIZ,
  startL, List.map_cons, List.map_nil, List.length_cons, List.length_nil, List.cons_append, List.nil_append, List.replicate, List.getElem?_cons_zero, List.getElem?_cons_succ, List.set_cons_zero, List.set_cons_succ, Nat.reduceSub, Nat.reduceAdd,
  Option.some.injEq, Tr.int.injEq, Tr.str.injEq, Tr.bl.injEq, Tr.tup.injEq, Tr.ref.injEq, List.cons.injEq, exists_eq_left, exists_eq_left', exists_eq_right, true_and, and_true, and_self, exists_and_left, tupOf_tup, eqS_ii, eqS_ss, eqS_bb, eqS_ni, eqS_in, eqS_nn, isStr_s, isN_n, isN_i, isN_b, isN_s, isN_t, isN_r, noRaw_n, noRaw_i, noRaw_b, noRaw_s, noRaw_t, noRaw_r, and_assoc, reduceIte, Bool.false_eq_true, exists_const, lstAt_ref, seqAt_ref, seqAt_tup, refAt_ref, lstO_lst, app_assoc2, len_app1, at_kk, at_00, set_k, set_00, Nat.add_assoc, Option.map_some, Prod.mk.injEq, int_cast_inj, Nat.zero_le, decide_eq_true_eq, Bool.not_eq_true', decide_eq_false_iff_not, Nat.add_zero, implies_true, forall_const, ite_true, ite_false, if_true, if_false, decide_true, decide_false, Bool.not_true, Bool.not_false, asg_len, Option.isSome_some])
local macro_rules | `(tactic| walk_at "bel") => `(tactic| first | rfl | (simp (config := { failIfUnchanged := false }) only [belM, O.bel, bels_strs, bels_ints, belL, Tr.bel, Tr.bels, Bool.and_true, Bool.true_and, Bool.and_self, decide_eq_true_eq, Bool.and_eq_true, true_and, and_true, List.length_cons, List.length_nil, Nat.reduceAdd]; try omega))

local macro_rules | `(tactic| walk_at "sim2") => `(tactic| first | exact simDrawn | assumption | apply sim_match | apply SimM2.cons | exact SimM2.nil | apply i_enumT | apply sim_truS | apply sim_listG | apply sim_lcG | apply sim_eitherG | apply sim_methG | apply sim_methJ | apply sim_either | apply sim_sortKey | apply sim_sortSet | apply sim_raiseX)
local macro_rules | `(tactic| walk_at "sim1") => `(tactic| first | (with_reducible apply sim_callX; assumption) | (with_reducible apply sim_methX; assumption) | (with_reducible apply sim_makeX; assumption) | (with_reducible apply sim_makeKX; assumption) | (with_reducible apply sim_makeVSX; assumption) | (with_reducible apply sim_conA) | (with_reducible apply sim_sortSet))
local macro_rules | `(tactic| walk_at "fm2") => `(tactic| simp (config := { failIfUnchanged := false }) only [sm_app, sm_len, sm_at, sm_at0, sm_set, sm_set0, List.getElem?_cons_zero, List.getElem?_cons_succ, List.set_cons_zero, List.set_cons_succ, lstO_lst, Option.isSome_some, Option.map_some, Option.some.injEq, Prod.mk.injEq, Nat.add_assoc, Nat.reduceAdd, exists_eq_left', exists_eq_left, true_and, and_assoc, fRaiseX, fCVal, fNv, int1_i, fEither, fTruS, fIEnT, fMatch, fGoM, setAllT, fMakeK, fMakeVS, fMethJ, fEitherG, fListG, fSortKey, fSortSet, fConA])
local macro_rules | `(tactic| walk_at "fd") => `(tactic| (walk_at "fm"; walk_at "fm2"; walk_at "fm"; walk_at "fm2"; walk_at "fm"))

/-! ### works: their lines and changes -/
inductive Row where
  | c (p b : Int)
  | m (p b a : Int)
  | u (p b a e t : Int)
structure Cl3 where
  CC : Addr
  CM : Addr
  CU : Addr
def Row.ok : Row → Prop
  | .c p b => ok2 p b
  | .m p b a => ok3 p b a
  | .u p b a e t => ok5 p b a e t
instance : ∀ {r : Row}, Decidable r.ok
  | .c p b => by unfold Row.ok; infer_instance
  | .m p b a => by unfold Row.ok; infer_instance
  | .u p b a e t => by unfold Row.ok; infer_instance
def Row.O (D : Cl3) : Row → O
  | .c p b => .ins D.CC (f2T p b)
  | .m p b a => .ins D.CM (f3T p b a)
  | .u p b a e t => .ins D.CU (f5T p b a e t)
def lineC (p b : Int) : Str := Str.empty ++ "at " ++ Str.ofString (toString p) ++ " " ++ "close" ++ " " ++ Str.ofString (toString b)
def lineM (p b a : Int) : Str := Str.empty ++ "at " ++ Str.ofString (toString p) ++ " " ++ "mend" ++ " " ++ Str.ofString (toString b) ++ " by " ++ Str.ofString (toString a)
def lineU (p b a e t : Int) : Str := Str.empty ++ lineM p b a ++ " every " ++ Str.ofString (toString e) ++ " times " ++ Str.ofString (toString t)
def Row.line : Row → Str
  | .c p b => lineC p b
  | .m p b a => lineM p b a
  | .u p b a e t => lineU p b a e t
def mendT (q b a : Int) : Tr := .tup [.str "mend", .int q, .int b, .int a]
def closeT (q b : Int) : Tr := .tup [.str "close", .int q, .int b]
def Row.ch : Row → List Tr
  | .c p b => [closeT p b]
  | .m p b a => [mendT p b a]
  | .u p b a e t => (List.range t.toNat).map fun (k : Nat) => mendT (p + (k : Int) * e) b a
def fsLnC (D : Cl3) : FSp := fun ts M P _ => ∃ (n : Nat) (p b : Int), ts = [.ref n] ∧ M[n]? = some (.ins D.CC (f2T p b)) ∧ ok2 p b ∧ P (.str (lineC p b)) M
def fsLnM (D : Cl3) : FSp := fun ts M P _ => ∃ (n : Nat) (p b a : Int), ts = [.ref n] ∧ M[n]? = some (.ins D.CM (f3T p b a)) ∧ ok3 p b a ∧ P (.str (lineM p b a)) M
def fsLnU (D : Cl3) : FSp := fun ts M P _ => ∃ (n : Nat) (p b a e t : Int), ts = [.ref n] ∧ M[n]? = some (.ins D.CU (f5T p b a e t)) ∧ ok5 p b a e t ∧ P (.str (lineU p b a e t)) M
def fsChC (D : Cl3) : FSp := fun ts M P _ => ∃ (n : Nat) (p b : Int), ts = [.ref n] ∧ M[n]? = some (.ins D.CC (f2T p b)) ∧ P (.ref M.length) (M ++ [.lst (Row.c p b).ch])
def fsChM (D : Cl3) : FSp := fun ts M P _ => ∃ (n : Nat) (p b a : Int), ts = [.ref n] ∧ M[n]? = some (.ins D.CM (f3T p b a)) ∧ P (.ref M.length) (M ++ [.lst (Row.m p b a).ch])
def fsChU (D : Cl3) : FSp := fun ts M P _ => ∃ (n : Nat) (p b a e t : Int), ts = [.ref n] ∧ M[n]? = some (.ins D.CU (f5T p b a e t)) ∧ ok5 p b a e t ∧ P (.ref M.length) (M ++ [.lst (Row.u p b a e t).ch])
def fsMat (C : Addr) : FSp := fun ts M P _ => ∃ (n : Nat) (q b a : Int) (fs : List (Str × Tr)), ts = [.ref n, .int q] ∧ M[n]? = some (.ins C fs) ∧ fs.lookup ("_bridge" : Str) = some (.int b) ∧ fs.lookup ("_amount" : Str) = some (.int a) ∧ fs.lookup ("WORD" : Str) = none ∧ P (mendT q b a) M
/-- the three classes -/
structure W3 (K : PySem.W.Frag) (D : Cl3) : Prop where
  c : WC K D.CC "close"
  m : WC K D.CM "mend"
  u : WC K D.CU "mend"
theorem lk_f2a {p b : Int} : (f2T p b).lookup ("_first" : Str) = some (.int p) := rfl
theorem lk_f2b {p b : Int} : (f2T p b).lookup ("_bridge" : Str) = some (.int b) := by
  unfold f2T
  repeat (rw [List.lookup_cons, show (("_bridge" : Str) == _) = false by decide +kernel])
  rfl
theorem lk_f2w {p b : Int} : (f2T p b).lookup ("WORD" : Str) = none := by
  unfold f2T
  repeat (rw [List.lookup_cons, show (("WORD" : Str) == _) = false by decide +kernel])
  rfl
theorem lk_f3a {p b a : Int} : (f3T p b a).lookup ("_first" : Str) = some (.int p) := rfl
theorem lk_f3b {p b a : Int} : (f3T p b a).lookup ("_bridge" : Str) = some (.int b) := by
  unfold f3T
  repeat (rw [List.lookup_cons, show (("_bridge" : Str) == _) = false by decide +kernel])
  rfl
theorem lk_f3c {p b a : Int} : (f3T p b a).lookup ("_amount" : Str) = some (.int a) := by
  unfold f3T
  repeat (rw [List.lookup_cons, show (("_amount" : Str) == _) = false by decide +kernel])
  rfl
theorem lk_f3w {p b a : Int} : (f3T p b a).lookup ("WORD" : Str) = none := by
  unfold f3T
  repeat (rw [List.lookup_cons, show (("WORD" : Str) == _) = false by decide +kernel])
  rfl
theorem lk_f5a {p b a e t : Int} : (f5T p b a e t).lookup ("_first" : Str) = some (.int p) := rfl
theorem lk_f5b {p b a e t : Int} : (f5T p b a e t).lookup ("_bridge" : Str) = some (.int b) := by
  unfold f5T
  repeat (rw [List.lookup_cons, show (("_bridge" : Str) == _) = false by decide +kernel])
  rfl
theorem lk_f5c {p b a e t : Int} : (f5T p b a e t).lookup ("_amount" : Str) = some (.int a) := by
  unfold f5T
  repeat (rw [List.lookup_cons, show (("_amount" : Str) == _) = false by decide +kernel])
  rfl
theorem lk_f5e {p b a e t : Int} : (f5T p b a e t).lookup ("_every" : Str) = some (.int e) := by
  unfold f5T
  repeat (rw [List.lookup_cons, show (("_every" : Str) == _) = false by decide +kernel])
  rfl
theorem lk_f5t {p b a e t : Int} : (f5T p b a e t).lookup ("_times" : Str) = some (.int t) := by
  unfold f5T
  repeat (rw [List.lookup_cons, show (("_times" : Str) == _) = false by decide +kernel])
  rfl
theorem lk_f5w {p b a e t : Int} : (f5T p b a e t).lookup ("WORD" : Str) = none := by
  unfold f5T
  repeat (rw [List.lookup_cons, show (("WORD" : Str) == _) = false by decide +kernel])
  rfl
theorem noM {fs : List (Str × Tr)} : ∀ {x : Str}, fs.lookup x = none → fs.lookup x = none := fun h => h
theorem len19 {i : Int} (h0 : 0 ≤ i) (h1 : i ≤ 1000000000000000000) : (Str.ofString (toString i)).length ≤ 19 := PyProof.Rows.toString_length_le h0 (by decide) (by omega)
theorem lg19 {i : Int} (h0 : 0 ≤ i) (h1 : i ≤ 1000000000000000000) : i.natAbs.log2 < 1920 := Nat.lt_of_lt_of_le (PySem.Flt.log2_lt_of (k := 64) (by decide) (by omega)) (by decide)
theorem z_0 : (Str.empty : Str).length = 0 := rfl
theorem z_at : ("at " : Str).length = 3 := by decide +kernel
theorem z_sp : (" " : Str).length = 1 := by decide +kernel
theorem z_cl : ("close" : Str).length = 5 := by decide +kernel
theorem z_me : ("mend" : Str).length = 4 := by decide +kernel
theorem z_by : (" by " : Str).length = 4 := by decide +kernel
theorem z_ev : (" every " : Str).length = 7 := by decide +kernel
theorem z_ti : (" times " : Str).length = 7 := by decide +kernel
theorem len_lineC {p b : Int} (h : ok2 p b) : (lineC p b).length ≤ 100 := by
  obtain ⟨h1, h2, h3, h4⟩ := h
  have y1 := len19 h1 h2
  have y2 := len19 h3 (by omega)
  simp only [lineC, Str.length_append, z_0, z_at, z_sp, z_cl]
  omega
theorem len_lineM {p b a : Int} (h : ok3 p b a) : (lineM p b a).length ≤ 100 := by
  obtain ⟨⟨h1, h2, h3, h4⟩, h5, h6⟩ := h
  have y1 := len19 h1 h2
  have y2 := len19 h3 (by omega)
  have y3 := len19 (i := a) (by omega) h6
  simp only [lineM, Str.length_append, z_0, z_at, z_sp, z_me, z_by]
  omega
theorem len_lineU {p b a e t : Int} (h : ok5 p b a e t) : (lineU p b a e t).length ≤ 200 := by
  obtain ⟨h1, h2, h3, h4, h5, h6⟩ := h
  have y1 := len_lineM h1
  have y2 := len19 (i := e) (by omega) h3
  have y3 := len19 (i := t) (by omega) (by omega)
  simp only [lineU, Str.length_append, z_0, z_ev, z_ti]
  omega
section
variable {P : Program} {w : World} {K : PySem.W.Frag} {mg : Str → Option Value} {base : Heap} {CB CW C : Addr} {mB : Value} {D : Cl3}
theorem scWline : FnScope ["self"] ["self"] (L2.defScope sWline) := ⟨rfl, rfl, rfl, by decide +kernel, rfl, by decide +kernel, by decide +kernel⟩
theorem ok_lnC {f : Addr} {fd : FuncData} (F : L2.Fun K "line" "Work.line" sWline f fd) (T : BQ mg) (D3 : W3 K D) : FnOk P w K mg base L2.CX0 1 f fd ["self"] (spF K (fsLnC D)) := by
  refine F.ok scWline (fun vs H Q E h => ?_) (fun cdv A outer s H vs Q E hr h => ?_)
  · obtain ⟨ts, ρ, M, P, PX, r, m, ⟨n, p, b, rfl, _⟩, o, ox⟩ := h
    exact r.len
  · refine ⟨_, (pss_one (ps_ret (pe_joined (PJ.cons pe_str (PJ.cons (pe_fmt (pe_fld (pv 0) rfl)) (PJ.cons pe_str (PJ.cons (pe_fmt (pe_con (pv 0) rfl)) (PJ.cons pe_str (PJ.cons (pe_fmt (pe_fld (pv 0) rfl)) PJ.nil))))))))), ?_⟩
    obtain ⟨ts, ρ, M, P, PX, r, m, ⟨n, p, b, rfl, hn, hk, q⟩, o, ox⟩ := h
    try simp only [nox_K, cx_K]
    refine run_in r m o (by walk_at "sim") ?_
    obtain ⟨u, hu⟩ := D3.c.wd
    have hz := len_lineC hk
    obtain ⟨h1, h2, h3, h4⟩ := hk
    have y1 := len19 h1 h2
    have y2 := len19 h3 (by omega)
    walk_at "fd"
    refine ⟨?_, n, D.CC, _, insM_of hn, D3.c.cl, D3.c.n1, _, lk_f2a, lg19 h1 h2, ?_, ?_, n, D.CC, _, insM_of hn, D3.c.cl, .str "close", _, u, hu, lk_f2w, rfl, ?_, ?_, ?_, n, D.CC, _, insM_of hn, D3.c.cl, D3.c.n2, _, lk_f2b, lg19 h3 (by omega), ?_, keep_same m rfl q⟩
    all_goals (first | rfl | (simp only [fmtS_i, fmtS_s, fmtOk_s, sizeLine_eq, Str.length_append, z_0, z_at, z_sp, z_cl]; omega))
theorem scMline : FnScope ["self"] ["self"] (L2.defScope sMline) := ⟨rfl, rfl, rfl, by decide +kernel, rfl, by decide +kernel, by decide +kernel⟩
theorem ok_lnM {f : Addr} {fd : FuncData} (F : L2.Fun K "line" "Mending.line" sMline f fd) (T : BQ mg) (D3 : W3 K D) : FnOk P w K mg base L2.CX0 1 f fd ["self"] (spF K (fsLnM D)) := by
  refine F.ok scMline (fun vs H Q E h => ?_) (fun cdv A outer s H vs Q E hr h => ?_)
  · obtain ⟨ts, ρ, M, P, PX, r, m, ⟨n, p, b, a, rfl, _⟩, o, ox⟩ := h
    exact r.len
  · refine ⟨_, (pss_one (ps_ret (pe_joined (PJ.cons pe_str (PJ.cons (pe_fmt (pe_fld (pv 0) rfl)) (PJ.cons pe_str (PJ.cons (pe_fmt (pe_con (pv 0) rfl)) (PJ.cons pe_str (PJ.cons (pe_fmt (pe_fld (pv 0) rfl)) (PJ.cons pe_str (PJ.cons (pe_fmt (pe_fld (pv 0) rfl)) PJ.nil))))))))))), ?_⟩
    obtain ⟨ts, ρ, M, P, PX, r, m, ⟨n, p, b, a, rfl, hn, hk, q⟩, o, ox⟩ := h
    try simp only [nox_K, cx_K]
    refine run_in r m o (by walk_at "sim") ?_
    obtain ⟨u, hu⟩ := D3.m.wd
    obtain ⟨⟨h1, h2, h3, h4⟩, h5, h6⟩ := hk
    have y1 := len19 h1 h2
    have y2 := len19 h3 (by omega)
    have y3 := len19 (i := a) (by omega) h6
    walk_at "fd"
    refine ⟨?_, n, D.CM, _, insM_of hn, D3.m.cl, D3.m.n1, _, lk_f3a, lg19 h1 h2, ?_, ?_, n, D.CM, _, insM_of hn, D3.m.cl, .str "mend", _, u, hu, lk_f3w, rfl, ?_, ?_, ?_, n, D.CM, _, insM_of hn, D3.m.cl, D3.m.n2, _, lk_f3b, lg19 h3 (by omega), ?_, ?_, n, D.CM, _, insM_of hn, D3.m.cl, D3.m.n3, _, lk_f3c, lg19 (by omega) h6, ?_, keep_same m rfl q⟩
    all_goals (first | rfl | (simp only [fmtS_i, fmtS_s, fmtOk_s, sizeLine_eq, Str.length_append, z_0, z_at, z_sp, z_me, z_by]; omega))
end
end T1

set_option Elab.async false
set_option linter.all false
set_option maxRecDepth 100000
set_option maxHeartbeats 4000000
namespace T1
open PySem PySem.Spec PyProof.Rows L2 C8 Fm T2
local macro_rules | `(tactic| walk_at "sim1") => `(tactic| with_reducible first
  | exact sim_nil | exact sim_var | exact sim_int | exact sim_str | exact sim_bl | exact sim_non | exact sim_raw
  | apply sim_cons | apply sim_op | apply sim_un | apply sim_tup | apply sim_lst
  | apply sim_CB | apply sim_if | apply sim_test | apply sim_B | apply sim_not | apply sim_and | apply sim_or
  | apply sim_andV | apply sim_orV | apply sim_notV | apply sim_chain | exact sim_nopart | apply sim_part
  | apply sim_sl | apply sim_BML | apply sim_BMS | apply sim_BM0S | apply sim_M1 | apply sim_M0
  | apply sim_fmt | apply sim_joined | exact SimJ.nil | apply SimJ.cons
  | exact s_I0i | exact s_I0b | exact s_Ii | exact s_Ui | exact s_eq | exact s_ne | exact s_isN | exact s_notN | exact s_ixL | exact s_ixT | exact s_ixS
  | exact s_cat | exact s_catA | exact s_rep | exact s_repT | exact s_in | exact s_slL | exact s_slA | exact s_slS | exact s_addS | exact s_leS | exact s_ltS
  | exact c_len | exact c_lenS | exact c_list | exact c_tuple | exact c_int1 | exact c_intS | exact c_strI | exact c_max2 | exact c_min2
  | exact m_append | exact m_extend | exact m_split | exact m_join | exact m_0b | exact m_1b
  | apply sim_call | exact simSpF
  | exact sim_name | exact sim_gnil | apply sim_gcons | apply sim_gtup | apply sim_gsub | exact set_list
  | exact sim_next | apply sim_seq | apply sim_cut | exact sim_break | exact sim_cont | apply sim_drop | apply sim_ret | exact sim_retN
  | apply sim_ifS | exact sim_never | apply sim_asg | apply sim_par | apply sim_aug
  | apply sim_for | apply sim_while | apply i_list | apply i_tup | apply i_rng1 | apply i_rng2 | apply i_str | apply i_enum | apply i_zip
  | apply sim_lc | exact sim_yes | exact sim_namew (by decide) | exact sim_gnilw | apply sim_gconsw | apply sim_gtupw
  | apply sim_fld | apply sim_con | apply sim_setFld | apply sim_make | apply sim_prop | apply sim_meth | apply sim_cmeth | exact c_isi | apply sim_isiT | exact s_eqD | exact s_neD
  | walk_at "sim2")
local macro_rules | `(tactic| walk_at "sim2") => `(tactic| fail)
local macro_rules | `(tactic| walk_at "sim") => `(tactic| repeat' (walk_at "sim1"))
/-- open the trees' reading as far as it goes by itself -/
local macro_rules | `(tactic| walk_at "fm") => `(tactic| simp (config := { failIfUnchanged := false }) only [fVar, fC, fOp, fUn, fNil, fCons, fTup, fLst, fCB, fIf, fTest, fNot, fAnd, fOr, fAndV, fOrV, fNotV, fChain, fNoPart, fPart, fI, fI0, fU, fEq, fNe, fIsN, fNotN, fIxL, fIxT, fIxS,
  fCat, fCatA, fRep, fRepT, fSlL, fSlA, fSlS, fSl, fLen, fLenS, fList, fTuple, fIntS, fStrI, fMax2, fMin2, fAppend, fExtend, fIn, fBM, fMS, fBMS, fBM0S, fAddS, fLeS, fLtS, fM0b, fM1b, fSplit, fJoin, fJoined, fJs,
  fName, fGNil, fGCons, fGTup, fSetL, fGSub, fNext, fSeq, fCut, fBreak, fCont, fDrop, fRet, fRetN, fIfS, fAsg, fPar, fAug, fCall, fFld, fCon, fSetFld, fMake, fProp, fMeth, fCMeth, fIsi, fIsiT, fEqD, fNeD, insAt_ref, insO_ins, fFmt, fmtS_i, fmtS_s, fmtOk_i, fmtOk_s, fIL, fIT, fIR1, fIR2, fIS, fIEn, fIZ,
  startL, List.map_cons, List.map_nil, List.length_cons, List.length_nil, List.cons_append, List.nil_append, List.replicate, List.getElem?_cons_zero, List.getElem?_cons_succ, List.set_cons_zero, List.set_cons_succ, Nat.reduceSub, Nat.reduceAdd,
  Option.some.injEq, Tr.int.injEq, Tr.str.injEq, Tr.bl.injEq, Tr.tup.injEq, Tr.ref.injEq, List.cons.injEq, exists_eq_left, exists_eq_left', exists_eq_right, true_and, and_true, and_self, exists_and_left, tupOf_tup, eqS_ii, eqS_ss, eqS_bb, eqS_ni, eqS_in, eqS_nn, isStr_s, isN_n, isN_i, isN_b, isN_s, isN_t, isN_r, noRaw_n, noRaw_i, noRaw_b, noRaw_s, noRaw_t, noRaw_r, and_assoc, reduceIte, Bool.false_eq_true, exists_const, lstAt_ref, seqAt_ref, seqAt_tup, refAt_ref, lstO_lst, app_assoc2, len_app1, at_kk, at_00, set_k, set_00, Nat.add_assoc, Option.map_some, Prod.mk.injEq, int_cast_inj, Nat.zero_le, decide_eq_true_eq, Bool.not_eq_true', decide_eq_false_iff_not, Nat.add_zero, implies_true, forall_const, ite_true, ite_false, if_true, if_false, decide_true, decide_false, Bool.not_true, Bool.not_false, asg_len, Option.isSome_some])
local macro_rules | `(tactic| walk_at "bel") => `(tactic| first | rfl | (simp (config := { failIfUnchanged := false }) only [belM, O.bel, bels_strs, bels_ints, belL, Tr.bel, Tr.bels, Bool.and_true, Bool.true_and, Bool.and_self, decide_eq_true_eq, Bool.and_eq_true, true_and, and_true, List.length_cons, List.length_nil, Nat.reduceAdd]; try omega))

local macro_rules | `(tactic| walk_at "sim2") => `(tactic| first | exact simDrawn | assumption | apply sim_match | apply SimM2.cons | exact SimM2.nil | apply i_enumT | apply sim_truS | apply sim_listG | apply sim_lcG | apply sim_eitherG | apply sim_methG | apply sim_methJ | apply sim_either | apply sim_sortKey | apply sim_sortSet | apply sim_raiseX)
local macro_rules | `(tactic| walk_at "sim1") => `(tactic| first | (with_reducible apply sim_callX; assumption) | (with_reducible apply sim_methX; assumption) | (with_reducible apply sim_makeX; assumption) | (with_reducible apply sim_makeKX; assumption) | (with_reducible apply sim_makeVSX; assumption) | (with_reducible apply sim_conA) | (with_reducible apply sim_sortSet))
local macro_rules | `(tactic| walk_at "fm2") => `(tactic| simp (config := { failIfUnchanged := false }) only [sm_app, sm_len, sm_at, sm_at0, sm_set, sm_set0, List.getElem?_cons_zero, List.getElem?_cons_succ, List.set_cons_zero, List.set_cons_succ, lstO_lst, Option.isSome_some, Option.map_some, Option.some.injEq, Prod.mk.injEq, Nat.add_assoc, Nat.reduceAdd, exists_eq_left', exists_eq_left, true_and, and_assoc, fRaiseX, fCVal, fNv, int1_i, fEither, fTruS, fIEnT, fMatch, fGoM, setAllT, fMakeK, fMakeVS, fMethJ, fEitherG, fListG, fSortKey, fSortSet, fConA])
local macro_rules | `(tactic| walk_at "fd") => `(tactic| (walk_at "fm"; walk_at "fm2"; walk_at "fm"; walk_at "fm2"; walk_at "fm"))

section
variable {P : Program} {w : World} {K : PySem.W.Frag} {mg : Str → Option Value} {base : Heap} {CB CW C : Addr} {mB : Value} {D : Cl3}
theorem lc_R {L : Fm.Loc} {M : Mem} {P : PF} {fg : FG} {ft : FT} {fe : FE} {vs : List Nat} {fa : FA} {k : Nat} (F : Tr → Option Tr) (h : ∀ R : FIt → Mem → Prop, R ⟨rngT 0 k, fun _ => True⟩ M → fIR1 fa L M R) (hM : belM M.length M = true) (hn : k ≤ sizeLine) (hF : ∀ t ∈ rngT 0 k, ∀ y, F t = some y → Tr.bel M.length y = true)
    (step : ∀ t ∈ rngT 0 k, LcStep F fg ft fe vs L M t) (fin : P (.ref M.length) (M ++ [.lst ((rngT 0 k).filterMap F)])) : fLc (fIR1 fa) fg ft fe vs L M P :=
  h _ (Fm.lc_core (it := ⟨rngT 0 k, fun _ => True⟩) F trivial hM (by show (rngT 0 k).length ≤ _; rw [rngT_len]; exact hn) hF step fin)
/-- what a turn of an upkeep changes -/
def upT (p b a e : Int) : Tr → Option Tr
  | .int i => some (mendT (p + i * e) b a)
  | _ => none
theorem pe_fldK {X : Cx} {o : Expr} {f : Str} {pos : Pos} {ta : TE} (hK : X.K = K) (he : PE X o ta) (hb : attributeBase o f X.env (eval o X.env) = eval o X.env) : PE X (.Attribute o f pos) (tFld K ta f) := by
  subst hK
  exact pe_fld he hb
theorem lk_f3n {p b a : Int} : (f3T p b a).lookup ("_mending_at" : Str) = none := by
  unfold f3T
  repeat (rw [List.lookup_cons, show (("_mending_at" : Str) == _) = false by decide +kernel])
  rfl
theorem lk_f5n {p b a e t : Int} : (f5T p b a e t).lookup ("_mending_at" : Str) = none := by
  unfold f5T
  repeat (rw [List.lookup_cons, show (("_mending_at" : Str) == _) = false by decide +kernel])
  rfl
theorem scUline : FnScope ["self", "start"] ["self"] (L2.defScope sUline) := ⟨rfl, rfl, rfl, by decide +kernel, rfl, by decide +kernel, by decide +kernel⟩
theorem ok_lnU {f : Addr} {fd : FuncData} (F : L2.Fun K "line" "Upkeep.line" sUline f fd) (T : BQ mg) (D3 : W3 K D) : FnOk P w K mg base L2.CX0 1 f fd ["self"] (spF K (fsLnU D)) := by
  refine F.ok scUline (fun vs H Q E h => ?_) (fun cdv A outer s H vs Q E hr h => ?_)
  · obtain ⟨ts, ρ, M, P, PX, r, m, ⟨n, p, b, a, e, t, rfl, _⟩, o, ox⟩ := h
    exact r.len
  · refine ⟨_, (pss_cons (ps_set (i := 1) scUline.nd rfl (Or.inl rfl) (pe_joined (PJ.cons pe_str (PJ.cons (pe_fmt (pe_fld (pv 0) rfl)) (PJ.cons pe_str (PJ.cons (pe_fmt (pe_con (pv 0) rfl)) (PJ.cons pe_str (PJ.cons (pe_fmt (pe_fld (pv 0) rfl)) (PJ.cons pe_str (PJ.cons (pe_fmt (pe_fld (pv 0) rfl)) PJ.nil))))))))))
 (pss_one (ps_ret (pe_joined (PJ.cons (pe_fmt (pv 1)) (PJ.cons pe_str (PJ.cons (pe_fmt (pe_fld (pv 0) rfl)) (PJ.cons pe_str (PJ.cons (pe_fmt (pe_fld (pv 0) rfl)) PJ.nil))))))))), ?_⟩
    obtain ⟨ts, ρ, M, P, PX, r, m, ⟨n, p, b, a, e, t, rfl, hn, hk, q⟩, o, ox⟩ := h
    try simp only [nox_K, cx_K]
    refine run_in r m o (by walk_at "sim") ?_
    obtain ⟨u, hu⟩ := D3.u.wd
    have hl := len_lineM hk.1
    have hz := len_lineU hk
    obtain ⟨⟨⟨h1, h2, h3, h4⟩, h5, h6⟩, h7, h8, h9, h10, h11⟩ := hk
    have y1 := len19 h1 h2
    have y2 := len19 h3 (by omega)
    have y3 := len19 (i := a) (by omega) h6
    have y4 := len19 (i := e) (by omega) h8
    have y5 := len19 (i := t) (by omega) (by omega)
    walk_at "fd"
    refine ⟨?_, n, D.CU, _, insM_of hn, D3.u.cl, D3.u.n1, _, lk_f5a, lg19 h1 h2, ?_, ?_, n, D.CU, _, insM_of hn, D3.u.cl, .str "mend", _, u, hu, lk_f5w, rfl, ?_, ?_, ?_, n, D.CU, _, insM_of hn, D3.u.cl, D3.u.n2, _, lk_f5b, lg19 h3 (by omega), ?_, ?_, n, D.CU, _, insM_of hn, D3.u.cl, D3.u.n3, _, lk_f5c, lg19 (by omega) h6, ?_,
      ?_, ?_, ?_, n, D.CU, _, insM_of hn, D3.u.cl, D3.u.n5, _, lk_f5e, lg19 (by omega) h8, ?_, ?_, n, D.CU, _, insM_of hn, D3.u.cl, D3.u.n6, _, lk_f5t, lg19 (by omega) (by omega), ?_, keep_same m rfl q⟩
    all_goals (first | rfl | (simp only [fmtS_i, fmtS_s, fmtOk_s, sizeLine_eq, Str.length_append, z_0, z_at, z_sp, z_me, z_by, z_ev, z_ti]; omega))
theorem scCch : FnScope ["self"] ["self"] (L2.defScope sCch) := ⟨rfl, rfl, rfl, by decide +kernel, rfl, by decide +kernel, by decide +kernel⟩
theorem ok_chC {f : Addr} {fd : FuncData} (F : L2.Fun K "_changes_planned" "Closing._changes_planned" sCch f fd) (T : BQ mg) (D3 : W3 K D) : FnOk P w K mg base L2.CX0 1 f fd ["self"] (spF K (fsChC D)) := by
  refine F.ok scCch (fun vs H Q E h => ?_) (fun cdv A outer s H vs Q E hr h => ?_)
  · obtain ⟨ts, ρ, M, P, PX, r, m, ⟨n, p, b, rfl, _⟩, o, ox⟩ := h
    exact r.len
  · refine ⟨_, (pss_one (ps_ret (pe_lst (pa_cons (pe_tup (pa_cons (pe_con (pv 0) rfl) (pa_cons (pe_fld (pv 0) rfl) (pa_cons (pe_fld (pv 0) rfl) pa_nil)))) pa_nil)))), ?_⟩
    obtain ⟨ts, ρ, M, P, PX, r, m, ⟨n, p, b, rfl, hn, q⟩, o, ox⟩ := h
    try simp only [nox_K, cx_K]
    refine run_in r m o (by walk_at "sim") ?_
    obtain ⟨u, hu⟩ := D3.c.wd
    walk_at "fd"
    refine ⟨n, D.CC, _, insM_of hn, D3.c.cl, .str "close", _, u, hu, lk_f2w, rfl, n, D.CC, _, insM_of hn, D3.c.cl, D3.c.n1, _, lk_f2a, n, D.CC, _, insM_of hn, D3.c.cl, D3.c.n2, _, lk_f2b, by rw [sizeLine_eq]; decide, by rw [sizeLine_eq]; decide, ?_⟩
    exact keep_whole (by simp) (by simp [Tr.bel]) (by simpa using belM_ext m.belM (g := [.lst [.tup [.str "close", .int p, .int b]]]) (by rfl)) q
theorem scMat : FnScope ["self", "position"] ["self", "position"] (L2.defScope sMat) := ⟨rfl, rfl, rfl, by decide +kernel, rfl, by decide +kernel, by decide +kernel⟩
theorem ok_mat {f : Addr} {fd : FuncData} (F : L2.Fun K "_mending_at" "Mending._mending_at" sMat f fd) (T : BQ mg) (Wc : WC K C "mend") : FnOk P w K mg base L2.CX0 1 f fd ["self", "position"] (spF K (fsMat C)) := by
  refine F.ok scMat (fun vs H Q E h => ?_) (fun cdv A outer s H vs Q E hr h => ?_)
  · obtain ⟨ts, ρ, M, P, PX, r, m, ⟨n, q, b, a, fs, rfl, _⟩, o, ox⟩ := h
    exact r.len
  · refine ⟨_, (pss_one (ps_ret (pe_tup (pa_cons (pe_con (pv 0) rfl) (pa_cons (pv 1) (pa_cons (pe_fld (pv 0) rfl) (pa_cons (pe_fld (pv 0) rfl) pa_nil))))))), ?_⟩
    obtain ⟨ts, ρ, M, P, PX, r, m, ⟨n, x, b, a, fs, rfl, hn, l1, l2, l3, q⟩, o, ox⟩ := h
    try simp only [nox_K, cx_K]
    refine run_in r m o (by walk_at "sim") ?_
    obtain ⟨u, hu⟩ := Wc.wd
    walk_at "fd"
    exact ⟨n, C, _, insM_of hn, Wc.cl, .str "mend", _, u, hu, l3, rfl, n, C, _, insM_of hn, Wc.cl, Wc.n2, _, l1, n, C, _, insM_of hn, Wc.cl, Wc.n3, _, l2, by rw [sizeLine_eq]; decide, keep_same m rfl q⟩
theorem scMch : FnScope ["self"] ["self"] (L2.defScope sMch) := ⟨rfl, rfl, rfl, by decide +kernel, rfl, by decide +kernel, by decide +kernel⟩
theorem ok_chM {f : Addr} {fd : FuncData} (F : L2.Fun K "_changes_planned" "Mending._changes_planned" sMch f fd) (T : BQ mg) (D3 : W3 K D) (MT : MetX P w K mg base L2.CX0 1 D.CM "_mending_at" (spF K (fsMat D.CM))) : FnOk P w K mg base L2.CX0 2 f fd ["self"] (spF K (fsChM D)) := by
  refine F.ok scMch (fun vs H Q E h => ?_) (fun cdv A outer s H vs Q E hr h => ?_)
  · obtain ⟨ts, ρ, M, P, PX, r, m, ⟨n, p, b, a, rfl, _⟩, o, ox⟩ := h
    exact r.len
  · refine ⟨_, (pss_one (ps_ret (pe_lst (pa_cons (pe_mX MT hr (by first | decide | omega) L2.pass0 (pv 0) (pa_cons (pe_fld (pv 0) rfl) pa_nil)) pa_nil)))), ?_⟩
    obtain ⟨ts, ρ, M, P, PX, r, m, ⟨n, p, b, a, rfl, hn, q⟩, o, ox⟩ := h
    try simp only [nox_K, cx_K]
    refine run_in r m o (by walk_at "sim") ?_
    walk_at "fd"
    refine ⟨n, _, insM_of hn, lk_f3n, n, D.CM, _, insM_of hn, D3.m.cl, D3.m.n1, _, lk_f3a, n, p, b, a, _, rfl, hn, lk_f3b, lk_f3c, lk_f3w, by rw [sizeLine_eq]; decide, ?_⟩
    exact keep_whole (by simp) (by simp [Tr.bel]) (by simpa using belM_ext m.belM (g := [.lst [mendT p b a]]) (by rfl)) q
theorem scUch : FnScope ["self", "turn"] ["self"] (L2.defScope sUch) := ⟨rfl, rfl, rfl, by decide +kernel, rfl, by decide +kernel, by decide +kernel⟩
theorem ok_chU {f : Addr} {fd : FuncData} (F : L2.Fun K "_changes_planned" "Upkeep._changes_planned" sUch f fd) (T : BQ mg) (D3 : W3 K D) (MT : MetX P w K mg base L2.CX0 1 D.CU "_mending_at" (spF K (fsMat D.CU))) : FnOk P w K mg base L2.CX0 2 f fd ["self"] (spF K (fsChU D)) := by
  refine F.ok scUch (fun vs H Q E h => ?_) (fun cdv A outer s H vs Q E hr h => ?_)
  · obtain ⟨ts, ρ, M, P, PX, r, m, ⟨n, p, b, a, e, t, rfl, _⟩, o, ox⟩ := h
    exact r.len
  · refine ⟨_, (pss_one (ps_ret (pe_lc (own := [("turn", 1)]) (g := gName 1) rfl scUch.nd (pi_range1 (by rfl) T.range (pa_cons (pe_fld (pv 0) rfl) pa_nil)) (blkOk_by (N := ["self", "turn"]) (sc := L2.defScope sUch) (by decide +kernel)) (fun _ _ _ _ _ => pg_name (i := 1) scUch.nd rfl (Or.inl rfl)) (fun _ _ _ _ _ => pts_nil) (fun _ _ _ _ _ => (pe_mX MT hr (by first | decide | omega) L2.pass0 (pv 0) (pa_cons (pe_op op_add (pe_fldK (K := K) rfl (pv 0) rfl) (pe_op op_mul (pv 1) (pe_fldK (K := K) rfl (pv 0) rfl))) pa_nil)))))), ?_⟩
    obtain ⟨ts, ρ, M, P, PX, r, m, ⟨n, p, b, a, e, t, rfl, hn, hk, q⟩, o, ox⟩ := h
    try simp only [nox_K, cx_K]
    refine run_in r m o (by walk_at "sim") ?_
    walk_at "fd"
    obtain ⟨h1, h2, h3, h4, h5, h6⟩ := hk
    have hp := h1.1
    have hF : (rngT 0 t.toNat).filterMap (upT p b a e) = (Row.u p b a e t).ch := by
      unfold rngT Row.ch
      rw [List.filterMap_map]
      have : (upT p b a e ∘ fun (k : Nat) => Tr.int (0 + (k : Int))) = fun (k : Nat) => some (mendT (p + (k : Int) * e) b a) := by
        funext k
        show some (mendT (p + (0 + (k : Int)) * e) b a) = _
        rw [Int.zero_add]
      rw [this, List.filterMap_eq_map']
    refine lc_R (k := t.toNat) (upT p b a e) (fun R hR => ?_) m.belM (by rw [sizeLine_eq]; omega) (fun x hx y hy => ?_) (fun x hx => ?_) ?_
    · walk_at "fd"
      exact ⟨n, D.CU, _, insM_of hn, D3.u.cl, D3.u.n6, _, lk_f5t, t, rfl, by omega, by omega, hR⟩
    · cases x with
      | int i => cases hy; rfl
      | _ => cases hy
    · obtain ⟨k, hk⟩ := List.mem_iff_getElem?.mp hx
      obtain ⟨hk1, rfl⟩ := rngT_get hk
      rw [Int.zero_add]
      intro R N hR _
      walk_at "fd"
      refine ⟨_, rfl, n, _, insAt_of hn, lk_f5n, _, rfl, n, D.CU, _, insAt_of hn, D3.u.cl, D3.u.n1, _, lk_f5a, _, rfl, _, rfl, n, D.CU, _, insAt_of hn, D3.u.cl, D3.u.n5, _, lk_f5e, _, rfl, _, rfl, .inl ⟨by omega, by omega⟩, p, rfl, n, _, b, a, _, rfl, hn, lk_f5b, lk_f5c, lk_f5w, (hR _ rfl).1⟩
    · rw [hF]
      refine keep_whole (by simp) (by simp [Tr.bel]) ?_ q
      rw [List.length_append]
      refine belM_ext m.belM (g := [.lst (Row.u p b a e t).ch]) ?_
      simp only [belM, O.bel, Bool.and_true]
      refine bels_all fun x hx => ?_
      obtain ⟨k, _, rfl⟩ := List.mem_map.mp hx
      rfl
end
end T1

set_option Elab.async false
set_option linter.all false
set_option maxRecDepth 100000
set_option maxHeartbeats 4000000
namespace T1
open PySem PySem.Spec PyProof.Rows L2 C8 Fm T2
local macro_rules | `(tactic| walk_at "sim1") => `(tactic| with_reducible first
  | exact sim_nil | exact sim_var | exact sim_int | exact sim_str | exact sim_bl | exact sim_non | exact sim_raw
  | apply sim_cons | apply sim_op | apply sim_un | apply sim_tup | apply sim_lst
  | apply sim_CB | apply sim_if | apply sim_test | apply sim_B | apply sim_not | apply sim_and | apply sim_or
  | apply sim_andV | apply sim_orV | apply sim_notV | apply sim_chain | exact sim_nopart | apply sim_part
  | apply sim_sl | apply sim_BML | apply sim_BMS | apply sim_BM0S | apply sim_M1 | apply sim_M0
  | apply sim_fmt | apply sim_joined | exact SimJ.nil | apply SimJ.cons
  | exact s_I0i | exact s_I0b | exact s_Ii | exact s_Ui | exact s_eq | exact s_ne | exact s_isN | exact s_notN | exact s_ixL | exact s_ixT | exact s_ixS
  | exact s_cat | exact s_catA | exact s_rep | exact s_repT | exact s_in | exact s_slL | exact s_slA | exact s_slS | exact s_addS | exact s_leS | exact s_ltS
  | exact c_len | exact c_lenS | exact c_list | exact c_tuple | exact c_int1 | exact c_intS | exact c_strI | exact c_max2 | exact c_min2
  | exact m_append | exact m_extend | exact m_split | exact m_join | exact m_0b | exact m_1b
  | apply sim_call | exact simSpF
  | exact sim_name | exact sim_gnil | apply sim_gcons | apply sim_gtup | apply sim_gsub | exact set_list
  | exact sim_next | apply sim_seq | apply sim_cut | exact sim_break | exact sim_cont | apply sim_drop | apply sim_ret | exact sim_retN
  | apply sim_ifS | exact sim_never | apply sim_asg | apply sim_par | apply sim_aug
  | apply sim_for | apply sim_while | apply i_list | apply i_tup | apply i_rng1 | apply i_rng2 | apply i_str | apply i_enum | apply i_zip
  | apply sim_lc | exact sim_yes | exact sim_namew (by decide) | exact sim_gnilw | apply sim_gconsw | apply sim_gtupw
  | apply sim_fld | apply sim_con | apply sim_setFld | apply sim_make | apply sim_prop | apply sim_meth | apply sim_cmeth | exact c_isi | apply sim_isiT | exact s_eqD | exact s_neD
  | walk_at "sim2")
local macro_rules | `(tactic| walk_at "sim2") => `(tactic| fail)
local macro_rules | `(tactic| walk_at "sim") => `(tactic| repeat' (walk_at "sim1"))
/-- open the trees' reading as far as it goes by itself -/
local macro_rules | `(tactic| walk_at "fm") => `(tactic| simp (config := { failIfUnchanged := false }) only [fVar, fC, fOp, fUn, fNil, fCons, fTup, fLst, fCB, fIf, fTest, fNot, fAnd, fOr, fAndV, fOrV, fNotV, fChain, fNoPart, fPart, fI, fI0, fU, fEq, fNe, fIsN, fNotN, fIxL, fIxT, fIxS,
  fCat, fCatA, fRep, fRepT, fSlL, fSlA, fSlS, fSl, fLen, fLenS, fList, fTuple, fIntS, fStrI, fMax2, fMin2, fAppend, fExtend, fIn, fBM, fMS, fBMS, fBM0S, fAddS, fLeS, fLtS, fM0b, fM1b, fSplit, fJoin, fJoined, fJs,
  fName, fGNil, fGCons, fGTup, fSetL, fGSub, fNext, fSeq, fCut, fBreak, fCont, fDrop, fRet, fRetN, fIfS, fAsg, fPar, fAug, fCall, fFld, fCon, fSetFld, fMake, fProp, fMeth, fCMeth, fIsi, fIsiT, fEqD, fNeD, insAt_ref, insO_ins, fFmt, fmtS_i, fmtS_s, fmtOk_i, fmtOk_s, fIL, fIT, fIR1, fIR2, fIS, fIEn, fIZ,
  startL, List.map_cons, List.map_nil, List.length_cons, List.length_nil, List.cons_append, List.nil_append, List.replicate, List.getElem?_cons_zero, List.getElem?_cons_succ, List.set_cons_zero, List.set_cons_succ, Nat.reduceSub, Nat.reduceAdd,
  Option.some.injEq, Tr.int.injEq, Tr.str.injEq, Tr.bl.injEq, Tr.tup.injEq, Tr.ref.injEq, List.cons.injEq, exists_eq_left, exists_eq_left', exists_eq_right, true_and, and_true, and_self, exists_and_left, tupOf_tup, eqS_ii, eqS_ss, eqS_bb, eqS_ni, eqS_in, eqS_nn, isStr_s, isN_n, isN_i, isN_b, isN_s, isN_t, isN_r, noRaw_n, noRaw_i, noRaw_b, noRaw_s, noRaw_t, noRaw_r, and_assoc, reduceIte, Bool.false_eq_true, exists_const, lstAt_ref, seqAt_ref, seqAt_tup, refAt_ref, lstO_lst, app_assoc2, len_app1, at_kk, at_00, set_k, set_00, Nat.add_assoc, Option.map_some, Prod.mk.injEq, int_cast_inj, Nat.zero_le, decide_eq_true_eq, Bool.not_eq_true', decide_eq_false_iff_not, Nat.add_zero, implies_true, forall_const, ite_true, ite_false, if_true, if_false, decide_true, decide_false, Bool.not_true, Bool.not_false, asg_len, Option.isSome_some])
local macro_rules | `(tactic| walk_at "bel") => `(tactic| first | rfl | (simp (config := { failIfUnchanged := false }) only [belM, O.bel, bels_strs, bels_ints, belL, Tr.bel, Tr.bels, Bool.and_true, Bool.true_and, Bool.and_self, decide_eq_true_eq, Bool.and_eq_true, true_and, and_true, List.length_cons, List.length_nil, Nat.reduceAdd]; try omega))

local macro_rules | `(tactic| walk_at "sim2") => `(tactic| first | exact simDrawn | assumption | apply sim_match | apply SimM2.cons | exact SimM2.nil | apply i_enumT | apply sim_truS | apply sim_listG | apply sim_lcG | apply sim_eitherG | apply sim_methG | apply sim_methJ | apply sim_either | apply sim_sortKey | apply sim_sortSet | apply sim_raiseX)
local macro_rules | `(tactic| walk_at "sim1") => `(tactic| first | (with_reducible apply sim_callX; assumption) | (with_reducible apply sim_methX; assumption) | (with_reducible apply sim_makeX; assumption) | (with_reducible apply sim_makeKX; assumption) | (with_reducible apply sim_makeVSX; assumption) | (with_reducible apply sim_conA) | (with_reducible apply sim_sortSet))
local macro_rules | `(tactic| walk_at "fm2") => `(tactic| simp (config := { failIfUnchanged := false }) only [sm_app, sm_len, sm_at, sm_at0, sm_set, sm_set0, List.getElem?_cons_zero, List.getElem?_cons_succ, List.set_cons_zero, List.set_cons_succ, lstO_lst, Option.isSome_some, Option.map_some, Option.some.injEq, Prod.mk.injEq, Nat.add_assoc, Nat.reduceAdd, exists_eq_left', exists_eq_left, true_and, and_assoc, fRaiseX, fCVal, fNv, int1_i, fEither, fTruS, fIEnT, fMatch, fGoM, setAllT, fMakeK, fMakeVS, fMethJ, fEitherG, fListG, fSortKey, fSortSet, fConA])
local macro_rules | `(tactic| walk_at "fd") => `(tactic| (walk_at "fm"; walk_at "fm2"; walk_at "fm"; walk_at "fm2"; walk_at "fm"))

/-- C(..) -/
structure MakX (P : Program) (w : World) (K : PySem.W.Frag) (mg : Str → Option Value) (base : Heap) (CX : CXT) (k : Nat) (x : Str) (C : Addr) (sp : Sp) : Prop where
  ex : ∃ (f : Addr) (fd : FuncData) (ps : List Str), L2.Mk K C f ∧ FnOk P w K mg base CX k f fd ps sp ∧ mg x = some (.ref C) ∧ L2.Binds K fd ps []
structure MakK (P : Program) (w : World) (K : PySem.W.Frag) (mg : Str → Option Value) (base : Heap) (CX : CXT) (k : Nat) (x : Str) (C : Addr) (n : Nat) (ks : List Str) (sp : Sp) : Prop where
  ex : ∃ (f : Addr) (fd : FuncData) (ps : List Str), L2.Mk K C f ∧ FnOk P w K mg base CX k f fd ps sp ∧ mg x = some (.ref C) ∧ KBn K fd ps (n + 1) ks (fun us ws => us ++ ws) (fun vs zs => vs ++ zs)
section
variable {X : Cx} {CX : CXT} {k j n : Nat} {x : Str} {C : Addr} {sp : Sp} {E : XK} {t tk : TA} {e : Expr} {es : List Expr} {kws : List Keyword} {ks : List Str} {p pos : Pos}
theorem pe_mkX (c : MakX X.prog X.w X.K X.mg X.base CX k x C sp) (hr : Room j X.A) (hk : k + 1 ≤ j) (hg : Gl X x) (hx : L2.Passes CX X E) (ha : PA X (e :: es) t)
    (hdb : (x == ("__debug__" : Str)) = false := by decide) (he : starEach (e :: es) X.env = (false, eval e X.env) :: starEach es X.env := by rfl) (hpl : (backTo pos (starEach es X.env)).any (·.1) = false := by rfl) :
    PE X (.Call (.Name x p) (e :: es) [] pos) (tMake C sp [] E t) := by
  obtain ⟨f, fd, ps, M, F, hm, b⟩ := c.ex
  exact pe_make M F (hr.mono hk) hg hm b .nil hx ha hdb he hpl
theorem pe_mkK (c : MakK X.prog X.w X.K X.mg X.base CX k x C n ks sp) (hr : Room j X.A) (hk : k + 1 ≤ j) (hg : Gl X x) (hx : L2.Passes CX X E) (ha : PA X (e :: es) t) (hkw : PK X kws tk)
    (hall : (backToKw pos (keywordEach kws X.env)).all (·.1.isSome) = true := by rfl) (hks : (backToKw pos (keywordEach kws X.env)).filterMap (·.1) = ks := by rfl) (hdb : (x == ("__debug__" : Str)) = false := by decide)
    (he : starEach (e :: es) X.env = (false, eval e X.env) :: starEach es X.env := by rfl) (hpl : ((backTo pos (starEach (e :: es) X.env)).any (·.1) || (backToKw pos (keywordEach kws X.env)).any (·.1.isNone)) = false := by rfl) :
    PE X (.Call (.Name x p) (e :: es) kws pos) (tMakeK C n ks.length sp (fun vs zs => vs ++ zs) E t tk) := by
  obtain ⟨f, fd, ps, M, F, hm, b⟩ := c.ex
  exact pe_makeK M F (hr.mono hk) hg hm b hx ha hkw hall hks hdb he hpl
end
def Row.ns : Row → List Int
  | .c p b => [p, b]
  | .m p b a => [p, b, a]
  | .u p b a e t => [p, b, a, e, t]
def fsWorkOf (CW : Addr) (D : Cl3) : FSp := fun ts M P PX => ∃ (l : Nat) (r : Row), ts = [.ref l] ∧ M[l]? = some (.lst (r.ns.map Tr.int)) ∧ (r.ok → P (.ref M.length) (M ++ [r.O D])) ∧ (¬ r.ok → PX CW (ixT "index" 0) M)
section
variable {P : Program} {w : World} {K : PySem.W.Frag} {mg : Str → Option Value} {base : Heap} {CB CW C : Addr} {mB : Value} {D : Cl3}
theorem keepX_app {H : Hp} {ρ : List Addr} {M g : Mem} {PX : PXF} {D : Addr} {fs : List (Str × Tr)} (m : RM K H ρ M) (b : belF M.length fs = true) (p : PX D fs M) : KeepX M.length PX D fs (M ++ g) :=
  ⟨M.length, Nat.le_refl _, b, by rw [List.take_left]; exact m.belM, by rw [List.take_left]; exact p⟩
theorem at_snoc {M : Mem} {o : O} : (M ++ [o])[List.length M]? = some o := by rw [at_00]; rfl
theorem set_snoc {M : Mem} {o u : O} : (M ++ [o]).set (List.length M) u = M ++ [u] := by rw [set_00]; rfl
theorem bel_ro {n : Nat} {r : Row} : (r.O D).bel n = true := by
  cases r <;> rfl
theorem keep_mk {H : Hp} {ρ : List Addr} {M : Mem} {P : PF} {r : Row} (m : RM K H ρ M) (q : P (.ref M.length) (M ++ [r.O D])) : Keep M.length P (.ref M.length) (M ++ [r.O D]) :=
  keep_whole (by simp) (by simp [Tr.bel]) (by simpa using belM_ext m.belM (g := [r.O D]) (by simp only [belM, bel_ro, Bool.and_true])) q
theorem scWorkOf : FnScope ["numbers", "position", "bridge", "amount", "every", "times"] ["numbers"] (L2.defScope sWorkOf) := ⟨rfl, rfl, rfl, by decide +kernel, rfl, by decide +kernel, by decide +kernel⟩
theorem ok_workOf {f : Addr} {fd : FuncData} (F : L2.Fun K "_work_of" "_work_of" sWorkOf f fd) (T : BQ mg) (KC : MakX P w K mg base (L2N.CX P w) 4 "Closing" D.CC (spF K (fsWi CW D.CC))) (KM : MakX P w K mg base (L2N.CX P w) 5 "Mending" D.CM (spF K (fsMi CW D.CM)))
    (KU : MakK P w K mg base (L2N.CX P w) 6 "Upkeep" D.CU 3 ["every", "times"] (spF K (fsUi CW D.CU))) : FnOk P w K mg base (L2N.CX P w) 8 f fd ["numbers"] (spF K (fsWorkOf CW D)) := by
  refine fun_okC F scWorkOf (fun vs H Q E h => ?_) (fun cdv A outer s H vs Q E hr h => ?_)
  · obtain ⟨ts, ρ, M, P, PX, r, m, ⟨l, r1, rfl, _⟩, o, ox⟩ := h
    exact r.len
  · refine ⟨_, (pss_one (ps_match scWorkOf.nd rfl (pv 0) (CsOk.cons (NmOk.cons (i := 1) rfl (Or.inl rfl) (Or.inr rfl) (NmOk.cons (i := 2) rfl (Or.inl rfl) (Or.inr rfl) NmOk.nil)) (pss_one (ps_ret (pe_mkX KC hr (by decide) (by rfl) (L2N.passes_call (L2N.takes_of rfl rfl rfl rfl) (fun _ _ _ _ h => h)) (pa_cons (pv 1) (pa_cons (pv 2) pa_nil))))) (CsOk.cons (NmOk.cons (i := 1) rfl (Or.inl rfl) (Or.inr rfl) (NmOk.cons (i := 2) rfl (Or.inl rfl) (Or.inr rfl) (NmOk.cons (i := 3) rfl (Or.inl rfl) (Or.inr rfl) NmOk.nil))) (pss_one (ps_ret (pe_mkX KM hr (by decide) (by rfl) (L2N.passes_call (L2N.takes_of rfl rfl rfl rfl) (fun _ _ _ _ h => h)) (pa_cons (pv 1) (pa_cons (pv 2) (pa_cons (pv 3) pa_nil)))))) (CsOk.cons (NmOk.cons (i := 1) rfl (Or.inl rfl) (Or.inr rfl) (NmOk.cons (i := 2) rfl (Or.inl rfl) (Or.inr rfl) (NmOk.cons (i := 3) rfl (Or.inl rfl) (Or.inr rfl) (NmOk.cons (i := 4) rfl (Or.inl rfl) (Or.inr rfl) (NmOk.cons (i := 5) rfl (Or.inl rfl) (Or.inr rfl) NmOk.nil))))) (pss_one (ps_ret (pe_mkK KU hr (by decide) (by rfl) (L2N.passes_call (L2N.takes_of rfl rfl rfl rfl) (fun _ _ _ _ h => h)) (pa_cons (pv 1) (pa_cons (pv 2) (pa_cons (pv 3) pa_nil))) (pk_cons (pv 4) (pk_cons (pv 5) pk_nil))))) CsOk.nil))))), ?_⟩
    obtain ⟨ts, ρ, M, P, PX, r, m, ⟨l, r1, rfl, hl, q1, q2⟩, o, ox⟩ := h
    have hE := keepX_of m ox
    try simp only [nox_K, cx_K]
    refine run_in r m o (by walk_at "sim") ?_
    walk_at "fd"
    rw [hl]
    cases r1 with
    | c p b =>
      refine ⟨_, rfl, fun _ => ⟨_, rfl, _, rfl, List.length M, p, b, rfl, at_snoc, fun h => ?_, fun h fs hf => ?_⟩, fun h => absurd rfl h⟩
      · rw [set_snoc]
        exact ⟨rfl, keep_mk m (q1 h)⟩
      · rw [set_snoc]
        exact keepX_app m rfl (q2 h)
    | m p b a =>
      refine ⟨_, rfl, fun h => by simp [Row.ns] at h, fun _ => ⟨fun _ => ⟨_, rfl, _, rfl, _, rfl, List.length M, p, b, a, rfl, at_snoc, fun h => ?_, fun h fs hf => ?_⟩, fun h => absurd rfl h⟩⟩
      · rw [set_snoc]
        exact ⟨rfl, keep_mk m (q1 h)⟩
      · rw [set_snoc]
        exact keepX_app m rfl (q2 h)
    | u p b a e t =>
      refine ⟨_, rfl, fun h => by simp [Row.ns] at h, fun _ => ⟨fun h => by simp [Row.ns] at h, fun _ => ⟨fun _ => ⟨_, rfl, _, rfl, _, rfl, _, rfl, _, rfl, List.length M, p, b, a, e, t, rfl, at_snoc, fun h => ?_, fun h fs hf => ?_⟩, fun h => absurd rfl h⟩⟩⟩
      · rw [set_snoc]
        exact ⟨rfl, keep_mk m (q1 h)⟩
      · rw [set_snoc]
        exact keepX_app m rfl (q2 h)
end
end T1

set_option Elab.async false
set_option linter.all false
set_option maxRecDepth 100000
set_option maxHeartbeats 4000000
namespace T1
open PySem PySem.Spec PyProof.Rows L2 C8 Fm T2
/-! ### the reading of a line (wip/tools/mkl1.py writes this text) -/
theorem kN_at : ("at" : Str) ≠ "N" := by decide +kernel
theorem kN_close : ("close" : Str) ≠ "N" := by decide +kernel
theorem kN_mend : ("mend" : Str) ≠ "N" := by decide +kernel
theorem kN_by : ("by" : Str) ≠ "N" := by decide +kernel
theorem kN_every : ("every" : Str) ≠ "N" := by decide +kernel
theorem kN_times : ("times" : Str) ≠ "N" := by decide +kernel
def rdRow (f : Str → Int) : List Str → Option Row
  | [k1, p, k2, b] => (if k1 = ("at" : Str) then (if goodW p = true then (if k2 = ("close" : Str) then (if goodW b = true then some (.c (f p) (f b)) else none) else none) else none) else none)
  | [k1, p, k2, b, k3, a] => (if k1 = ("at" : Str) then (if goodW p = true then (if k2 = ("mend" : Str) then (if goodW b = true then (if k3 = ("by" : Str) then (if goodW a = true then some (.m (f p) (f b) (f a)) else none) else none) else none) else none) else none) else none)
  | [k1, p, k2, b, k3, a, k4, e, k5, t] => (if k1 = ("at" : Str) then (if goodW p = true then (if k2 = ("mend" : Str) then (if goodW b = true then (if k3 = ("by" : Str) then (if goodW a = true then (if k4 = ("every" : Str) then (if goodW e = true then (if k5 = ("times" : Str) then (if goodW t = true then some (.u (f p) (f b) (f a) (f e) (f t)) else none) else none) else none) else none) else none) else none) else none) else none) else none) else none)
  | _ => none
def forms3 : List Str := ["at N close N", "at N mend N by N", "at N mend N by N every N times N"]
theorem split_f0 : Txt.split "at N close N" " " = (["at", "N", "close", "N"] : List Str) := by decide +kernel
theorem readN_f0 (line : Str) : readN line "at N close N" = if (Txt.split line " ").length = 4 then (rdRow num20 (Txt.split line " ")).map Row.ns else none := by
  unfold readN
  rw [split_f0]
  generalize Txt.split line " " = ws
  by_cases hl : ws.length = 4
  · rw [if_pos hl, if_neg (by simpa using hl)]
    match ws, hl with
    | [k1, p, k2, b], _ =>
      show _ = Option.map Row.ns (if k1 = ("at" : Str) then (if goodW p = true then (if k2 = ("close" : Str) then (if goodW b = true then some (.c (num20 p) (num20 b)) else none) else none) else none) else none)
      rw [goR_K kN_at, goR_N, goR_K kN_close, goR_N]
      by_cases h0 : k1 = ("at" : Str)
      rotate_left
      · rw [if_neg h0, if_neg h0]
        rfl
      rw [if_pos h0, if_pos h0]
      by_cases h1 : goodW p = true
      rotate_left
      · rw [if_neg h1, if_neg h1]
        rfl
      rw [if_pos h1, if_pos h1]
      by_cases h2 : k2 = ("close" : Str)
      rotate_left
      · rw [if_neg h2, if_neg h2]
        rfl
      rw [if_pos h2, if_pos h2]
      by_cases h3 : goodW b = true
      rotate_left
      · rw [if_neg h3, if_neg h3]
        rfl
      rw [if_pos h3, if_pos h3]
      rfl
  · rw [if_neg hl, if_pos (by simpa using hl)]
theorem split_f1 : Txt.split "at N mend N by N" " " = (["at", "N", "mend", "N", "by", "N"] : List Str) := by decide +kernel
theorem readN_f1 (line : Str) : readN line "at N mend N by N" = if (Txt.split line " ").length = 6 then (rdRow num20 (Txt.split line " ")).map Row.ns else none := by
  unfold readN
  rw [split_f1]
  generalize Txt.split line " " = ws
  by_cases hl : ws.length = 6
  · rw [if_pos hl, if_neg (by simpa using hl)]
    match ws, hl with
    | [k1, p, k2, b, k3, a], _ =>
      show _ = Option.map Row.ns (if k1 = ("at" : Str) then (if goodW p = true then (if k2 = ("mend" : Str) then (if goodW b = true then (if k3 = ("by" : Str) then (if goodW a = true then some (.m (num20 p) (num20 b) (num20 a)) else none) else none) else none) else none) else none) else none)
      rw [goR_K kN_at, goR_N, goR_K kN_mend, goR_N, goR_K kN_by, goR_N]
      by_cases h0 : k1 = ("at" : Str)
      rotate_left
      · rw [if_neg h0, if_neg h0]
        rfl
      rw [if_pos h0, if_pos h0]
      by_cases h1 : goodW p = true
      rotate_left
      · rw [if_neg h1, if_neg h1]
        rfl
      rw [if_pos h1, if_pos h1]
      by_cases h2 : k2 = ("mend" : Str)
      rotate_left
      · rw [if_neg h2, if_neg h2]
        rfl
      rw [if_pos h2, if_pos h2]
      by_cases h3 : goodW b = true
      rotate_left
      · rw [if_neg h3, if_neg h3]
        rfl
      rw [if_pos h3, if_pos h3]
      by_cases h4 : k3 = ("by" : Str)
      rotate_left
      · rw [if_neg h4, if_neg h4]
        rfl
      rw [if_pos h4, if_pos h4]
      by_cases h5 : goodW a = true
      rotate_left
      · rw [if_neg h5, if_neg h5]
        rfl
      rw [if_pos h5, if_pos h5]
      rfl
  · rw [if_neg hl, if_pos (by simpa using hl)]
theorem split_f2 : Txt.split "at N mend N by N every N times N" " " = (["at", "N", "mend", "N", "by", "N", "every", "N", "times", "N"] : List Str) := by decide +kernel
theorem readN_f2 (line : Str) : readN line "at N mend N by N every N times N" = if (Txt.split line " ").length = 10 then (rdRow num20 (Txt.split line " ")).map Row.ns else none := by
  unfold readN
  rw [split_f2]
  generalize Txt.split line " " = ws
  by_cases hl : ws.length = 10
  · rw [if_pos hl, if_neg (by simpa using hl)]
    match ws, hl with
    | [k1, p, k2, b, k3, a, k4, e, k5, t], _ =>
      show _ = Option.map Row.ns (if k1 = ("at" : Str) then (if goodW p = true then (if k2 = ("mend" : Str) then (if goodW b = true then (if k3 = ("by" : Str) then (if goodW a = true then (if k4 = ("every" : Str) then (if goodW e = true then (if k5 = ("times" : Str) then (if goodW t = true then some (.u (num20 p) (num20 b) (num20 a) (num20 e) (num20 t)) else none) else none) else none) else none) else none) else none) else none) else none) else none) else none)
      rw [goR_K kN_at, goR_N, goR_K kN_mend, goR_N, goR_K kN_by, goR_N, goR_K kN_every, goR_N, goR_K kN_times, goR_N]
      by_cases h0 : k1 = ("at" : Str)
      rotate_left
      · rw [if_neg h0, if_neg h0]
        rfl
      rw [if_pos h0, if_pos h0]
      by_cases h1 : goodW p = true
      rotate_left
      · rw [if_neg h1, if_neg h1]
        rfl
      rw [if_pos h1, if_pos h1]
      by_cases h2 : k2 = ("mend" : Str)
      rotate_left
      · rw [if_neg h2, if_neg h2]
        rfl
      rw [if_pos h2, if_pos h2]
      by_cases h3 : goodW b = true
      rotate_left
      · rw [if_neg h3, if_neg h3]
        rfl
      rw [if_pos h3, if_pos h3]
      by_cases h4 : k3 = ("by" : Str)
      rotate_left
      · rw [if_neg h4, if_neg h4]
        rfl
      rw [if_pos h4, if_pos h4]
      by_cases h5 : goodW a = true
      rotate_left
      · rw [if_neg h5, if_neg h5]
        rfl
      rw [if_pos h5, if_pos h5]
      by_cases h6 : k4 = ("every" : Str)
      rotate_left
      · rw [if_neg h6, if_neg h6]
        rfl
      rw [if_pos h6, if_pos h6]
      by_cases h7 : goodW e = true
      rotate_left
      · rw [if_neg h7, if_neg h7]
        rfl
      rw [if_pos h7, if_pos h7]
      by_cases h8 : k5 = ("times" : Str)
      rotate_left
      · rw [if_neg h8, if_neg h8]
        rfl
      rw [if_pos h8, if_pos h8]
      by_cases h9 : goodW t = true
      rotate_left
      · rw [if_neg h9, if_neg h9]
        rfl
      rw [if_pos h9, if_pos h9]
      rfl
  · rw [if_neg hl, if_pos (by simpa using hl)]
theorem rdRow_len {f : Str → Int} {ws : List Str} {r : Row} (h : rdRow f ws = some r) : ws.length = 4 ∨ ws.length = 6 ∨ ws.length = 10 := by
  unfold rdRow at h
  split at h
  · exact .inl rfl
  · exact .inr (.inl rfl)
  · exact .inr (.inr rfl)
  · cases h
theorem readN_any {line f : Str} {ns : List Int} (hf : f ∈ forms3) (h : readN line f = some ns) : ∃ r, rdRow num20 (Txt.split line " ") = some r ∧ r.ns = ns := by
  have key : ∀ n, (if (Txt.split line " ").length = n then (rdRow num20 (Txt.split line " ")).map Row.ns else none) = some ns → ∃ r, rdRow num20 (Txt.split line " ") = some r ∧ r.ns = ns := fun n h => by
    split at h
    · cases e : rdRow num20 (Txt.split line " ") with
      | none => rw [e] at h; cases h
      | some r => rw [e] at h; cases h; exact ⟨r, rfl, rfl⟩
    · cases h
  unfold forms3 at hf
  simp only [List.mem_cons, List.not_mem_nil, or_false] at hf
  rcases hf with rfl | rfl | rfl
  · exact key 4 (by rw [← readN_f0]; exact h)
  · exact key 6 (by rw [← readN_f1]; exact h)
  · exact key 10 (by rw [← readN_f2]; exact h)
theorem readN_not {line : Str} (h : ∀ f ∈ forms3, readN line f = none) : rdRow num20 (Txt.split line " ") = none := by
  cases e : rdRow num20 (Txt.split line " ") with
  | none => rfl
  | some r =>
    have h0 := h _ (show _ ∈ forms3 by unfold forms3; exact List.mem_cons_self)
    have h1 := h _ (show _ ∈ forms3 by unfold forms3; exact List.mem_cons_of_mem _ List.mem_cons_self)
    have h2 := h _ (show _ ∈ forms3 by unfold forms3; exact List.mem_cons_of_mem _ (List.mem_cons_of_mem _ List.mem_cons_self))
    rw [readN_f0, e] at h0
    rw [readN_f1, e] at h1
    rw [readN_f2, e] at h2
    rcases rdRow_len e with z | z | z
    · rw [if_pos z] at h0; cases h0
    · rw [if_pos z] at h1; cases h1
    · rw [if_pos z] at h2; cases h2
theorem goR_nil : goR [] [] = some [] := rfl
end T1

set_option Elab.async false
set_option linter.all false
set_option maxRecDepth 100000
set_option maxHeartbeats 4000000
namespace T1
open PySem PySem.Spec PyProof.Rows L2 C8 Fm T2
local macro_rules | `(tactic| walk_at "sim1") => `(tactic| with_reducible first
  | exact sim_nil | exact sim_var | exact sim_int | exact sim_str | exact sim_bl | exact sim_non | exact sim_raw
  | apply sim_cons | apply sim_op | apply sim_un | apply sim_tup | apply sim_lst
  | apply sim_CB | apply sim_if | apply sim_test | apply sim_B | apply sim_not | apply sim_and | apply sim_or
  | apply sim_andV | apply sim_orV | apply sim_notV | apply sim_chain | exact sim_nopart | apply sim_part
  | apply sim_sl | apply sim_BML | apply sim_BMS | apply sim_BM0S | apply sim_M1 | apply sim_M0
  | apply sim_fmt | apply sim_joined | exact SimJ.nil | apply SimJ.cons
  | exact s_I0i | exact s_I0b | exact s_Ii | exact s_Ui | exact s_eq | exact s_ne | exact s_isN | exact s_notN | exact s_ixL | exact s_ixT | exact s_ixS
  | exact s_cat | exact s_catA | exact s_rep | exact s_repT | exact s_in | exact s_slL | exact s_slA | exact s_slS | exact s_addS | exact s_leS | exact s_ltS
  | exact c_len | exact c_lenS | exact c_list | exact c_tuple | exact c_int1 | exact c_intS | exact c_strI | exact c_max2 | exact c_min2
  | exact m_append | exact m_extend | exact m_split | exact m_join | exact m_0b | exact m_1b
  | apply sim_call | exact simSpF
  | exact sim_name | exact sim_gnil | apply sim_gcons | apply sim_gtup | apply sim_gsub | exact set_list
  | exact sim_next | apply sim_seq | apply sim_cut | exact sim_break | exact sim_cont | apply sim_drop | apply sim_ret | exact sim_retN
  | apply sim_ifS | exact sim_never | apply sim_asg | apply sim_par | apply sim_aug
  | apply sim_for | apply sim_while | apply i_list | apply i_tup | apply i_rng1 | apply i_rng2 | apply i_str | apply i_enum | apply i_zip
  | apply sim_lc | exact sim_yes | exact sim_namew (by decide) | exact sim_gnilw | apply sim_gconsw | apply sim_gtupw
  | apply sim_fld | apply sim_con | apply sim_setFld | apply sim_make | apply sim_prop | apply sim_meth | apply sim_cmeth | exact c_isi | apply sim_isiT | exact s_eqD | exact s_neD
  | walk_at "sim2")
local macro_rules | `(tactic| walk_at "sim2") => `(tactic| fail)
local macro_rules | `(tactic| walk_at "sim") => `(tactic| repeat' (walk_at "sim1"))
/-- open the trees' reading as far as it goes by itself -/
local macro_rules | `(tactic| walk_at "fm") => `(tactic| simp (config := { failIfUnchanged := false }) only [fVar, fC, fOp, fUn, fNil, fCons, fTup, fLst, fCB, fIf, fTest, fNot, fAnd, fOr, fAndV, fOrV, fNotV, fChain, fNoPart, fPart, fI, fI0, fU, fEq, fNe, fIsN, fNotN, fIxL, fIxT, fIxS,
  fCat, fCatA, fRep, fRepT, fSlL, fSlA, fSlS, fSl, fLen, fLenS, fList, fTuple, fIntS, fStrI, fMax2, fMin2, fAppend, fExtend, fIn, fBM, fMS, fBMS, fBM0S, fAddS, fLeS, fLtS, fM0b, fM1b, fSplit, fJoin, fJoined, fJs,
  fName, fGNil, fGCons, fGTup, fSetL, fGSub, fNext, fSeq, fCut, fBreak, fCont, fDrop, fRet, fRetN, fIfS, fAsg, fPar, fAug, fCall, fFld, fCon, fSetFld, fMake, fProp, fMeth, fCMeth, fIsi, fIsiT, fEqD, fNeD, insAt_ref, insO_ins, fFmt, fmtS_i, fmtS_s, fmtOk_i, fmtOk_s, fIL, fIT, fIR1, fIR2, fIS, fIEn, fIZ,
  startL, List.map_cons, List.map_nil, List.length_cons, List.length_nil, List.cons_append, List.nil_append, List.replicate, List.getElem?_cons_zero, List.getElem?_cons_succ, List.set_cons_zero, List.set_cons_succ, Nat.reduceSub, Nat.reduceAdd,
  Option.some.injEq, Tr.int.injEq, Tr.str.injEq, Tr.bl.injEq, Tr.tup.injEq, Tr.ref.injEq, List.cons.injEq, exists_eq_left, exists_eq_left', exists_eq_right, true_and, and_true, and_self, exists_and_left, tupOf_tup, eqS_ii, eqS_ss, eqS_bb, eqS_ni, eqS_in, eqS_nn, isStr_s, isN_n, isN_i, isN_b, isN_s, isN_t, isN_r, noRaw_n, noRaw_i, noRaw_b, noRaw_s, noRaw_t, noRaw_r, and_assoc, reduceIte, Bool.false_eq_true, exists_const, lstAt_ref, seqAt_ref, seqAt_tup, refAt_ref, lstO_lst, app_assoc2, len_app1, at_kk, at_00, set_k, set_00, Nat.add_assoc, Option.map_some, Prod.mk.injEq, int_cast_inj, Nat.zero_le, decide_eq_true_eq, Bool.not_eq_true', decide_eq_false_iff_not, Nat.add_zero, implies_true, forall_const, ite_true, ite_false, if_true, if_false, decide_true, decide_false, Bool.not_true, Bool.not_false, asg_len, Option.isSome_some])
local macro_rules | `(tactic| walk_at "bel") => `(tactic| first | rfl | (simp (config := { failIfUnchanged := false }) only [belM, O.bel, bels_strs, bels_ints, belL, Tr.bel, Tr.bels, Bool.and_true, Bool.true_and, Bool.and_self, decide_eq_true_eq, Bool.and_eq_true, true_and, and_true, List.length_cons, List.length_nil, Nat.reduceAdd]; try omega))

local macro_rules | `(tactic| walk_at "sim2") => `(tactic| first | exact simDrawn | assumption | apply sim_match | apply SimM2.cons | exact SimM2.nil | apply i_enumT | apply sim_truS | apply sim_listG | apply sim_lcG | apply sim_eitherG | apply sim_methG | apply sim_methJ | apply sim_either | apply sim_sortKey | apply sim_sortSet | apply sim_raiseX)
local macro_rules | `(tactic| walk_at "sim1") => `(tactic| first | (with_reducible apply sim_callX; assumption) | (with_reducible apply sim_methX; assumption) | (with_reducible apply sim_makeX; assumption) | (with_reducible apply sim_makeKX; assumption) | (with_reducible apply sim_makeVSX; assumption) | (with_reducible apply sim_conA) | (with_reducible apply sim_sortSet))
local macro_rules | `(tactic| walk_at "fm2") => `(tactic| simp (config := { failIfUnchanged := false }) only [sm_app, sm_len, sm_at, sm_at0, sm_set, sm_set0, List.getElem?_cons_zero, List.getElem?_cons_succ, List.set_cons_zero, List.set_cons_succ, lstO_lst, Option.isSome_some, Option.map_some, Option.some.injEq, Prod.mk.injEq, Nat.add_assoc, Nat.reduceAdd, exists_eq_left', exists_eq_left, true_and, and_assoc, fRaiseX, fCVal, fNv, int1_i, fEither, fTruS, fIEnT, fMatch, fGoM, setAllT, fMakeK, fMakeVS, fMethJ, fEitherG, fListG, fSortKey, fSortSet, fConA])
local macro_rules | `(tactic| walk_at "fd") => `(tactic| (walk_at "fm"; walk_at "fm2"; walk_at "fm"; walk_at "fm2"; walk_at "fm"))

/-- what is asked of a line's size -/
def SmallL (line : Str) : Prop := line.length ≤ 900000
def fsLnN : FSp := fun ts M P _ => ∃ line : Str, ts = [.str line] ∧ SmallL line ∧ (rdRow num20 (Txt.split line " ") = none → P .non M) ∧
  ∀ r, rdRow num20 (Txt.split line " ") = some r → ∀ g : Mem, belM 0 g = true → P (.ref (List.length M + g.length)) (M ++ (g ++ [.lst (r.ns.map Tr.int)]))
section
variable {P : Program} {w : World} {K : PySem.W.Frag} {mg : Str → Option Value} {base : Heap} {CB CW C : Addr} {mB : Value} {D : Cl3}
structure Cr (P : Program) (w : World) (K : PySem.W.Frag) (mg : Str → Option Value) (base : Heap) : Prop where
  read_numbers : Cal P w K mg base 2 "read_numbers" (spF K fsRead) []
theorem iteF' {c : Prop} [Decidable c] {A B : Prop} (h : ¬ c) (b : B) : if c then A else B := by rw [if_neg h]; exact b
theorem forms_len {f : Str} (h : f ∈ forms3) : f.length ≤ 1000 := by
  have : ∀ f ∈ forms3, f.length ≤ 1000 := by decide +kernel
  exact this f h
theorem scLnN : FnScope ["line", "form", "numbers"] ["line"] (L2.defScope sLnN) := ⟨rfl, rfl, rfl, by decide +kernel, rfl, by decide +kernel, by decide +kernel⟩
theorem ok_lnN {f : Addr} {fd : FuncData} (F : L2.Fun K "_line_numbers" "_line_numbers" sLnN f fd) (T : BQ mg) (C : Cr P w K mg base) : FnOk P w K mg base L2.CX0 4 f fd ["line"] (spF K fsLnN) := by
  refine F.ok scLnN (fun vs H Q E h => ?_) (fun cdv A outer s H vs Q E hr h => ?_)
  · obtain ⟨ts, ρ, M, P, PX, r, m, ⟨l, rfl, _⟩, o, ox⟩ := h
    exact r.len
  · refine ⟨_, (pss_cons (ps_for PassesOwn.never rfl (pi_tup (pe_tup (pa_cons pe_str (pa_cons pe_str (pa_cons pe_str pa_nil))))) (pg_name (i := 1) scLnN.nd rfl (Or.inl rfl)) (pss_cons (ps_set (i := 2) scLnN.nd rfl (Or.inl rfl) (pe_c C.read_numbers hr (by first | decide | omega) (by rfl) (pa_cons (pv 0) (pa_cons (pv 1) pa_nil))))
 (pss_one (ps_if (pt_cmpR op_notN (pv 2) pe_non (nomark _)) (pss_one (ps_ret (pv 2))) pss_nil))))
 (pss_one (ps_ret pe_non))), ?_⟩
    obtain ⟨ts, ρ, M, P, PX, r, m, ⟨line, rfl, hs, q1, q2⟩, o, ox⟩ := h
    try simp only [nox_K, cx_K]
    refine run_in r m o (by walk_at "sim") ?_
    walk_at "fd"
    refine ⟨by rw [sizeLine_eq]; decide, ?_⟩
    unfold SmallL at hs
    refine ⟨_, rfl, fun i L2 M2 => ∃ v1 v2, L2 = [some (.str line), v1, v2] ∧ M2 = M ∧ ∀ j : Nat, j < i → ∀ f, forms3[j]? = some f → readN line f = none, ?_, fun _ _ _ _ _ => trivial, ?_, ?_⟩
    · exact ⟨none, none, rfl, rfl, fun j h => absurd h (Nat.not_lt_zero _)⟩
    · rintro i t L2 M2 ht ⟨v1, v2, rfl, rfl, hn⟩
      obtain ⟨fm, hf, rfl⟩ : ∃ fm, forms3[i]? = some fm ∧ t = .str fm := by
        match i, ht with
        | 0, ht => cases ht; exact ⟨_, rfl, rfl⟩
        | 1, ht => cases ht; exact ⟨_, rfl, rfl⟩
        | 2, ht => cases ht; exact ⟨_, rfl, rfl⟩
        | i + 3, ht => simp at ht
      have hm := List.mem_of_getElem? hf
      walk_at "fd"
      refine ⟨line, fm, rfl, by omega, forms_len hm, fun w hw => by have := part_len hw; omega, ?_, fun hnone => ?_, fun ns hsome g hg => ?_⟩
      · have := split_len (x := line) len_sp
        omega
      · walk_at "fd"
        refine iteF' (by decide) ?_
        refine forget_same (LocLe.refl _) ⟨_, _, rfl, rfl, fun j hj f hfj => ?_⟩ ⟨Nat.le_refl _, rfl⟩ m.belM
        rcases Nat.lt_succ_iff_lt_or_eq.mp hj with h | h
        · exact hn j h f hfj
        · subst h
          rw [hf] at hfj
          cases hfj
          exact hnone
      · obtain ⟨r, hr1, rfl⟩ := readN_any hm hsome
        walk_at "fd"
        have q := q2 r hr1 g hg
        refine keep_whole (by simp) (by simp [Tr.bel]) ?_ q
        rw [List.length_append]
        refine belM_ext m.belM ?_
        rw [belM_app, belM_mono (Nat.zero_le _) hg]
        simp only [belM, O.bel, bels_ints, Bool.and_self]
    · rintro L2 M2 ⟨v1, v2, rfl, rfl, hn⟩
      walk_at "fd"
      refine keep_same m rfl (q1 (readN_not fun f hf => ?_))
      obtain ⟨j, hj⟩ := List.mem_iff_getElem?.mp hf
      exact hn j (by have := (List.getElem?_eq_some_iff.mp hj).1; exact this) f hj
end
end T1

set_option Elab.async false
set_option linter.all false
set_option maxRecDepth 100000
set_option maxHeartbeats 4000000
namespace T1
open PySem PySem.Spec PyProof.Rows L2 C8 Fm T2
local macro_rules | `(tactic| walk_at "sim1") => `(tactic| with_reducible first
  | exact sim_nil | exact sim_var | exact sim_int | exact sim_str | exact sim_bl | exact sim_non | exact sim_raw
  | apply sim_cons | apply sim_op | apply sim_un | apply sim_tup | apply sim_lst
  | apply sim_CB | apply sim_if | apply sim_test | apply sim_B | apply sim_not | apply sim_and | apply sim_or
  | apply sim_andV | apply sim_orV | apply sim_notV | apply sim_chain | exact sim_nopart | apply sim_part
  | apply sim_sl | apply sim_BML | apply sim_BMS | apply sim_BM0S | apply sim_M1 | apply sim_M0
  | apply sim_fmt | apply sim_joined | exact SimJ.nil | apply SimJ.cons
  | exact s_I0i | exact s_I0b | exact s_Ii | exact s_Ui | exact s_eq | exact s_ne | exact s_isN | exact s_notN | exact s_ixL | exact s_ixT | exact s_ixS
  | exact s_cat | exact s_catA | exact s_rep | exact s_repT | exact s_in | exact s_slL | exact s_slA | exact s_slS | exact s_addS | exact s_leS | exact s_ltS
  | exact c_len | exact c_lenS | exact c_list | exact c_tuple | exact c_int1 | exact c_intS | exact c_strI | exact c_max2 | exact c_min2
  | exact m_append | exact m_extend | exact m_split | exact m_join | exact m_0b | exact m_1b
  | apply sim_call | exact simSpF
  | exact sim_name | exact sim_gnil | apply sim_gcons | apply sim_gtup | apply sim_gsub | exact set_list
  | exact sim_next | apply sim_seq | apply sim_cut | exact sim_break | exact sim_cont | apply sim_drop | apply sim_ret | exact sim_retN
  | apply sim_ifS | exact sim_never | apply sim_asg | apply sim_par | apply sim_aug
  | apply sim_for | apply sim_while | apply i_list | apply i_tup | apply i_rng1 | apply i_rng2 | apply i_str | apply i_enum | apply i_zip
  | apply sim_lc | exact sim_yes | exact sim_namew (by decide) | exact sim_gnilw | apply sim_gconsw | apply sim_gtupw
  | apply sim_fld | apply sim_con | apply sim_setFld | apply sim_make | apply sim_prop | apply sim_meth | apply sim_cmeth | exact c_isi | apply sim_isiT | exact s_eqD | exact s_neD
  | walk_at "sim2")
local macro_rules | `(tactic| walk_at "sim2") => `(tactic| fail)
local macro_rules | `(tactic| walk_at "sim") => `(tactic| repeat' (walk_at "sim1"))
/-- open the trees' reading as far as it goes by itself -/
local macro_rules | `(tactic| walk_at "fm") => `(tactic| simp (config := { failIfUnchanged := false }) only [fVar, fC, fOp, fUn, fNil, fCons, fTup, fLst, fCB, fIf, fTest, fNot, fAnd, fOr, fAndV, fOrV, fNotV, fChain, fNoPart, fPart, fI, fI0, fU, fEq, fNe, fIsN, fNotN, fIxL, fIxT, fIxS,
  fCat, fCatA, fRep, fRepT, fSlL, fSlA, fSlS, fSl, fLen, fLenS, fList, fTuple, fIntS, fStrI, fMax2, fMin2, fAppend, fExtend, fIn, fBM, fMS, fBMS, fBM0S, fAddS, fLeS, fLtS, fM0b, fM1b, fSplit, fJoin, fJoined, fJs,
  fName, fGNil, fGCons, fGTup, fSetL, fGSub, fNext, fSeq, fCut, fBreak, fCont, fDrop, fRet, fRetN, fIfS, fAsg, fPar, fAug, fCall, fFld, fCon, fSetFld, fMake, fProp, fMeth, fCMeth, fIsi, fIsiT, fEqD, fNeD, insAt_ref, insO_ins, fFmt, fmtS_i, fmtS_s, fmtOk_i, fmtOk_s, fIL, fIT, fIR1, fIR2, fIS, fIEn, fIZ,
  startL, List.map_cons, List.map_nil, List.length_cons, List.length_nil, List.cons_append, List.nil_append, List.replicate, List.getElem?_cons_zero, List.getElem?_cons_succ, List.set_cons_zero, List.set_cons_succ, Nat.reduceSub, Nat.reduceAdd,
  Option.some.injEq, Tr.int.injEq, Tr.str.injEq, Tr.bl.injEq, Tr.tup.injEq, Tr.ref.injEq, List.cons.injEq, exists_eq_left, exists_eq_left', exists_eq_right, true_and, and_true, and_self, exists_and_left, tupOf_tup, eqS_ii, eqS_ss, eqS_bb, eqS_ni, eqS_in, eqS_nn, isStr_s, isN_n, isN_i, isN_b, isN_s, isN_t, isN_r, noRaw_n, noRaw_i, noRaw_b, noRaw_s, noRaw_t, noRaw_r, and_assoc, reduceIte, Bool.false_eq_true, exists_const, lstAt_ref, seqAt_ref, seqAt_tup, refAt_ref, lstO_lst, app_assoc2, len_app1, at_kk, at_00, set_k, set_00, Nat.add_assoc, Option.map_some, Prod.mk.injEq, int_cast_inj, Nat.zero_le, decide_eq_true_eq, Bool.not_eq_true', decide_eq_false_iff_not, Nat.add_zero, implies_true, forall_const, ite_true, ite_false, if_true, if_false, decide_true, decide_false, Bool.not_true, Bool.not_false, asg_len, Option.isSome_some])
local macro_rules | `(tactic| walk_at "bel") => `(tactic| first | rfl | (simp (config := { failIfUnchanged := false }) only [belM, O.bel, bels_strs, bels_ints, belL, Tr.bel, Tr.bels, Bool.and_true, Bool.true_and, Bool.and_self, decide_eq_true_eq, Bool.and_eq_true, true_and, and_true, List.length_cons, List.length_nil, Nat.reduceAdd]; try omega))

local macro_rules | `(tactic| walk_at "sim2") => `(tactic| first | exact simDrawn | assumption | apply sim_match | apply SimM2.cons | exact SimM2.nil | apply i_enumT | apply sim_truS | apply sim_listG | apply sim_lcG | apply sim_eitherG | apply sim_methG | apply sim_methJ | apply sim_either | apply sim_sortKey | apply sim_sortSet | apply sim_raiseX)
local macro_rules | `(tactic| walk_at "sim1") => `(tactic| first | (with_reducible apply sim_callX; assumption) | (with_reducible apply sim_methX; assumption) | (with_reducible apply sim_makeX; assumption) | (with_reducible apply sim_makeKX; assumption) | (with_reducible apply sim_makeVSX; assumption) | (with_reducible apply sim_conA) | (with_reducible apply sim_sortSet))
local macro_rules | `(tactic| walk_at "fm2") => `(tactic| simp (config := { failIfUnchanged := false }) only [sm_app, sm_len, sm_at, sm_at0, sm_set, sm_set0, List.getElem?_cons_zero, List.getElem?_cons_succ, List.set_cons_zero, List.set_cons_succ, lstO_lst, Option.isSome_some, Option.map_some, Option.some.injEq, Prod.mk.injEq, Nat.add_assoc, Nat.reduceAdd, exists_eq_left', exists_eq_left, true_and, and_assoc, fRaiseX, fCVal, fNv, int1_i, fEither, fTruS, fIEnT, fMatch, fGoM, setAllT, fMakeK, fMakeVS, fMethJ, fEitherG, fListG, fSortKey, fSortSet, fConA])
local macro_rules | `(tactic| walk_at "fd") => `(tactic| (walk_at "fm"; walk_at "fm2"; walk_at "fm"; walk_at "fm2"; walk_at "fm"))

section
variable {P : Program} {w : World} {K : PySem.W.Frag} {mg : Str → Option Value} {base : Heap} {CB CW C : Addr} {mB : Value} {D : Cl3}
theorem run_gen {N : List Str} {tb : TS} {fb : FS} {ty : TGa} {fy : FGn} {ts : List Tr} {vs : List V} {H : Hp} {ρ : List Addr} {M : Mem} {Ps : List Tr → Mem → Prop} {Qs : List V → Hp → Prop} {rt : VK} (r : RTs K H ρ ts vs) (m : RM K H ρ M) (o : OutS K H ρ Ps Qs)
    (sb : SimS K (H, ρ) tb fb) (sy : SimGn K (H, ρ) ty fy) (p : fb { nx := fun L1 M1 => fy L1 M1 Ps, rt := fun _ _ => False } (startL N ts) M) : tb { nx := fun σ' H' => ty σ' H' Qs, rt := rt } (L2.start N vs) H := by
  refine sb.run (D' := { nx := fun L1 M1 => fy L1 M1 Ps, rt := fun _ _ => False }) ⟨?_, Grow.refl⟩ m p ⟨fun L σ H' ρ' M' g l m' p' => sy.run l m' p' (o.step g), fun _ _ _ _ _ _ _ _ z => z.elim, fun _ _ _ _ _ _ _ _ z => z.elim, fun _ _ _ _ _ _ _ _ z => z.elim⟩
  unfold startL L2.start
  rw [r.len]
  exact RL.start r (RL.nones _ _ (by simp))
/-- what a work plans: its changes, a list of them is left behind -/
def fsPlan (D : Cl3) : FSg := fun ts M P => ∃ (n : Nat) (r : Row), ts = [.ref n] ∧ M[n]? = some (r.O D) ∧ r.ok ∧ P r.ch (M ++ [.lst r.ch])
structure Cp3 (P : Program) (w : World) (K : PySem.W.Frag) (mg : Str → Option Value) (base : Heap) (D : Cl3) : Prop where
  c : MetX P w K mg base L2.CX0 2 D.CC "_changes_planned" (spF K (fsChC D))
  m : MetX P w K mg base L2.CX0 2 D.CM "_changes_planned" (spF K (fsChM D))
  u : MetX P w K mg base L2.CX0 2 D.CU "_changes_planned" (spF K (fsChU D))
theorem lk_ch {r : Row} : ∀ fs C, r.O D = .ins C fs → fs.lookup ("_changes_planned" : Str) = none := by
  cases r with
  | c p b =>
    intro fs C h
    cases h
    unfold f2T
    repeat (rw [List.lookup_cons, show (("_changes_planned" : Str) == _) = false by decide +kernel])
    rfl
  | m p b a =>
    intro fs C h
    cases h
    unfold f3T
    repeat (rw [List.lookup_cons, show (("_changes_planned" : Str) == _) = false by decide +kernel])
    rfl
  | u p b a e t =>
    intro fs C h
    cases h
    unfold f5T
    repeat (rw [List.lookup_cons, show (("_changes_planned" : Str) == _) = false by decide +kernel])
    rfl
theorem ch_len {r : Row} (h : r.ok) : r.ch.length ≤ 50 := by
  cases r with
  | c p b => show 1 ≤ 50; decide
  | m p b a => show 1 ≤ 50; decide
  | u p b a e t =>
    obtain ⟨h1, h2, h3, h4, h5, h6⟩ := h
    show ((List.range t.toNat).map _).length ≤ 50
    rw [List.length_map, List.length_range]
    omega
abbrev fChs (D : Cl3) (fe : FE) : FE := fEither (fEither (fMeth D.CC "_changes_planned" (fsChC D) noX fe fNil) (fMeth D.CM "_changes_planned" (fsChM D) noX fe fNil)) (fMeth D.CU "_changes_planned" (fsChU D) noX fe fNil)
theorem chs_any {L : Fm.Loc} {M : Mem} {n i : Nat} {r : Row} {P : PF} (hL : L[i]? = some (some (.ref n))) (hn : M[n]? = some (r.O D)) (hk : r.ok) (q : P (.ref M.length) (M ++ [.lst r.ch])) : fChs D (fVar i) L M P := by
  cases r with
  | c p b => exact .inl (.inl ⟨_, hL, n, _, insAt_of hn, lk_ch (r := .c p b) (D := D) _ _ rfl, n, p, b, rfl, hn, q⟩)
  | m p b a => exact .inl (.inr ⟨_, hL, n, _, insAt_of hn, lk_ch (r := .m p b a) (D := D) _ _ rfl, n, p, b, a, rfl, hn, q⟩)
  | u p b a e t => exact .inr ⟨_, hL, n, _, insAt_of hn, lk_ch (r := .u p b a e t) (D := D) _ _ rfl, n, p, b, a, e, t, rfl, hn, hk, q⟩
theorem scWplan : GScope ["self", "changes"] ["self"] (L2.defScope sWplan) := ⟨rfl, rfl, rfl, by decide +kernel, rfl, by decide +kernel, by decide +kernel⟩
theorem ok_Wplan {f : Addr} {fd : FuncData} (F : L2.Fun K "planned" "Work.planned" sWplan f fd) (C3 : Cp3 P w K mg base D) : GFn P w K mg base 3 f fd ["self"] (spFJX K (fsPlan D)) := by
  obtain ⟨oc, od, kV, doc, pm, an, cdv, ct, osl, rfl, lk, hcd⟩ := F.ex
  refine gfn_of lk hcd scWplan (fun vs H Q E h => ?_) (fun A outer s H vs Q E pn hr h => ?_)
  · obtain ⟨ts, ρ, M, P, r, m, ⟨n, r1, rfl, _⟩, o⟩ := h
    exact r.len
  · obtain ⟨ts, ρ, M, P, r, m, ⟨n, r1, rfl, hn, hk, q⟩, o⟩ := h
    refine ⟨_, gss_cons (gs_ps (ps_set (i := 1) scWplan.nd rfl (Or.inl rfl) (XNx.pe_or (XNx.pe_or (pe_mX0 C3.c hr (by decide) L2.pass0 (pv 0)) (pe_mX0 C3.m hr (by decide) L2.pass0 (pv 0))) (pe_mX0 C3.u hr (by decide) L2.pass0 (pv 0))))) (gss_cons (gs_yieldFrom (GCx.yf_lst (pv 1)) hr.hd) gss_nil), ?_⟩
    show tAsg _ (gName 1) { nx := fun σ' H' => GCx.tYfL K (tVar 1) σ' H' (fun xs H1 => (([] : List V).length + xs.length ≤ sizeLine) ∧ Q ([] ++ xs) H1), rt := fun v H' => v = V.non ∧ Q [] H' } (L2.start ["self", "changes"] vs) H
    refine run_gen (Ps := fun out M2 => out.length ≤ sizeLine ∧ P out M2) (fy := fYfL (fVar 1)) (fb := fAsg (fChs D (fVar 0)) (fName 1)) r m (fun us xs H' ρ' M' g m' r' p => ⟨by rw [r'.len]; show 0 + _ ≤ _; rw [Nat.zero_add]; exact p.1, o us xs H' ρ' M' g m' r' p.2⟩) (by walk_at "sim") (by first | exact sim_yfL sim_var) ?_
    show fChs D (fVar 0) _ _ _
    refine chs_any rfl hn hk ?_
    exact ⟨_, rfl, r1.ch, by rw [lstAt_ref, at_snoc]; rfl, by have := ch_len hk; rw [sizeLine_eq]; omega, q⟩
end
end T1

set_option Elab.async false
set_option linter.all false
set_option maxRecDepth 100000
set_option maxHeartbeats 4000000
namespace T1
open PySem PySem.Spec PyProof.Rows L2 C8 Fm T2
local macro_rules | `(tactic| walk_at "sim1") => `(tactic| with_reducible first
  | exact sim_nil | exact sim_var | exact sim_int | exact sim_str | exact sim_bl | exact sim_non | exact sim_raw
  | apply sim_cons | apply sim_op | apply sim_un | apply sim_tup | apply sim_lst
  | apply sim_CB | apply sim_if | apply sim_test | apply sim_B | apply sim_not | apply sim_and | apply sim_or
  | apply sim_andV | apply sim_orV | apply sim_notV | apply sim_chain | exact sim_nopart | apply sim_part
  | apply sim_sl | apply sim_BML | apply sim_BMS | apply sim_BM0S | apply sim_M1 | apply sim_M0
  | apply sim_fmt | apply sim_joined | exact SimJ.nil | apply SimJ.cons
  | exact s_I0i | exact s_I0b | exact s_Ii | exact s_Ui | exact s_eq | exact s_ne | exact s_isN | exact s_notN | exact s_ixL | exact s_ixT | exact s_ixS
  | exact s_cat | exact s_catA | exact s_rep | exact s_repT | exact s_in | exact s_slL | exact s_slA | exact s_slS | exact s_addS | exact s_leS | exact s_ltS
  | exact c_len | exact c_lenS | exact c_list | exact c_tuple | exact c_int1 | exact c_intS | exact c_strI | exact c_max2 | exact c_min2
  | exact m_append | exact m_extend | exact m_split | exact m_join | exact m_0b | exact m_1b
  | apply sim_call | exact simSpF
  | exact sim_name | exact sim_gnil | apply sim_gcons | apply sim_gtup | apply sim_gsub | exact set_list
  | exact sim_next | apply sim_seq | apply sim_cut | exact sim_break | exact sim_cont | apply sim_drop | apply sim_ret | exact sim_retN
  | apply sim_ifS | exact sim_never | apply sim_asg | apply sim_par | apply sim_aug
  | apply sim_for | apply sim_while | apply i_list | apply i_tup | apply i_rng1 | apply i_rng2 | apply i_str | apply i_enum | apply i_zip
  | apply sim_lc | exact sim_yes | exact sim_namew (by decide) | exact sim_gnilw | apply sim_gconsw | apply sim_gtupw
  | apply sim_fld | apply sim_con | apply sim_setFld | apply sim_make | apply sim_prop | apply sim_meth | apply sim_cmeth | exact c_isi | apply sim_isiT | exact s_eqD | exact s_neD
  | walk_at "sim2")
local macro_rules | `(tactic| walk_at "sim2") => `(tactic| fail)
local macro_rules | `(tactic| walk_at "sim") => `(tactic| repeat' (walk_at "sim1"))
/-- open the trees' reading as far as it goes by itself -/
local macro_rules | `(tactic| walk_at "fm") => `(tactic| simp (config := { failIfUnchanged := false }) only [fVar, fC, fOp, fUn, fNil, fCons, fTup, fLst, fCB, fIf, fTest, fNot, fAnd, fOr, fAndV, fOrV, fNotV, fChain, fNoPart, fPart, fI, fI0, fU, fEq, fNe, fIsN, fNotN, fIxL, fIxT, fIxS,
  fCat, fCatA, fRep, fRepT, fSlL, fSlA, fSlS, fSl, fLen, fLenS, fList, fTuple, fIntS, fStrI, fMax2, fMin2, fAppend, fExtend, fIn, fBM, fMS, fBMS, fBM0S, fAddS, fLeS, fLtS, fM0b, fM1b, fSplit, fJoin, fJoined, fJs,
  fName, fGNil, fGCons, fGTup, fSetL, fGSub, fNext, fSeq, fCut, fBreak, fCont, fDrop, fRet, fRetN, fIfS, fAsg, fPar, fAug, fCall, fFld, fCon, fSetFld, fMake, fProp, fMeth, fCMeth, fIsi, fIsiT, fEqD, fNeD, insAt_ref, insO_ins, fFmt, fmtS_i, fmtS_s, fmtOk_i, fmtOk_s, fIL, fIT, fIR1, fIR2, fIS, fIEn, fIZ,
  startL, List.map_cons, List.map_nil, List.length_cons, List.length_nil, List.cons_append, List.nil_append, List.replicate, List.getElem?_cons_zero, List.getElem?_cons_succ, List.set_cons_zero, List.set_cons_succ, Nat.reduceSub, Nat.reduceAdd,
  Option.some.injEq, Tr.int.injEq, Tr.str.injEq, Tr.bl.injEq, Tr.tup.injEq, Tr.ref.injEq, List.cons.injEq, exists_eq_left, exists_eq_left', exists_eq_right, true_and, and_true, and_self, exists_and_left, tupOf_tup, eqS_ii, eqS_ss, eqS_bb, eqS_ni, eqS_in, eqS_nn, isStr_s, isN_n, isN_i, isN_b, isN_s, isN_t, isN_r, noRaw_n, noRaw_i, noRaw_b, noRaw_s, noRaw_t, noRaw_r, and_assoc, reduceIte, Bool.false_eq_true, exists_const, lstAt_ref, seqAt_ref, seqAt_tup, refAt_ref, lstO_lst, app_assoc2, len_app1, at_kk, at_00, set_k, set_00, Nat.add_assoc, Option.map_some, Prod.mk.injEq, int_cast_inj, Nat.zero_le, decide_eq_true_eq, Bool.not_eq_true', decide_eq_false_iff_not, Nat.add_zero, implies_true, forall_const, ite_true, ite_false, if_true, if_false, decide_true, decide_false, Bool.not_true, Bool.not_false, asg_len, Option.isSome_some])
local macro_rules | `(tactic| walk_at "bel") => `(tactic| first | rfl | (simp (config := { failIfUnchanged := false }) only [belM, O.bel, bels_strs, bels_ints, belL, Tr.bel, Tr.bels, Bool.and_true, Bool.true_and, Bool.and_self, decide_eq_true_eq, Bool.and_eq_true, true_and, and_true, List.length_cons, List.length_nil, Nat.reduceAdd]; try omega))

local macro_rules | `(tactic| walk_at "sim2") => `(tactic| first | exact simDrawn | assumption | apply sim_match | apply SimM2.cons | exact SimM2.nil | apply i_enumT | apply sim_truS | apply sim_listG | apply sim_lcG | apply sim_eitherG | apply sim_methG | apply sim_methJ | apply sim_either | apply sim_sortKey | apply sim_sortSet | apply sim_raiseX)
local macro_rules | `(tactic| walk_at "sim1") => `(tactic| first | (with_reducible apply sim_callX; assumption) | (with_reducible apply sim_methX; assumption) | (with_reducible apply sim_makeX; assumption) | (with_reducible apply sim_makeKX; assumption) | (with_reducible apply sim_makeVSX; assumption) | (with_reducible apply sim_conA) | (with_reducible apply sim_sortSet))
local macro_rules | `(tactic| walk_at "fm2") => `(tactic| simp (config := { failIfUnchanged := false }) only [sm_app, sm_len, sm_at, sm_at0, sm_set, sm_set0, List.getElem?_cons_zero, List.getElem?_cons_succ, List.set_cons_zero, List.set_cons_succ, lstO_lst, Option.isSome_some, Option.map_some, Option.some.injEq, Prod.mk.injEq, Nat.add_assoc, Nat.reduceAdd, exists_eq_left', exists_eq_left, true_and, and_assoc, fRaiseX, fCVal, fNv, int1_i, fEither, fTruS, fIEnT, fMatch, fGoM, setAllT, fMakeK, fMakeVS, fMethJ, fEitherG, fListG, fSortKey, fSortSet, fConA])
local macro_rules | `(tactic| walk_at "fd") => `(tactic| (walk_at "fm"; walk_at "fm2"; walk_at "fm"; walk_at "fm2"; walk_at "fm"))

/-! ### Schedule.__init__ -/
abbrev lamS : Str := (envOfC "Schedule.__init__" (L2.defScope sSi) 0 0 .none).qual ++ "<lambda>"
/-- as L2.Fun, its code object at c -/
structure FunC (K : PySem.W.Frag) (x qual : Str) (st : Stmt) (f c : Addr) : Prop where
  ex : ∃ (oc : Value) (od : Option Addr) (kV doc pm : Value) (an : Option Addr) (ct : Value) (osl : Array (Option Value)),
    K.lookup f = some ⟨oc, od, .func (PySem.W.fnOf x qual (L2.defArgs st) (L2.defBody st) (L2.defScope st) .none kV doc pm an (.ref c) ct), osl⟩ ∧ PySem.W.codeIn K (.ref c) qual = true
def allCh (rs : List Row) : List Tr := rs.flatMap Row.ch
def overAt (rs : List Row) (i : Nat) : Prop := i = 20 ∨ 60 < (allCh (rs.take (i + 1))).length
instance {rs : List Row} {i : Nat} : Decidable (overAt rs i) := by unfold overAt; infer_instance
/-- what stands in a made schedule -/
def fS (ws : List Nat) (k : Nat) : List (Str × Tr) := [("_works", .tup (ws.map Tr.ref)), ("_changes", .ref k)]
/-- works ws of the rows rs -/
def WorksAt (D : Cl3) (M : Mem) (ws : List Nat) (rs : List Row) : Prop := ws.length = rs.length ∧ ∀ (i n : Nat) (r : Row), ws[i]? = some n → rs[i]? = some r → M[n]? = some (r.O D) ∧ r.ok
def fsSi (CW CS : Addr) (D : Cl3) (T : List (Addr × Str)) : FSp := fun ts M P PX => ∃ (n : Nat) (ws : List Nat) (rs : List Row), ts = [.ref n, .tup (ws.map Tr.ref)] ∧ M[n]? = some (.ins CS []) ∧ WorksAt D M ws rs ∧ rs.length ≤ 1000000 ∧ TabsM T M ∧
  (∀ i, i < rs.length → overAt rs i → (∀ j, j < i → ¬ overAt rs j) → PX CW (ixT "index" (i : Int)) M) ∧
  ((∀ i, i < rs.length → ¬ overAt rs i) → P .non (M.set n (.ins CS (fS ws (M.length + 1))) ++ [.lst (allCh rs), .lst (stab keyT (allCh rs))]))
/-- the class of schedules -/
structure SC (K : PySem.W.Frag) (CS : Addr) : Prop where
  cl : Cls K CS
  n1 : NoAttr K CS "_works"
  n2 : NoAttr K CS "_changes"
  mw : ∃ u, L2.Con K CS "MAX_WORKS" (.int 20) u
  mc : ∃ u, L2.Con K CS "MAX_CHANGES" (.int 60) u
/-- a method that is a generator -/
structure GenX (P : Program) (w : World) (K : PySem.W.Frag) (mg : Str → Option Value) (base : Heap) (k : Nat) (C : Addr) (m : Str) (sp : SpG) : Prop where
  ex : ∃ (f : Addr) (fd : FuncData) (ps : List Str), Cls K C ∧ L2.Meth K C m f ∧ GFn P w K mg base k f fd ps sp ∧ L2.Binds K fd ps []
theorem pgenX {X : Cx} {k j : Nat} {C : Addr} {m : Str} {sp : SpG} {o : Expr} {apos pos' : Pos} {ta : TE} {pl : Sem Bool} (c : GenX X.prog X.w X.K X.mg X.base k C m sp) (he : PE X o ta) (hr : Room j X.A) (hk : k ≤ j)
    (ht : eval (.Call (.Attribute o m apos) [] [] pos') X.env = (do
      let ov ← eval o X.env
      standAt apos.atName
      let (f, first) ← holding [ov] (getMethod ov m pl)
      callWith pos' f first (backTo pos' (starEach [] X.env)) (backToKw pos' (keywordEach [] X.env))) := by rfl) :
    PGen X k (.Call (.Attribute o m apos) [] [] pos') (tMethG C m sp [] L2.E0 ta tNil) L2.E0 := by
  obtain ⟨f, fd, ps, hc, hm, F, b⟩ := c.ex
  exact pgen_meth0 (pl := pl) he hc hm F (hr.mono hk) b .nil ht
structure Gp3 (P : Program) (w : World) (K : PySem.W.Frag) (mg : Str → Option Value) (base : Heap) (D : Cl3) : Prop where
  c : GenX P w K mg base 3 D.CC "planned" (spFJX K (fsPlan D))
  m : GenX P w K mg base 3 D.CM "planned" (spFJX K (fsPlan D))
  u : GenX P w K mg base 3 D.CU "planned" (spFJX K (fsPlan D))
/-- the plan of a work of any class -/
def fPlans (D : Cl3) (fe : FE) : FGn := fEitherG (fEitherG (fMethJ D.CC "planned" (fsPlan D) fe) (fMethJ D.CM "planned" (fsPlan D) fe)) (fMethJ D.CU "planned" (fsPlan D) fe)
theorem sim_plans {K : PySem.W.Frag} {B : Bs} {D : Cl3} {E : XK} {te : TE} {fe : FE} (a : SimE K B te fe) : SimGn K B (XNx.tOrG (XNx.tOrG (tMethG D.CC "planned" (spFJX K (fsPlan D)) [] E te tNil) (tMethG D.CM "planned" (spFJX K (fsPlan D)) [] E te tNil)) (tMethG D.CU "planned" (spFJX K (fsPlan D)) [] E te tNil)) (fPlans D fe) :=
  sim_eitherG (sim_eitherG (sim_methG a) (sim_methG a)) (sim_methG a)
local macro_rules | `(tactic| walk_at "sim2") => `(tactic| apply sim_plans)
theorem lk_pl {D : Cl3} {r : Row} : ∀ fs C, r.O D = .ins C fs → fs.lookup ("planned" : Str) = none := by
  cases r with
  | c p b =>
    intro fs C h
    cases h
    unfold f2T
    repeat (rw [List.lookup_cons, show (("planned" : Str) == _) = false by decide +kernel])
    rfl
  | m p b a =>
    intro fs C h
    cases h
    unfold f3T
    repeat (rw [List.lookup_cons, show (("planned" : Str) == _) = false by decide +kernel])
    rfl
  | u p b a e t =>
    intro fs C h
    cases h
    unfold f5T
    repeat (rw [List.lookup_cons, show (("planned" : Str) == _) = false by decide +kernel])
    rfl
theorem plans_any {D : Cl3} {L : Fm.Loc} {M : Mem} {n i : Nat} {r : Row} {P : List Tr → Mem → Prop} (hL : L[i]? = some (some (.ref n))) (hn : M[n]? = some (r.O D)) (hk : r.ok) (q : P r.ch (M ++ [.lst r.ch])) : fPlans D (fVar i) L M P := by
  cases r with
  | c p b => exact .inl (.inl ⟨_, hL, n, _, insAt_of hn, lk_pl (r := .c p b) (D := D) _ _ rfl, n, .c p b, rfl, hn, hk, q⟩)
  | m p b a => exact .inl (.inr ⟨_, hL, n, _, insAt_of hn, lk_pl (r := .m p b a) (D := D) _ _ rfl, n, .m p b a, rfl, hn, hk, q⟩)
  | u p b a e t => exact .inr ⟨_, hL, n, _, insAt_of hn, lk_pl (r := .u p b a e t) (D := D) _ _ rfl, n, .u p b a e t, rfl, hn, hk, q⟩
theorem ins_l {M g : Mem} {n : Nat} {C : Addr} {fs : List (Str × Tr)} (e : M[n]? = some (.ins C fs)) : (insO (M ++ g)[n]?).map (fun p => (n, p.1, p.2)) = some (n, C, fs) := insM_of (at_l e)
theorem all_snoc {rs : List Row} {i : Nat} {r : Row} (h : rs[i]? = some r) : allCh (rs.take (i + 1)) = allCh (rs.take i) ++ r.ch := by
  unfold allCh
  rw [List.take_succ, h, List.flatMap_append]
  simp
theorem ch_keyed (r : Row) : ∀ t ∈ r.ch, keyed t = true ∧ ∀ n, Tr.bel n t = true := by
  cases r with
  | c p b =>
    intro t ht
    rw [List.mem_singleton.mp ht]
    exact ⟨rfl, fun _ => rfl⟩
  | m p b a =>
    intro t ht
    rw [List.mem_singleton.mp ht]
    exact ⟨rfl, fun _ => rfl⟩
  | u p b a e t =>
    intro x hx
    obtain ⟨k, _, rfl⟩ := List.mem_map.mp hx
    exact ⟨rfl, fun _ => rfl⟩
theorem all_keyed (rs : List Row) : ∀ t ∈ allCh rs, keyed t = true ∧ ∀ n, Tr.bel n t = true := fun t ht => by
  obtain ⟨r, _, h⟩ := List.mem_flatMap.mp ht
  exact ch_keyed r t h
theorem keyed_all (rs : List Row) : (allCh rs).all keyed = true := List.all_eq_true.mpr fun t ht => (all_keyed rs t ht).1
theorem bels_all' {n : Nat} (rs : List Row) : Tr.bels n (allCh rs) = true := bels_all fun t ht => (all_keyed rs t ht).2 n
theorem bels_stab {n : Nat} (rs : List Row) : Tr.bels n (stab keyT (allCh rs)) = true := bels_all fun t ht => (all_keyed rs t ((mem_stab _).mp ht)).2 n
theorem bels_refs {n : Nat} {ws : List Nat} (h : ∀ k ∈ ws, k < n) : Tr.bels n (ws.map Tr.ref) = true := bels_all fun t ht => by
  obtain ⟨k, hk, rfl⟩ := List.mem_map.mp ht
  exact decide_eq_true (h k hk)
def fS1 (ws : List Nat) : List (Str × Tr) := [("_works", .tup (ws.map Tr.ref))]
theorem pfS (ws : List Nat) (k : Nat) : putT "_changes" (.ref k) (fS1 ws) = fS ws k := by
  unfold fS1
  unfold putT
  rw [if_neg (by decide +kernel)]
  rfl
theorem noStop0 {K : PySem.W.Frag} : NoStop K L2.E0 := fun _ _ _ z => z.elim
section
variable {P : Program} {w : World} {K : PySem.W.Frag} {mg : Str → Option Value} {base : Heap} {CB CW C CS : Addr} {mB : Value} {D : Cl3} {Tb : List (Addr × Str)}
theorem scSi : FnScope ["self", "works", "changes", "index", "work"] ((["self"] : List Str) ++ (["works"] : List Str)) (L2.defScope sSi) := ⟨rfl, rfl, rfl, by decide +kernel, rfl, by decide +kernel, by decide +kernel⟩
theorem ok_Si {f c Ps : Addr} (F : FunC K "__init__" "Schedule.__init__" sSi f c) (T : BQ mg) (SK : SC K CS) (G : Gp3 P w K mg base D) (RW : RaisesX P w K mg base "InvalidWork" "index" CW) (TB : LamX.TabB base mg c Ps) (hT : (Ps, lamS) ∈ Tb) (hu : ∀ p ∈ Tb, p.1 = Ps → p.2 = lamS) :
    FnR P w K mg base (L2.CX P w) 8 f (spStar 1 (spF K (fsSi CW CS D Tb))) := by
  obtain ⟨oc, od, kV, doc, pm, an, ct, osl, lk, hcd⟩ := F.ex
  refine StX.fn_star (ps := ["self"]) (pv := "works") (sp := spF K (fsSi CW CS D Tb)) lk hcd scSi StX.cxUp (fun us rest hl => by match us, rest, hl with | [_], [], _ => rfl | [_], _ :: _, _ => rfl) (fun A outer s H vs Q E hr h => ?_)
  refine ⟨_, (pss_cons (ps_set (i := 2) scSi.nd rfl (Or.inl rfl) (pe_lst pa_nil))
 (pss_cons (ps_for (passes_of rfl) rfl (pi_enumT (by rfl) T.enumerate (pa_cons (pv 1) pa_nil)) (pg_tup rfl (pgs_cons (pg_name (i := 3) scSi.nd rfl (Or.inl rfl)) (pgs_cons (pg_name (i := 4) scSi.nd rfl (Or.inl rfl)) pgs_nil))) (pss_cons (ps_expr (pe_bm PySem.F.plainAttrs_list PySem.F.slot_list_extend PySem.F.type_list_extend mt_extend (pv 2) (pa_cons (pe_listG (XNx.pgen_or (XNx.pgen_or (pgenX G.c (pv 4) hr (by decide)) (pgenX G.m (pv 4) hr (by decide))) (pgenX G.u (pv 4) hr (by decide))) L2.passL noStop0 (hr.mono (by decide)) (by rfl) T.list (by decide +kernel)) pa_nil)))
 (pss_one (ps_if (PW.pt (pw_or (pt_cmpR op_eq (pv 3) (pe_con (pv 0) rfl) (nomark _)) (pw_or1 (pt_cmpR op_gt (pe_callB call_len_seq (by rfl) T.len PySem.boot_len (pa_cons (pv 2) pa_nil)) (pe_con (pv 0) rfl) (nomark _))))) (pss_one (ps_raiseC RW rfl (takes_of rfl rfl rfl rfl) hr (by decide) (by rfl) (pa_cons (pv 3) pa_nil))) pss_nil))))
 (pss_cons (ps_fld (pv 0) (pv 1) rfl)
 (pss_one (ps_fld (pv 0) (SKx.pe_sortKey (T := Tb) (k := 6) (pv 2) rfl (by rfl) T.sorted TB rfl hT hu hr rfl rfl rfl rfl rfl (by decide) (fun _ _ _ _ _ _ => rfl)) rfl))))), ?_⟩
  obtain ⟨ts, ρ, M, P, PX, r, m, ⟨n, ws, rs, rfl, hn, hw, hrl, hT, q1, q2⟩, o, ox⟩ := h
  have hE := keepX_of m ox
  try simp only [nox_K, cx_K]
  refine run_in r m o (by walk_at "sim") ?_
  walk_at "fd"
  unfold fFor
  walk_at "fd"
  obtain ⟨u1, hu1⟩ := SK.mw
  obtain ⟨u2, hu2⟩ := SK.mc
  have hnl : n < List.length M := (List.getElem?_eq_some_iff.mp hn).1
  have hlt : ∀ k ∈ ws, k < List.length M := fun k hk => by
    obtain ⟨j, hj⟩ := List.mem_iff_getElem?.mp hk
    have hj2 : j < rs.length := by rw [← hw.1]; exact (List.getElem?_eq_some_iff.mp hj).1
    exact (List.getElem?_eq_some_iff.mp (hw.2 j k _ hj (List.getElem?_eq_getElem hj2)).1).1
  refine ⟨fun i L2 M2 => ∃ v3 v4, L2 = [some (Tr.ref n), some (Tr.tup (List.map Tr.ref ws)), some (Tr.ref (List.length M)), v3, v4] ∧ M2 = M ++ [O.lst (allCh (rs.take i))] ∧ ∀ j, j < i → ¬ overAt rs j, ?_, ?_, ?_⟩
  · exact ⟨none, none, rfl, rfl, fun j h => absurd h (Nat.not_lt_zero _)⟩
  · rintro i t L2 M2 ht ⟨v3, v4, rfl, rfl, hno⟩
    obtain ⟨x, hx, rfl⟩ := enumT_get ht
    rw [List.getElem?_map] at hx
    cases hwi : ws[i]? with
    | none => rw [hwi] at hx; cases hx
    | some k =>
      rw [hwi] at hx
      cases hx
      have hi : i < rs.length := by rw [← hw.1]; exact (List.getElem?_eq_some_iff.mp hwi).1
      obtain ⟨r1, hr1⟩ : ∃ r, rs[i]? = some r := ⟨_, List.getElem?_eq_getElem hi⟩
      obtain ⟨hk, hok⟩ := hw.2 i k r1 hwi hr1
      have h60 : (allCh (rs.take i)).length ≤ 60 := by
        cases i with
        | zero => exact Nat.zero_le _
        | succ j =>
          have := hno j (Nat.lt_succ_self j)
          unfold overAt at this
          omega
      have hc50 := ch_len hok
      walk_at "fd"
      refine plans_any rfl (at_l hk) hok ?_
      walk_at "fd"
      have bad : overAt rs i → KeepX (List.length M) PX CW (ixT "index" (i : Int)) (M ++ [O.lst (allCh (rs.take i) ++ r1.ch), O.lst r1.ch, O.lst r1.ch]) := fun h => keepX_app m rfl (q1 i hi h hno)
      refine ⟨by rw [sizeLine_eq]; omega, n, CS, [], ins_l hn, SK.cl, .int 20, _, u1, hu1, rfl, rfl, decide (((0 + i : Nat) : Int) = 20), rfl, ?_⟩
      simp only [Nat.zero_add]
      by_cases h20 : i = 20
      · rw [if_pos (decide_eq_true (by omega))]
        exact ⟨by omega, by omega, bad (.inl h20)⟩
      · rw [if_neg (fun z => h20 (by have := of_decide_eq_true z; omega))]
        refine ⟨n, CS, [], ins_l hn, SK.cl, .int 60, _, u2, hu2, rfl, rfl, 60, rfl, ?_⟩
        by_cases h6 : (60 : Int) < ((allCh (rs.take i) ++ r1.ch).length : Int)
        · rw [if_pos h6]
          exact ⟨by omega, by omega, bad (.inr (by rw [all_snoc hr1]; omega))⟩
        · rw [if_neg h6]
          refine forget_to (g := [_]) (L' := [some (Tr.ref n), some (Tr.tup (List.map Tr.ref ws)), some (Tr.ref (List.length M)), none, none]) (Nat.le_refl _) ⟨_, rfl, _, rfl, _, rfl, _, _, rfl, _, _, rfl, rfl⟩ ⟨none, none, rfl, by rw [all_snoc hr1], fun j hj => ?_⟩ ?_ m.belM ?_
          · rcases Nat.lt_succ_iff_lt_or_eq.mp hj with h | h
            · exact hno j h
            · subst h
              rintro (z | z)
              · exact h20 z
              · rw [all_snoc hr1] at z
                omega
          · simp only [belL, Tr.bel, Bool.and_true, Bool.and_eq_true, decide_eq_true_eq, List.length_cons, List.length_nil]
            exact ⟨by omega, bels_refs (fun k hk => Nat.lt_succ_of_lt (hlt k hk)), by omega⟩
          · simp only [belM, O.bel, Bool.and_true]
            rw [← all_snoc hr1]
            exact bels_all' _
  · rintro L2 M2 ⟨v3, v4, rfl, rfl, hno⟩
    walk_at "fd"
    rw [enumT_len, List.length_map, hw.1] at hno
    rw [enumT_len, List.length_map, hw.1, List.take_length]
    have ea : ∀ (o : O) (g : Mem), (M ++ g).set n o = M.set n o ++ g := fun o g => List.set_append_left _ _ hnl
    have el : ∀ o : O, List.length (M.set n o) = List.length M := fun o => List.length_set
    have eat : ∀ (o u : O) (g : Mem), (M.set n o ++ u :: g)[List.length M]? = some u := fun o u g => by
      have := at_00 (M := M.set n o) (g := u :: g)
      rw [el] at this
      rw [this]
      rfl
    refine ⟨n, CS, [], ins_l hn, SK.cl, SK.n1, by decide, ?_⟩
    rw [ea]
    refine ⟨?_, allCh rs, by rw [eat]; rfl, keyed_all rs, n, CS, fS1 ws, ?_, SK.cl, SK.n2, by show 1 < 1000; decide, ?_⟩
    · rw [← ea]
      exact (hT.app rfl).set (at_l hn) (fun _ _ z => nomatch z) (fun _ _ z => nomatch z)
    · rw [List.append_assoc]
      exact ins_l (set_same hn)
    · rw [pfS, List.length_append, el, List.append_assoc]
      have e2 : ∀ (o1 o2 : O) (g : Mem), (M.set n o1 ++ g).set n o2 = M.set n o2 ++ g := fun o1 o2 g => by
        rw [List.set_append_left _ _ (by rw [el]; exact hnl), List.set_set]
      rw [e2]
      refine keep_whole (by rw [List.length_append, el]; omega) rfl ?_ (q2 hno)
      rw [List.length_append, el]
      show belM (List.length M + 2) (M.set n (.ins CS (fS ws (List.length M + 1))) ++ [.lst (allCh rs), .lst (stab keyT (allCh rs))]) = true
      rw [belM_app, belM_set (by
        unfold O.bel fS
        simp only [belF, Tr.bel, Bool.and_true, Bool.and_eq_true, decide_eq_true_eq]
        exact ⟨bels_refs (fun k hk => by have := hlt k hk; omega), by omega⟩) (belM_mono (by omega) m.belM)]
      simp only [belM, O.bel, Bool.and_true, Bool.true_and, Bool.and_eq_true]
      exact ⟨bels_all' _, bels_stab _⟩
end
end T1

set_option Elab.async false
set_option linter.all false
set_option maxRecDepth 100000
set_option maxHeartbeats 4000000
namespace T1
open PySem PySem.Spec PyProof.Rows L2 C8 Fm T2
local macro_rules | `(tactic| walk_at "sim1") => `(tactic| with_reducible first
  | exact sim_nil | exact sim_var | exact sim_int | exact sim_str | exact sim_bl | exact sim_non | exact sim_raw
  | apply sim_cons | apply sim_op | apply sim_un | apply sim_tup | apply sim_lst
  | apply sim_CB | apply sim_if | apply sim_test | apply sim_B | apply sim_not | apply sim_and | apply sim_or
  | apply sim_andV | apply sim_orV | apply sim_notV | apply sim_chain | exact sim_nopart | apply sim_part
  | apply sim_sl | apply sim_BML | apply sim_BMS | apply sim_BM0S | apply sim_M1 | apply sim_M0
  | apply sim_fmt | apply sim_joined | exact SimJ.nil | apply SimJ.cons
  | exact s_I0i | exact s_I0b | exact s_Ii | exact s_Ui | exact s_eq | exact s_ne | exact s_isN | exact s_notN | exact s_ixL | exact s_ixT | exact s_ixS
  | exact s_cat | exact s_catA | exact s_rep | exact s_repT | exact s_in | exact s_slL | exact s_slA | exact s_slS | exact s_addS | exact s_leS | exact s_ltS
  | exact c_len | exact c_lenS | exact c_list | exact c_tuple | exact c_int1 | exact c_intS | exact c_strI | exact c_max2 | exact c_min2
  | exact m_append | exact m_extend | exact m_split | exact m_join | exact m_0b | exact m_1b
  | apply sim_call | exact simSpF
  | exact sim_name | exact sim_gnil | apply sim_gcons | apply sim_gtup | apply sim_gsub | exact set_list
  | exact sim_next | apply sim_seq | apply sim_cut | exact sim_break | exact sim_cont | apply sim_drop | apply sim_ret | exact sim_retN
  | apply sim_ifS | exact sim_never | apply sim_asg | apply sim_par | apply sim_aug
  | apply sim_for | apply sim_while | apply i_list | apply i_tup | apply i_rng1 | apply i_rng2 | apply i_str | apply i_enum | apply i_zip
  | apply sim_lc | exact sim_yes | exact sim_namew (by decide) | exact sim_gnilw | apply sim_gconsw | apply sim_gtupw
  | apply sim_fld | apply sim_con | apply sim_setFld | apply sim_make | apply sim_prop | apply sim_meth | apply sim_cmeth | exact c_isi | apply sim_isiT | exact s_eqD | exact s_neD
  | walk_at "sim2")
local macro_rules | `(tactic| walk_at "sim2") => `(tactic| fail)
local macro_rules | `(tactic| walk_at "sim") => `(tactic| repeat' (walk_at "sim1"))
/-- open the trees' reading as far as it goes by itself -/
local macro_rules | `(tactic| walk_at "fm") => `(tactic| simp (config := { failIfUnchanged := false }) only [fVar, fC, fOp, fUn, fNil, fCons, fTup, fLst, fCB, fIf, fTest, fNot, fAnd, fOr, fAndV, fOrV, fNotV, fChain, fNoPart, fPart, fI, fI0, fU, fEq, fNe, fIsN, fNotN, fIxL, fIxT, fIxS,
  fCat, fCatA, fRep, fRepT, fSlL, fSlA, fSlS, fSl, fLen, fLenS, fList, fTuple, fIntS, fStrI, fMax2, fMin2, fAppend, fExtend, fIn, fBM, fMS, fBMS, fBM0S, fAddS, fLeS, fLtS, fM0b, fM1b, fSplit, fJoin, fJoined, fJs,
  fName, fGNil, fGCons, fGTup, fSetL, fGSub, fNext, fSeq, fCut, fBreak, fCont, fDrop, fRet, fRetN, fIfS, fAsg, fPar, fAug, fCall, fFld, fCon, fSetFld, fMake, fProp, fMeth, fCMeth, fIsi, fIsiT, fEqD, fNeD, insAt_ref, insO_ins, fFmt, fmtS_i, fmtS_s, fmtOk_i, fmtOk_s, fIL, fIT, fIR1, fIR2, fIS, fIEn, fIZ,
  startL, List.map_cons, List.map_nil, List.length_cons, List.length_nil, List.cons_append, List.nil_append, List.replicate, List.getElem?_cons_zero, List.getElem?_cons_succ, List.set_cons_zero, List.set_cons_succ, Nat.reduceSub, Nat.reduceAdd,
  Option.some.injEq, Tr.int.injEq, Tr.str.injEq, Tr.bl.injEq, Tr.tup.injEq, Tr.ref.injEq, List.cons.injEq, exists_eq_left, exists_eq_left', exists_eq_right, true_and, and_true, and_self, exists_and_left, tupOf_tup, eqS_ii, eqS_ss, eqS_bb, eqS_ni, eqS_in, eqS_nn, isStr_s, isN_n, isN_i, isN_b, isN_s, isN_t, isN_r, noRaw_n, noRaw_i, noRaw_b, noRaw_s, noRaw_t, noRaw_r, and_assoc, reduceIte, Bool.false_eq_true, exists_const, lstAt_ref, seqAt_ref, seqAt_tup, refAt_ref, lstO_lst, app_assoc2, len_app1, at_kk, at_00, set_k, set_00, Nat.add_assoc, Option.map_some, Prod.mk.injEq, int_cast_inj, Nat.zero_le, decide_eq_true_eq, Bool.not_eq_true', decide_eq_false_iff_not, Nat.add_zero, implies_true, forall_const, ite_true, ite_false, if_true, if_false, decide_true, decide_false, Bool.not_true, Bool.not_false, asg_len, Option.isSome_some])
local macro_rules | `(tactic| walk_at "bel") => `(tactic| first | rfl | (simp (config := { failIfUnchanged := false }) only [belM, O.bel, bels_strs, bels_ints, belL, Tr.bel, Tr.bels, Bool.and_true, Bool.true_and, Bool.and_self, decide_eq_true_eq, Bool.and_eq_true, true_and, and_true, List.length_cons, List.length_nil, Nat.reduceAdd]; try omega))

local macro_rules | `(tactic| walk_at "sim2") => `(tactic| first | exact simDrawn | assumption | apply sim_match | apply SimM2.cons | exact SimM2.nil | apply i_enumT | apply sim_truS | apply sim_listG | apply sim_lcG | apply sim_eitherG | apply sim_methG | apply sim_methJ | apply sim_either | apply sim_sortKey | apply sim_sortSet | apply sim_raiseX)
local macro_rules | `(tactic| walk_at "sim1") => `(tactic| first | (with_reducible apply sim_callX; assumption) | (with_reducible apply sim_methX; assumption) | (with_reducible apply sim_makeX; assumption) | (with_reducible apply sim_makeKX; assumption) | (with_reducible apply sim_makeVSX; assumption) | (with_reducible apply sim_conA) | (with_reducible apply sim_sortSet))
local macro_rules | `(tactic| walk_at "fm2") => `(tactic| simp (config := { failIfUnchanged := false }) only [sm_app, sm_len, sm_at, sm_at0, sm_set, sm_set0, List.getElem?_cons_zero, List.getElem?_cons_succ, List.set_cons_zero, List.set_cons_succ, lstO_lst, Option.isSome_some, Option.map_some, Option.some.injEq, Prod.mk.injEq, Nat.add_assoc, Nat.reduceAdd, exists_eq_left', exists_eq_left, true_and, and_assoc, fRaiseX, fCVal, fNv, int1_i, fEither, fTruS, fIEnT, fMatch, fGoM, setAllT, fMakeK, fMakeVS, fMethJ, fEitherG, fListG, fSortKey, fSortSet, fConA])
local macro_rules | `(tactic| walk_at "fd") => `(tactic| (walk_at "fm"; walk_at "fm2"; walk_at "fm"; walk_at "fm2"; walk_at "fm"))

/-! ### Schedule.text, Schedule.planned -/
structure PrpX (P : Program) (w : World) (K : PySem.W.Frag) (mg : Str → Option Value) (base : Heap) (CX : CXT) (k : Nat) (C : Addr) (m : Str) (sp : Sp) : Prop where
  ex : ∃ (p g : Addr) (fd : FuncData) (ps : List Str), Cls K C ∧ L2.PropOf K C m p g ∧ FnOk P w K mg base CX k g fd ps sp ∧ L2.Binds K fd ps []
theorem pe_prX {X : Cx} {CX : CXT} {k j : Nat} {C : Addr} {m : Str} {sp : Sp} {E : XK} {e : Expr} {ta : TE} {pos : Pos} (c : PrpX X.prog X.w X.K X.mg X.base CX k C m sp) (he : PE X e ta) (hr : Room j X.A) (hk : k + 1 ≤ j) (hx : L2.Passes CX X.nox E)
    (hab : attributeBase e m X.env (eval e X.env) = eval e X.env := by rfl) : PE X (.Attribute e m pos) (tProp C sp [] E ta) := by
  obtain ⟨p, g, fd, ps, hc, hp, F, b⟩ := c.ex
  exact pe_prop he hc hp F (hr.mono hk) b .nil hx hab
structure Lp3 (P : Program) (w : World) (K : PySem.W.Frag) (mg : Str → Option Value) (base : Heap) (D : Cl3) : Prop where
  c : PrpX P w K mg base L2.CX0 1 D.CC "line" (spF K (fsLnC D))
  m : PrpX P w K mg base L2.CX0 1 D.CM "line" (spF K (fsLnM D))
  u : PrpX P w K mg base L2.CX0 1 D.CU "line" (spF K (fsLnU D))
def fLine (D : Cl3) (fe : FE) : FE := fEither (fEither (fProp D.CC (fsLnC D) noX fe) (fProp D.CM (fsLnM D) noX fe)) (fProp D.CU (fsLnU D) noX fe)
theorem sim_line {K : PySem.W.Frag} {B : Bs} {D : Cl3} {E1 E2 E3 : XK} {te : TE} {fe : FE} (a : SimE K B te fe) : SimE K B (XNx.tOr (XNx.tOr (tProp D.CC (spF K (fsLnC D)) [] E1 te) (tProp D.CM (spF K (fsLnM D)) [] E2 te)) (tProp D.CU (spF K (fsLnU D)) [] E3 te)) (fLine D fe) :=
  sim_either (sim_either (sim_prop simSpF a) (sim_prop simSpF a)) (sim_prop simSpF a)
local macro_rules | `(tactic| walk_at "sim2") => `(tactic| apply sim_line)
theorem line_any {D : Cl3} {L : Fm.Loc} {M : Mem} {n i : Nat} {r : Row} {P : PF} (hL : L[i]? = some (some (.ref n))) (hn : M[n]? = some (r.O D)) (hk : r.ok) (q : P (.str r.line) M) : fLine D (fVar i) L M P := by
  cases r with
  | c p b => exact .inl (.inl ⟨_, hL, n, _, insAt_of hn, n, p, b, rfl, hn, hk, q⟩)
  | m p b a => exact .inl (.inr ⟨_, hL, n, _, insAt_of hn, n, p, b, a, rfl, hn, hk, q⟩)
  | u p b a e t => exact .inr ⟨_, hL, n, _, insAt_of hn, n, p, b, a, e, t, rfl, hn, hk, q⟩
theorem rowO_inj {D : Cl3} {r r' : Row} (h : r.O D = r'.O D) : r = r' := by
  cases r <;> cases r' <;> simp [Row.O, f2T, f3T, f5T] at h <;> simp [h]
noncomputable def lineF (D : Cl3) (M : Mem) : Tr → Option Tr
  | .ref k => some (.str (@Classical.epsilon Str ⟨Str.empty⟩ fun z => ∃ r : Row, M[k]? = some (r.O D) ∧ z = r.line))
  | _ => none
theorem lineF_eq {D : Cl3} {M : Mem} {k : Nat} {r : Row} (h : M[k]? = some (r.O D)) : lineF D M (.ref k) = some (.str r.line) := by
  show some (Tr.str (@Classical.epsilon Str ⟨Str.empty⟩ fun z => ∃ r : Row, M[k]? = some (r.O D) ∧ z = r.line)) = _
  obtain ⟨r2, e, e2⟩ := @Classical.epsilon_spec Str (fun z => ∃ r : Row, M[k]? = some (r.O D) ∧ z = r.line) ⟨r.line, r, h, rfl⟩
  rw [h] at e
  rw [← rowO_inj (Option.some.inj e)] at e2
  exact congrArg (fun z => some (Tr.str z)) e2
theorem lines_eq {D : Cl3} {M : Mem} : ∀ {ws : List Nat} {rs : List Row}, WorksAt D M ws rs → (ws.map Tr.ref).filterMap (lineF D M) = (rs.map Row.line).map Tr.str
  | [], [], _ => rfl
  | [], _ :: _, h => by cases h.1
  | _ :: _, [], h => by cases h.1
  | k :: ws, r :: rs, h => by
    have h0 := (h.2 0 k r rfl rfl).1
    rw [List.map_cons, List.filterMap_cons, lineF_eq h0, List.map_cons, List.map_cons, lines_eq (ws := ws) (rs := rs) ⟨by have := h.1; simpa using this, fun i n r' h1 h2 => h.2 (i + 1) n r' (by simpa using h1) (by simpa using h2)⟩]
theorem len_line {r : Row} (h : r.ok) : r.line.length ≤ 200 := by
  cases r with
  | c p b => have := len_lineC h; show (lineC p b).length ≤ 200; omega
  | m p b a => have := len_lineM h; show (lineM p b a).length ≤ 200; omega
  | u p b a e t => exact len_lineU h
theorem lc_G {L : Fm.Loc} {M : Mem} {P : PF} {fg : FG} {ft : FT} {fe : FE} {vs : List Nat} {fi : FI} {ts : List Tr} (F : Tr → Option Tr) (h : ∀ R : FIt → Mem → Prop, R ⟨ts, fun _ => True⟩ M → fi L M R) (hM : belM M.length M = true) (hn : ts.length ≤ sizeLine) (hF : ∀ t ∈ ts, ∀ y, F t = some y → Tr.bel M.length y = true)
    (step : ∀ t ∈ ts, LcStep F fg ft fe vs L M t) (fin : P (.ref M.length) (M ++ [.lst (ts.filterMap F)])) : fLc fi fg ft fe vs L M P :=
  h _ (Fm.lc_core (it := ⟨ts, fun _ => True⟩) F trivial hM hn hF step fin)
def fsStext (CS : Addr) (D : Cl3) : FSp := fun ts M P _ => ∃ (n k : Nat) (ws : List Nat) (rs : List Row), ts = [.ref n] ∧ M[n]? = some (.ins CS (fS ws k)) ∧ WorksAt D M ws rs ∧ rs.length ≤ 1000 ∧ P (.str (Txt.join "\n" (rs.map Row.line))) M
def fsSplan (CS : Addr) : FSg := fun ts M P => ∃ (n k : Nat) (ws : List Nat) (chs : List Tr), ts = [.ref n] ∧ M[n]? = some (.ins CS (fS ws k)) ∧ M[k]? = some (.lst chs) ∧ chs.length ≤ 1000 ∧ P chs M
section
variable {P : Program} {w : World} {K : PySem.W.Frag} {mg : Str → Option Value} {base : Heap} {CB CW C CS : Addr} {mB : Value} {D : Cl3}
theorem lk_fS {ws : List Nat} {k : Nat} : (fS ws k).lookup ("_changes" : Str) = some (.ref k) := by
  unfold fS
  rw [List.lookup_cons, show (("_changes" : Str) == _) = false by decide +kernel]
  rfl
theorem len_nl' : ("\n" : Str).length = 1 := by decide +kernel
theorem scStext : FnScope ["self", "work"] ["self"] (L2.defScope sStext) := ⟨rfl, rfl, rfl, by decide +kernel, rfl, by decide +kernel, by decide +kernel⟩
theorem ok_Stext {f : Addr} {fd : FuncData} (F : L2.Fun K "text" "Schedule.text" sStext f fd) (T : BQ mg) (SK : SC K CS) (L3 : Lp3 P w K mg base D) : FnOk P w K mg base L2.CX0 4 f fd ["self"] (spF K (fsStext CS D)) := by
  refine F.ok scStext (fun vs H Q E h => ?_) (fun cdv A outer s H vs Q E hr h => ?_)
  · obtain ⟨ts, ρ, M, P, PX, r, m, ⟨n, k, ws, rs, rfl, _⟩, o, ox⟩ := h
    exact r.len
  · refine ⟨_, (pss_one (ps_ret (pe_join pe_str (pe_lc (own := [("work", 1)]) (g := gName 1) rfl scStext.nd (pi_tup (pe_fld (pv 0) rfl)) (blkOk_by (N := ["self", "work"]) (sc := L2.defScope sStext) (by decide +kernel)) (fun _ _ _ _ _ => pg_name (i := 1) scStext.nd rfl (Or.inl rfl)) (fun _ _ _ _ _ => pts_nil) (fun _ _ _ _ _ => (XNx.pe_or (XNx.pe_or (pe_prX L3.c (pv 1) hr (by decide) L2.pass0) (pe_prX L3.m (pv 1) hr (by decide) L2.pass0)) (pe_prX L3.u (pv 1) hr (by decide) L2.pass0))))))), ?_⟩
    obtain ⟨ts, ρ, M, P, PX, r, m, ⟨n, k, ws, rs, rfl, hn, hw, hl, q⟩, o, ox⟩ := h
    try simp only [nox_K, cx_K]
    refine run_in r m o (by walk_at "sim") ?_
    walk_at "fd"
    refine lc_G (ts := ws.map Tr.ref) (lineF D M) (fun R hR => ?_) m.belM (by rw [List.length_map, hw.1, sizeLine_eq]; omega) (fun t ht y hy => ?_) (fun t ht => ?_) ?_
    · walk_at "fd"
      exact ⟨n, CS, _, insM_of hn, SK.cl, SK.n1, _, rfl, _, rfl, hR⟩
    · obtain ⟨j, hj, rfl⟩ := List.mem_map.mp ht
      obtain ⟨i, hi⟩ := List.mem_iff_getElem?.mp hj
      have hi2 : i < rs.length := by rw [← hw.1]; exact (List.getElem?_eq_some_iff.mp hi).1
      obtain ⟨h1, h2⟩ := hw.2 i j _ hi (List.getElem?_eq_getElem hi2)
      rw [lineF_eq h1] at hy
      cases hy
      rfl
    · obtain ⟨j, hj, rfl⟩ := List.mem_map.mp ht
      obtain ⟨i, hi⟩ := List.mem_iff_getElem?.mp hj
      have hi2 : i < rs.length := by rw [← hw.1]; exact (List.getElem?_eq_some_iff.mp hi).1
      obtain ⟨h1, h2⟩ := hw.2 i j _ hi (List.getElem?_eq_getElem hi2)
      intro R N hR _
      walk_at "fd"
      exact line_any rfl h1 h2 (hR _ (lineF_eq h1)).1
    · rw [lines_eq hw]
      walk_at "fd"
      refine ⟨rs.map Row.line, rfl, ?_, keep_app m rfl q⟩
      have hs : ∀ y ∈ rs.map Row.line, y.length ≤ 200 := fun y hy => by
        obtain ⟨r, hr, rfl⟩ := List.mem_map.mp hy
        obtain ⟨i, hi⟩ := List.mem_iff_getElem?.mp hr
        have hi2 : i < ws.length := by rw [hw.1]; exact (List.getElem?_eq_some_iff.mp hi).1
        exact len_line (hw.2 i _ r (List.getElem?_eq_getElem hi2) hi).2
      have := sum_le hs
      rw [List.length_map] at this ⊢
      rw [len_nl']
      omega
theorem scSplan : GScope ["self"] ["self"] (L2.defScope sSplan) := ⟨rfl, rfl, rfl, by decide +kernel, rfl, by decide +kernel, by decide +kernel⟩
theorem ok_Splan {f : Addr} {fd : FuncData} (F : L2.Fun K "planned" "Schedule.planned" sSplan f fd) (SK : SC K CS) : GCx.GFnJ P w K mg base 1 f fd ["self"] (spFJ K (fsSplan CS)) := by
  obtain ⟨oc, od, kV, doc, pm, an, cdv, ct, osl, rfl, lk, hcd⟩ := F.ex
  refine GCx.gfnJ_of lk hcd scSplan (fun vs H Q h => ?_) (fun A outer s H vs Q pn hr h => ?_)
  · obtain ⟨ts, ρ, M, P, r, m, ⟨n, k, ws, chs, rfl, _⟩, o⟩ := h
    exact r.len
  · obtain ⟨ts, ρ, M, P, r, m, ⟨n, k, ws, chs, rfl, hn, hk, hl, q⟩, o⟩ := h
    refine ⟨_, GCx.gb_yf (GCx.yf_lst (pe_fld (pv 0) rfl)) hr.hd, ?_⟩
    obtain ⟨x, rfl, r1⟩ := r.one
    show GCx.tYfL K (tFld K (tVar 0) "_changes") (L2.start ["self"] [x]) H (fun xs H1 => xs.length ≤ sizeLine ∧ Q xs H1)
    have sy : SimGn K (H, ρ) (GCx.tYfL K (tFld K (tVar 0) "_changes")) (fYfL (fFld K (fVar 0) "_changes")) := sim_yfL (sim_fld sim_var)
    refine sy.run (L := [some (.ref n)]) (P := fun out M2 => out.length ≤ sizeLine ∧ P out M2) ⟨RL.start r (RL.nones 0 [] rfl), Grow.refl⟩ m ?_ (fun us xs H' ρ' M' g m' r' p => ⟨by rw [r'.len]; exact p.1, o us xs H' ρ' M' g m' r' p.2⟩)
    exact ⟨_, rfl, n, CS, _, _, insAt_of hn, SK.cl, SK.n2, lk_fS, chs, lstAt_of hk, by rw [sizeLine_eq]; omega, q⟩
end
end T1

set_option Elab.async false
set_option linter.all false
set_option maxRecDepth 100000
set_option maxHeartbeats 4000000
namespace T1
open PySem PySem.Spec PyProof.Rows L2 C8 Fm T2
local macro_rules | `(tactic| walk_at "sim1") => `(tactic| with_reducible first
  | exact sim_nil | exact sim_var | exact sim_int | exact sim_str | exact sim_bl | exact sim_non | exact sim_raw
  | apply sim_cons | apply sim_op | apply sim_un | apply sim_tup | apply sim_lst
  | apply sim_CB | apply sim_if | apply sim_test | apply sim_B | apply sim_not | apply sim_and | apply sim_or
  | apply sim_andV | apply sim_orV | apply sim_notV | apply sim_chain | exact sim_nopart | apply sim_part
  | apply sim_sl | apply sim_BML | apply sim_BMS | apply sim_BM0S | apply sim_M1 | apply sim_M0
  | apply sim_fmt | apply sim_joined | exact SimJ.nil | apply SimJ.cons
  | exact s_I0i | exact s_I0b | exact s_Ii | exact s_Ui | exact s_eq | exact s_ne | exact s_isN | exact s_notN | exact s_ixL | exact s_ixT | exact s_ixS
  | exact s_cat | exact s_catA | exact s_rep | exact s_repT | exact s_in | exact s_slL | exact s_slA | exact s_slS | exact s_addS | exact s_leS | exact s_ltS
  | exact c_len | exact c_lenS | exact c_list | exact c_tuple | exact c_int1 | exact c_intS | exact c_strI | exact c_max2 | exact c_min2
  | exact m_append | exact m_extend | exact m_split | exact m_join | exact m_0b | exact m_1b
  | apply sim_call | exact simSpF
  | exact sim_name | exact sim_gnil | apply sim_gcons | apply sim_gtup | apply sim_gsub | exact set_list
  | exact sim_next | apply sim_seq | apply sim_cut | exact sim_break | exact sim_cont | apply sim_drop | apply sim_ret | exact sim_retN
  | apply sim_ifS | exact sim_never | apply sim_asg | apply sim_par | apply sim_aug
  | apply sim_for | apply sim_while | apply i_list | apply i_tup | apply i_rng1 | apply i_rng2 | apply i_str | apply i_enum | apply i_zip
  | apply sim_lc | exact sim_yes | exact sim_namew (by decide) | exact sim_gnilw | apply sim_gconsw | apply sim_gtupw
  | apply sim_fld | apply sim_con | apply sim_setFld | apply sim_make | apply sim_prop | apply sim_meth | apply sim_cmeth | exact c_isi | apply sim_isiT | exact s_eqD | exact s_neD
  | walk_at "sim2")
local macro_rules | `(tactic| walk_at "sim2") => `(tactic| fail)
local macro_rules | `(tactic| walk_at "sim") => `(tactic| repeat' (walk_at "sim1"))
/-- open the trees' reading as far as it goes by itself -/
local macro_rules | `(tactic| walk_at "fm") => `(tactic| simp (config := { failIfUnchanged := false }) only [fVar, fC, fOp, fUn, fNil, fCons, fTup, fLst, fCB, fIf, fTest, fNot, fAnd, fOr, fAndV, fOrV, fNotV, fChain, fNoPart, fPart, fI, fI0, fU, fEq, fNe, fIsN, fNotN, fIxL, fIxT, fIxS,
  fCat, fCatA, fRep, fRepT, fSlL, fSlA, fSlS, fSl, fLen, fLenS, fList, fTuple, fIntS, fStrI, fMax2, fMin2, fAppend, fExtend, fIn, fBM, fMS, fBMS, fBM0S, fAddS, fLeS, fLtS, fM0b, fM1b, fSplit, fJoin, fJoined, fJs,
  fName, fGNil, fGCons, fGTup, fSetL, fGSub, fNext, fSeq, fCut, fBreak, fCont, fDrop, fRet, fRetN, fIfS, fAsg, fPar, fAug, fCall, fFld, fCon, fSetFld, fMake, fProp, fMeth, fCMeth, fIsi, fIsiT, fEqD, fNeD, insAt_ref, insO_ins, fFmt, fmtS_i, fmtS_s, fmtOk_i, fmtOk_s, fIL, fIT, fIR1, fIR2, fIS, fIEn, fIZ,
  startL, List.map_cons, List.map_nil, List.length_cons, List.length_nil, List.cons_append, List.nil_append, List.replicate, List.getElem?_cons_zero, List.getElem?_cons_succ, List.set_cons_zero, List.set_cons_succ, Nat.reduceSub, Nat.reduceAdd,
  Option.some.injEq, Tr.int.injEq, Tr.str.injEq, Tr.bl.injEq, Tr.tup.injEq, Tr.ref.injEq, List.cons.injEq, exists_eq_left, exists_eq_left', exists_eq_right, true_and, and_true, and_self, exists_and_left, tupOf_tup, eqS_ii, eqS_ss, eqS_bb, eqS_ni, eqS_in, eqS_nn, isStr_s, isN_n, isN_i, isN_b, isN_s, isN_t, isN_r, noRaw_n, noRaw_i, noRaw_b, noRaw_s, noRaw_t, noRaw_r, and_assoc, reduceIte, Bool.false_eq_true, exists_const, lstAt_ref, seqAt_ref, seqAt_tup, refAt_ref, lstO_lst, app_assoc2, len_app1, at_kk, at_00, set_k, set_00, Nat.add_assoc, Option.map_some, Prod.mk.injEq, int_cast_inj, Nat.zero_le, decide_eq_true_eq, Bool.not_eq_true', decide_eq_false_iff_not, Nat.add_zero, implies_true, forall_const, ite_true, ite_false, if_true, if_false, decide_true, decide_false, Bool.not_true, Bool.not_false, asg_len, Option.isSome_some])
local macro_rules | `(tactic| walk_at "bel") => `(tactic| first | rfl | (simp (config := { failIfUnchanged := false }) only [belM, O.bel, bels_strs, bels_ints, belL, Tr.bel, Tr.bels, Bool.and_true, Bool.true_and, Bool.and_self, decide_eq_true_eq, Bool.and_eq_true, true_and, and_true, List.length_cons, List.length_nil, Nat.reduceAdd]; try omega))

local macro_rules | `(tactic| walk_at "sim2") => `(tactic| first | exact simDrawn | assumption | apply sim_match | apply SimM2.cons | exact SimM2.nil | apply i_enumT | apply sim_truS | apply sim_listG | apply sim_lcG | apply sim_eitherG | apply sim_methG | apply sim_methJ | apply sim_either | apply sim_sortKey | apply sim_sortSet | apply sim_raiseX)
local macro_rules | `(tactic| walk_at "sim1") => `(tactic| first | (with_reducible apply sim_callX; assumption) | (with_reducible apply sim_methX; assumption) | (with_reducible apply sim_makeX; assumption) | (with_reducible apply sim_makeKX; assumption) | (with_reducible apply sim_makeVSX; assumption) | (with_reducible apply sim_conA) | (with_reducible apply sim_sortSet))
local macro_rules | `(tactic| walk_at "fm2") => `(tactic| simp (config := { failIfUnchanged := false }) only [sm_app, sm_len, sm_at, sm_at0, sm_set, sm_set0, List.getElem?_cons_zero, List.getElem?_cons_succ, List.set_cons_zero, List.set_cons_succ, lstO_lst, Option.isSome_some, Option.map_some, Option.some.injEq, Prod.mk.injEq, Nat.add_assoc, Nat.reduceAdd, exists_eq_left', exists_eq_left, true_and, and_assoc, fRaiseX, fCVal, fNv, int1_i, fEither, fTruS, fIEnT, fMatch, fGoM, setAllT, fMakeK, fMakeVS, fMethJ, fEitherG, fListG, fSortKey, fSortSet, fConA])
local macro_rules | `(tactic| walk_at "fd") => `(tactic| (walk_at "fm"; walk_at "fm2"; walk_at "fm"; walk_at "fm2"; walk_at "fm"))

/-! ### Schedule.parse -/
structure RaisesH (P : Program) (w : World) (K : PySem.W.Frag) (mg : Str → Option Value) (base : Heap) (x fld : Str) (CW : Addr) : Prop where
  ex : ∃ (fW : Addr) (fd : FuncData) (ps : List Str), ProgX K mg x fld CW fW ∧ L2H.FnH P w K mg base L2.CX0 1 fW fd ps (spIXi K fld CW) ∧ Binds K fd ps []
theorem ps_raiseHF {X : Cx} {x fld : Str} {CW : Addr} {W : WX} {e : Expr} {es : List Expr} {ta : TA} {p pos rp cp : Pos} {k jc : Nat} (c : RaisesH X.prog X.w X.K X.mg X.base x fld CW) (hot : L2H.HotC X) (tk : L2.Takes X W) (hr : L2H.RoomH k X.A) (hk : 2 ≤ k) (hg : Gl X x) (ha : PA X (e :: es) ta)
    (hdb : (x == ("__debug__" : Str)) = false := by decide) (he : starEach (e :: es) X.env = (false, eval e X.env) :: starEach es X.env := by rfl) (hpl : (backTo pos (starEach es X.env)).any (·.1) = false := by rfl) :
    PS X (.Raise (some (.Call (.Name x p) (e :: es) [] pos)) (some (.Constant .none jc cp)) rp) (fun _ σ H => tMkO CW (spIXi X.K fld CW) [] ta σ H fun cls d H' => W cls d σ H') := by
  obtain ⟨fW, fd, ps, T, F, b⟩ := c.ex
  exact L2H.ps_raiseHN hot tk (L2H.pmk5_oexH T.ox T.iX T.tX F ⟨Nat.le_trans (by omega) hr.dp, Nat.le_trans (by omega) hr.un⟩ hot b L2.pass0 hg T.gX ha hdb he hpl)
/-- a call inside a try: its exceptions go to the clauses -/
theorem pe_callT {X : Cx} {CX : CXT} {k j : Nat} {x : Str} {sp : Sp} {E : L2.St → XK} {e : Expr} {es : List Expr} {t : TA} {p pos : Pos} (c : CalX X.prog X.w X.K X.mg X.base CX k x sp) (hr : Room j X.A) (hk : k ≤ j) (hg : Gl X x) (hx : ∀ σ, PassesAt CX X σ (E σ)) (ha : PA X (e :: es) t)
    (hdb : (x == ("__debug__" : Str)) = false := by decide) (he : starEach (e :: es) X.env = (false, eval e X.env) :: starEach es X.env := by rfl) (hpl : (backTo pos (starEach es X.env)).any (·.1) = false := by rfl) :
    PE X (.Call (.Name x p) (e :: es) [] pos) (fun σ => tCall sp [] (E σ) t σ) := by
  obtain ⟨f, fd, ps, F, hm, kp, b⟩ := c.ex
  have h := pe_callS (p := p) (pos := pos) F (hr.mono hk) hg hm kp b hx ha hdb he hpl
  refine ⟨fun pins s σ H Q I q => h.run pins s σ H Q I ?_⟩
  have e2 : (fun (vs : List V) (H1 : Hp) => sp vs H1 Q (E σ)) = fun vs H1 => sp (vs ++ []) H1 Q (E σ) := by
    funext vs H1
    rw [List.append_nil]
  show t σ H (fun vs H1 => sp vs H1 Q (E σ))
  rw [e2]
  exact q
/-- try: ys.append(f(..)) except C: suite -/
def fTryA (i : Nat) (CW : Addr) (fsp : FSp) (fa : FA) (fsu : FS) : FS := fun D L M => fDrop (fBM fAppend (fVar i) (fCons (fCall fsp (fun C _ M' => C = CW ∧ fsu D L M') fa) fNil)) D L M
theorem sim_tryA {K : PySem.W.Frag} {B : Bs} {i : Nat} {CW : Addr} {sp : Sp} {fsp : FSp} {ta : TA} {fa : FA} {tsu : TS} {fsu : FS} {Wout : WX} (hyes : PySem.W.exmOne K (.ref CW) (.ref CW) = some true) (s : SimSp K sp fsp) (a : ∀ B, SimA K B ta fa) (su : SimS K B tsu fsu) :
    SimS K B (fun D σ H => (fun W : WX => (tDrop (tBM K "list" rAppend (tVar i) (tCons (fun σ => tCall sp [] (WE W σ) ta σ) tNil)) : TS)) (wOnly K (.ref CW) (fun _ _ _ => tsu) Wout D) D σ H) (fTryA i CW fsp fa fsu) := ⟨fun {σ H ρ L M D' D} hl hm p e => by
  have hE : OutX K H ρ (fun C _ M' => C = CW ∧ fsu D' L M') (WE (wOnly K (.ref CW) (fun _ _ _ => tsu) Wout D) σ) := fun C fs d H' ρ' M' g m x ⟨ec, p'⟩ => by
    subst ec
    exact ⟨true, hyes, fun _ _ _ => su.run (hl.mono g) m p' (e.step g), fun z => Bool.noConfusion z⟩
  have sim : SimS K (H, ρ) (tDrop (tBM K "list" rAppend (tVar i) (tCons (tCall sp [] (WE (wOnly K (.ref CW) (fun _ _ _ => tsu) Wout D) σ) ta) tNil))) (fDrop (fBM fAppend (fVar i) (fCons (fCall fsp (fun C _ M' => C = CW ∧ fsu D' L M') fa) fNil))) :=
    sim_drop (sim_BML m_append sim_var (sim_cons (sim_callX hE s (a _)) sim_nil))
  exact sim.run (D' := D') (D := D) ⟨hl.rl, Grow.refl⟩ hm p ⟨fun L2 σ2 H2 ρ2 M2 g l m p2 => e.nx _ _ _ _ _ g ⟨l.rl, hl.gr.trans l.gr⟩ m p2, e.rt, fun L2 σ2 H2 ρ2 M2 g l m p2 => e.bk _ _ _ _ _ g ⟨l.rl, hl.gr.trans l.gr⟩ m p2, fun L2 σ2 H2 ρ2 M2 g l m p2 => e.ct _ _ _ _ _ g ⟨l.rl, hl.gr.trans l.gr⟩ m p2⟩⟩
end T1

set_option Elab.async false
set_option linter.all false
set_option maxRecDepth 100000
set_option maxHeartbeats 4000000
namespace T1
open PySem PySem.Spec PyProof.Rows L2 C8 Fm T2
local macro_rules | `(tactic| walk_at "sim1") => `(tactic| with_reducible first
  | exact sim_nil | exact sim_var | exact sim_int | exact sim_str | exact sim_bl | exact sim_non | exact sim_raw
  | apply sim_cons | apply sim_op | apply sim_un | apply sim_tup | apply sim_lst
  | apply sim_CB | apply sim_if | apply sim_test | apply sim_B | apply sim_not | apply sim_and | apply sim_or
  | apply sim_andV | apply sim_orV | apply sim_notV | apply sim_chain | exact sim_nopart | apply sim_part
  | apply sim_sl | apply sim_BML | apply sim_BMS | apply sim_BM0S | apply sim_M1 | apply sim_M0
  | apply sim_fmt | apply sim_joined | exact SimJ.nil | apply SimJ.cons
  | exact s_I0i | exact s_I0b | exact s_Ii | exact s_Ui | exact s_eq | exact s_ne | exact s_isN | exact s_notN | exact s_ixL | exact s_ixT | exact s_ixS
  | exact s_cat | exact s_catA | exact s_rep | exact s_repT | exact s_in | exact s_slL | exact s_slA | exact s_slS | exact s_addS | exact s_leS | exact s_ltS
  | exact c_len | exact c_lenS | exact c_list | exact c_tuple | exact c_int1 | exact c_intS | exact c_strI | exact c_max2 | exact c_min2
  | exact m_append | exact m_extend | exact m_split | exact m_join | exact m_0b | exact m_1b
  | apply sim_call | exact simSpF
  | exact sim_name | exact sim_gnil | apply sim_gcons | apply sim_gtup | apply sim_gsub | exact set_list
  | exact sim_next | apply sim_seq | apply sim_cut | exact sim_break | exact sim_cont | apply sim_drop | apply sim_ret | exact sim_retN
  | apply sim_ifS | exact sim_never | apply sim_asg | apply sim_par | apply sim_aug
  | apply sim_for | apply sim_while | apply i_list | apply i_tup | apply i_rng1 | apply i_rng2 | apply i_str | apply i_enum | apply i_zip
  | apply sim_lc | exact sim_yes | exact sim_namew (by decide) | exact sim_gnilw | apply sim_gconsw | apply sim_gtupw
  | apply sim_fld | apply sim_con | apply sim_setFld | apply sim_make | apply sim_prop | apply sim_meth | apply sim_cmeth | exact c_isi | apply sim_isiT | exact s_eqD | exact s_neD
  | walk_at "sim2")
local macro_rules | `(tactic| walk_at "sim2") => `(tactic| fail)
local macro_rules | `(tactic| walk_at "sim") => `(tactic| repeat' (walk_at "sim1"))
/-- open the trees' reading as far as it goes by itself -/
local macro_rules | `(tactic| walk_at "fm") => `(tactic| simp (config := { failIfUnchanged := false }) only [fVar, fC, fOp, fUn, fNil, fCons, fTup, fLst, fCB, fIf, fTest, fNot, fAnd, fOr, fAndV, fOrV, fNotV, fChain, fNoPart, fPart, fI, fI0, fU, fEq, fNe, fIsN, fNotN, fIxL, fIxT, fIxS,
  fCat, fCatA, fRep, fRepT, fSlL, fSlA, fSlS, fSl, fLen, fLenS, fList, fTuple, fIntS, fStrI, fMax2, fMin2, fAppend, fExtend, fIn, fBM, fMS, fBMS, fBM0S, fAddS, fLeS, fLtS, fM0b, fM1b, fSplit, fJoin, fJoined, fJs,
  fName, fGNil, fGCons, fGTup, fSetL, fGSub, fNext, fSeq, fCut, fBreak, fCont, fDrop, fRet, fRetN, fIfS, fAsg, fPar, fAug, fCall, fFld, fCon, fSetFld, fMake, fProp, fMeth, fCMeth, fIsi, fIsiT, fEqD, fNeD, insAt_ref, insO_ins, fFmt, fmtS_i, fmtS_s, fmtOk_i, fmtOk_s, fIL, fIT, fIR1, fIR2, fIS, fIEn, fIZ,
  startL, List.map_cons, List.map_nil, List.length_cons, List.length_nil, List.cons_append, List.nil_append, List.replicate, List.getElem?_cons_zero, List.getElem?_cons_succ, List.set_cons_zero, List.set_cons_succ, Nat.reduceSub, Nat.reduceAdd,
  Option.some.injEq, Tr.int.injEq, Tr.str.injEq, Tr.bl.injEq, Tr.tup.injEq, Tr.ref.injEq, List.cons.injEq, exists_eq_left, exists_eq_left', exists_eq_right, true_and, and_true, and_self, exists_and_left, tupOf_tup, eqS_ii, eqS_ss, eqS_bb, eqS_ni, eqS_in, eqS_nn, isStr_s, isN_n, isN_i, isN_b, isN_s, isN_t, isN_r, noRaw_n, noRaw_i, noRaw_b, noRaw_s, noRaw_t, noRaw_r, and_assoc, reduceIte, Bool.false_eq_true, exists_const, lstAt_ref, seqAt_ref, seqAt_tup, refAt_ref, lstO_lst, app_assoc2, len_app1, at_kk, at_00, set_k, set_00, Nat.add_assoc, Option.map_some, Prod.mk.injEq, int_cast_inj, Nat.zero_le, decide_eq_true_eq, Bool.not_eq_true', decide_eq_false_iff_not, Nat.add_zero, implies_true, forall_const, ite_true, ite_false, if_true, if_false, decide_true, decide_false, Bool.not_true, Bool.not_false, asg_len, Option.isSome_some])
local macro_rules | `(tactic| walk_at "bel") => `(tactic| first | rfl | (simp (config := { failIfUnchanged := false }) only [belM, O.bel, bels_strs, bels_ints, belL, Tr.bel, Tr.bels, Bool.and_true, Bool.true_and, Bool.and_self, decide_eq_true_eq, Bool.and_eq_true, true_and, and_true, List.length_cons, List.length_nil, Nat.reduceAdd]; try omega))

local macro_rules | `(tactic| walk_at "sim2") => `(tactic| first | exact simDrawn | assumption | apply sim_match | apply SimM2.cons | exact SimM2.nil | apply i_enumT | apply sim_truS | apply sim_listG | apply sim_lcG | apply sim_eitherG | apply sim_methG | apply sim_methJ | apply sim_either | apply sim_sortKey | apply sim_sortSet | apply sim_raiseX)
local macro_rules | `(tactic| walk_at "sim1") => `(tactic| first | (with_reducible apply sim_callX; assumption) | (with_reducible apply sim_methX; assumption) | (with_reducible apply sim_makeX; assumption) | (with_reducible apply sim_makeKX; assumption) | (with_reducible apply sim_makeVSX; assumption) | (with_reducible apply sim_conA) | (with_reducible apply sim_sortSet))
local macro_rules | `(tactic| walk_at "fm2") => `(tactic| simp (config := { failIfUnchanged := false }) only [sm_app, sm_len, sm_at, sm_at0, sm_set, sm_set0, List.getElem?_cons_zero, List.getElem?_cons_succ, List.set_cons_zero, List.set_cons_succ, lstO_lst, Option.isSome_some, Option.map_some, Option.some.injEq, Prod.mk.injEq, Nat.add_assoc, Nat.reduceAdd, exists_eq_left', exists_eq_left, true_and, and_assoc, fRaiseX, fCVal, fNv, int1_i, fEither, fTruS, fIEnT, fMatch, fGoM, setAllT, fMakeK, fMakeVS, fMethJ, fEitherG, fListG, fSortKey, fSortSet, fConA])
local macro_rules | `(tactic| walk_at "fd") => `(tactic| (walk_at "fm"; walk_at "fm2"; walk_at "fm"; walk_at "fm2"; walk_at "fm"))

/-- the rows of a text's lines; or the first line that is wrong (true: a work out of range) -/
def scan (f : Str → Int) : Nat → List (List Str) → Except (Bool × Nat) (List Row)
  | _, [] => .ok []
  | k, ws :: r => match rdRow f ws with
    | none => .error (false, k)
    | some row => if row.ok then (match scan f (k + 1) r with
      | .ok rs => .ok (row :: rs)
      | .error e => .error e) else .error (true, k)
def linesOf (t : Str) : List Str := if t.length = 0 then [] else Txt.split t "\n"
def wordsL (t : Str) : List (List Str) := (linesOf t).map fun l => Txt.split l " "
def SchedAt (CS : Addr) (D : Cl3) (M : Mem) (r : Nat) (rs : List Row) : Prop := ∃ (ws : List Nat) (k : Nat), M[r]? = some (.ins CS (fS ws k)) ∧ WorksAt D M ws rs ∧ M[k]? = some (.lst (stab keyT (allCh rs)))
def fsParse (CT CW CS : Addr) (D : Cl3) (T : List (Addr × Str)) : FSp := fun ts M P PX => ∃ t : Str, ts = [.raw (.ref CS), .str t] ∧ t.length ≤ 800000 ∧ TabsM T M ∧
  (∀ i, scan num20 0 (wordsL t) = .error (false, i) → PX CT (ixT "row" (i : Int)) M) ∧ (∀ i, scan num20 0 (wordsL t) = .error (true, i) → PX CW (ixT "index" (i : Int)) M) ∧
  ∀ rs, scan num20 0 (wordsL t) = .ok rs → (∀ i, i < rs.length → overAt rs i → (∀ j, j < i → ¬ overAt rs j) → PX CW (ixT "index" (i : Int)) M) ∧
    ((∀ i, i < rs.length → ¬ overAt rs i) → ∀ (g : Mem) (r : Nat), ntab g = true → belM (List.length (M ++ g)) (M ++ g) = true → SchedAt CS D (M ++ g) r rs → P (.ref r) (M ++ g))
theorem iteX {c : Prop} [Decidable c] {A1 A2 : Prop} {F : List Tr → Prop} {a b x : List Tr} (h1 : A1) (h2 : A2) (e1 : c → a = x) (e2 : ¬ c → b = x) (k : F x) : if c then A1 ∧ A2 ∧ F a else F b := by
  by_cases h : c
  · rw [if_pos h, e1 h]
    exact ⟨h1, h2, k⟩
  · rw [if_neg h, e2 h]
    exact k
theorem scan_drop {ls : List (List Str)} {i : Nat} {ws : List Str} (h : ls[i]? = some ws) : scan num20 i (ls.drop i) = (match rdRow num20 ws with
    | none => .error (false, i)
    | some row => if row.ok then (match scan num20 (i + 1) (ls.drop (i + 1)) with
      | .ok rs => .ok (row :: rs)
      | .error e => .error e) else .error (true, i)) := by
  rw [drop_at h]
  rfl
/-- what has been read so far -/
def Read (ls : List (List Str)) (i : Nat) (rs : List Row) : Prop := rs.length = i ∧ scan num20 0 ls = (match scan num20 i (ls.drop i) with
  | .ok r => .ok (rs ++ r)
  | .error e => .error e)
theorem Read.nil {ls : List (List Str)} : Read ls 0 [] := ⟨rfl, by
  rw [List.drop_zero]
  cases scan num20 0 ls <;> rfl⟩
theorem Read.text {ls : List (List Str)} {i : Nat} {rs : List Row} {ws : List Str} (h : Read ls i rs) (e : ls[i]? = some ws) (z : rdRow num20 ws = none) : scan num20 0 ls = .error (false, i) := by
  rw [h.2, scan_drop e, z]
theorem Read.work {ls : List (List Str)} {i : Nat} {rs : List Row} {ws : List Str} {r : Row} (h : Read ls i rs) (e : ls[i]? = some ws) (z : rdRow num20 ws = some r) (n : ¬ r.ok) : scan num20 0 ls = .error (true, i) := by
  rw [h.2, scan_drop e, z]
  simp only
  rw [if_neg n]
theorem Read.snoc {ls : List (List Str)} {i : Nat} {rs : List Row} {ws : List Str} {r : Row} (h : Read ls i rs) (e : ls[i]? = some ws) (z : rdRow num20 ws = some r) (n : r.ok) : Read ls (i + 1) (rs ++ [r]) := ⟨by simp [h.1], by
  rw [h.2, scan_drop e, z]
  simp only
  rw [if_pos n]
  cases scan num20 (i + 1) (ls.drop (i + 1)) with
  | ok rs2 => simp
  | error e => rfl⟩
theorem Read.all {ls : List (List Str)} {rs : List Row} (h : Read ls ls.length rs) : scan num20 0 ls = .ok rs := by
  rw [h.2, List.drop_of_length_le (Nat.le_refl _)]
  show Except.ok (rs ++ []) = _
  rw [List.append_nil]
theorem linesOf_at {t : Str} {i : Nat} {l : Str} (h : (linesOf t)[i]? = some l) : (wordsL t)[i]? = some (Txt.split l " ") := by
  unfold wordsL
  rw [List.getElem?_map, h]
  rfl
theorem linesOf_len {t l : Str} (h : l ∈ linesOf t) : l.length ≤ t.length := by
  unfold linesOf at h
  split at h
  · cases h
  · exact part_len h
theorem linesOf_num (t : Str) : (linesOf t).length ≤ t.length + 1 := by
  unfold linesOf
  split
  · exact Nat.zero_le _
  · exact split_len len_nl
theorem worksAt_app {D : Cl3} {M g : Mem} {ws : List Nat} {rs : List Row} (h : WorksAt D M ws rs) : WorksAt D (M ++ g) ws rs := ⟨h.1, fun i n r h1 h2 => ⟨at_l (h.2 i n r h1 h2).1, (h.2 i n r h1 h2).2⟩⟩
theorem worksAt_snoc {D : Cl3} {M : Mem} {ws : List Nat} {rs : List Row} {n : Nat} {r : Row} (h : WorksAt D M ws rs) (e : M[n]? = some (r.O D)) (k : r.ok) : WorksAt D M (ws ++ [n]) (rs ++ [r]) := ⟨by simp [h.1], fun i n' r' h1 h2 => by
  by_cases hi : i < ws.length
  · rw [List.getElem?_append_left hi] at h1
    rw [List.getElem?_append_left (by rw [← h.1]; exact hi)] at h2
    exact h.2 i n' r' h1 h2
  · rw [List.getElem?_append_right (by omega)] at h1
    rw [List.getElem?_append_right (by rw [← h.1]; omega), ← h.1] at h2
    cases hj : i - ws.length with
    | zero =>
      rw [hj] at h1 h2
      cases h1
      cases h2
      exact ⟨e, k⟩
    | succ j =>
      rw [hj] at h1
      simp at h1⟩
theorem WorksAt.set {D : Cl3} {M : Mem} {ws : List Nat} {rs : List Row} {n : Nat} {us : List Tr} {o : O} (h : WorksAt D M ws rs) (e : M[n]? = some (.lst us)) : WorksAt D (M.set n o) ws rs := ⟨h.1, fun i k r h1 h2 => by
  obtain ⟨h3, h4⟩ := h.2 i k r h1 h2
  have : n ≠ k := fun z => by
    subst z
    rw [e] at h3
    cases r <;> cases h3
  exact ⟨by rw [List.getElem?_set_ne this]; exact h3, h4⟩⟩
theorem ntab_0 : ∀ {M : Mem}, belM 0 M = true → ntab M = true
  | [], _ => rfl
  | o :: M, h => by
    unfold belM at h
    rw [Bool.and_eq_true] at h
    have := ntab_0 h.2
    unfold ntab at this ⊢
    rw [List.all_cons, this, Bool.and_true]
    cases o with
    | tab P q => exact absurd h.1 (by simp [O.bel])
    | _ => rfl
section
variable {P : Program} {w : World} {K : PySem.W.Frag} {mg : Str → Option Value} {base : Heap} {CB CT CW C CS fI : Addr} {mB : Value} {D : Cl3} {Tb : List (Addr × Str)}
structure Cpa (P : Program) (w : World) (K : PySem.W.Frag) (mg : Str → Option Value) (base : Heap) (CW : Addr) (D : Cl3) : Prop where
  _line_numbers : CalX P w K mg base L2.CX0 4 "_line_numbers" (spF K fsLnN)
  _work_of : CalX P w K mg base (L2N.CX P w) 8 "_work_of" (spF K (fsWorkOf CW D))
theorem scPa : FnScope ["cls", "text", "works", "lines", "row", "line", "numbers"] ["cls", "text"] (L2.defScope sParse) := ⟨rfl, rfl, rfl, by decide +kernel, rfl, by decide +kernel, by decide +kernel⟩
theorem ok_Pa {g : Addr} {fd : FuncData} (F : L2.Fun K "parse" "Schedule.parse" sParse g fd) (T : BQ mg) (C : Cpa P w K mg base CW D) (RT : RaisesX P w K mg base "InvalidText" "row" CT) (RH : RaisesH P w K mg base "InvalidWork" "index" CW) (gW : mg "InvalidWork" = some (.ref CW)) (hyes : PySem.W.exmOne K (.ref CW) (.ref CW) = some true)
    (mk : L2.Mk K CS fI) (FI : FnR P w K mg base (L2.CX P w) 8 fI (spStar 1 (spF K (fsSi CW CS D Tb)))) :
    FnOk P w K mg base (L2.CX P w) 10 g fd ["cls", "text"] (spF K (fsParse CT CW CS D Tb)) := by
  refine F.okX scPa (fun vs H Q E h => ?_) (fun cdv A outer s H vs Q E hr h => ?_)
  · obtain ⟨ts, ρ, M, P, PX, r, m, ⟨t, rfl, _⟩, o, ox⟩ := h
    exact r.len
  · refine ⟨_, (pss_cons (ps_set (i := 2) scPa.nd rfl (Or.inl rfl) (pe_lst pa_nil))
 (pss_cons (ps_set (i := 3) scPa.nd rfl (Or.inl rfl) (pe_ifExp (pt_truth (pv 1) (by intro _; rfl)) (pe_split (pv 1) pe_str) (pe_lst pa_nil)))
 (pss_cons (ps_for (passes_of rfl) rfl (pi_enum (by rfl) T.enumerate (pa_cons (pv 3) pa_nil)) (pg_tup rfl (pgs_cons (pg_name (i := 4) scPa.nd rfl (Or.inl rfl)) (pgs_cons (pg_name (i := 5) scPa.nd rfl (Or.inl rfl)) pgs_nil))) (pss_cons (ps_set (i := 6) scPa.nd rfl (Or.inl rfl) (pe_cX C._line_numbers hr (by decide) (by rfl) L2.pass0 (pa_cons (pv 5) pa_nil)))
 (pss_cons (ps_if (pt_cmpR op_isN (pv 6) pe_non (nomark _)) (pss_one (ps_raiseC RT rfl (takes_of rfl rfl rfl rfl) hr (by decide) (by rfl) (pa_cons (pv 4) pa_nil))) pss_nil)
 (pss_one (L2H.ps_try_onlyX (tb := fun W => tDrop (tBM K "list" rAppend (tVar 2) (tCons (fun σ => tCall (spF K (fsWorkOf CW D)) [] (WE W σ) (tCons (tVar 6) tNil) σ) tNil))) (ts := fun _ _ _ => fun _ σ H => tMkO CW (spIXi K "index" CW) [] (tCons (tVar 4) tNil) σ H fun cls d H2 => E cls d H2) (Wout := fun cls d _ H => E cls d H) rfl rfl ⟨by rfl, by decide, .inl gW⟩ (fun hd => L2H.passesAt_of rfl hd) (takes_of rfl rfl rfl rfl) (fun W pn xe tkN _ _ => pss_one (ps_expr (pe_bm PySem.F.plainAttrs_list PySem.F.slot_list_append PySem.F.type_list_append mt_append (pv 2) (pa_cons (pe_callT C._work_of hr (by decide) (by rfl) (fun σ => L2N.passAt tkN σ) (pa_cons (pv 6) pa_nil)) pa_nil)))) (fun a oe cls d pn hz hf tkS hot => pss_one (ps_raiseHF RH hot tkS (L2H.roomH_mark hr _) (by decide) (by rfl) (pa_cons (pv 4) pa_nil))))))))
 (pss_one (ps_ret (XNx.pe_makeVS (i := 0) mk FI (hr.mono (by decide)) rfl (.inl rfl) (L2.passes_call (takes_of rfl rfl rfl rfl) (fun _ _ _ _ h => h)) (pv 2))))))), ?_⟩
    obtain ⟨ts, ρ, M, P, PX, r, m, ⟨t, rfl, hl, hT, q1, q2, q3⟩, o, ox⟩ := h
    have hE := keepX_of m ox
    try simp only [nox_K, cx_K]
    have st := sim_tryA (B := (H, ρ)) (i := 2) (Wout := fun cls d _ H => E cls d H) hyes (simSpF (K := K) (fsp := fsWorkOf CW D)) (fun B => sim_cons (sim_var (B := B) (i := 6)) sim_nil) (sim_raiseX (fld := "index") (CX := CW) hE (sim_cons (sim_var (i := 4)) sim_nil))
    refine run_in r m o (by walk_at "sim") ?_
    walk_at "fd"
    refine ⟨by rw [sizeLine_eq]; omega, ?_⟩
    refine iteX (x := (linesOf t).map Tr.str) (F := fun ls => fFor _ _ _ _ _ (M ++ [O.lst [], O.lst ls])) (by decide +kernel) (by rw [sizeLine_eq]; omega) (fun h => ?_) (fun h => ?_) ?_
    · unfold linesOf
      rw [if_neg h]
    · unfold linesOf
      rw [if_pos (Classical.not_not.mp h)]
      rfl
    unfold fFor
    walk_at "fd"
    refine ⟨fun i L2 M2 => ∃ (ws : List Nat) (rs : List Row) (h : Mem) (v4 v5 v6 : Option Tr), L2 = [some (Tr.raw (V.ref CS)), some (Tr.str t), some (Tr.ref (List.length M)), some (Tr.ref (List.length M + 1)), v4, v5, v6] ∧ M2 = M ++ (O.lst (ws.map Tr.ref) :: O.lst ((linesOf t).map Tr.str) :: h) ∧ ntab h = true ∧ belM (List.length M2) M2 = true ∧ WorksAt D M2 ws rs ∧ Read (wordsL t) i rs, ?_, ?_, ?_, ?_⟩
    · refine ⟨[], [], [], none, none, none, rfl, rfl, rfl, ?_, ⟨rfl, fun i n r h => by simp at h⟩, Read.nil⟩
      rw [List.length_append]
      exact belM_ext m.belM (by simp only [belM, O.bel, bels_strs, Bool.and_true]; rfl)
    · rintro i L2 M2 hi ⟨ws, rs, h, v4, v5, v6, rfl, rfl, hnt, hbl, hw, hr⟩
      walk_at "fm"
    · rintro i x L2 M2 hx ⟨ws, rs, h, v4, v5, v6, rfl, rfl, hnt, hbl, hw, hr⟩
      obtain ⟨u, hu, rfl⟩ := enumT_get hx
      rw [List.getElem?_map] at hu
      cases hlu : (linesOf t)[i]? with
      | none => rw [hlu] at hu; cases hu
      | some line =>
        rw [hlu] at hu
        cases hu
        have hll : line.length ≤ t.length := linesOf_len (List.mem_of_getElem? hlu)
        have hwo := linesOf_at hlu
        have hi2 := (List.getElem?_eq_some_iff.mp hlu).1
        have hi3 := linesOf_num t
        walk_at "fd"
        simp only [Nat.zero_add]
        refine ⟨line, rfl, by unfold SmallL; omega, fun hnone => ?_, fun row hrow g hg => ?_⟩
        · walk_at "fd"
          exact ⟨by omega, by omega, keepX_app m rfl (q1 _ (hr.text hwo hnone))⟩
        · walk_at "fd"
          have e1 : M ++ (O.lst (ws.map Tr.ref) :: O.lst ((linesOf t).map Tr.str) :: (h ++ (g ++ [O.lst (row.ns.map Tr.int)]))) = (M ++ (O.lst (ws.map Tr.ref) :: O.lst ((linesOf t).map Tr.str) :: h)) ++ (g ++ [O.lst (row.ns.map Tr.int)]) := by simp
          have hw0 : (M ++ (O.lst (ws.map Tr.ref) :: O.lst ((linesOf t).map Tr.str) :: (h ++ (g ++ [O.lst (row.ns.map Tr.int)]))))[List.length M]? = some (O.lst (ws.map Tr.ref)) := by rw [at_00]; rfl
          have hl0 : (M ++ (O.lst (ws.map Tr.ref) :: O.lst ((linesOf t).map Tr.str) :: (h ++ (g ++ [O.lst (row.ns.map Tr.int)]))))[List.length M + (List.length h + (2 + List.length g))]? = some (O.lst (row.ns.map Tr.int)) := by
            rw [at_kk, show List.length h + (2 + List.length g) = (List.length h + List.length g) + 1 + 1 by omega, List.getElem?_cons_succ, List.getElem?_cons_succ, at_kk, at_snoc]
          have hw1 := worksAt_app (g := g ++ [O.lst (row.ns.map Tr.int)]) hw
          rw [← e1] at hw1
          have hwl : ∀ k ∈ ws, k < List.length (M ++ (O.lst (ws.map Tr.ref) :: O.lst ((linesOf t).map Tr.str) :: h)) := fun k hk => by
            obtain ⟨j, hj⟩ := List.mem_iff_getElem?.mp hk
            have hj2 : j < rs.length := by rw [← hw.1]; exact (List.getElem?_eq_some_iff.mp hj).1
            exact (List.getElem?_eq_some_iff.mp (hw.2 j k _ hj (List.getElem?_eq_getElem hj2)).1).1
          have hwz : ws.length = i := by rw [hw.1, hr.1]
          have hbh : belM (List.length (M ++ (O.lst (ws.map Tr.ref) :: O.lst ((linesOf t).map Tr.str) :: h))) h = true := by
            rw [belM_app] at hbl
            simp only [belM, Bool.and_eq_true] at hbl
            exact hbl.2.2.2
          obtain ⟨N0, eN⟩ : ∃ N0, N0 = M ++ (O.lst (ws.map Tr.ref) :: O.lst ((linesOf t).map Tr.str) :: (h ++ (g ++ [O.lst (row.ns.map Tr.int)]))) := ⟨_, rfl⟩
          have eNl : List.length N0 = List.length (M ++ (O.lst (ws.map Tr.ref) :: O.lst ((linesOf t).map Tr.str) :: h)) + (List.length g + 1) := by
            rw [eN, e1, List.length_append, List.length_append (as := g)]
            rfl
          have eM : List.length (M ++ (O.lst (ws.map Tr.ref) :: O.lst ((linesOf t).map Tr.str) :: h)) = List.length M + (List.length h + 2) := by rw [List.length_append]; rfl
          rw [← eN] at hw0 hl0 hw1 ⊢
          show fDrop _ _ _ _
          refine ⟨_, rfl, by rw [lstAt_of hw0]; rfl, _, rfl, _, row, rfl, hl0, fun hok => ?_, fun hno => ⟨rfl, _, rfl, (i : Int), rfl, by omega, by omega, ?_⟩⟩
          · refine ⟨List.length M, ws.map Tr.ref, _, refAt_of (at_l hw0), rfl, by rw [List.length_map, sizeLine_eq]; omega, ?_⟩
            have hset : (N0 ++ [row.O D]).set (List.length M) (.lst (ws.map Tr.ref ++ [Tr.ref (List.length N0)])) = M ++ (O.lst ((ws ++ [List.length N0]).map Tr.ref) :: O.lst ((linesOf t).map Tr.str) :: (h ++ (g ++ [O.lst (row.ns.map Tr.int), row.O D]))) := by
              rw [eN, List.append_assoc, set_00]
              simp
            have hB : belM (List.length ((N0 ++ [row.O D]).set (List.length M) (.lst (ws.map Tr.ref ++ [Tr.ref (List.length N0)])))) ((N0 ++ [row.O D]).set (List.length M) (.lst (ws.map Tr.ref ++ [Tr.ref (List.length N0)]))) = true := by
              have hz : List.length ((N0 ++ [row.O D]).set (List.length M) (.lst (ws.map Tr.ref ++ [Tr.ref (List.length N0)]))) = List.length N0 + 1 := by rw [List.length_set, List.length_append]; rfl
              rw [hz, hset, belM_app, belM_mono (by rw [eNl, List.length_append]; omega) m.belM]
              simp only [belM, O.bel, belM_app, bels_strs, bels_ints, bel_ro, Bool.and_true, Bool.true_and, Bool.and_eq_true]
              refine ⟨bels_refs fun k hk => ?_, belM_mono (by rw [eNl]; omega) hbh, belM_mono (Nat.zero_le _) hg, bel_ro (n := List.length N0 + 1) (r := row)⟩
              rcases List.mem_append.mp hk with hk | hk
              · have := hwl k hk
                rw [eNl]
                omega
              · rw [List.mem_singleton.mp hk]
                exact Nat.lt_succ_self _
            dsimp only
            refine forget_same (L' := [some (Tr.raw (V.ref CS)), some (Tr.str t), some (Tr.ref (List.length M)), some (Tr.ref (List.length M + 1)), none, none, none]) ⟨_, rfl, _, rfl, _, rfl, _, rfl, _, _, rfl, _, _, rfl, _, _, rfl, rfl⟩ ⟨ws ++ [List.length N0], rs ++ [row], h ++ (g ++ [O.lst (row.ns.map Tr.int), row.O D]), none, none, none, rfl, hset, ?_, ?_, ?_, hr.snoc hwo hrow hok⟩ ⟨?_, ?_⟩ ?_
            · rw [ntab_app, hnt, ntab_app, ntab_0 hg]
              cases row <;> rfl
            · exact hB
            · exact (worksAt_snoc (worksAt_app hw1) at_snoc hok).set (at_l hw0)
            · rw [List.length_set, List.length_append, eNl, List.length_append]
              simp only [List.length_cons, List.length_nil]
              omega
            · rw [List.length_set, List.length_append, eNl, eM]
              simp only [belL, Tr.bel, Bool.and_true, Bool.and_eq_true, decide_eq_true_eq, List.length_cons, List.length_nil, true_and]
              omega
            · exact hB
          · rw [eN]
            exact keepX_app m rfl (q2 _ (hr.work hwo hrow hno))
    · rintro L2 M2 ⟨ws, rs, h, v4, v5, v6, rfl, rfl, hnt, hbl, hw, hr⟩
      walk_at "fd"
      rw [enumT_len, List.length_map, show (linesOf t).length = (wordsL t).length by unfold wordsL; rw [List.length_map]] at hr
      have hsc := hr.all
      obtain ⟨q4, q5⟩ := q3 rs hsc
      have hz : rs.length ≤ t.length + 1 := by
        rw [hr.1]
        unfold wordsL
        rw [List.length_map]
        exact linesOf_num t
      obtain ⟨M2, e2⟩ : ∃ M2, M2 = M ++ (O.lst (ws.map Tr.ref) :: O.lst ((linesOf t).map Tr.str) :: h) := ⟨_, rfl⟩
      have e3 : ∀ g : Mem, M ++ (O.lst (ws.map Tr.ref) :: O.lst ((linesOf t).map Tr.str) :: (h ++ g)) = M2 ++ g := fun g => by rw [e2]; simp
      have el : List.length M + (List.length h + 2) = List.length M2 := by rw [e2, List.length_append]; rfl
      rw [e3, el]
      rw [← e2] at hw hbl
      have hT2 : TabsM Tb M2 := by
        rw [e2]
        exact hT.app (by unfold ntab at hnt ⊢; simpa using hnt)
      refine ⟨by rw [List.length_map, hw.1, sizeLine_eq]; omega, List.length M2, ws, rs, rfl, at_snoc, worksAt_app hw, by omega, hT2.app rfl, fun i hi ho hb => ?_, fun hno => ⟨rfl, ?_⟩⟩
      · rw [e2, List.append_assoc]
        exact keepX_app m rfl (q4 i hi ho hb)
      · rw [set_snoc, List.append_assoc, List.length_append]
        have hbF : belM (List.length M2 + 3) (M2 ++ [O.ins CS (fS ws (List.length M2 + 1 + 1)), .lst (allCh rs), .lst (stab keyT (allCh rs))]) = true := by
          rw [belM_app, belM_mono (by omega) hbl]
          simp only [belM, O.bel, bels_all', bels_stab, Bool.and_true, Bool.true_and]
          unfold fS
          simp only [belF, Tr.bel, Bool.and_true, Bool.and_eq_true, decide_eq_true_eq]
          refine ⟨bels_refs fun k hk => ?_, by omega⟩
          obtain ⟨j, hj⟩ := List.mem_iff_getElem?.mp hk
          have hj2 : j < rs.length := by rw [← hw.1]; exact (List.getElem?_eq_some_iff.mp hj).1
          have := (List.getElem?_eq_some_iff.mp (hw.2 j k _ hj (List.getElem?_eq_getElem hj2)).1).1
          omega
        have hS : SchedAt CS D (M2 ++ [O.ins CS (fS ws (List.length M2 + 1 + 1)), .lst (allCh rs), .lst (stab keyT (allCh rs))]) (List.length M2) rs := ⟨ws, List.length M2 + 1 + 1, at_0, worksAt_app hw, by rw [Nat.add_assoc, at_kk]; rfl⟩
        have hlen : List.length (M2 ++ [O.ins CS (fS ws (List.length M2 + 1 + 1)), .lst (allCh rs), .lst (stab keyT (allCh rs))]) = List.length M2 + 3 := by rw [List.length_append]; rfl
        have q6 := q5 hno (O.lst (ws.map Tr.ref) :: O.lst ((linesOf t).map Tr.str) :: (h ++ [O.ins CS (fS ws (List.length M2 + 1 + 1)), .lst (allCh rs), .lst (stab keyT (allCh rs))])) (List.length M2)
        rw [e3] at q6
        refine keep_whole (by rw [List.length_append, ← el]; omega) (by simp only [Tr.bel, decide_eq_true_eq]; show _ < List.length (M2 ++ [O.ins CS (fS ws (List.length M2 + 1 + 1)), .lst (allCh rs), .lst (stab keyT (allCh rs))]); rw [hlen]; omega) ?_ (q6 ?_ ?_ hS)
        · show belM (List.length (M2 ++ [O.ins CS (fS ws (List.length M2 + 1 + 1)), .lst (allCh rs), .lst (stab keyT (allCh rs))])) (M2 ++ [O.ins CS (fS ws (List.length M2 + 1 + 1)), .lst (allCh rs), .lst (stab keyT (allCh rs))]) = true
          rw [hlen]
          exact hbF
        · show ntab (O.lst _ :: O.lst _ :: (h ++ _)) = true
          have : ntab (h ++ [O.ins CS (fS ws (List.length M2 + 1 + 1)), .lst (allCh rs), .lst (stab keyT (allCh rs))]) = true := by
            rw [ntab_app, hnt]
            rfl
          unfold ntab at this ⊢
          simpa using this
        · rw [hlen]
          exact hbF
end
end T1

set_option Elab.async false
set_option linter.all false
set_option maxRecDepth 100000
set_option maxHeartbeats 4000000
namespace T1
open PySem PySem.Spec PyProof.Rows L2 C8 Fm T2
/-! ### the law: words, by the sides of k02/N2 -/
def chrDig (x : Str) : Bool := (!decide (x.cps.toList < ("0" : Str).cps.toList)) && (!decide (("9" : Str).cps.toList < x.cps.toList))
theorem cps0 : ("0" : Str).cps.toList = [48] := by decide +kernel
theorem cps9 : ("9" : Str).cps.toList = [57] := by decide +kernel
theorem chrDig_one (k : Nat) : chrDig ⟨#[k]⟩ = dig k := by
  unfold chrDig dig
  rw [cps0, cps9]
  show ((!decide ([k] < [48])) && (!decide ([57] < [k]))) = _
  have h1 : ([k] < [48]) ↔ k < 48 := by simp [List.cons_lt_cons_iff]
  have h2 : ([57] < [k]) ↔ 57 < k := by simp [List.cons_lt_cons_iff]
  rw [Bool.eq_iff_iff]
  simp only [Bool.and_eq_true, Bool.not_eq_true', decide_eq_false_iff_not, decide_eq_true_eq, h1, h2]
  omega
def ndT : Tr → Option Tr
  | .str x => if chrDig x = true then none else some (.str x)
  | _ => none
theorem ndT_one (k : Nat) : ndT (.str ⟨#[k]⟩) = if dig k = true then none else some (.str ⟨#[k]⟩) := by
  show (if chrDig ⟨#[k]⟩ = true then none else some (Tr.str ⟨#[k]⟩)) = _
  rw [chrDig_one]
def ndS (w : Str) : List Str := ((TL.tl w).filter fun k => !dig k).map fun k => ⟨#[k]⟩
theorem nd_eq (w : Str) : (chrsT w).filterMap ndT = (ndS w).map Tr.str := by
  unfold chrsT ndS TL.tl
  induction w.cps.toList with
  | nil => rfl
  | cons k r ih =>
    rw [List.map_cons, List.filterMap_cons, List.filter_cons]
    rw [ndT_one]
    cases h : dig k <;> simp [ih]
theorem nd_nil (w : Str) : ndS w = [] ↔ (TL.tl w).all dig = true := by
  unfold ndS
  rw [List.map_eq_nil_iff, List.filter_eq_nil_iff, List.all_eq_true]
  exact ⟨fun h c hc => by have := h c hc; simpa using this, fun h c hc => by simp [h c hc]⟩
theorem one_ok {w : Str} {k : Nat} (h : PyData.strOk w = true) (hk : k ∈ TL.tl w) : PyData.strOk ⟨#[k]⟩ = true := by
  unfold PyData.strOk at h ⊢
  rw [all_arr, List.all_eq_true] at h
  have := h k hk
  simpa using this
theorem eqv_nil : ∀ ys : List Str, PyData.eqv (.list (ys.map PyData.str)) (.list []) = decide (ys = [])
  | [] => rfl
  | y :: ys => by rw [decide_eq_false (by simp)]; rfl
theorem da_strs {M : Mem} : ∀ ys : List Str, DaAll M (ys.map Tr.str) (ys.map PyData.str)
  | [] => .nil
  | y :: ys => .cons (.str y) (da_strs ys)
theorem lay_strs : ∀ ys : List Str, (∀ y ∈ ys, PyData.strOk y = true) → PyData.canLayAll0 (ys.map PyData.str) = true
  | [], _ => by simp [PyData.canLayAll0]
  | l :: ls, h => by simp [PyData.canLayAll0, PyData.canLay0, h l List.mem_cons_self, lay_strs ls fun y hy => h y (List.mem_cons_of_mem _ hy)]
theorem depth_strs : ∀ ys : List Str, PyData.depthAll (ys.map PyData.str) ≤ 1
  | [] => by simp [PyData.depthAll]
  | l :: ls => by
    have := depth_strs ls
    simp only [List.map_cons, PyData.depthAll, PyData.depth]
    omega
theorem shaped_strs (ys : List Str) (h0 : ∀ y ∈ ys, PyData.strOk y = true) : SeqAt.shaped (.list (ys.map PyData.str)) = true := by
  have h := depth_strs ys
  have hd : PyData.depth (.list (ys.map PyData.str)) ≤ 64 := by simp only [PyData.depth]; omega
  have hc : PyData.canLay0 (.list (ys.map PyData.str)) = true := by simp only [PyData.canLay0]; exact lay_strs ys h0
  unfold SeqAt.shaped
  rw [hc, decide_eq_true hd] <;> rfl
theorem good_iff {w : Str} : goodW w = true ↔ w ≠ "" ∧ (TL.tl w).all dig = true ∧ ¬ (1 < (w.length : Int) ∧ (TL.tl w)[0]? = some 48) := by
  unfold goodW
  rw [TL.len_tl]
  have e : w = "" ↔ TL.tl w = [] := ⟨fun h => by rw [h]; rfl, fun h => TL.ext_tl (by rw [h]; rfl)⟩
  rw [ne_eq, e]
  cases TL.tl w with
  | nil => simp [goodL]
  | cons c r =>
    cases r with
    | nil => simp [goodL]
    | cons d r => simp [goodL, and_assoc]; omega
section
variable {X : Cx} {K : PySem.W.Frag}
theorem ix_listK (h : X.K = K) : IxR X (rIxL K) := by subst h; exact ix_list
theorem ix_tupK (h : X.K = K) : IxR X (rIxT K) := by subst h; exact ix_tup
theorem ix_seqK (h : X.K = K) : IxR X (rIx K) := by subst h; exact ix_seq
end
/-- range with a step -/
def stpT (i c : Int) (n : Nat) : List Tr := (List.range n).map fun (k : Nat) => Tr.int (i + (k : Int) * c)
def fIR3 (fa : FA) : FI := fun L M R => fa L M fun vs M1 => ∃ (i j c : Int) (n : Nat), vs = [.int i, .int j, .int c] ∧ RgC i j c n ∧ R ⟨stpT i c n, fun _ => True⟩ M1
theorem stpT_get {i c : Int} {n k : Nat} {t : Tr} (e : (stpT i c n)[k]? = some t) : k < n ∧ t = .int (i + (k : Int) * c) := by
  unfold stpT at e
  by_cases h : k < n
  · rw [List.getElem?_map, List.getElem?_range h] at e
    cases e
    exact ⟨h, rfl⟩
  · rw [List.getElem?_eq_none (by rw [List.length_map, List.length_range]; omega)] at e
    cases e
theorem stpT_len (i c : Int) (n : Nat) : (stpT i c n).length = n := by unfold stpT; rw [List.length_map, List.length_range]
theorem i_rng3 {K : PySem.W.Frag} {B : Bs} {ta : TA} {fa : FA} (a : SimA K B ta fa) : SimI K B (iRng3 ta) (fIR3 fa) := ⟨fun hl hm h k => a.run hl hm h fun xs xvs H1 ρ1 M1 g1 m1 rx ⟨i, j, c, n, e, q, r⟩ => by
  subst e
  unfold RTs at rx
  obtain ⟨x, ys, rfl, r1, rx⟩ := rx
  obtain ⟨y, z, rfl, r2, r3⟩ := rx.two
  refine ⟨i, j, c, n, by rw [r1.int_inv, r2.int_inv, r3.int_inv], q, k _ _ (fun _ _ => True) H1 ρ1 M1 g1 m1 ⟨fun _ s => s, fun _ _ _ => ?_, fun _ _ _ e => ?_, fun {H ρ M k t x H'} _ hm _ e y => ?_⟩ trivial r⟩
  · show n ≤ (stpT i c n).length
    rw [stpT_len]
    exact Nat.le_refl _
  · exact (stpT_get e).1
  · obtain ⟨rfl, rfl⟩ := y
    rw [(stpT_get e).2]
    exact ⟨Grow.refl, hm, RT.int_⟩⟩
theorem drawn_at {n : Int} {d : Ds} {g h : Mem} {P : PF} {PX : PXF} (hd : d.ok) (n0 : 0 < n) (n1 : n ≤ 2000000000000000000) (q : ∀ x d', d'.ok → 0 ≤ x → x < n → P (.int x) (sm d' g ++ h)) : fsDrawn [.ref 0, .int n] (sm d g ++ h) P PX :=
  ⟨n, d, g ++ h, rfl, rfl, hd, n0, n1, fun x d' h1 h2 h3 => q x d' h1 h2 h3⟩
theorem drawn_0 {n : Int} {d : Ds} {g : Mem} {P : PF} {PX : PXF} (hd : d.ok) (n0 : 0 < n) (n1 : n ≤ 2000000000000000000) (q : ∀ x d', d'.ok → 0 ≤ x → x < n → P (.int x) (sm d' g)) : fsDrawn [.ref 0, .int n] (sm d g) P PX :=
  ⟨n, d, g, rfl, rfl, hd, n0, n1, fun x d' h1 h2 h3 => q x d' h1 h2 h3⟩
theorem belM_sm {d : Ds} {g : Mem} {n : Nat} : belM n (sm d g) = belM n g := by
  unfold sm
  show (true && belM n g) = _
  rfl
theorem bel_g {K : PySem.W.Frag} {H : Hp} {ρ : List Addr} {d : Ds} {g : Mem} (m : RM K H ρ (sm d g)) : belM (List.length g + 1) g = true := by
  have := m.belM
  rw [sm_len, belM_sm] at this
  exact this
theorem keep_sm {K : PySem.W.Frag} {H : Hp} {ρ : List Addr} {d d' : Ds} {g h : Mem} {P : PF} {v : Tr} (m : RM K H ρ (sm d g)) (bv : Tr.bel (List.length g + 1 + List.length h) v = true) (bh : belM (List.length g + 1 + List.length h) h = true) (q : P v (sm d' (g ++ h))) : Keep (List.length g + 1) P v (sm d' g ++ h) := by
  refine keep_whole (M := sm d' g) (by rw [List.length_append]; exact Nat.le_add_right _ _) (by rw [List.length_append, sm_len]; exact bv) ?_ q
  rw [List.length_append, sm_len, belM_app, belM_sm, belM_mono (Nat.le_add_right _ _) (bel_g m), bh]
  rfl
abbrev sInteger : Stmt := top 30
abbrev sReadLine : Stmt := top 31
abbrev sValid : Stmt := top 32
abbrev sExpected : Stmt := top 33
abbrev sChanged : Stmt := top 34
abbrev sLaw : Stmt := top 35
abbrev sSame : Stmt := top 24
abbrev sOutcome : Stmt := top 25
abbrev sWorkN : Stmt := top 26
abbrev sLawLine : Stmt := top 27
abbrev sLawCh : Stmt := top 28
abbrev sSorted : Stmt := top 29
end T1

set_option Elab.async false
set_option linter.all false
set_option maxRecDepth 100000
set_option maxHeartbeats 4000000
namespace T1
open PySem PySem.Spec PyProof.Rows L2 C8 Fm T2
local macro_rules | `(tactic| walk_at "sim1") => `(tactic| with_reducible first
  | exact sim_nil | exact sim_var | exact sim_int | exact sim_str | exact sim_bl | exact sim_non | exact sim_raw
  | apply sim_cons | apply sim_op | apply sim_un | apply sim_tup | apply sim_lst
  | apply sim_CB | apply sim_if | apply sim_test | apply sim_B | apply sim_not | apply sim_and | apply sim_or
  | apply sim_andV | apply sim_orV | apply sim_notV | apply sim_chain | exact sim_nopart | apply sim_part
  | apply sim_sl | apply sim_BML | apply sim_BMS | apply sim_BM0S | apply sim_M1 | apply sim_M0
  | apply sim_fmt | apply sim_joined | exact SimJ.nil | apply SimJ.cons
  | exact s_I0i | exact s_I0b | exact s_Ii | exact s_Ui | exact s_eq | exact s_ne | exact s_isN | exact s_notN | exact s_ixL | exact s_ixT | exact s_ixS
  | exact s_cat | exact s_catA | exact s_rep | exact s_repT | exact s_in | exact s_slL | exact s_slA | exact s_slS | exact s_addS | exact s_leS | exact s_ltS
  | exact c_len | exact c_lenS | exact c_list | exact c_tuple | exact c_int1 | exact c_intS | exact c_strI | exact c_max2 | exact c_min2
  | exact m_append | exact m_extend | exact m_split | exact m_join | exact m_0b | exact m_1b
  | apply sim_call | exact simSpF
  | exact sim_name | exact sim_gnil | apply sim_gcons | apply sim_gtup | apply sim_gsub | exact set_list
  | exact sim_next | apply sim_seq | apply sim_cut | exact sim_break | exact sim_cont | apply sim_drop | apply sim_ret | exact sim_retN
  | apply sim_ifS | exact sim_never | apply sim_asg | apply sim_par | apply sim_aug
  | apply sim_for | apply sim_while | apply i_list | apply i_tup | apply i_rng1 | apply i_rng2 | apply i_str | apply i_enum | apply i_zip
  | apply sim_lc | exact sim_yes | exact sim_namew (by decide) | exact sim_gnilw | apply sim_gconsw | apply sim_gtupw
  | apply sim_fld | apply sim_con | apply sim_setFld | apply sim_make | apply sim_prop | apply sim_meth | apply sim_cmeth | exact c_isi | apply sim_isiT | exact s_eqD | exact s_neD
  | walk_at "sim2")
local macro_rules | `(tactic| walk_at "sim2") => `(tactic| fail)
local macro_rules | `(tactic| walk_at "sim") => `(tactic| repeat' (walk_at "sim1"))
/-- open the trees' reading as far as it goes by itself -/
local macro_rules | `(tactic| walk_at "fm") => `(tactic| simp (config := { failIfUnchanged := false }) only [fVar, fC, fOp, fUn, fNil, fCons, fTup, fLst, fCB, fIf, fTest, fNot, fAnd, fOr, fAndV, fOrV, fNotV, fChain, fNoPart, fPart, fI, fI0, fU, fEq, fNe, fIsN, fNotN, fIxL, fIxT, fIxS,
  fCat, fCatA, fRep, fRepT, fSlL, fSlA, fSlS, fSl, fLen, fLenS, fList, fTuple, fIntS, fStrI, fMax2, fMin2, fAppend, fExtend, fIn, fBM, fMS, fBMS, fBM0S, fAddS, fLeS, fLtS, fM0b, fM1b, fSplit, fJoin, fJoined, fJs,
  fName, fGNil, fGCons, fGTup, fSetL, fGSub, fNext, fSeq, fCut, fBreak, fCont, fDrop, fRet, fRetN, fIfS, fAsg, fPar, fAug, fCall, fFld, fCon, fSetFld, fMake, fProp, fMeth, fCMeth, fIsi, fIsiT, fEqD, fNeD, insAt_ref, insO_ins, fFmt, fmtS_i, fmtS_s, fmtOk_i, fmtOk_s, fIL, fIT, fIR1, fIR2, fIS, fIEn, fIZ,
  startL, List.map_cons, List.map_nil, List.length_cons, List.length_nil, List.cons_append, List.nil_append, List.replicate, List.getElem?_cons_zero, List.getElem?_cons_succ, List.set_cons_zero, List.set_cons_succ, Nat.reduceSub, Nat.reduceAdd,
  Option.some.injEq, Tr.int.injEq, Tr.str.injEq, Tr.bl.injEq, Tr.tup.injEq, Tr.ref.injEq, List.cons.injEq, exists_eq_left, exists_eq_left', exists_eq_right, true_and, and_true, and_self, exists_and_left, tupOf_tup, eqS_ii, eqS_ss, eqS_bb, eqS_ni, eqS_in, eqS_nn, isStr_s, isN_n, isN_i, isN_b, isN_s, isN_t, isN_r, noRaw_n, noRaw_i, noRaw_b, noRaw_s, noRaw_t, noRaw_r, and_assoc, reduceIte, Bool.false_eq_true, exists_const, lstAt_ref, seqAt_ref, seqAt_tup, refAt_ref, lstO_lst, app_assoc2, len_app1, at_kk, at_00, set_k, set_00, Nat.add_assoc, Option.map_some, Prod.mk.injEq, int_cast_inj, Nat.zero_le, decide_eq_true_eq, Bool.not_eq_true', decide_eq_false_iff_not, Nat.add_zero, implies_true, forall_const, ite_true, ite_false, if_true, if_false, decide_true, decide_false, Bool.not_true, Bool.not_false, asg_len, Option.isSome_some])
local macro_rules | `(tactic| walk_at "bel") => `(tactic| first | rfl | (simp (config := { failIfUnchanged := false }) only [belM, O.bel, bels_strs, bels_ints, belL, Tr.bel, Tr.bels, Bool.and_true, Bool.true_and, Bool.and_self, decide_eq_true_eq, Bool.and_eq_true, true_and, and_true, List.length_cons, List.length_nil, Nat.reduceAdd]; try omega))

local macro_rules | `(tactic| walk_at "sim2") => `(tactic| first | exact simDrawn | assumption | apply sim_match | apply SimM2.cons | exact SimM2.nil | apply i_enumT | apply sim_truS | apply sim_listG | apply sim_lcG | apply sim_eitherG | apply sim_methG | apply sim_methJ | apply sim_either | apply sim_sortKey | apply sim_sortSet | apply sim_raiseX)
local macro_rules | `(tactic| walk_at "sim1") => `(tactic| first | (with_reducible apply sim_callX; assumption) | (with_reducible apply sim_methX; assumption) | (with_reducible apply sim_makeX; assumption) | (with_reducible apply sim_makeKX; assumption) | (with_reducible apply sim_makeVSX; assumption) | (with_reducible apply sim_conA) | (with_reducible apply sim_sortSet))
local macro_rules | `(tactic| walk_at "fm2") => `(tactic| simp (config := { failIfUnchanged := false }) only [sm_app, sm_len, sm_at, sm_at0, sm_set, sm_set0, List.getElem?_cons_zero, List.getElem?_cons_succ, List.set_cons_zero, List.set_cons_succ, lstO_lst, Option.isSome_some, Option.map_some, Option.some.injEq, Prod.mk.injEq, Nat.add_assoc, Nat.reduceAdd, exists_eq_left', exists_eq_left, true_and, and_assoc, fRaiseX, fCVal, fNv, int1_i, fEither, fTruS, fIEnT, fMatch, fGoM, setAllT, fMakeK, fMakeVS, fMethJ, fEitherG, fListG, fSortKey, fSortSet, fConA])
local macro_rules | `(tactic| walk_at "fd") => `(tactic| (walk_at "fm"; walk_at "fm2"; walk_at "fm"; walk_at "fm2"; walk_at "fm"))

/-- the law's own line: row's numbers between -/
def lineL (r : Row) : Str := match r with
  | .c p b => "at " ++ Str.ofString (toString p) ++ " " ++ "close " ++ Str.ofString (toString b)
  | .m p b a => "at " ++ Str.ofString (toString p) ++ " " ++ "mend " ++ Str.ofString (toString b) ++ " by " ++ Str.ofString (toString a)
  | .u p b a e t => "at " ++ Str.ofString (toString p) ++ " " ++ "mend " ++ Str.ofString (toString b) ++ " by " ++ Str.ofString (toString a) ++ " every " ++ Str.ofString (toString e) ++ " times " ++ Str.ofString (toString t)
/-- numbers that the law writes -/
def Row.wr (r : Row) : Prop := ∀ i ∈ r.ns, 0 ≤ i ∧ i ≤ 2000000000000000000
def fsLawLine : FSp := fun ts M P _ => ∃ (l : Nat) (r : Row), ts = [.ref l] ∧ M[l]? = some (.lst (r.ns.map Tr.int)) ∧ r.wr ∧ P (.str (lineL r)) M
def fsLawCh : FSp := fun ts M P _ => ∃ (l : Nat) (r : Row), ts = [.ref l] ∧ M[l]? = some (.lst (r.ns.map Tr.int)) ∧ r.ok ∧ P (.ref M.length) (M ++ [.lst r.ch])
section
variable {P : Program} {w : World} {K : PySem.W.Frag} {mg : Str → Option Value} {base : Heap}
theorem len20 {i : Int} (h0 : 0 ≤ i) (h1 : i ≤ 2000000000000000000) : (Str.ofString (toString i)).length ≤ 19 := PyProof.Rows.toString_length_le h0 (by decide) (by omega)
theorem lg20 {i : Int} (h0 : 0 ≤ i) (h1 : i ≤ 2000000000000000000) : i.natAbs.log2 < 1920 := Nat.lt_of_lt_of_le (PySem.Flt.log2_lt_of (k := 64) (by decide) (by omega)) (by decide)
theorem z_cls : ("close " : Str).length = 6 := by decide +kernel
theorem z_mes : ("mend " : Str).length = 5 := by decide +kernel
theorem scLawLine : FnScope ["_law_numbers", "_law_line_here"] ["_law_numbers"] (fnScope sLawLine) := fnScope_by (by decide +kernel)
theorem ok_lawLine {f : Addr} {fd : FuncData} (F : Def K mg "_law_line" sLawLine f fd) (b : Binds K fd ["_law_numbers"] []) (T : BQ mg) : Cal P w K mg base 1 "_law_line" (spF K fsLawLine) [] := by
  refine cal0 F b .nil scLawLine (fun vs H Q E h => ?_) (fun cdv A outer s H vs Q E hr h => ?_)
  · obtain ⟨ts, ρ, M, P, PX, r, m, ⟨l, r1, rfl, _⟩, o, ox⟩ := h
    exact r.len
  · refine ⟨_, (pss_cons (ps_set (i := 1) scLawLine.nd rfl (Or.inl rfl) (pe_op op_add_str (pe_op op_add_str (pe_op op_add_str (pe_op op_add_str pe_str (pe_callTy call_str_int (by rfl) T.str (by decide +kernel) (pa_cons (pe_ix ix_list (pv 0) pe_int (fun _ _ => rfl)) pa_nil))) pe_str) (pe_ix ix_list (pe_lst (pa_cons pe_str (pa_cons pe_str pa_nil))) (pe_callTy call_int1 (by rfl) T.int (by decide +kernel) (pa_cons (pe_cmpR op_gt (pe_callB call_len_seq (by rfl) T.len PySem.boot_len (pa_cons (pv 0) pa_nil)) pe_int (nomark _)) pa_nil)) (fun _ _ => rfl))) (pe_callTy call_str_int (by rfl) T.str (by decide +kernel) (pa_cons (pe_ix ix_list (pv 0) pe_int (fun _ _ => rfl)) pa_nil))))
 (pss_cons (ps_if (pt_cmpR op_gt (pe_callB call_len_seq (by rfl) T.len PySem.boot_len (pa_cons (pv 0) pa_nil)) pe_int (nomark _)) (pss_one (ps_set (i := 1) scLawLine.nd rfl (Or.inl rfl) (pe_op op_add_str (pe_op op_add_str (pv 1) pe_str) (pe_callTy call_str_int (by rfl) T.str (by decide +kernel) (pa_cons (pe_ix ix_list (pv 0) pe_int (fun _ _ => rfl)) pa_nil))))) pss_nil)
 (pss_cons (ps_if (pt_cmpR op_gt (pe_callB call_len_seq (by rfl) T.len PySem.boot_len (pa_cons (pv 0) pa_nil)) pe_int (nomark _)) (pss_one (ps_set (i := 1) scLawLine.nd rfl (Or.inl rfl) (pe_op op_add_str (pe_op op_add_str (pe_op op_add_str (pe_op op_add_str (pv 1) pe_str) (pe_callTy call_str_int (by rfl) T.str (by decide +kernel) (pa_cons (pe_ix ix_list (pv 0) pe_int (fun _ _ => rfl)) pa_nil))) pe_str) (pe_callTy call_str_int (by rfl) T.str (by decide +kernel) (pa_cons (pe_ix ix_list (pv 0) pe_int (fun _ _ => rfl)) pa_nil))))) pss_nil)
 (pss_one (ps_ret (pv 1)))))), ?_⟩
    obtain ⟨ts, ρ, M, P, PX, r, m, ⟨l, r1, rfl, hl, hs, q⟩, o, ox⟩ := h
    try simp only [nox_K, cx_K]
    refine run_in r m o (by walk_at "sim") ?_
    walk_at "fd"
    rw [hl]
    walk_at "fd"
    have hl2 : ∀ g : Mem, lstO (M ++ g)[l]? = some (r1.ns.map Tr.int) := fun g => by rw [at_l hl]; rfl
    have h2 : 2 ≤ sizeLine := by rw [sizeLine_eq]; decide
    cases r1 with
    | c p b =>
      obtain ⟨p0, p1⟩ := hs p (by simp [Row.ns])
      obtain ⟨b0, b1⟩ := hs b (by simp [Row.ns])
      have y1 := len20 p0 p1
      have y2 := len20 b0 b1
      refine ⟨_, rfl, p, rfl, lg20 p0 p1, ?_, ?_, h2, _, hl2 _, .inr ⟨_, rfl, _, by rw [at_snoc]; rfl, _, rfl, .str "close ", rfl, _, rfl, ?_, _, hl2 _, _, rfl, b, rfl, lg20 b0 b1, ?_, _, hl2 _, ?_⟩⟩
      rotate_right
      · rw [if_neg (by show ¬ (2 : Int) < ((2 : Nat) : Int); decide)]
        refine ⟨_, hl2 _, ?_⟩
        rw [if_neg (by show ¬ (3 : Int) < ((2 : Nat) : Int); decide)]
        exact keep_app m rfl q
      all_goals (simp only [sizeLine_eq, Str.length_append, z_at, z_sp, z_cls]; omega)
    | m p b a =>
      obtain ⟨p0, p1⟩ := hs p (by simp [Row.ns])
      obtain ⟨b0, b1⟩ := hs b (by simp [Row.ns])
      obtain ⟨a0, a1⟩ := hs a (by simp [Row.ns])
      have y1 := len20 p0 p1
      have y2 := len20 b0 b1
      have y3 := len20 a0 a1
      refine ⟨_, rfl, p, rfl, lg20 p0 p1, ?_, ?_, h2, _, hl2 _, .inr ⟨_, rfl, _, by rw [at_snoc]; rfl, _, rfl, .str "mend ", rfl, _, rfl, ?_, _, hl2 _, _, rfl, b, rfl, lg20 b0 b1, ?_, _, hl2 _, ?_⟩⟩
      rotate_right
      · rw [if_pos (by show (2 : Int) < ((3 : Nat) : Int); decide)]
        refine ⟨?_, _, hl2 _, _, rfl, a, rfl, lg20 a0 a1, ?_, ?_⟩
        rotate_right
        · refine ⟨_, hl2 _, ?_⟩
          rw [if_neg (by show ¬ (3 : Int) < ((3 : Nat) : Int); decide)]
          exact keep_app m rfl q
        all_goals (simp only [sizeLine_eq, Str.length_append, z_at, z_sp, z_mes, z_by]; omega)
      all_goals (simp only [sizeLine_eq, Str.length_append, z_at, z_sp, z_mes]; omega)
    | u p b a e t =>
      obtain ⟨p0, p1⟩ := hs p (by simp [Row.ns])
      obtain ⟨b0, b1⟩ := hs b (by simp [Row.ns])
      obtain ⟨a0, a1⟩ := hs a (by simp [Row.ns])
      obtain ⟨e0, e1⟩ := hs e (by simp [Row.ns])
      obtain ⟨t0, t1⟩ := hs t (by simp [Row.ns])
      have y1 := len20 p0 p1
      have y2 := len20 b0 b1
      have y3 := len20 a0 a1
      have y4 := len20 e0 e1
      have y5 := len20 t0 t1
      refine ⟨_, rfl, p, rfl, lg20 p0 p1, ?_, ?_, h2, _, hl2 _, .inr ⟨_, rfl, _, by rw [at_snoc]; rfl, _, rfl, .str "mend ", rfl, _, rfl, ?_, _, hl2 _, _, rfl, b, rfl, lg20 b0 b1, ?_, _, hl2 _, ?_⟩⟩
      rotate_right
      · rw [if_pos (by show (2 : Int) < ((5 : Nat) : Int); decide)]
        refine ⟨?_, _, hl2 _, _, rfl, a, rfl, lg20 a0 a1, ?_, ?_⟩
        rotate_right
        · refine ⟨_, hl2 _, ?_⟩
          rw [if_pos (by show (3 : Int) < ((5 : Nat) : Int); decide)]
          refine ⟨?_, _, hl2 _, _, rfl, e, rfl, lg20 e0 e1, ?_, ?_, _, hl2 _, _, rfl, t, rfl, lg20 t0 t1, ?_, ?_⟩
          rotate_right
          · exact keep_app m rfl q
          all_goals (simp only [sizeLine_eq, Str.length_append, z_at, z_sp, z_mes, z_by, z_ev, z_ti]; omega)
        all_goals (simp only [sizeLine_eq, Str.length_append, z_at, z_sp, z_mes, z_by]; omega)
      all_goals (simp only [sizeLine_eq, Str.length_append, z_at, z_sp, z_mes]; omega)
end
end T1

set_option Elab.async false
set_option linter.all false
set_option maxRecDepth 100000
set_option maxHeartbeats 4000000
namespace T1
open PySem PySem.Spec PyProof.Rows L2 C8 Fm T2
local macro_rules | `(tactic| walk_at "sim1") => `(tactic| with_reducible first
  | exact sim_nil | exact sim_var | exact sim_int | exact sim_str | exact sim_bl | exact sim_non | exact sim_raw
  | apply sim_cons | apply sim_op | apply sim_un | apply sim_tup | apply sim_lst
  | apply sim_CB | apply sim_if | apply sim_test | apply sim_B | apply sim_not | apply sim_and | apply sim_or
  | apply sim_andV | apply sim_orV | apply sim_notV | apply sim_chain | exact sim_nopart | apply sim_part
  | apply sim_sl | apply sim_BML | apply sim_BMS | apply sim_BM0S | apply sim_M1 | apply sim_M0
  | apply sim_fmt | apply sim_joined | exact SimJ.nil | apply SimJ.cons
  | exact s_I0i | exact s_I0b | exact s_Ii | exact s_Ui | exact s_eq | exact s_ne | exact s_isN | exact s_notN | exact s_ixL | exact s_ixT | exact s_ixS
  | exact s_cat | exact s_catA | exact s_rep | exact s_repT | exact s_in | exact s_slL | exact s_slA | exact s_slS | exact s_addS | exact s_leS | exact s_ltS
  | exact c_len | exact c_lenS | exact c_list | exact c_tuple | exact c_int1 | exact c_intS | exact c_strI | exact c_max2 | exact c_min2
  | exact m_append | exact m_extend | exact m_split | exact m_join | exact m_0b | exact m_1b
  | apply sim_call | exact simSpF
  | exact sim_name | exact sim_gnil | apply sim_gcons | apply sim_gtup | apply sim_gsub | exact set_list
  | exact sim_next | apply sim_seq | apply sim_cut | exact sim_break | exact sim_cont | apply sim_drop | apply sim_ret | exact sim_retN
  | apply sim_ifS | exact sim_never | apply sim_asg | apply sim_par | apply sim_aug
  | apply sim_for | apply sim_while | apply i_list | apply i_tup | apply i_rng1 | apply i_rng2 | apply i_str | apply i_enum | apply i_zip
  | apply sim_lc | exact sim_yes | exact sim_namew (by decide) | exact sim_gnilw | apply sim_gconsw | apply sim_gtupw
  | apply sim_fld | apply sim_con | apply sim_setFld | apply sim_make | apply sim_prop | apply sim_meth | apply sim_cmeth | exact c_isi | apply sim_isiT | exact s_eqD | exact s_neD
  | walk_at "sim2")
local macro_rules | `(tactic| walk_at "sim2") => `(tactic| fail)
local macro_rules | `(tactic| walk_at "sim") => `(tactic| repeat' (walk_at "sim1"))
/-- open the trees' reading as far as it goes by itself -/
local macro_rules | `(tactic| walk_at "fm") => `(tactic| simp (config := { failIfUnchanged := false }) only [fVar, fC, fOp, fUn, fNil, fCons, fTup, fLst, fCB, fIf, fTest, fNot, fAnd, fOr, fAndV, fOrV, fNotV, fChain, fNoPart, fPart, fI, fI0, fU, fEq, fNe, fIsN, fNotN, fIxL, fIxT, fIxS,
  fCat, fCatA, fRep, fRepT, fSlL, fSlA, fSlS, fSl, fLen, fLenS, fList, fTuple, fIntS, fStrI, fMax2, fMin2, fAppend, fExtend, fIn, fBM, fMS, fBMS, fBM0S, fAddS, fLeS, fLtS, fM0b, fM1b, fSplit, fJoin, fJoined, fJs,
  fName, fGNil, fGCons, fGTup, fSetL, fGSub, fNext, fSeq, fCut, fBreak, fCont, fDrop, fRet, fRetN, fIfS, fAsg, fPar, fAug, fCall, fFld, fCon, fSetFld, fMake, fProp, fMeth, fCMeth, fIsi, fIsiT, fEqD, fNeD, insAt_ref, insO_ins, fFmt, fmtS_i, fmtS_s, fmtOk_i, fmtOk_s, fIL, fIT, fIR1, fIR2, fIS, fIEn, fIZ,
  startL, List.map_cons, List.map_nil, List.length_cons, List.length_nil, List.cons_append, List.nil_append, List.replicate, List.getElem?_cons_zero, List.getElem?_cons_succ, List.set_cons_zero, List.set_cons_succ, Nat.reduceSub, Nat.reduceAdd,
  Option.some.injEq, Tr.int.injEq, Tr.str.injEq, Tr.bl.injEq, Tr.tup.injEq, Tr.ref.injEq, List.cons.injEq, exists_eq_left, exists_eq_left', exists_eq_right, true_and, and_true, and_self, exists_and_left, tupOf_tup, eqS_ii, eqS_ss, eqS_bb, eqS_ni, eqS_in, eqS_nn, isStr_s, isN_n, isN_i, isN_b, isN_s, isN_t, isN_r, noRaw_n, noRaw_i, noRaw_b, noRaw_s, noRaw_t, noRaw_r, and_assoc, reduceIte, Bool.false_eq_true, exists_const, lstAt_ref, seqAt_ref, seqAt_tup, refAt_ref, lstO_lst, app_assoc2, len_app1, at_kk, at_00, set_k, set_00, Nat.add_assoc, Option.map_some, Prod.mk.injEq, int_cast_inj, Nat.zero_le, decide_eq_true_eq, Bool.not_eq_true', decide_eq_false_iff_not, Nat.add_zero, implies_true, forall_const, ite_true, ite_false, if_true, if_false, decide_true, decide_false, Bool.not_true, Bool.not_false, asg_len, Option.isSome_some])
local macro_rules | `(tactic| walk_at "bel") => `(tactic| first | rfl | (simp (config := { failIfUnchanged := false }) only [belM, O.bel, bels_strs, bels_ints, belL, Tr.bel, Tr.bels, Bool.and_true, Bool.true_and, Bool.and_self, decide_eq_true_eq, Bool.and_eq_true, true_and, and_true, List.length_cons, List.length_nil, Nat.reduceAdd]; try omega))

local macro_rules | `(tactic| walk_at "sim2") => `(tactic| first | exact simDrawn | assumption | apply sim_match | apply SimM2.cons | exact SimM2.nil | apply i_enumT | apply sim_truS | apply sim_listG | apply sim_lcG | apply sim_eitherG | apply sim_methG | apply sim_methJ | apply sim_either | apply sim_sortKey | apply sim_sortSet | apply sim_raiseX)
local macro_rules | `(tactic| walk_at "sim1") => `(tactic| first | (with_reducible apply sim_callX; assumption) | (with_reducible apply sim_methX; assumption) | (with_reducible apply sim_makeX; assumption) | (with_reducible apply sim_makeKX; assumption) | (with_reducible apply sim_makeVSX; assumption) | (with_reducible apply sim_conA) | (with_reducible apply sim_sortSet))
local macro_rules | `(tactic| walk_at "fm2") => `(tactic| simp (config := { failIfUnchanged := false }) only [sm_app, sm_len, sm_at, sm_at0, sm_set, sm_set0, List.getElem?_cons_zero, List.getElem?_cons_succ, List.set_cons_zero, List.set_cons_succ, lstO_lst, Option.isSome_some, Option.map_some, Option.some.injEq, Prod.mk.injEq, Nat.add_assoc, Nat.reduceAdd, exists_eq_left', exists_eq_left, true_and, and_assoc, fRaiseX, fCVal, fNv, int1_i, fEither, fTruS, fIEnT, fMatch, fGoM, setAllT, fMakeK, fMakeVS, fMethJ, fEitherG, fListG, fSortKey, fSortSet, fConA])
local macro_rules | `(tactic| walk_at "fd") => `(tactic| (walk_at "fm"; walk_at "fm2"; walk_at "fm"; walk_at "fm2"; walk_at "fm"))

section
variable {P : Program} {w : World} {K : PySem.W.Frag} {mg : Str → Option Value} {base : Heap}
theorem scLawCh : FnScope ["_law_numbers", "_law_k"] ["_law_numbers"] (fnScope sLawCh) := fnScope_by (by decide +kernel)
theorem ok_lawCh {f : Addr} {fd : FuncData} (F : Def K mg "_law_changes" sLawCh f fd) (b : Binds K fd ["_law_numbers"] []) (T : BQ mg) : Cal P w K mg base 1 "_law_changes" (spF K fsLawCh) [] := by
  refine cal0 F b .nil scLawCh (fun vs H Q E h => ?_) (fun cdv A outer s H vs Q E hr h => ?_)
  · obtain ⟨ts, ρ, M, P, PX, r, m, ⟨l, r1, rfl, _⟩, o, ox⟩ := h
    exact r.len
  · refine ⟨_, (pss_cons (ps_if (pt_cmpR op_eq (pe_callB call_len_seq (by rfl) T.len PySem.boot_len (pa_cons (pv 0) pa_nil)) pe_int (nomark _)) (pss_one (ps_ret (pe_lst (pa_cons (pe_tup (pa_cons pe_str (pa_cons (pe_ix ix_list (pv 0) pe_int (fun _ _ => rfl)) (pa_cons (pe_ix ix_list (pv 0) pe_int (fun _ _ => rfl)) pa_nil)))) pa_nil)))) pss_nil)
 (pss_cons (ps_if (pt_cmpR op_eq (pe_callB call_len_seq (by rfl) T.len PySem.boot_len (pa_cons (pv 0) pa_nil)) pe_int (nomark _)) (pss_one (ps_ret (pe_lst (pa_cons (pe_op op_catA (pe_tup (pa_cons pe_str pa_nil)) (pe_callTy call_tuple_of (by rfl) T.tuple (by decide +kernel) (pa_cons (pv 0) pa_nil))) pa_nil)))) pss_nil)
 (pss_one (ps_ret (pe_lc (own := [("_law_k", 1)]) (g := gName 1) rfl scLawCh.nd (pi_range1 (by rfl) T.range (pa_cons (pe_ix (ix_listK (K := K) rfl) (pv 0) pe_int (fun _ _ => rfl)) pa_nil)) (blkOk_by (N := ["_law_numbers", "_law_k"]) (sc := fnScope sLawCh) (by decide +kernel)) (fun _ _ _ _ _ => pg_name (i := 1) scLawCh.nd rfl (Or.inl rfl)) (fun _ _ _ _ _ => pts_nil) (fun _ _ _ _ _ => (pe_tup (pa_cons pe_str (pa_cons (pe_op op_add (pe_ix (ix_listK (K := K) rfl) (pv 0) pe_int (fun _ _ => rfl)) (pe_op op_mul (pv 1) (pe_ix (ix_listK (K := K) rfl) (pv 0) pe_int (fun _ _ => rfl)))) (pa_cons (pe_ix (ix_listK (K := K) rfl) (pv 0) pe_int (fun _ _ => rfl)) (pa_cons (pe_ix (ix_listK (K := K) rfl) (pv 0) pe_int (fun _ _ => rfl)) pa_nil))))))))))), ?_⟩
    obtain ⟨ts, ρ, M, P, PX, r, m, ⟨l, r1, rfl, hl, hk, q⟩, o, ox⟩ := h
    try simp only [nox_K, cx_K]
    refine run_in r m o (by walk_at "sim") ?_
    walk_at "fd"
    rw [hl]
    walk_at "fd"
    cases r1 with
    | c p b =>
      rw [if_pos (by show ((2 : Nat) : Int) = 2; rfl)]
      refine ⟨_, rfl, _, rfl, by rw [sizeLine_eq]; decide, by rw [sizeLine_eq]; decide, ?_⟩
      exact keep_whole (by simp) (by simp [Tr.bel]) (by simpa using belM_ext m.belM (g := [.lst [.tup [.str "close", .int p, .int b]]]) (by rfl)) q
    | m p b a =>
      rw [if_neg (by show ¬ ((3 : Nat) : Int) = 2; decide), if_pos (by show ((3 : Nat) : Int) = 3; rfl)]
      refine ⟨by rw [sizeLine_eq]; decide, by rw [sizeLine_eq]; show 1 + 3 ≤ _; decide, by rw [sizeLine_eq]; decide, ?_⟩
      exact keep_whole (by simp) (by simp [Tr.bel]) (by simpa using belM_ext m.belM (g := [.lst [Tr.tup (Tr.str (Str.ofString "mend") :: List.map Tr.int (Row.m p b a).ns)]]) (by rfl)) q
    | u p b a e t =>
      rw [if_neg (by show ¬ ((5 : Nat) : Int) = 2; decide), if_neg (by show ¬ ((5 : Nat) : Int) = 3; decide)]
      obtain ⟨h1, h2, h3, h4, h5, h6⟩ := hk
      have hF : (rngT 0 t.toNat).filterMap (upT p b a e) = (Row.u p b a e t).ch := by
        unfold rngT Row.ch
        rw [List.filterMap_map]
        have : (upT p b a e ∘ fun (k : Nat) => Tr.int (0 + (k : Int))) = fun (k : Nat) => some (mendT (p + (k : Int) * e) b a) := by
          funext k
          show some (mendT (p + (0 + (k : Int)) * e) b a) = _
          rw [Int.zero_add]
        rw [this, List.filterMap_eq_map']
      refine lc_R (k := t.toNat) (upT p b a e) (fun R hR => ?_) m.belM (by rw [sizeLine_eq]; omega) (fun x hx y hy => ?_) (fun x hx => ?_) ?_
      · walk_at "fd"
        rw [hl]
        exact ⟨_, rfl, _, rfl, t, rfl, by omega, by omega, hR⟩
      · cases x with
        | int i => cases hy; rfl
        | _ => cases hy
      · obtain ⟨k, hk⟩ := List.mem_iff_getElem?.mp hx
        obtain ⟨hk1, rfl⟩ := rngT_get hk
        rw [Int.zero_add]
        intro R N hR _
        walk_at "fd"
        exact ⟨_, rfl, _, lstAt_of hl, _, rfl, _, rfl, _, rfl, _, lstAt_of hl, _, rfl, _, rfl, e, rfl, .inl ⟨by omega, by omega⟩, p, rfl, _, rfl, _, lstAt_of hl, _, rfl, _, rfl, _, lstAt_of hl, _, rfl, by rw [sizeLine_eq]; decide, (hR _ rfl).1⟩
      · rw [hF]
        refine keep_whole (by simp) (by simp [Tr.bel]) ?_ q
        rw [List.length_append]
        refine belM_ext m.belM (g := [.lst (Row.u p b a e t).ch]) ?_
        simp only [belM, O.bel, Bool.and_true]
        exact bels_all fun x hx => (ch_keyed _ x hx).2 _
theorem scWorkN : FnScope ["_law_state", "_law_bridges", "_law_high", "_law_numbers", "_law_branch"] ["_law_state", "_law_bridges", "_law_high"] (fnScope sWorkN) := fnScope_by (by decide +kernel)
/-- the drawing state is first; a row comes out, behind what else has come to stand -/
def fsWorkN : FSp := fun ts M P _ => ∃ (h : Int) (d : Ds) (g : Mem), ts = [.ref 0, .int 24, .int h] ∧ M = sm d g ∧ d.ok ∧ 1 ≤ h ∧ h ≤ 1000000000000000001 ∧
  ∀ (r : Row) (d' : Ds), d'.ok → r.wr → ∀ u : Mem, belM 0 u = true → P (.ref (List.length g + 1 + List.length u)) (sm d' (g ++ (u ++ [.lst (r.ns.map Tr.int)])))
structure Cl (P : Program) (w : World) (K : PySem.W.Frag) (mg : Str → Option Value) (base : Heap) : Prop where
  _law_drawn : Cal P w K mg base 1 "_law_drawn" (spDrawn K) []
theorem ok_workN {f : Addr} {fd : FuncData} (F : Def K mg "_law_work_numbers" sWorkN f fd) (b : Binds K fd ["_law_state", "_law_bridges", "_law_high"] []) (T : BQ mg) (C : Cl P w K mg base) : Cal P w K mg base 2 "_law_work_numbers" (spF K fsWorkN) [] := by
  refine cal0 F b .nil scWorkN (fun vs H Q E h => ?_) (fun cdv A outer s H vs Q E hr h => ?_)
  · obtain ⟨ts, ρ, M, P, PX, r, m, ⟨h, d, g, rfl, _⟩, o, ox⟩ := h
    exact r.len
  · refine ⟨_, (pss_cons (ps_set (i := 3) scWorkN.nd rfl (Or.inl rfl) (pe_lst (pa_cons (pe_c C._law_drawn hr (by first | decide | omega) (by rfl) (pa_cons (pv 0) (pa_cons (pv 2) pa_nil))) (pa_cons (pe_c C._law_drawn hr (by first | decide | omega) (by rfl) (pa_cons (pv 0) (pa_cons (pv 1) pa_nil))) pa_nil))))
 (pss_cons (ps_set (i := 4) scWorkN.nd rfl (Or.inl rfl) (pe_c C._law_drawn hr (by first | decide | omega) (by rfl) (pa_cons (pv 0) (pa_cons pe_int pa_nil))))
 (pss_cons (ps_if (pt_cmpR op_gt (pv 4) pe_int (nomark _)) (pss_one (ps_expr (pe_bm PySem.F.plainAttrs_list PySem.F.slot_list_append PySem.F.type_list_append mt_append (pv 3) (pa_cons (pe_op op_add pe_int (pe_c C._law_drawn hr (by first | decide | omega) (by rfl) (pa_cons (pv 0) (pa_cons (pv 2) pa_nil)))) pa_nil)))) pss_nil)
 (pss_cons (ps_if (pt_cmpR op_gt (pv 4) pe_int (nomark _)) (pss_one (ps_set (i := 3) scWorkN.nd rfl (Or.inl rfl) (pe_op op_cat (pv 3) (pe_lst (pa_cons (pe_op op_add pe_int (pe_c C._law_drawn hr (by first | decide | omega) (by rfl) (pa_cons (pv 0) (pa_cons (pv 2) pa_nil)))) (pa_cons (pe_op op_add pe_int (pe_c C._law_drawn hr (by first | decide | omega) (by rfl) (pa_cons (pv 0) (pa_cons pe_int pa_nil)))) pa_nil)))))) pss_nil)
 (pss_one (ps_ret (pv 3))))))), ?_⟩
    obtain ⟨ts, ρ, M, P, PX, r, m, ⟨hh, d, g, rfl, rfl, hd, h0, h1, q⟩, o, ox⟩ := h
    try simp only [nox_K, cx_K]
    refine run_in r m o (by walk_at "sim") ?_
    walk_at "fd"
    refine drawn_0 hd (by omega) (by omega) fun p d1 hd1 p0 p1 => ?_
    refine drawn_0 hd1 (by omega) (by omega) fun b1 d2 hd2 b0 b1' => ?_
    walk_at "fd"
    refine ⟨by rw [sizeLine_eq]; decide, ?_⟩
    refine drawn_at hd2 (by omega) (by omega) fun br d3 hd3 br0 br1 => ?_
    walk_at "fd"
    have wr2 : ∀ i ∈ [p, b1], 0 ≤ i ∧ i ≤ 2000000000000000000 := fun i hi => by
      simp only [List.mem_cons, List.not_mem_nil, or_false] at hi
      rcases hi with rfl | rfl <;> constructor <;> omega
    by_cases hb1 : 0 < br
    rotate_left
    · rw [if_neg hb1, if_neg (by omega)]
      exact keep_sm (h := [O.lst [Tr.int p, Tr.int b1]]) m (by simp [Tr.bel]) rfl (q (.c p b1) d3 hd3 wr2 [] rfl)
    rw [if_pos hb1]
    refine drawn_at hd3 (by omega) (by omega) fun a1 d4 hd4 a0 a1' => ?_
    walk_at "fd"
    have wr3 : ∀ i ∈ [p, b1, 1 + a1], 0 ≤ i ∧ i ≤ 2000000000000000000 := fun i hi => by
      simp only [List.mem_cons, List.not_mem_nil, or_false] at hi
      rcases hi with rfl | rfl | rfl <;> constructor <;> omega
    refine ⟨by rw [sizeLine_eq]; decide, ?_⟩
    by_cases hb2 : 1 < br
    rotate_left
    · rw [if_neg hb2]
      exact keep_sm (h := [O.lst [Tr.int p, Tr.int b1, Tr.int (1 + a1)]]) m (by simp [Tr.bel]) rfl (q (.m p b1 (1 + a1)) d4 hd4 wr3 [] rfl)
    rw [if_pos hb2]
    refine drawn_at hd4 (by omega) (by omega) fun e1 d5 hd5 e0 e1' => ?_
    walk_at "fd"
    refine drawn_at hd5 (by omega) (by omega) fun t1 d6 hd6 t0 t1' => ?_
    walk_at "fd"
    have wr5 : ∀ i ∈ [p, b1, 1 + a1, 1 + e1, 1 + t1], 0 ≤ i ∧ i ≤ 2000000000000000000 := fun i hi => by
      simp only [List.mem_cons, List.not_mem_nil, or_false] at hi
      rcases hi with rfl | rfl | rfl | rfl | rfl <;> constructor <;> omega
    refine ⟨by rw [sizeLine_eq]; decide, by rw [sizeLine_eq]; decide, ?_⟩
    trace_state
    exact keep_sm (h := [O.lst [Tr.int p, Tr.int b1, Tr.int (1 + a1)], O.lst [Tr.int (1 + e1), Tr.int (1 + t1)], O.lst [Tr.int p, Tr.int b1, Tr.int (1 + a1), Tr.int (1 + e1), Tr.int (1 + t1)]]) m (by simp [Tr.bel]) rfl (q (.u p b1 (1 + a1) (1 + e1) (1 + t1)) d6 hd6 wr5 [O.lst [Tr.int p, Tr.int b1, Tr.int (1 + a1)], O.lst [Tr.int (1 + e1), Tr.int (1 + t1)]] rfl)
end
end T1

set_option Elab.async false
set_option linter.all false
set_option maxRecDepth 100000
set_option maxHeartbeats 4000000
namespace T1
open PySem PySem.Spec PyProof.Rows L2 C8 Fm T2
local macro_rules | `(tactic| walk_at "sim1") => `(tactic| with_reducible first
  | exact sim_nil | exact sim_var | exact sim_int | exact sim_str | exact sim_bl | exact sim_non | exact sim_raw
  | apply sim_cons | apply sim_op | apply sim_un | apply sim_tup | apply sim_lst
  | apply sim_CB | apply sim_if | apply sim_test | apply sim_B | apply sim_not | apply sim_and | apply sim_or
  | apply sim_andV | apply sim_orV | apply sim_notV | apply sim_chain | exact sim_nopart | apply sim_part
  | apply sim_sl | apply sim_BML | apply sim_BMS | apply sim_BM0S | apply sim_M1 | apply sim_M0
  | apply sim_fmt | apply sim_joined | exact SimJ.nil | apply SimJ.cons
  | exact s_I0i | exact s_I0b | exact s_Ii | exact s_Ui | exact s_eq | exact s_ne | exact s_isN | exact s_notN | exact s_ixL | exact s_ixT | exact s_ixS
  | exact s_cat | exact s_catA | exact s_rep | exact s_repT | exact s_in | exact s_slL | exact s_slA | exact s_slS | exact s_addS | exact s_leS | exact s_ltS
  | exact c_len | exact c_lenS | exact c_list | exact c_tuple | exact c_int1 | exact c_intS | exact c_strI | exact c_max2 | exact c_min2
  | exact m_append | exact m_extend | exact m_split | exact m_join | exact m_0b | exact m_1b
  | apply sim_call | exact simSpF
  | exact sim_name | exact sim_gnil | apply sim_gcons | apply sim_gtup | apply sim_gsub | exact set_list
  | exact sim_next | apply sim_seq | apply sim_cut | exact sim_break | exact sim_cont | apply sim_drop | apply sim_ret | exact sim_retN
  | apply sim_ifS | exact sim_never | apply sim_asg | apply sim_par | apply sim_aug
  | apply sim_for | apply sim_while | apply i_list | apply i_tup | apply i_rng1 | apply i_rng2 | apply i_str | apply i_enum | apply i_zip
  | apply sim_lc | exact sim_yes | exact sim_namew (by decide) | exact sim_gnilw | apply sim_gconsw | apply sim_gtupw
  | apply sim_fld | apply sim_con | apply sim_setFld | apply sim_make | apply sim_prop | apply sim_meth | apply sim_cmeth | exact c_isi | apply sim_isiT | exact s_eqD | exact s_neD
  | walk_at "sim2")
local macro_rules | `(tactic| walk_at "sim2") => `(tactic| fail)
local macro_rules | `(tactic| walk_at "sim") => `(tactic| repeat' (walk_at "sim1"))
/-- open the trees' reading as far as it goes by itself -/
local macro_rules | `(tactic| walk_at "fm") => `(tactic| simp (config := { failIfUnchanged := false }) only [fVar, fC, fOp, fUn, fNil, fCons, fTup, fLst, fCB, fIf, fTest, fNot, fAnd, fOr, fAndV, fOrV, fNotV, fChain, fNoPart, fPart, fI, fI0, fU, fEq, fNe, fIsN, fNotN, fIxL, fIxT, fIxS,
  fCat, fCatA, fRep, fRepT, fSlL, fSlA, fSlS, fSl, fLen, fLenS, fList, fTuple, fIntS, fStrI, fMax2, fMin2, fAppend, fExtend, fIn, fBM, fMS, fBMS, fBM0S, fAddS, fLeS, fLtS, fM0b, fM1b, fSplit, fJoin, fJoined, fJs,
  fName, fGNil, fGCons, fGTup, fSetL, fGSub, fNext, fSeq, fCut, fBreak, fCont, fDrop, fRet, fRetN, fIfS, fAsg, fPar, fAug, fCall, fFld, fCon, fSetFld, fMake, fProp, fMeth, fCMeth, fIsi, fIsiT, fEqD, fNeD, insAt_ref, insO_ins, fFmt, fmtS_i, fmtS_s, fmtOk_i, fmtOk_s, fIL, fIT, fIR1, fIR2, fIS, fIEn, fIZ,
  startL, List.map_cons, List.map_nil, List.length_cons, List.length_nil, List.cons_append, List.nil_append, List.replicate, List.getElem?_cons_zero, List.getElem?_cons_succ, List.set_cons_zero, List.set_cons_succ, Nat.reduceSub, Nat.reduceAdd,
  Option.some.injEq, Tr.int.injEq, Tr.str.injEq, Tr.bl.injEq, Tr.tup.injEq, Tr.ref.injEq, List.cons.injEq, exists_eq_left, exists_eq_left', exists_eq_right, true_and, and_true, and_self, exists_and_left, tupOf_tup, eqS_ii, eqS_ss, eqS_bb, eqS_ni, eqS_in, eqS_nn, isStr_s, isN_n, isN_i, isN_b, isN_s, isN_t, isN_r, noRaw_n, noRaw_i, noRaw_b, noRaw_s, noRaw_t, noRaw_r, and_assoc, reduceIte, Bool.false_eq_true, exists_const, lstAt_ref, seqAt_ref, seqAt_tup, refAt_ref, lstO_lst, app_assoc2, len_app1, at_kk, at_00, set_k, set_00, Nat.add_assoc, Option.map_some, Prod.mk.injEq, int_cast_inj, Nat.zero_le, decide_eq_true_eq, Bool.not_eq_true', decide_eq_false_iff_not, Nat.add_zero, implies_true, forall_const, ite_true, ite_false, if_true, if_false, decide_true, decide_false, Bool.not_true, Bool.not_false, asg_len, Option.isSome_some])
local macro_rules | `(tactic| walk_at "bel") => `(tactic| first | rfl | (simp (config := { failIfUnchanged := false }) only [belM, O.bel, bels_strs, bels_ints, belL, Tr.bel, Tr.bels, Bool.and_true, Bool.true_and, Bool.and_self, decide_eq_true_eq, Bool.and_eq_true, true_and, and_true, List.length_cons, List.length_nil, Nat.reduceAdd]; try omega))

local macro_rules | `(tactic| walk_at "sim2") => `(tactic| first | exact simDrawn | assumption | apply sim_match | apply SimM2.cons | exact SimM2.nil | apply i_enumT | apply sim_truS | apply sim_listG | apply sim_lcG | apply sim_eitherG | apply sim_methG | apply sim_methJ | apply sim_either | apply sim_sortKey | apply sim_sortSet | apply sim_raiseX)
local macro_rules | `(tactic| walk_at "sim1") => `(tactic| first | (with_reducible apply sim_callX; assumption) | (with_reducible apply sim_methX; assumption) | (with_reducible apply sim_makeX; assumption) | (with_reducible apply sim_makeKX; assumption) | (with_reducible apply sim_makeVSX; assumption) | (with_reducible apply sim_conA) | (with_reducible apply sim_sortSet))
local macro_rules | `(tactic| walk_at "fm2") => `(tactic| simp (config := { failIfUnchanged := false }) only [sm_app, sm_len, sm_at, sm_at0, sm_set, sm_set0, List.getElem?_cons_zero, List.getElem?_cons_succ, List.set_cons_zero, List.set_cons_succ, lstO_lst, Option.isSome_some, Option.map_some, Option.some.injEq, Prod.mk.injEq, Nat.add_assoc, Nat.reduceAdd, exists_eq_left', exists_eq_left, true_and, and_assoc, fRaiseX, fCVal, fNv, int1_i, fEither, fTruS, fIEnT, fMatch, fGoM, setAllT, fMakeK, fMakeVS, fMethJ, fEitherG, fListG, fSortKey, fSortSet, fConA])
local macro_rules | `(tactic| walk_at "fd") => `(tactic| (walk_at "fm"; walk_at "fm2"; walk_at "fm"; walk_at "fm2"; walk_at "fm"))

def fsInt : FSp := fun ts M P _ => ∃ w : Str, ts = [.str w] ∧ w.length ≤ 640 ∧ PyData.strOk w = true ∧ (goodW w = false → P .non M) ∧ (goodW w = true → P (.int (numV w)) M)
section
variable {P : Program} {w : World} {K : PySem.W.Frag} {mg : Str → Option Value} {base : Heap}
theorem scInteger : FnScope ["_law_word", "_law_one"] ["_law_word"] (fnScope sInteger) := fnScope_by (by decide +kernel)
theorem ok_integer {f : Addr} {fd : FuncData} (F : Def K mg "_law_integer" sInteger f fd) (b : Binds K fd ["_law_word"] []) (T : BQ mg) : Cal P w K mg base 1 "_law_integer" (spF K fsInt) [] := by
  refine cal0 F b .nil scInteger (fun vs H Q E h => ?_) (fun cdv A outer s H vs Q E hr h => ?_)
  · obtain ⟨ts, ρ, M, P, PX, r, m, ⟨w, rfl, _⟩, o, ox⟩ := h
    exact r.len
  · refine ⟨_, (pss_cons (ps_if (PW.pt (pw_or (pt_cmpR op_eq (pv 0) pe_str (nomark _)) (pw_or (pt_cmpR (op_neD hr.units) (pe_lc (own := [("_law_one", 1)]) (g := gName 1) rfl scInteger.nd (pi_str (pv 0)) (blkOk_by (N := ["_law_word", "_law_one"]) (sc := fnScope sInteger) (by decide +kernel)) (fun _ _ _ _ _ => pg_name (i := 1) scInteger.nd rfl (Or.inl rfl)) (fun _ _ _ _ _ => (pts_one (pt_not (pt_chain op_le_str op_le_str pe_str (pv 1) pe_str)))) (fun _ _ _ _ _ => (pv 1))) (pe_lst pa_nil) (nomark _)) (pw_or1 (PW.pt (pw_and (pt_cmpR op_gt (pe_callB call_len_str (by rfl) T.len PySem.boot_len (pa_cons (pv 0) pa_nil)) pe_int (nomark _)) (pw_and1 (pt_cmpR op_eq (pe_ix ix_str (pv 0) pe_int (fun _ _ => rfl)) pe_str (nomark _))))))))) (pss_one (ps_ret pe_non)) pss_nil)
 (pss_one (ps_ret (pe_callTy call_int_str (by rfl) T.int (by decide +kernel) (pa_cons (pv 0) pa_nil))))), ?_⟩
    obtain ⟨ts, ρ, M, P, PX, r, m, ⟨w, rfl, hwl, hwk, q1, q2⟩, o, ox⟩ := h
    try simp only [nox_K, cx_K]
    refine run_in r m o (by walk_at "sim") ?_
    walk_at "fm"
    by_cases he : w = ""
    · rw [if_pos he]
      refine keep_same m rfl (q1 ?_)
      rw [← Bool.not_eq_true, good_iff]
      exact fun z => z.1 he
    · rw [if_neg he]
      refine lc_S (z := w) ndT rfl m.belM (by rw [sizeLine_eq]; omega) ?_ ?_ ?_
      · intro t ht y hy
        unfold chrsT at ht
        obtain ⟨k, _, rfl⟩ := List.mem_map.mp ht
        rw [ndT_one] at hy
        split at hy <;> cases hy
        rfl
      · intro t ht R N hR hN
        unfold chrsT at ht
        obtain ⟨k, _, rfl⟩ := List.mem_map.mp ht
        simp only [wipeF]
        walk_at "fm"
        rw [cps0, cps9]
        rw [ndT_one] at hR hN
        have h1 : ([k] < [48]) ↔ k < 48 := by simp [List.cons_lt_cons_iff]
        have h2 : ([57] < [k]) ↔ 57 < k := by simp [List.cons_lt_cons_iff]
        by_cases hk : dig k = true
        · have hk' := dig_iff.mp hk
          rw [if_pos hk] at hN
          rw [if_pos (by rw [h1]; omega), if_neg (by simp only [Bool.not_eq_false', Bool.not_eq_true', decide_eq_false_iff_not, Bool.not_eq_false, h2]; simp; omega)]
          exact (hN rfl).1
        · have hk' : ¬ (48 ≤ k ∧ k ≤ 57) := fun z => hk (dig_iff.mpr z)
          rw [if_neg hk] at hR
          have key := (hR _ rfl).1
          split
          · rename_i h3
            rw [h1] at h3
            rw [if_pos (by simp only [Bool.not_eq_false', decide_eq_true_eq, h2]; omega)]
            exact key
          · exact key
      · rw [nd_eq]
        refine ⟨.list ((ndS w).map PyData.str), .lst (by rw [lstAt_ref, List.append_assoc, at_00]; rfl) (da_strs _), .list [], .lst (by rw [lstAt_ref, at_00]; rfl) .nil, shaped_strs _ (fun y hy => by unfold ndS at hy; obtain ⟨k, hk, rfl⟩ := List.mem_map.mp hy; exact one_ok hwk (List.mem_filter.mp hk).1), by decide +kernel, ?_⟩
        rw [eqv_nil]
        by_cases hz : ndS w = []
        · rw [if_neg (by simp [hz])]
          have hall := (nd_nil w).mp hz
          have hws : w.length ≤ sizeLine := by rw [sizeLine_eq]; omega
          have fin : ¬ (1 < (w.length : Int) ∧ (TL.tl w)[0]? = some 48) → ∃ n, intText? w = some n ∧ w.length ≤ 640 ∧ Keep (List.length M) P (.int n) (M ++ [O.lst (List.map Tr.str (ndS w))] ++ [O.lst []]) := fun h48 => by
            rw [List.append_assoc]
            have hg := good_iff.mpr ⟨he, hall, h48⟩
            exact ⟨_, int_good hg hwl, hwl, keep_app m rfl (q2 hg)⟩
          refine ⟨hws, ?_⟩
          by_cases h1 : 1 < (w.length : Int)
          · rw [if_pos h1]
            obtain ⟨x, hx⟩ : ∃ x, (TL.tl w)[0]? = some x := by
              cases e : TL.tl w with
              | nil => rw [TL.len_tl, e] at h1; simp at h1
              | cons c r => exact ⟨c, rfl⟩
            refine ⟨hws, x, ?_, ?_⟩
            · unfold atI L2.ixN
              have hlen : w.cps.toList.length = w.length := by rw [TL.len_tl]
              rw [if_pos (Int.le_refl 0), if_pos (by rw [hlen]; omega)]
              exact hx
            · by_cases h48 : ({ cps := #[x] } : Str) = "0"
              · rw [if_pos h48]
                have hx48 : x = 48 := by
                  have := congrArg TL.tl h48
                  rw [tl_zero] at this
                  have e : TL.tl ({ cps := #[x] } : Str) = [x] := rfl
                  rw [e] at this
                  exact List.head_eq_of_cons_eq this
                rw [List.append_assoc]
                refine keep_app m rfl (q1 ?_)
                rw [← Bool.not_eq_true, good_iff]
                exact fun z => z.2.2 ⟨h1, by rw [hx, hx48]⟩
              · rw [if_neg h48]
                refine fin fun z => h48 ?_
                rw [hx] at z
                cases z.2
                exact TL.ext_tl tl_zero.symm
          · rw [if_neg h1]
            exact fin fun z => h1 z.1
        · rw [if_pos (by simp [hz]), List.append_assoc]
          refine keep_app m rfl (q1 ?_)
          rw [← Bool.not_eq_true, good_iff]
          exact fun z => hz ((nd_nil w).mpr z.2.1)
end
end T1

set_option Elab.async false
set_option linter.all false
set_option maxRecDepth 100000
set_option maxHeartbeats 4000000
namespace T1
open PySem PySem.Spec PyProof.Rows L2 C8 Fm T2
/-! ### the law's shapes of a line (wip/tools/mkl2.py writes this text) -/
def sAt (s : List Str) (k : Nat) : Str := s.getD k ""
def okS (s ws : List Str) : Prop := ∀ k, k < s.length → sAt s k ≠ "" → sAt s k = sAt ws k
def odds : List Str → List Str
  | _ :: b :: r => b :: odds r
  | _ => []
def shp0 : List Str := ["at", "", "close", ""]
def shp1 : List Str := ["at", "", "mend", "", "by", ""]
def shp2 : List Str := ["at", "", "mend", "", "by", "", "every", "", "times", ""]
theorem rd_s0 : ∀ ws : List Str, ws.length = 4 → (rdRow numV ws = none ∧ ¬ (okS shp0 ws ∧ (odds ws).all goodW = true)) ∨ ∃ r, rdRow numV ws = some r ∧ okS shp0 ws ∧ (odds ws).all goodW = true ∧ r.ns = (odds ws).map numV
  | [k1, p, k2, b], _ => by
    have eq1 : rdRow numV [k1, p, k2, b] = (if k1 = ("at" : Str) then (if goodW p = true then (if k2 = ("close" : Str) then (if goodW b = true then some (Row.c (numV p) (numV b)) else none) else none) else none) else none) := rfl
    have eo : odds [k1, p, k2, b] = [p, b] := rfl
    rw [eq1, eo]
    by_cases h0 : k1 = ("at" : Str)
    rotate_left
    · rw [if_neg h0]
      exact .inl ⟨rfl, fun z => h0 ((show ("at" : Str) = k1 from z.1 0 (by decide) (by decide +kernel)).symm)⟩
    rw [if_pos h0]
    by_cases h1 : goodW p = true
    rotate_left
    · rw [if_neg h1]
      exact .inl ⟨rfl, fun z => h1 (List.all_eq_true.mp z.2 p (by simp))⟩
    rw [if_pos h1]
    by_cases h2 : k2 = ("close" : Str)
    rotate_left
    · rw [if_neg h2]
      exact .inl ⟨rfl, fun z => h2 ((show ("close" : Str) = k2 from z.1 2 (by decide) (by decide +kernel)).symm)⟩
    rw [if_pos h2]
    by_cases h3 : goodW b = true
    rotate_left
    · rw [if_neg h3]
      exact .inl ⟨rfl, fun z => h3 (List.all_eq_true.mp z.2 b (by simp))⟩
    rw [if_pos h3]
    refine .inr ⟨_, rfl, fun k hk hne => ?_, ?_, rfl⟩
    · have hk : k < 4 := hk
      match k, hk with
      | 0, _ => exact h0.symm
      | 1, _ => exact absurd rfl hne
      | 2, _ => exact h2.symm
      | 3, _ => exact absurd rfl hne
    · simp [h1, h3]
theorem rd_s1 : ∀ ws : List Str, ws.length = 6 → (rdRow numV ws = none ∧ ¬ (okS shp1 ws ∧ (odds ws).all goodW = true)) ∨ ∃ r, rdRow numV ws = some r ∧ okS shp1 ws ∧ (odds ws).all goodW = true ∧ r.ns = (odds ws).map numV
  | [k1, p, k2, b, k3, a], _ => by
    have eq1 : rdRow numV [k1, p, k2, b, k3, a] = (if k1 = ("at" : Str) then (if goodW p = true then (if k2 = ("mend" : Str) then (if goodW b = true then (if k3 = ("by" : Str) then (if goodW a = true then some (Row.m (numV p) (numV b) (numV a)) else none) else none) else none) else none) else none) else none) := rfl
    have eo : odds [k1, p, k2, b, k3, a] = [p, b, a] := rfl
    rw [eq1, eo]
    by_cases h0 : k1 = ("at" : Str)
    rotate_left
    · rw [if_neg h0]
      exact .inl ⟨rfl, fun z => h0 ((show ("at" : Str) = k1 from z.1 0 (by decide) (by decide +kernel)).symm)⟩
    rw [if_pos h0]
    by_cases h1 : goodW p = true
    rotate_left
    · rw [if_neg h1]
      exact .inl ⟨rfl, fun z => h1 (List.all_eq_true.mp z.2 p (by simp))⟩
    rw [if_pos h1]
    by_cases h2 : k2 = ("mend" : Str)
    rotate_left
    · rw [if_neg h2]
      exact .inl ⟨rfl, fun z => h2 ((show ("mend" : Str) = k2 from z.1 2 (by decide) (by decide +kernel)).symm)⟩
    rw [if_pos h2]
    by_cases h3 : goodW b = true
    rotate_left
    · rw [if_neg h3]
      exact .inl ⟨rfl, fun z => h3 (List.all_eq_true.mp z.2 b (by simp))⟩
    rw [if_pos h3]
    by_cases h4 : k3 = ("by" : Str)
    rotate_left
    · rw [if_neg h4]
      exact .inl ⟨rfl, fun z => h4 ((show ("by" : Str) = k3 from z.1 4 (by decide) (by decide +kernel)).symm)⟩
    rw [if_pos h4]
    by_cases h5 : goodW a = true
    rotate_left
    · rw [if_neg h5]
      exact .inl ⟨rfl, fun z => h5 (List.all_eq_true.mp z.2 a (by simp))⟩
    rw [if_pos h5]
    refine .inr ⟨_, rfl, fun k hk hne => ?_, ?_, rfl⟩
    · have hk : k < 6 := hk
      match k, hk with
      | 0, _ => exact h0.symm
      | 1, _ => exact absurd rfl hne
      | 2, _ => exact h2.symm
      | 3, _ => exact absurd rfl hne
      | 4, _ => exact h4.symm
      | 5, _ => exact absurd rfl hne
    · simp [h1, h3, h5]
theorem rd_s2 : ∀ ws : List Str, ws.length = 10 → (rdRow numV ws = none ∧ ¬ (okS shp2 ws ∧ (odds ws).all goodW = true)) ∨ ∃ r, rdRow numV ws = some r ∧ okS shp2 ws ∧ (odds ws).all goodW = true ∧ r.ns = (odds ws).map numV
  | [k1, p, k2, b, k3, a, k4, e, k5, t], _ => by
    have eq1 : rdRow numV [k1, p, k2, b, k3, a, k4, e, k5, t] = (if k1 = ("at" : Str) then (if goodW p = true then (if k2 = ("mend" : Str) then (if goodW b = true then (if k3 = ("by" : Str) then (if goodW a = true then (if k4 = ("every" : Str) then (if goodW e = true then (if k5 = ("times" : Str) then (if goodW t = true then some (Row.u (numV p) (numV b) (numV a) (numV e) (numV t)) else none) else none) else none) else none) else none) else none) else none) else none) else none) else none) := rfl
    have eo : odds [k1, p, k2, b, k3, a, k4, e, k5, t] = [p, b, a, e, t] := rfl
    rw [eq1, eo]
    by_cases h0 : k1 = ("at" : Str)
    rotate_left
    · rw [if_neg h0]
      exact .inl ⟨rfl, fun z => h0 ((show ("at" : Str) = k1 from z.1 0 (by decide) (by decide +kernel)).symm)⟩
    rw [if_pos h0]
    by_cases h1 : goodW p = true
    rotate_left
    · rw [if_neg h1]
      exact .inl ⟨rfl, fun z => h1 (List.all_eq_true.mp z.2 p (by simp))⟩
    rw [if_pos h1]
    by_cases h2 : k2 = ("mend" : Str)
    rotate_left
    · rw [if_neg h2]
      exact .inl ⟨rfl, fun z => h2 ((show ("mend" : Str) = k2 from z.1 2 (by decide) (by decide +kernel)).symm)⟩
    rw [if_pos h2]
    by_cases h3 : goodW b = true
    rotate_left
    · rw [if_neg h3]
      exact .inl ⟨rfl, fun z => h3 (List.all_eq_true.mp z.2 b (by simp))⟩
    rw [if_pos h3]
    by_cases h4 : k3 = ("by" : Str)
    rotate_left
    · rw [if_neg h4]
      exact .inl ⟨rfl, fun z => h4 ((show ("by" : Str) = k3 from z.1 4 (by decide) (by decide +kernel)).symm)⟩
    rw [if_pos h4]
    by_cases h5 : goodW a = true
    rotate_left
    · rw [if_neg h5]
      exact .inl ⟨rfl, fun z => h5 (List.all_eq_true.mp z.2 a (by simp))⟩
    rw [if_pos h5]
    by_cases h6 : k4 = ("every" : Str)
    rotate_left
    · rw [if_neg h6]
      exact .inl ⟨rfl, fun z => h6 ((show ("every" : Str) = k4 from z.1 6 (by decide) (by decide +kernel)).symm)⟩
    rw [if_pos h6]
    by_cases h7 : goodW e = true
    rotate_left
    · rw [if_neg h7]
      exact .inl ⟨rfl, fun z => h7 (List.all_eq_true.mp z.2 e (by simp))⟩
    rw [if_pos h7]
    by_cases h8 : k5 = ("times" : Str)
    rotate_left
    · rw [if_neg h8]
      exact .inl ⟨rfl, fun z => h8 ((show ("times" : Str) = k5 from z.1 8 (by decide) (by decide +kernel)).symm)⟩
    rw [if_pos h8]
    by_cases h9 : goodW t = true
    rotate_left
    · rw [if_neg h9]
      exact .inl ⟨rfl, fun z => h9 (List.all_eq_true.mp z.2 t (by simp))⟩
    rw [if_pos h9]
    refine .inr ⟨_, rfl, fun k hk hne => ?_, ?_, rfl⟩
    · have hk : k < 10 := hk
      match k, hk with
      | 0, _ => exact h0.symm
      | 1, _ => exact absurd rfl hne
      | 2, _ => exact h2.symm
      | 3, _ => exact absurd rfl hne
      | 4, _ => exact h4.symm
      | 5, _ => exact absurd rfl hne
      | 6, _ => exact h6.symm
      | 7, _ => exact absurd rfl hne
      | 8, _ => exact h8.symm
      | 9, _ => exact absurd rfl hne
    · simp [h1, h3, h5, h7, h9]
end T1

set_option Elab.async false
set_option linter.all false
set_option maxRecDepth 100000
set_option maxHeartbeats 4000000
namespace T1
open PySem PySem.Spec PyProof.Rows L2 C8 Fm T2
local macro_rules | `(tactic| walk_at "sim1") => `(tactic| with_reducible first
  | exact sim_nil | exact sim_var | exact sim_int | exact sim_str | exact sim_bl | exact sim_non | exact sim_raw
  | apply sim_cons | apply sim_op | apply sim_un | apply sim_tup | apply sim_lst
  | apply sim_CB | apply sim_if | apply sim_test | apply sim_B | apply sim_not | apply sim_and | apply sim_or
  | apply sim_andV | apply sim_orV | apply sim_notV | apply sim_chain | exact sim_nopart | apply sim_part
  | apply sim_sl | apply sim_BML | apply sim_BMS | apply sim_BM0S | apply sim_M1 | apply sim_M0
  | apply sim_fmt | apply sim_joined | exact SimJ.nil | apply SimJ.cons
  | exact s_I0i | exact s_I0b | exact s_Ii | exact s_Ui | exact s_eq | exact s_ne | exact s_isN | exact s_notN | exact s_ixL | exact s_ixT | exact s_ixS
  | exact s_cat | exact s_catA | exact s_rep | exact s_repT | exact s_in | exact s_slL | exact s_slA | exact s_slS | exact s_addS | exact s_leS | exact s_ltS
  | exact c_len | exact c_lenS | exact c_list | exact c_tuple | exact c_int1 | exact c_intS | exact c_strI | exact c_max2 | exact c_min2
  | exact m_append | exact m_extend | exact m_split | exact m_join | exact m_0b | exact m_1b
  | apply sim_call | exact simSpF
  | exact sim_name | exact sim_gnil | apply sim_gcons | apply sim_gtup | apply sim_gsub | exact set_list
  | exact sim_next | apply sim_seq | apply sim_cut | exact sim_break | exact sim_cont | apply sim_drop | apply sim_ret | exact sim_retN
  | apply sim_ifS | exact sim_never | apply sim_asg | apply sim_par | apply sim_aug
  | apply sim_for | apply sim_while | apply i_list | apply i_tup | apply i_rng1 | apply i_rng2 | apply i_str | apply i_enum | apply i_zip
  | apply sim_lc | exact sim_yes | exact sim_namew (by decide) | exact sim_gnilw | apply sim_gconsw | apply sim_gtupw
  | apply sim_fld | apply sim_con | apply sim_setFld | apply sim_make | apply sim_prop | apply sim_meth | apply sim_cmeth | exact c_isi | apply sim_isiT | exact s_eqD | exact s_neD
  | walk_at "sim2")
local macro_rules | `(tactic| walk_at "sim2") => `(tactic| fail)
local macro_rules | `(tactic| walk_at "sim") => `(tactic| repeat' (walk_at "sim1"))
/-- open the trees' reading as far as it goes by itself -/
local macro_rules | `(tactic| walk_at "fm") => `(tactic| simp (config := { failIfUnchanged := false }) only [fVar, fC, fOp, fUn, fNil, fCons, fTup, fLst, fCB, fIf, fTest, fNot, fAnd, fOr, fAndV, fOrV, fNotV, fChain, fNoPart, fPart, fI, fI0, fU, fEq, fNe, fIsN, fNotN, fIxL, fIxT, fIxS,
  fCat, fCatA, fRep, fRepT, fSlL, fSlA, fSlS, fSl, fLen, fLenS, fList, fTuple, fIntS, fStrI, fMax2, fMin2, fAppend, fExtend, fIn, fBM, fMS, fBMS, fBM0S, fAddS, fLeS, fLtS, fM0b, fM1b, fSplit, fJoin, fJoined, fJs,
  fName, fGNil, fGCons, fGTup, fSetL, fGSub, fNext, fSeq, fCut, fBreak, fCont, fDrop, fRet, fRetN, fIfS, fAsg, fPar, fAug, fCall, fFld, fCon, fSetFld, fMake, fProp, fMeth, fCMeth, fIsi, fIsiT, fEqD, fNeD, insAt_ref, insO_ins, fFmt, fmtS_i, fmtS_s, fmtOk_i, fmtOk_s, fIL, fIT, fIR1, fIR2, fIS, fIEn, fIZ,
  startL, List.map_cons, List.map_nil, List.length_cons, List.length_nil, List.cons_append, List.nil_append, List.replicate, List.getElem?_cons_zero, List.getElem?_cons_succ, List.set_cons_zero, List.set_cons_succ, Nat.reduceSub, Nat.reduceAdd,
  Option.some.injEq, Tr.int.injEq, Tr.str.injEq, Tr.bl.injEq, Tr.tup.injEq, Tr.ref.injEq, List.cons.injEq, exists_eq_left, exists_eq_left', exists_eq_right, true_and, and_true, and_self, exists_and_left, tupOf_tup, eqS_ii, eqS_ss, eqS_bb, eqS_ni, eqS_in, eqS_nn, isStr_s, isN_n, isN_i, isN_b, isN_s, isN_t, isN_r, noRaw_n, noRaw_i, noRaw_b, noRaw_s, noRaw_t, noRaw_r, and_assoc, reduceIte, Bool.false_eq_true, exists_const, lstAt_ref, seqAt_ref, seqAt_tup, refAt_ref, lstO_lst, app_assoc2, len_app1, at_kk, at_00, set_k, set_00, Nat.add_assoc, Option.map_some, Prod.mk.injEq, int_cast_inj, Nat.zero_le, decide_eq_true_eq, Bool.not_eq_true', decide_eq_false_iff_not, Nat.add_zero, implies_true, forall_const, ite_true, ite_false, if_true, if_false, decide_true, decide_false, Bool.not_true, Bool.not_false, asg_len, Option.isSome_some])
local macro_rules | `(tactic| walk_at "bel") => `(tactic| first | rfl | (simp (config := { failIfUnchanged := false }) only [belM, O.bel, bels_strs, bels_ints, belL, Tr.bel, Tr.bels, Bool.and_true, Bool.true_and, Bool.and_self, decide_eq_true_eq, Bool.and_eq_true, true_and, and_true, List.length_cons, List.length_nil, Nat.reduceAdd]; try omega))

local macro_rules | `(tactic| walk_at "sim2") => `(tactic| first | exact simDrawn | assumption | apply sim_match | apply SimM2.cons | exact SimM2.nil | apply i_enumT | apply sim_truS | apply sim_listG | apply sim_lcG | apply sim_eitherG | apply sim_methG | apply sim_methJ | apply sim_either | apply sim_sortKey | apply sim_sortSet | apply sim_raiseX)
local macro_rules | `(tactic| walk_at "sim1") => `(tactic| first | (with_reducible apply sim_callX; assumption) | (with_reducible apply sim_methX; assumption) | (with_reducible apply sim_makeX; assumption) | (with_reducible apply sim_makeKX; assumption) | (with_reducible apply sim_makeVSX; assumption) | (with_reducible apply sim_conA) | (with_reducible apply sim_sortSet))
local macro_rules | `(tactic| walk_at "fm2") => `(tactic| simp (config := { failIfUnchanged := false }) only [sm_app, sm_len, sm_at, sm_at0, sm_set, sm_set0, List.getElem?_cons_zero, List.getElem?_cons_succ, List.set_cons_zero, List.set_cons_succ, lstO_lst, Option.isSome_some, Option.map_some, Option.some.injEq, Prod.mk.injEq, Nat.add_assoc, Nat.reduceAdd, exists_eq_left', exists_eq_left, true_and, and_assoc, fRaiseX, fCVal, fNv, int1_i, fEither, fTruS, fIEnT, fMatch, fGoM, setAllT, fMakeK, fMakeVS, fMethJ, fEitherG, fListG, fSortKey, fSortSet, fConA])
local macro_rules | `(tactic| walk_at "fd") => `(tactic| (walk_at "fm"; walk_at "fm2"; walk_at "fm"; walk_at "fm2"; walk_at "fm"))

def small (i : Int) : Prop := 0 ≤ i ∧ i.natAbs.log2 < 3000
def Row.sm (r : Row) : Prop := ∀ i ∈ r.ns, small i
def fsValid : FSp := fun ts M P _ => ∃ (l : Nat) (r : Row), ts = [.ref l] ∧ M[l]? = some (.lst (r.ns.map Tr.int)) ∧ r.sm ∧ P (.bl (decide r.ok)) M
section
variable {P : Program} {w : World} {K : PySem.W.Frag} {mg : Str → Option Value} {base : Heap}
theorem scValid : FnScope ["_law_numbers", "_law_last"] ["_law_numbers"] (fnScope sValid) := fnScope_by (by decide +kernel)
theorem log2_mono {a b : Nat} (h : a ≤ b) : a.log2 ≤ b.log2 := by
  by_cases h0 : a = 0
  · subst h0
    rw [Nat.log2_zero]
    exact Nat.zero_le _
  · exact (Nat.le_log2 (by omega)).mpr (Nat.le_trans (Nat.log2_self_le h0) h)
theorem keep_bl {H : Hp} {ρ : List Addr} {M : Mem} {P : PF} {b c : Bool} (m : RM K H ρ M) (q : P (.bl b) M) (e : c = b) : Keep M.length P (.bl c) M := by
  subst e
  exact keep_same m rfl q
theorem ok_valid {f : Addr} {fd : FuncData} (F : Def K mg "_law_is_valid" sValid f fd) (b : Binds K fd ["_law_numbers"] []) (T : BQ mg) : Cal P w K mg base 1 "_law_is_valid" (spF K fsValid) [] := by
  refine cal0 F b .nil scValid (fun vs H Q E h => ?_) (fun cdv A outer s H vs Q E hr h => ?_)
  · obtain ⟨ts, ρ, M, P, PX, r, m, ⟨l, r1, rfl, _⟩, o, ox⟩ := h
    exact r.len
  · refine ⟨_, (pss_cons (ps_if (PW.pt (pw_or (pt_cmpR op_gt (pe_ix ix_list (pv 0) pe_int (fun _ _ => rfl)) (pe_op op_pow pe_int pe_int) (nomark _)) (pw_or (pt_cmpR op_gt (pe_ix ix_list (pv 0) pe_int (fun _ _ => rfl)) pe_int (nomark _)) (pw_or1 (PW.pt (pw_and (pt_cmpR op_gt (pe_callB call_len_seq (by rfl) T.len PySem.boot_len (pa_cons (pv 0) pa_nil)) pe_int (nomark _)) (pw_and1 (pt_not (pt_chain op_le op_le pe_int (pe_ix ix_list (pv 0) pe_int (fun _ _ => rfl)) (pe_op op_pow pe_int pe_int)))))))))) (pss_one (ps_ret pe_bl)) pss_nil)
 (pss_cons (ps_if (pt_cmpR op_lt (pe_callB call_len_seq (by rfl) T.len PySem.boot_len (pa_cons (pv 0) pa_nil)) pe_int (nomark _)) (pss_one (ps_ret pe_bl)) pss_nil)
 (pss_cons (ps_set (i := 1) scValid.nd rfl (Or.inl rfl) (pe_op op_add (pe_ix ix_list (pv 0) pe_int (fun _ _ => rfl)) (pe_op op_mulW (pe_ix ix_list (pv 0) pe_int (fun _ _ => rfl)) (pe_op op_sub (pe_ix ix_list (pv 0) pe_int (fun _ _ => rfl)) pe_int))))
 (pss_one (ps_ret (pe_and (pe_chain op_le op_le pe_int (pe_ix ix_list (pv 0) pe_int (fun _ _ => rfl)) (pe_op op_pow pe_int pe_int)) (pe_and (pe_chain op_le op_le pe_int (pe_ix ix_list (pv 0) pe_int (fun _ _ => rfl)) pe_int) (pe_one (pe_cmpR op_le (pv 1) (pe_op op_pow pe_int pe_int) (nomark _)))))))))), ?_⟩
    obtain ⟨ts, ρ, M, P, PX, r, m, ⟨l, r1, rfl, hl, hs, q⟩, o, ox⟩ := h
    try simp only [nox_K, cx_K]
    refine run_in r m o (by walk_at "sim") ?_
    walk_at "fd"
    rw [hl]
    walk_at "fd"
    have e18 : (10 : Int) ^ Int.toNat 18 = 1000000000000000000 := by decide
    have hp18 : CPow 10 18 := ⟨by decide, by decide, by decide⟩
    have no : ∀ {r : Row} {Q : PF}, Q (.bl (decide r.ok)) M → ¬ r.ok → Q (.bl false) M := fun q h => by rwa [decide_eq_false h] at q
    have yes : ∀ {r : Row} {Q : PF}, Q (.bl (decide r.ok)) M → r.ok → Q (.bl true) M := fun q h => by rwa [decide_eq_true h] at q
    have q' := keep_same m rfl q
    rw [e18]
    cases r1 with
    | c p b =>
      have s1 := (hs p (by simp [Row.ns])).1
      have s2 := (hs b (by simp [Row.ns])).1
      refine ⟨_, rfl, hp18, p, rfl, ?_⟩
      by_cases h1 : 1000000000000000000 < p
      · rw [if_pos h1]
        exact no q' (fun z => by have := z.2.1; omega)
      rw [if_neg h1]
      refine ⟨_, rfl, b, rfl, ?_⟩
      by_cases h2 : 23 < b
      · rw [if_pos h2]
        exact no q' (fun z => by have := z.2.2.2; omega)
      rw [if_neg h2, if_neg (by show ¬ (2 : Int) < ((2 : Nat) : Int); decide), if_pos (by show ((2 : Nat) : Int) < 4; decide)]
      exact yes q' ⟨s1, by omega, s2, by omega⟩
    | m p b a =>
      have s1 := (hs p (by simp [Row.ns])).1
      have s2 := (hs b (by simp [Row.ns])).1
      refine ⟨_, rfl, hp18, p, rfl, ?_⟩
      by_cases h1 : 1000000000000000000 < p
      · rw [if_pos h1]
        exact no q' (fun z => by have := z.1.2.1; omega)
      rw [if_neg h1]
      refine ⟨_, rfl, b, rfl, ?_⟩
      by_cases h2 : 23 < b
      · rw [if_pos h2]
        exact no q' (fun z => by have := z.1.2.2.2; omega)
      rw [if_neg h2, if_pos (by show (2 : Int) < ((3 : Nat) : Int); decide)]
      refine ⟨_, rfl, a, rfl, ?_⟩
      by_cases h3 : 1 ≤ a
      · rw [if_pos h3]
        refine ⟨hp18, a, rfl, ?_⟩
        by_cases h4 : a ≤ 1000000000000000000
        · rw [if_neg (by simpa using h4), if_pos (by show ((3 : Nat) : Int) < 4; decide)]
          exact yes q' ⟨⟨s1, by omega, s2, by omega⟩, h3, h4⟩
        · rw [if_pos h4]
          exact no q' (fun z => h4 z.2.2)
      · rw [if_neg h3]
        exact no q' (fun z => h3 z.2.1)
    | u p b a e t =>
      have s1 := (hs p (by simp [Row.ns])).1
      have s2 := (hs b (by simp [Row.ns])).1
      obtain ⟨s4, s4'⟩ := hs e (by simp [Row.ns])
      obtain ⟨s5, s5'⟩ := hs t (by simp [Row.ns])
      refine ⟨_, rfl, hp18, p, rfl, ?_⟩
      by_cases h1 : 1000000000000000000 < p
      · rw [if_pos h1]
        exact no q' (fun z => by have := z.1.1.2.1; omega)
      rw [if_neg h1]
      refine ⟨_, rfl, b, rfl, ?_⟩
      by_cases h2 : 23 < b
      · rw [if_pos h2]
        exact no q' (fun z => by have := z.1.1.2.2.2; omega)
      rw [if_neg h2, if_pos (by show (2 : Int) < ((5 : Nat) : Int); decide)]
      refine ⟨_, rfl, a, rfl, ?_⟩
      by_cases h3 : 1 ≤ a
      rotate_left
      · rw [if_neg h3]
        exact no q' (fun z => h3 z.1.2.1)
      rw [if_pos h3]
      refine ⟨hp18, a, rfl, ?_⟩
      by_cases h4 : a ≤ 1000000000000000000
      rotate_left
      · rw [if_pos h4]
        exact no q' (fun z => h4 z.1.2.2)
      rw [if_neg (by simpa using h4), if_neg (by show ¬ ((5 : Nat) : Int) < 4; decide)]
      have hm : CMulW e (t - 1) := by
        have : (t - 1).natAbs.log2 < 3000 := by
          rcases Int.lt_or_le t 1 with h | h
          · have : t = 0 := by omega
            subst this
            decide
          · refine Nat.lt_of_le_of_lt ?_ s5'
            exact log2_mono (by omega)
        unfold CMulW
        omega
      refine ⟨_, rfl, _, rfl, _, rfl, t, rfl, e, rfl, hm, p, rfl, ?_⟩
      refine ⟨_, rfl, e, rfl, ?_⟩
      by_cases h5 : 1 ≤ e
      rotate_left
      · rw [if_neg h5]
        exact no q' (fun z => h5 z.2.1)
      rw [if_pos h5]
      refine ⟨hp18, e, rfl, ?_⟩
      by_cases h6 : e ≤ 1000000000000000000
      rotate_left
      · rw [if_neg h6]
        exact no q' (fun z => h6 z.2.2.1)
      rw [if_pos h6]
      refine ⟨_, rfl, t, rfl, ?_⟩
      by_cases h7 : 1 ≤ t
      rotate_left
      · rw [if_neg h7]
        exact no q' (fun z => h7 z.2.2.2.1)
      rw [if_pos h7]
      refine ⟨t, rfl, ?_⟩
      by_cases h8 : t ≤ 50
      rotate_left
      · rw [if_neg h8]
        exact no q' (fun z => h8 z.2.2.2.2.1)
      rw [if_pos h8]
      refine ⟨hp18, ?_⟩
      by_cases h9 : p + e * (t - 1) ≤ 1000000000000000000
      · rw [decide_eq_true h9]
        exact yes q' ⟨⟨⟨s1, by omega, s2, by omega⟩, h3, h4⟩, h5, h6, h7, h8, h9⟩
      · rw [decide_eq_false h9]
        exact no q' (fun z => h9 z.2.2.2.2.2)
end
end T1

set_option Elab.async false
set_option linter.all false
set_option maxRecDepth 100000
set_option maxHeartbeats 4000000
namespace T1
open PySem PySem.Spec PyProof.Rows L2 C8 Fm T2
/-! ### numbers and their words -/
theorem dv_lt : ∀ (n : Nat) (l : List Nat), l.length = n → NumText.AllDigits l → NumText.digitsVal l < 10 ^ n
  | 0, l, h, _ => by
    rw [List.length_eq_zero_iff.mp h]
    decide
  | n + 1, l, h, ha => by
    have hne : l ≠ [] := fun e => by rw [e] at h; cases h
    have e := List.dropLast_concat_getLast hne
    rw [← e, NumText.digitsVal_snoc]
    have h1 := dv_lt n l.dropLast (by rw [List.length_dropLast]; omega) fun c hc => ha c ((List.dropLast_sublist l).subset hc)
    have h2 := (ha _ (List.getLast_mem hne)).2
    rw [Nat.pow_succ]
    omega
theorem numV_lt {w : Str} (h : goodW w = true) : numV w < 10 ^ w.length := by
  obtain ⟨_, ha⟩ := goodL_all h
  have := dv_lt _ (TL.tl w) rfl (all_digits ha)
  unfold numV numL
  rw [TL.len_tl]
  exact_mod_cast this
theorem numV_small {w : Str} (h : goodW w = true) (hl : w.length ≤ 640) : small (numV w) := by
  refine ⟨numL_nn _, ?_⟩
  obtain ⟨_, ha⟩ := goodL_all h
  have h1 := dv_lt _ (TL.tl w) rfl (all_digits ha)
  have h2 : NumText.digitsVal (TL.tl w) < 2 ^ 3000 := by
    refine Nat.lt_of_lt_of_le h1 (Nat.le_trans (Nat.pow_le_pow_right (by decide) (show (TL.tl w).length ≤ 640 by rw [← TL.len_tl]; exact hl)) ?_)
    refine Nat.le_trans (Nat.pow_le_pow_left (show 10 ≤ 2 ^ 4 by decide) 640) ?_
    rw [← Nat.pow_mul]
    exact Nat.pow_le_pow_right (by decide) (by decide)
  unfold numV numL
  rw [Int.natAbs_natCast]
  by_cases h0 : NumText.digitsVal (TL.tl w) = 0
  · rw [h0]
    decide
  · exact (Nat.log2_lt h0).mpr h2
/-- a word of more than twenty signs is worth more than any number asked for -/
theorem numV_big {w : Str} (h : goodW w = true) (hl : 20 < w.length) : 1000000000000000000 < numV w := by
  obtain ⟨n0, ha⟩ := goodL_all h
  obtain ⟨c, r, e, hc⟩ : ∃ c r, TL.tl w = c :: r ∧ 49 ≤ c := by
    unfold goodW at h
    cases e : TL.tl w with
    | nil => exact absurd e n0
    | cons c r =>
      refine ⟨c, r, rfl, ?_⟩
      rw [TL.len_tl, e] at hl
      rw [e] at h ha
      have hd := dig_iff.mp (List.all_eq_true.mp ha c List.mem_cons_self)
      cases r with
      | nil => simp at hl
      | cons d r =>
        unfold goodL at h
        simp at h
        omega
  have h1 : ∀ (r : List Nat) (a : Nat), a * 10 ^ r.length ≤ r.foldl (fun acc c => acc * 10 + (c - 48)) a := by
    intro r
    induction r with
    | nil => intro a; simp
    | cons x r ih =>
      intro a
      refine Nat.le_trans ?_ (ih (a * 10 + (x - 48)))
      rw [List.length_cons, Nat.pow_succ, Nat.mul_comm (10 ^ r.length) 10, ← Nat.mul_assoc]
      exact Nat.mul_le_mul_right _ (by omega)
  have h2 : 10 ^ 20 ≤ NumText.digitsVal (TL.tl w) := by
    rw [e]
    show 10 ^ 20 ≤ r.foldl (fun acc c => acc * 10 + (c - 48)) (0 * 10 + (c - 48))
    refine Nat.le_trans ?_ (h1 r _)
    rw [TL.len_tl, e, List.length_cons] at hl
    have h3 : 10 ^ 20 ≤ 10 ^ r.length := Nat.pow_le_pow_right (by decide) (by omega)
    refine Nat.le_trans h3 ?_
    exact Nat.le_mul_of_pos_left _ (by omega)
  unfold numV numL
  have h4 : (10 : Nat) ^ 20 = 100000000000000000000 := by decide
  omega
theorem num20_big {w : Str} (h : goodW w = true) (hl : 20 < w.length) : 1000000000000000000 < num20 w := by
  have e : num20 w = numV ⟨((TL.tl w).take 20).toArray⟩ := rfl
  obtain ⟨n0, ha⟩ := goodL_all h
  obtain ⟨c, r, e, hc⟩ : ∃ c r, TL.tl w = c :: r ∧ 49 ≤ c := by
    unfold goodW at h
    cases e : TL.tl w with
    | nil => exact absurd e n0
    | cons c r =>
      refine ⟨c, r, rfl, ?_⟩
      rw [TL.len_tl, e] at hl
      rw [e] at h ha
      have hd := dig_iff.mp (List.all_eq_true.mp ha c List.mem_cons_self)
      cases r with
      | nil => simp at hl
      | cons d r =>
        unfold goodL at h
        simp at h
        omega
  have h1 : ∀ (r : List Nat) (a : Nat), a * 10 ^ r.length ≤ r.foldl (fun acc c => acc * 10 + (c - 48)) a := by
    intro r
    induction r with
    | nil => intro a; simp
    | cons x r ih =>
      intro a
      refine Nat.le_trans ?_ (ih (a * 10 + (x - 48)))
      rw [List.length_cons, Nat.pow_succ, Nat.mul_comm (10 ^ r.length) 10, ← Nat.mul_assoc]
      exact Nat.mul_le_mul_right _ (by omega)
  have h2 : 10 ^ 19 ≤ NumText.digitsVal ((TL.tl w).take 20) := by
    rw [e]
    show 10 ^ 19 ≤ (r.take 19).foldl (fun acc c => acc * 10 + (c - 48)) (0 * 10 + (c - 48))
    refine Nat.le_trans ?_ (h1 _ _)
    rw [TL.len_tl, e, List.length_cons] at hl
    have h3 : 10 ^ 19 ≤ 10 ^ (r.take 19).length := Nat.pow_le_pow_right (by decide) (by rw [List.length_take]; omega)
    refine Nat.le_trans h3 ?_
    exact Nat.le_mul_of_pos_left _ (by omega)
  unfold num20 numL
  have h4 : (10 : Nat) ^ 19 = 10000000000000000000 := by decide
  omega
end T1

set_option Elab.async false
set_option linter.all false
set_option maxRecDepth 100000
set_option maxHeartbeats 4000000
namespace T1
open PySem PySem.Spec PyProof.Rows L2 C8 Fm T2
/-! ### the program's reading and the law's agree (wip/tools/mkl3.py writes this text) -/
theorem num_agree {w : Str} (h : goodW w = true) (k : num20 w ≤ 1000000000000000000 ∨ numV w ≤ 1000000000000000000) : num20 w = numV w := by
  by_cases hl : w.length ≤ 20
  · exact num20_eq hl
  · have h1 := num20_big h (by omega)
    have h2 := numV_big h (by omega)
    omega
def Agree (ws : List Str) : Prop := (rdRow num20 ws = none ∧ rdRow numV ws = none) ∨ ∃ r r', rdRow num20 ws = some r ∧ rdRow numV ws = some r' ∧ (r.ok ↔ r'.ok) ∧ (r.ok → r = r')
theorem agree0 {k1 : Str} {p : Str} {k2 : Str} {b : Str} : Agree [k1, p, k2, b] := by
  have e1 : rdRow num20 [k1, p, k2, b] = (if k1 = ("at" : Str) then (if goodW p = true then (if k2 = ("close" : Str) then (if goodW b = true then some (Row.c (num20 p) (num20 b)) else none) else none) else none) else none) := rfl
  have e2 : rdRow numV [k1, p, k2, b] = (if k1 = ("at" : Str) then (if goodW p = true then (if k2 = ("close" : Str) then (if goodW b = true then some (Row.c (numV p) (numV b)) else none) else none) else none) else none) := rfl
  unfold Agree
  rw [e1, e2]
  by_cases h0 : k1 = ("at" : Str)
  rotate_left
  · rw [if_neg h0, if_neg h0]
    exact .inl ⟨rfl, rfl⟩
  rw [if_pos h0, if_pos h0]
  by_cases h1 : goodW p = true
  rotate_left
  · rw [if_neg h1, if_neg h1]
    exact .inl ⟨rfl, rfl⟩
  rw [if_pos h1, if_pos h1]
  by_cases h2 : k2 = ("close" : Str)
  rotate_left
  · rw [if_neg h2, if_neg h2]
    exact .inl ⟨rfl, rfl⟩
  rw [if_pos h2, if_pos h2]
  by_cases h3 : goodW b = true
  rotate_left
  · rw [if_neg h3, if_neg h3]
    exact .inl ⟨rfl, rfl⟩
  rw [if_pos h3, if_pos h3]
  have f1 : (Row.c (num20 p) (num20 b)).ok → Row.c (num20 p) (num20 b) = Row.c (numV p) (numV b) := fun h => by rw [num_agree h1 (.inl (by have z := h.2.1; omega)), num_agree h3 (.inl (by have z := h.2.2.2; omega))]
  have f2 : (Row.c (numV p) (numV b)).ok → Row.c (num20 p) (num20 b) = Row.c (numV p) (numV b) := fun h => by rw [num_agree h1 (.inr (by have z := h.2.1; omega)), num_agree h3 (.inr (by have z := h.2.2.2; omega))]
  exact .inr ⟨_, _, rfl, rfl, ⟨fun h => f1 h ▸ h, fun h => (f2 h).symm ▸ h⟩, f1⟩
theorem agree1 {k1 : Str} {p : Str} {k2 : Str} {b : Str} {k3 : Str} {a : Str} : Agree [k1, p, k2, b, k3, a] := by
  have e1 : rdRow num20 [k1, p, k2, b, k3, a] = (if k1 = ("at" : Str) then (if goodW p = true then (if k2 = ("mend" : Str) then (if goodW b = true then (if k3 = ("by" : Str) then (if goodW a = true then some (Row.m (num20 p) (num20 b) (num20 a)) else none) else none) else none) else none) else none) else none) := rfl
  have e2 : rdRow numV [k1, p, k2, b, k3, a] = (if k1 = ("at" : Str) then (if goodW p = true then (if k2 = ("mend" : Str) then (if goodW b = true then (if k3 = ("by" : Str) then (if goodW a = true then some (Row.m (numV p) (numV b) (numV a)) else none) else none) else none) else none) else none) else none) := rfl
  unfold Agree
  rw [e1, e2]
  by_cases h0 : k1 = ("at" : Str)
  rotate_left
  · rw [if_neg h0, if_neg h0]
    exact .inl ⟨rfl, rfl⟩
  rw [if_pos h0, if_pos h0]
  by_cases h1 : goodW p = true
  rotate_left
  · rw [if_neg h1, if_neg h1]
    exact .inl ⟨rfl, rfl⟩
  rw [if_pos h1, if_pos h1]
  by_cases h2 : k2 = ("mend" : Str)
  rotate_left
  · rw [if_neg h2, if_neg h2]
    exact .inl ⟨rfl, rfl⟩
  rw [if_pos h2, if_pos h2]
  by_cases h3 : goodW b = true
  rotate_left
  · rw [if_neg h3, if_neg h3]
    exact .inl ⟨rfl, rfl⟩
  rw [if_pos h3, if_pos h3]
  by_cases h4 : k3 = ("by" : Str)
  rotate_left
  · rw [if_neg h4, if_neg h4]
    exact .inl ⟨rfl, rfl⟩
  rw [if_pos h4, if_pos h4]
  by_cases h5 : goodW a = true
  rotate_left
  · rw [if_neg h5, if_neg h5]
    exact .inl ⟨rfl, rfl⟩
  rw [if_pos h5, if_pos h5]
  have f1 : (Row.m (num20 p) (num20 b) (num20 a)).ok → Row.m (num20 p) (num20 b) (num20 a) = Row.m (numV p) (numV b) (numV a) := fun h => by rw [num_agree h1 (.inl (by have z := h.1.2.1; omega)), num_agree h3 (.inl (by have z := h.1.2.2.2; omega)), num_agree h5 (.inl (by have z := h.2.2; omega))]
  have f2 : (Row.m (numV p) (numV b) (numV a)).ok → Row.m (num20 p) (num20 b) (num20 a) = Row.m (numV p) (numV b) (numV a) := fun h => by rw [num_agree h1 (.inr (by have z := h.1.2.1; omega)), num_agree h3 (.inr (by have z := h.1.2.2.2; omega)), num_agree h5 (.inr (by have z := h.2.2; omega))]
  exact .inr ⟨_, _, rfl, rfl, ⟨fun h => f1 h ▸ h, fun h => (f2 h).symm ▸ h⟩, f1⟩
theorem agree2 {k1 : Str} {p : Str} {k2 : Str} {b : Str} {k3 : Str} {a : Str} {k4 : Str} {e : Str} {k5 : Str} {t : Str} : Agree [k1, p, k2, b, k3, a, k4, e, k5, t] := by
  have e1 : rdRow num20 [k1, p, k2, b, k3, a, k4, e, k5, t] = (if k1 = ("at" : Str) then (if goodW p = true then (if k2 = ("mend" : Str) then (if goodW b = true then (if k3 = ("by" : Str) then (if goodW a = true then (if k4 = ("every" : Str) then (if goodW e = true then (if k5 = ("times" : Str) then (if goodW t = true then some (Row.u (num20 p) (num20 b) (num20 a) (num20 e) (num20 t)) else none) else none) else none) else none) else none) else none) else none) else none) else none) else none) := rfl
  have e2 : rdRow numV [k1, p, k2, b, k3, a, k4, e, k5, t] = (if k1 = ("at" : Str) then (if goodW p = true then (if k2 = ("mend" : Str) then (if goodW b = true then (if k3 = ("by" : Str) then (if goodW a = true then (if k4 = ("every" : Str) then (if goodW e = true then (if k5 = ("times" : Str) then (if goodW t = true then some (Row.u (numV p) (numV b) (numV a) (numV e) (numV t)) else none) else none) else none) else none) else none) else none) else none) else none) else none) else none) := rfl
  unfold Agree
  rw [e1, e2]
  by_cases h0 : k1 = ("at" : Str)
  rotate_left
  · rw [if_neg h0, if_neg h0]
    exact .inl ⟨rfl, rfl⟩
  rw [if_pos h0, if_pos h0]
  by_cases h1 : goodW p = true
  rotate_left
  · rw [if_neg h1, if_neg h1]
    exact .inl ⟨rfl, rfl⟩
  rw [if_pos h1, if_pos h1]
  by_cases h2 : k2 = ("mend" : Str)
  rotate_left
  · rw [if_neg h2, if_neg h2]
    exact .inl ⟨rfl, rfl⟩
  rw [if_pos h2, if_pos h2]
  by_cases h3 : goodW b = true
  rotate_left
  · rw [if_neg h3, if_neg h3]
    exact .inl ⟨rfl, rfl⟩
  rw [if_pos h3, if_pos h3]
  by_cases h4 : k3 = ("by" : Str)
  rotate_left
  · rw [if_neg h4, if_neg h4]
    exact .inl ⟨rfl, rfl⟩
  rw [if_pos h4, if_pos h4]
  by_cases h5 : goodW a = true
  rotate_left
  · rw [if_neg h5, if_neg h5]
    exact .inl ⟨rfl, rfl⟩
  rw [if_pos h5, if_pos h5]
  by_cases h6 : k4 = ("every" : Str)
  rotate_left
  · rw [if_neg h6, if_neg h6]
    exact .inl ⟨rfl, rfl⟩
  rw [if_pos h6, if_pos h6]
  by_cases h7 : goodW e = true
  rotate_left
  · rw [if_neg h7, if_neg h7]
    exact .inl ⟨rfl, rfl⟩
  rw [if_pos h7, if_pos h7]
  by_cases h8 : k5 = ("times" : Str)
  rotate_left
  · rw [if_neg h8, if_neg h8]
    exact .inl ⟨rfl, rfl⟩
  rw [if_pos h8, if_pos h8]
  by_cases h9 : goodW t = true
  rotate_left
  · rw [if_neg h9, if_neg h9]
    exact .inl ⟨rfl, rfl⟩
  rw [if_pos h9, if_pos h9]
  have f1 : (Row.u (num20 p) (num20 b) (num20 a) (num20 e) (num20 t)).ok → Row.u (num20 p) (num20 b) (num20 a) (num20 e) (num20 t) = Row.u (numV p) (numV b) (numV a) (numV e) (numV t) := fun h => by rw [num_agree h1 (.inl (by have z := h.1.1.2.1; omega)), num_agree h3 (.inl (by have z := h.1.1.2.2.2; omega)), num_agree h5 (.inl (by have z := h.1.2.2; omega)), num_agree h7 (.inl (by have z := h.2.2.1; omega)), num_agree h9 (.inl (by have z := h.2.2.2.2.1; omega))]
  have f2 : (Row.u (numV p) (numV b) (numV a) (numV e) (numV t)).ok → Row.u (num20 p) (num20 b) (num20 a) (num20 e) (num20 t) = Row.u (numV p) (numV b) (numV a) (numV e) (numV t) := fun h => by rw [num_agree h1 (.inr (by have z := h.1.1.2.1; omega)), num_agree h3 (.inr (by have z := h.1.1.2.2.2; omega)), num_agree h5 (.inr (by have z := h.1.2.2; omega)), num_agree h7 (.inr (by have z := h.2.2.1; omega)), num_agree h9 (.inr (by have z := h.2.2.2.2.1; omega))]
  exact .inr ⟨_, _, rfl, rfl, ⟨fun h => f1 h ▸ h, fun h => (f2 h).symm ▸ h⟩, f1⟩
theorem agree_any : ∀ ws : List Str, Agree ws
  | [] => .inl ⟨rfl, rfl⟩
  | [_] => .inl ⟨rfl, rfl⟩
  | [_, _] => .inl ⟨rfl, rfl⟩
  | [_, _, _] => .inl ⟨rfl, rfl⟩
  | [_, _, _, _] => agree0
  | [_, _, _, _, _] => .inl ⟨rfl, rfl⟩
  | [_, _, _, _, _, _] => agree1
  | [_, _, _, _, _, _, _] => .inl ⟨rfl, rfl⟩
  | [_, _, _, _, _, _, _, _] => .inl ⟨rfl, rfl⟩
  | [_, _, _, _, _, _, _, _, _] => .inl ⟨rfl, rfl⟩
  | [_, _, _, _, _, _, _, _, _, _] => agree2
  | _ :: _ :: _ :: _ :: _ :: _ :: _ :: _ :: _ :: _ :: _ :: _ => .inl ⟨rfl, rfl⟩
theorem scan_agree : ∀ (ls : List (List Str)) (k : Nat), scan num20 k ls = scan numV k ls
  | [], _ => rfl
  | ws :: r, k => by
    unfold scan
    rcases agree_any ws with ⟨h1, h2⟩ | ⟨r1, r2, h1, h2, h3, h4⟩
    · rw [h1, h2]
    · rw [h1, h2]
      simp only
      by_cases hk : r1.ok
      · rw [if_pos hk, if_pos (h3.mp hk), scan_agree r (k + 1), h4 hk]
      · rw [if_neg hk, if_neg (fun z => hk (h3.mpr z))]
theorem char_back {c : Nat} (h : c < 128) : (Char.ofNat c).toNat = c := by
  have : ∀ c < 128, (Char.ofNat c).toNat = c := by decide +kernel
  exact this c h
theorem num_back {w : Str} (h : goodW w = true) : TL.tl (Str.ofString (toString (numV w))) = TL.tl w := by
  unfold numV numL
  rw [TL.tl_num]
  obtain ⟨n0, ha⟩ := goodL_all h
  have hz : (TL.tl w).length - 1 = 0 ∨ ∃ c r, TL.tl w = c :: r ∧ 49 ≤ c := by
    unfold goodW at h
    cases e : TL.tl w with
    | nil => exact absurd e n0
    | cons c r =>
      rw [e] at h ha
      have hd := dig_iff.mp (List.all_eq_true.mp ha c List.mem_cons_self)
      cases r with
      | nil => exact .inl rfl
      | cons d r =>
        unfold goodL at h
        simp at h
        exact .inr ⟨c, d :: r, rfl, by omega⟩
  have hlen : (TL.tl w).length = ((TL.tl w).length - 1) + 1 := by
    have : (TL.tl w).length ≠ 0 := fun e => n0 (List.length_eq_zero_iff.mp e)
    omega
  unfold TL.numL
  rw [NumText.toDigits_digitsVal _ _ hlen (all_digits ha) hz, List.map_map]
  refine (List.map_congr_left fun c hc => ?_).trans (List.map_id _)
  have := (all_digits ha) c hc
  show (Char.ofNat c).toNat = c
  exact char_back (by omega)
theorem tl_e : TL.tl Str.empty = [] := rfl
theorem w_at : TL.tl "at " = TL.tl "at" ++ TL.tl " " := by decide +kernel
theorem w_by : TL.tl " by " = TL.tl " " ++ (TL.tl "by" ++ TL.tl " ") := by decide +kernel
theorem w_ev : TL.tl " every " = TL.tl " " ++ (TL.tl "every" ++ TL.tl " ") := by decide +kernel
theorem w_ti : TL.tl " times " = TL.tl " " ++ (TL.tl "times" ++ TL.tl " ") := by decide +kernel
theorem back0 {k1 : Str} {p : Str} {k2 : Str} {b : Str} {r : Row} (h : rdRow numV [k1, p, k2, b] = some r) : r.line = Txt.join " " [k1, p, k2, b] := by
  have e2 : rdRow numV [k1, p, k2, b] = (if k1 = ("at" : Str) then (if goodW p = true then (if k2 = ("close" : Str) then (if goodW b = true then some (Row.c (numV p) (numV b)) else none) else none) else none) else none) := rfl
  rw [e2] at h
  by_cases h0 : k1 = ("at" : Str)
  rotate_left
  · rw [if_neg h0] at h
    cases h
  rw [if_pos h0] at h
  by_cases h1 : goodW p = true
  rotate_left
  · rw [if_neg h1] at h
    cases h
  rw [if_pos h1] at h
  by_cases h2 : k2 = ("close" : Str)
  rotate_left
  · rw [if_neg h2] at h
    cases h
  rw [if_pos h2] at h
  by_cases h3 : goodW b = true
  rotate_left
  · rw [if_neg h3] at h
    cases h
  rw [if_pos h3] at h
  cases h
  subst h0
  subst h2
  rw [TL.join_eq]
  refine TL.ext_tl ?_
  show TL.tl (lineC (numV p) (numV b)) = _
  simp only [lineC, Str.join, TL.tl_append, List.append_assoc, tl_e, w_at, w_by, w_ev, w_ti, List.nil_append, num_back h1, num_back h3]
theorem back1 {k1 : Str} {p : Str} {k2 : Str} {b : Str} {k3 : Str} {a : Str} {r : Row} (h : rdRow numV [k1, p, k2, b, k3, a] = some r) : r.line = Txt.join " " [k1, p, k2, b, k3, a] := by
  have e2 : rdRow numV [k1, p, k2, b, k3, a] = (if k1 = ("at" : Str) then (if goodW p = true then (if k2 = ("mend" : Str) then (if goodW b = true then (if k3 = ("by" : Str) then (if goodW a = true then some (Row.m (numV p) (numV b) (numV a)) else none) else none) else none) else none) else none) else none) := rfl
  rw [e2] at h
  by_cases h0 : k1 = ("at" : Str)
  rotate_left
  · rw [if_neg h0] at h
    cases h
  rw [if_pos h0] at h
  by_cases h1 : goodW p = true
  rotate_left
  · rw [if_neg h1] at h
    cases h
  rw [if_pos h1] at h
  by_cases h2 : k2 = ("mend" : Str)
  rotate_left
  · rw [if_neg h2] at h
    cases h
  rw [if_pos h2] at h
  by_cases h3 : goodW b = true
  rotate_left
  · rw [if_neg h3] at h
    cases h
  rw [if_pos h3] at h
  by_cases h4 : k3 = ("by" : Str)
  rotate_left
  · rw [if_neg h4] at h
    cases h
  rw [if_pos h4] at h
  by_cases h5 : goodW a = true
  rotate_left
  · rw [if_neg h5] at h
    cases h
  rw [if_pos h5] at h
  cases h
  subst h0
  subst h2
  subst h4
  rw [TL.join_eq]
  refine TL.ext_tl ?_
  show TL.tl (lineM (numV p) (numV b) (numV a)) = _
  simp only [lineM, Str.join, TL.tl_append, List.append_assoc, tl_e, w_at, w_by, w_ev, w_ti, List.nil_append, num_back h1, num_back h3, num_back h5]
theorem back2 {k1 : Str} {p : Str} {k2 : Str} {b : Str} {k3 : Str} {a : Str} {k4 : Str} {e : Str} {k5 : Str} {t : Str} {r : Row} (h : rdRow numV [k1, p, k2, b, k3, a, k4, e, k5, t] = some r) : r.line = Txt.join " " [k1, p, k2, b, k3, a, k4, e, k5, t] := by
  have e2 : rdRow numV [k1, p, k2, b, k3, a, k4, e, k5, t] = (if k1 = ("at" : Str) then (if goodW p = true then (if k2 = ("mend" : Str) then (if goodW b = true then (if k3 = ("by" : Str) then (if goodW a = true then (if k4 = ("every" : Str) then (if goodW e = true then (if k5 = ("times" : Str) then (if goodW t = true then some (Row.u (numV p) (numV b) (numV a) (numV e) (numV t)) else none) else none) else none) else none) else none) else none) else none) else none) else none) else none) := rfl
  rw [e2] at h
  by_cases h0 : k1 = ("at" : Str)
  rotate_left
  · rw [if_neg h0] at h
    cases h
  rw [if_pos h0] at h
  by_cases h1 : goodW p = true
  rotate_left
  · rw [if_neg h1] at h
    cases h
  rw [if_pos h1] at h
  by_cases h2 : k2 = ("mend" : Str)
  rotate_left
  · rw [if_neg h2] at h
    cases h
  rw [if_pos h2] at h
  by_cases h3 : goodW b = true
  rotate_left
  · rw [if_neg h3] at h
    cases h
  rw [if_pos h3] at h
  by_cases h4 : k3 = ("by" : Str)
  rotate_left
  · rw [if_neg h4] at h
    cases h
  rw [if_pos h4] at h
  by_cases h5 : goodW a = true
  rotate_left
  · rw [if_neg h5] at h
    cases h
  rw [if_pos h5] at h
  by_cases h6 : k4 = ("every" : Str)
  rotate_left
  · rw [if_neg h6] at h
    cases h
  rw [if_pos h6] at h
  by_cases h7 : goodW e = true
  rotate_left
  · rw [if_neg h7] at h
    cases h
  rw [if_pos h7] at h
  by_cases h8 : k5 = ("times" : Str)
  rotate_left
  · rw [if_neg h8] at h
    cases h
  rw [if_pos h8] at h
  by_cases h9 : goodW t = true
  rotate_left
  · rw [if_neg h9] at h
    cases h
  rw [if_pos h9] at h
  cases h
  subst h0
  subst h2
  subst h4
  subst h6
  subst h8
  rw [TL.join_eq]
  refine TL.ext_tl ?_
  show TL.tl (lineU (numV p) (numV b) (numV a) (numV e) (numV t)) = _
  simp only [lineU, lineM, Str.join, TL.tl_append, List.append_assoc, tl_e, w_at, w_by, w_ev, w_ti, List.nil_append, num_back h1, num_back h3, num_back h5, num_back h7, num_back h9]
theorem back_any {ws : List Str} {r : Row} (h : rdRow numV ws = some r) : r.line = Txt.join " " ws := by
  rcases rdRow_len h with hl | hl | hl
  · match ws, hl, h with
    | [_, _, _, _], _, h => exact back0 h
  · match ws, hl, h with
    | [_, _, _, _, _, _], _, h => exact back1 h
  · match ws, hl, h with
    | [_, _, _, _, _, _, _, _, _, _], _, h => exact back2 h
end T1

set_option Elab.async false
set_option linter.all false
set_option maxRecDepth 100000
set_option maxHeartbeats 4000000
namespace T1
open PySem PySem.Spec PyProof.Rows L2 C8 Fm T2
local macro_rules | `(tactic| walk_at "sim1") => `(tactic| with_reducible first
  | exact sim_nil | exact sim_var | exact sim_int | exact sim_str | exact sim_bl | exact sim_non | exact sim_raw
  | apply sim_cons | apply sim_op | apply sim_un | apply sim_tup | apply sim_lst
  | apply sim_CB | apply sim_if | apply sim_test | apply sim_B | apply sim_not | apply sim_and | apply sim_or
  | apply sim_andV | apply sim_orV | apply sim_notV | apply sim_chain | exact sim_nopart | apply sim_part
  | apply sim_sl | apply sim_BML | apply sim_BMS | apply sim_BM0S | apply sim_M1 | apply sim_M0
  | apply sim_fmt | apply sim_joined | exact SimJ.nil | apply SimJ.cons
  | exact s_I0i | exact s_I0b | exact s_Ii | exact s_Ui | exact s_eq | exact s_ne | exact s_isN | exact s_notN | exact s_ixL | exact s_ixT | exact s_ixS
  | exact s_cat | exact s_catA | exact s_rep | exact s_repT | exact s_in | exact s_slL | exact s_slA | exact s_slS | exact s_addS | exact s_leS | exact s_ltS
  | exact c_len | exact c_lenS | exact c_list | exact c_tuple | exact c_int1 | exact c_intS | exact c_strI | exact c_max2 | exact c_min2
  | exact m_append | exact m_extend | exact m_split | exact m_join | exact m_0b | exact m_1b
  | apply sim_call | exact simSpF
  | exact sim_name | exact sim_gnil | apply sim_gcons | apply sim_gtup | apply sim_gsub | exact set_list
  | exact sim_next | apply sim_seq | apply sim_cut | exact sim_break | exact sim_cont | apply sim_drop | apply sim_ret | exact sim_retN
  | apply sim_ifS | exact sim_never | apply sim_asg | apply sim_par | apply sim_aug
  | apply sim_for | apply sim_while | apply i_list | apply i_tup | apply i_rng1 | apply i_rng2 | apply i_str | apply i_enum | apply i_zip
  | apply sim_lc | exact sim_yes | exact sim_namew (by decide) | exact sim_gnilw | apply sim_gconsw | apply sim_gtupw
  | apply sim_fld | apply sim_con | apply sim_setFld | apply sim_make | apply sim_prop | apply sim_meth | apply sim_cmeth | exact c_isi | apply sim_isiT | exact s_eqD | exact s_neD
  | walk_at "sim2")
local macro_rules | `(tactic| walk_at "sim2") => `(tactic| fail)
local macro_rules | `(tactic| walk_at "sim") => `(tactic| repeat' (walk_at "sim1"))
/-- open the trees' reading as far as it goes by itself -/
local macro_rules | `(tactic| walk_at "fm") => `(tactic| simp (config := { failIfUnchanged := false }) only [fVar, fC, fOp, fUn, fNil, fCons, fTup, fLst, fCB, fIf, fTest, fNot, fAnd, fOr, fAndV, fOrV, fNotV, fChain, fNoPart, fPart, fI, fI0, fU, fEq, fNe, fIsN, fNotN, fIxL, fIxT, fIxS,
  fCat, fCatA, fRep, fRepT, fSlL, fSlA, fSlS, fSl, fLen, fLenS, fList, fTuple, fIntS, fStrI, fMax2, fMin2, fAppend, fExtend, fIn, fBM, fMS, fBMS, fBM0S, fAddS, fLeS, fLtS, fM0b, fM1b, fSplit, fJoin, fJoined, fJs,
  fName, fGNil, fGCons, fGTup, fSetL, fGSub, fNext, fSeq, fCut, fBreak, fCont, fDrop, fRet, fRetN, fIfS, fAsg, fPar, fAug, fCall, fFld, fCon, fSetFld, fMake, fProp, fMeth, fCMeth, fIsi, fIsiT, fEqD, fNeD, insAt_ref, insO_ins, fFmt, fmtS_i, fmtS_s, fmtOk_i, fmtOk_s, fIL, fIT, fIR1, fIR2, fIS, fIEn, fIZ,
  startL, List.map_cons, List.map_nil, List.length_cons, List.length_nil, List.cons_append, List.nil_append, List.replicate, List.getElem?_cons_zero, List.getElem?_cons_succ, List.set_cons_zero, List.set_cons_succ, Nat.reduceSub, Nat.reduceAdd,
  Option.some.injEq, Tr.int.injEq, Tr.str.injEq, Tr.bl.injEq, Tr.tup.injEq, Tr.ref.injEq, List.cons.injEq, exists_eq_left, exists_eq_left', exists_eq_right, true_and, and_true, and_self, exists_and_left, tupOf_tup, eqS_ii, eqS_ss, eqS_bb, eqS_ni, eqS_in, eqS_nn, isStr_s, isN_n, isN_i, isN_b, isN_s, isN_t, isN_r, noRaw_n, noRaw_i, noRaw_b, noRaw_s, noRaw_t, noRaw_r, and_assoc, reduceIte, Bool.false_eq_true, exists_const, lstAt_ref, seqAt_ref, seqAt_tup, refAt_ref, lstO_lst, app_assoc2, len_app1, at_kk, at_00, set_k, set_00, Nat.add_assoc, Option.map_some, Prod.mk.injEq, int_cast_inj, Nat.zero_le, decide_eq_true_eq, Bool.not_eq_true', decide_eq_false_iff_not, Nat.add_zero, implies_true, forall_const, ite_true, ite_false, if_true, if_false, decide_true, decide_false, Bool.not_true, Bool.not_false, asg_len, Option.isSome_some])
local macro_rules | `(tactic| walk_at "bel") => `(tactic| first | rfl | (simp (config := { failIfUnchanged := false }) only [belM, O.bel, bels_strs, bels_ints, belL, Tr.bel, Tr.bels, Bool.and_true, Bool.true_and, Bool.and_self, decide_eq_true_eq, Bool.and_eq_true, true_and, and_true, List.length_cons, List.length_nil, Nat.reduceAdd]; try omega))

local macro_rules | `(tactic| walk_at "sim2") => `(tactic| first | exact simDrawn | assumption | apply sim_match | apply SimM2.cons | exact SimM2.nil | apply i_enumT | apply sim_truS | apply sim_listG | apply sim_lcG | apply sim_eitherG | apply sim_methG | apply sim_methJ | apply sim_either | apply sim_sortKey | apply sim_sortSet | apply sim_raiseX)
local macro_rules | `(tactic| walk_at "sim1") => `(tactic| first | (with_reducible apply sim_callX; assumption) | (with_reducible apply sim_methX; assumption) | (with_reducible apply sim_makeX; assumption) | (with_reducible apply sim_makeKX; assumption) | (with_reducible apply sim_makeVSX; assumption) | (with_reducible apply sim_conA) | (with_reducible apply sim_sortSet))
local macro_rules | `(tactic| walk_at "fm2") => `(tactic| simp (config := { failIfUnchanged := false }) only [sm_app, sm_len, sm_at, sm_at0, sm_set, sm_set0, List.getElem?_cons_zero, List.getElem?_cons_succ, List.set_cons_zero, List.set_cons_succ, lstO_lst, Option.isSome_some, Option.map_some, Option.some.injEq, Prod.mk.injEq, Nat.add_assoc, Nat.reduceAdd, exists_eq_left', exists_eq_left, true_and, and_assoc, fRaiseX, fCVal, fNv, int1_i, fEither, fTruS, fIEnT, fMatch, fGoM, setAllT, fMakeK, fMakeVS, fMethJ, fEitherG, fListG, fSortKey, fSortSet, fConA])
local macro_rules | `(tactic| walk_at "fd") => `(tactic| (walk_at "fm"; walk_at "fm2"; walk_at "fm"; walk_at "fm2"; walk_at "fm"))

local macro_rules | `(tactic| walk_at "sim2") => `(tactic| apply i_rng3)
/-- words that the law can read -/
def FineL (line : Str) : Prop := line.length ≤ 800000 ∧ ∀ w ∈ Txt.split line " ", w.length ≤ 640 ∧ PyData.strOk w = true
/-- a list that has come to stand somewhere -/
def ResL (M : Mem) (P : PF) (us : List Tr) : Prop := ∀ (h : Mem) (k : Nat), ntab h = true → belM (List.length (M ++ h)) (M ++ h) = true → (M ++ h)[k]? = some (.lst us) → P (.ref k) (M ++ h)
def fsLR : FSp := fun ts M P _ => ∃ line : Str, ts = [.str line] ∧ FineL line ∧ (rdRow numV (Txt.split line " ") = none → P .non M) ∧ ∀ r, rdRow numV (Txt.split line " ") = some r → (r.ok → ResL M P (r.ns.map Tr.int)) ∧ (¬ r.ok → ResL M P [])
def fixB (s ws : List Str) (k : Nat) : Bool := decide (sAt s k ≠ "") && decide (sAt s k ≠ sAt ws k)
def fixT (s ws : List Str) : Tr → Option Tr
  | .int k => if fixB s ws k.toNat = true then some (.int k) else none
  | _ => none
def fixI (s ws : List Str) : List Int := ((List.range s.length).filter (fixB s ws)).map fun (k : Nat) => (k : Int)
theorem fix_eq (s ws : List Str) : (rngT 0 s.length).filterMap (fixT s ws) = (fixI s ws).map Tr.int := by
  unfold rngT fixI
  induction List.range s.length with
  | nil => rfl
  | cons k l ih =>
    have e : fixT s ws (.int (0 + (k : Int))) = if fixB s ws k = true then some (.int (k : Int)) else none := by
      rw [Int.zero_add]
      rfl
    rw [List.map_cons, List.filterMap_cons, e, List.filter_cons]
    by_cases h : fixB s ws k = true
    · rw [if_pos h, if_pos h, List.map_cons, List.map_cons]
      simp only
      rw [ih]
    · rw [if_neg h, if_neg h]
      simp only
      exact ih
theorem fix_nil (s ws : List Str) : fixI s ws = [] ↔ okS s ws := by
  unfold fixI okS
  rw [List.map_eq_nil_iff, List.filter_eq_nil_iff]
  constructor
  · intro h k hk hne
    have := h k (List.mem_range.mpr hk)
    unfold fixB at this
    rw [decide_eq_true hne, Bool.true_and] at this
    exact Classical.not_not.mp (fun z => this (decide_eq_true z))
  · intro h k hk z
    unfold fixB at z
    rw [Bool.and_eq_true] at z
    exact of_decide_eq_true z.2 (h k (List.mem_range.mp hk) (of_decide_eq_true z.1))
def intT (w : Str) : Tr := if goodW w = true then .int (numV w) else .non
def numT (ws : List Str) : Tr → Option Tr
  | .int k => some (intT (sAt ws k.toNat))
  | _ => none
structure ShapeOk (s : List Str) : Prop where
  le : s.length ≤ 10
  rg : RgC 1 s.length 2 (s.length / 2)
  bl : ∀ j, j < s.length / 2 → sAt s (1 + j * 2) = ""
  hl : 2 * (s.length / 2) = s.length
  rd : ∀ ws : List Str, ws.length = s.length → (rdRow numV ws = none ∧ ¬ (okS s ws ∧ (odds ws).all goodW = true)) ∨ ∃ r, rdRow numV ws = some r ∧ okS s ws ∧ (odds ws).all goodW = true ∧ r.ns = (odds ws).map numV
  nm : ∀ ws : List Str, ws.length = s.length → (stpT 1 2 (s.length / 2)).filterMap (numT ws) = (odds ws).map intT
theorem shape0 : ShapeOk shp0 := ⟨by decide, ⟨by decide, by decide, by decide +kernel, by decide +kernel⟩, fun j hj => by
  have hj : j < 2 := hj
  match j, hj with
  | 0, _ => rfl
  | 1, _ => rfl, rfl, rd_s0, fun
  | [_, _, _, _], _ => rfl⟩
theorem shape1 : ShapeOk shp1 := ⟨by decide, ⟨by decide, by decide, by decide +kernel, by decide +kernel⟩, fun j hj => by
  have hj : j < 3 := hj
  match j, hj with
  | 0, _ => rfl
  | 1, _ => rfl
  | 2, _ => rfl, rfl, rd_s1, fun
  | [_, _, _, _, _, _], _ => rfl⟩
theorem shape2 : ShapeOk shp2 := ⟨by decide, ⟨by decide, by decide, by decide +kernel, by decide +kernel⟩, fun j hj => by
  have hj : j < 5 := hj
  match j, hj with
  | 0, _ => rfl
  | 1, _ => rfl
  | 2, _ => rfl
  | 3, _ => rfl
  | 4, _ => rfl, rfl, rd_s2, fun
  | [_, _, _, _, _, _, _, _, _, _], _ => rfl⟩
theorem rd_lens {ws : List Str} (h4 : ws.length ≠ 4) (h6 : ws.length ≠ 6) (h10 : ws.length ≠ 10) : rdRow numV ws = none := by
  cases e : rdRow numV ws with
  | none => rfl
  | some r =>
    rcases rdRow_len e with h | h | h
    · exact absurd h h4
    · exact absurd h h6
    · exact absurd h h10
theorem sAt_get {s : List Str} {k : Nat} (h : k < s.length) : atI (s.map Tr.str) (k : Int) = some (.str (sAt s k)) := by
  unfold atI L2.ixN sAt
  rw [if_pos (Int.natCast_nonneg _), if_pos (by rw [List.length_map]; omega)]
  show (s.map Tr.str)[(k : Int).toNat]? = _
  rw [Int.toNat_natCast, List.getElem?_map, List.getElem?_eq_getElem h, List.getD_eq_getElem?_getD, List.getElem?_eq_getElem h]
  rfl
theorem da_ints {M : Mem} : ∀ b : List Int, DaAll M (b.map Tr.int) (b.map PyData.int)
  | [] => .nil
  | x :: b => .cons (.int x) (da_ints b)
theorem lay_ints : ∀ b : List Int, PyData.canLayAll0 (b.map PyData.int) = true
  | [] => by simp [PyData.canLayAll0]
  | x :: b => by simp [PyData.canLayAll0, PyData.canLay0, lay_ints b]
theorem depth_ints : ∀ b : List Int, PyData.depthAll (b.map PyData.int) ≤ 1
  | [] => by simp [PyData.depthAll]
  | x :: b => by
    have := depth_ints b
    simp only [List.map_cons, PyData.depthAll, PyData.depth]
    omega
theorem shaped_ints (b : List Int) : SeqAt.shaped (.list (b.map PyData.int)) = true := by
  have h := depth_ints b
  have hd : PyData.depth (.list (b.map PyData.int)) ≤ 64 := by simp only [PyData.depth]; omega
  have hc : PyData.canLay0 (.list (b.map PyData.int)) = true := by simp only [PyData.canLay0]; exact lay_ints b
  unfold SeqAt.shaped
  rw [hc, decide_eq_true hd] <;> rfl
theorem eqv_ints_nil : ∀ b : List Int, PyData.eqv (.list (b.map PyData.int)) (.list []) = decide (b = [])
  | [] => rfl
  | y :: ys => by rw [decide_eq_false (by simp)]; rfl
theorem any_non : ∀ l : List Str, ((l.map intT).any fun y => eqvT y .non) = !(l.all goodW)
  | [] => rfl
  | w :: l => by
    rw [List.map_cons, List.any_cons, List.all_cons, any_non l]
    unfold intT
    cases h : goodW w <;> rfl
theorem flat_nums : ∀ l : List Str, (l.map intT).all flatT = true
  | [] => rfl
  | w :: l => by
    rw [List.map_cons, List.all_cons, flat_nums l]
    unfold intT
    cases h : goodW w <;> rfl
theorem bels_nums {n : Nat} (l : List Str) : Tr.bels n (l.map intT) = true := bels_all fun t ht => by
  obtain ⟨w, _, rfl⟩ := List.mem_map.mp ht
  unfold intT
  cases goodW w <;> rfl
theorem nums_good : ∀ {l : List Str}, l.all goodW = true → l.map intT = (l.map numV).map Tr.int
  | [], _ => rfl
  | w :: l, h => by
    rw [List.all_cons, Bool.and_eq_true] at h
    rw [List.map_cons, List.map_cons, List.map_cons, nums_good h.2]
    unfold intT
    rw [if_pos h.1]
theorem odds_mem : ∀ {ws : List Str} {w : Str}, w ∈ odds ws → w ∈ ws
  | _ :: b :: r, w, h => by
    rcases List.mem_cons.mp h with e | h
    · rw [e]; simp
    · exact List.mem_cons_of_mem _ (List.mem_cons_of_mem _ (odds_mem h))
  | [], _, h => by cases h
  | [_], _, h => by cases h
theorem fsInt_any {w : Str} {M : Mem} {Q : PF} {PX : PXF} (h : w.length ≤ 640 ∧ PyData.strOk w = true) (q : Q (intT w) M) : fsInt [.str w] M Q PX := by
  refine ⟨w, rfl, h.1, h.2, fun hb => ?_, fun hg => ?_⟩
  · unfold intT at q
    rw [if_neg (by rw [hb]; decide)] at q
    exact q
  · unfold intT at q
    rw [if_pos hg] at q
    exact q
theorem sAt_mem {ws : List Str} {k : Nat} (h : k < ws.length) : sAt ws k ∈ ws := by
  unfold sAt
  rw [List.getD_eq_getElem?_getD, List.getElem?_eq_getElem h]
  exact List.getElem_mem h
structure Ci (P : Program) (w : World) (K : PySem.W.Frag) (mg : Str → Option Value) (base : Heap) : Prop where
  _law_integer : Cal P w K mg base 1 "_law_integer" (spF K fsInt) []
  _law_is_valid : Cal P w K mg base 1 "_law_is_valid" (spF K fsValid) []
section
variable {P : Program} {w : World} {K : PySem.W.Frag} {mg : Str → Option Value} {base : Heap}
theorem scReadLine : FnScope ["_law_line_here", "_law_words", "_law_shapes", "_law_shape", "_law_fixed", "_law_k", "_law_numbers"] ["_law_line_here"] (fnScope sReadLine) := fnScope_by (by decide +kernel)
theorem ok_readLine {f : Addr} {fd : FuncData} (F : Def K mg "_law_read_line" sReadLine f fd) (b : Binds K fd ["_law_line_here"] []) (T : BQ mg) (C : Ci P w K mg base) : Cal P w K mg base 2 "_law_read_line" (spF K fsLR) [] := by
  refine cal0 F b .nil scReadLine (fun vs H Q E h => ?_) (fun cdv A outer s H vs Q E hr h => ?_)
  · obtain ⟨ts, ρ, M, P, PX, r, m, ⟨l, rfl, _⟩, o, ox⟩ := h
    exact r.len
  · refine ⟨_, (pss_cons (ps_set (i := 1) scReadLine.nd rfl (Or.inr rfl) (pe_split (pv 0) pe_str))
 (pss_cons (ps_set (i := 2) scReadLine.nd rfl (Or.inl rfl) (pe_lst (pa_cons (pe_lst (pa_cons pe_str (pa_cons pe_str (pa_cons pe_str (pa_cons pe_str pa_nil))))) (pa_cons (pe_lst (pa_cons pe_str (pa_cons pe_str (pa_cons pe_str (pa_cons pe_str (pa_cons pe_str (pa_cons pe_str pa_nil))))))) pa_nil))))
 (pss_cons (ps_expr (pe_bm PySem.F.plainAttrs_list PySem.F.slot_list_append PySem.F.type_list_append mt_append (pv 2) (pa_cons (pe_lst (pa_cons pe_str (pa_cons pe_str (pa_cons pe_str (pa_cons pe_str (pa_cons pe_str (pa_cons pe_str (pa_cons pe_str (pa_cons pe_str (pa_cons pe_str (pa_cons pe_str pa_nil))))))))))) pa_nil)))
 (pss_cons (ps_for PassesOwn.never rfl (pi_list (pv 2)) (pg_name (i := 3) scReadLine.nd rfl (Or.inr rfl)) (pss_one (ps_if (pt_cmpR op_eq (pe_callB call_len_seq (by rfl) T.len PySem.boot_len (pa_cons (pv 1) pa_nil)) (pe_callB call_len_seq (by rfl) T.len PySem.boot_len (pa_cons (pv 3) pa_nil)) (nomark _)) (pss_cons (ps_setLc (i := 4) (own := [("_law_k", 5)]) (g := gName 5) rfl scReadLine.nd rfl rfl (sw_true rfl rfl rfl rfl) (pi_range1 (by rfl) T.range (pa_cons (pe_callB call_len_seq (by rfl) T.len PySem.boot_len (pa_cons (pv 3) pa_nil)) pa_nil)) (blkOk_by (N := ["_law_line_here", "_law_words", "_law_shapes", "_law_shape", "_law_fixed", "_law_k", "_law_numbers"]) (sc := fnScope sReadLine) (by decide +kernel)) (fun _ _ _ _ _ => pg_name (i := 5) scReadLine.nd rfl (Or.inl rfl)) (fun _ _ _ _ _ => (pts_one (PW.pt (pw_and (pt_cmpR op_ne (pe_ix (ix_listK (K := K) rfl) (pv 3) (pv 5) (fun _ _ => rfl)) pe_str (nomark _)) (pw_and1 (pt_cmpR op_ne (pe_ix (ix_listK (K := K) rfl) (pv 3) (pv 5) (fun _ _ => rfl)) (pe_ix (ix_listK (K := K) rfl) (pv 1) (pv 5) (fun _ _ => rfl)) (nomark _))))))) (fun _ _ _ _ _ => (pv 5)))
 (pss_cons (ps_setLc (i := 6) (own := [("_law_k", 5)]) (g := gName 5) rfl scReadLine.nd rfl rfl (sw_true rfl rfl rfl rfl) (pi_range3 (by rfl) T.range (pa_cons pe_int (pa_cons (pe_callB call_len_seq (by rfl) T.len PySem.boot_len (pa_cons (pv 1) pa_nil)) (pa_cons pe_int pa_nil)))) (blkOk_by (N := ["_law_line_here", "_law_words", "_law_shapes", "_law_shape", "_law_fixed", "_law_k", "_law_numbers"]) (sc := fnScope sReadLine) (by decide +kernel)) (fun _ _ _ _ _ => pg_name (i := 5) scReadLine.nd rfl (Or.inl rfl)) (fun _ _ _ _ _ => (pts_one (pt_cmpR op_eq (pe_ix (ix_listK (K := K) rfl) (pv 3) (pv 5) (fun _ _ => rfl)) pe_str (nomark _)))) (fun _ _ _ _ _ => (pe_c C._law_integer hr (by first | decide | omega) (by rfl) (pa_cons (pe_ix (ix_listK (K := K) rfl) (pv 1) (pv 5) (fun _ _ => rfl)) pa_nil))))
 (pss_cons (ps_if (pt_cmpR op_eq (pe_callB call_len_seq (by rfl) T.len PySem.boot_len (pa_cons (pv 3) pa_nil)) pe_int (nomark _)) (pss_one (ps_set (i := 6) scReadLine.nd rfl (Or.inl rfl) (pe_lst (pa_cons (pe_c C._law_integer hr (by first | decide | omega) (by rfl) (pa_cons (pe_ix ix_list (pv 1) pe_int (fun _ _ => rfl)) pa_nil)) (pa_cons (pe_c C._law_integer hr (by first | decide | omega) (by rfl) (pa_cons (pe_ix ix_list (pv 1) pe_int (fun _ _ => rfl)) pa_nil)) pa_nil))))) pss_nil)
 (pss_one (ps_if (PW.pt (pw_and (pt_cmpR (op_eqD hr.units) (pv 4) (pe_lst pa_nil) (nomark _)) (pw_and1 (pt_cmpR op_notIn_seq pe_non (pv 6) (by rfl))))) (pss_one (ps_ret (pe_ifExp (pt_val (pe_c C._law_is_valid hr (by first | decide | omega) (by rfl) (pa_cons (pv 6) pa_nil))) (pv 6) (pe_lst pa_nil)))) pss_nil))))) pss_nil)))
 (pss_one (ps_ret pe_non)))))), ?_⟩
    obtain ⟨ts, ρ, M, P, PX, r, m, ⟨line, rfl, hf, q1, q2⟩, o, ox⟩ := h
    try simp only [nox_K, cx_K]
    refine run_in r m o (by walk_at "sim") ?_
    walk_at "fd"
    refine ⟨by decide +kernel, by have := hf.1; rw [sizeLine_eq]; omega, by rw [sizeLine_eq]; decide, by rw [sizeLine_eq]; decide, by rw [sizeLine_eq]; decide, by rw [sizeLine_eq]; decide, by rw [sizeLine_eq]; decide, ?_⟩
    obtain ⟨ws, hws⟩ : ∃ ws, ws = Txt.split line " " := ⟨_, rfl⟩
    obtain ⟨hf1, hf2⟩ := hf
    rw [← hws] at hf2 q1 q2 ⊢
    obtain ⟨M0, e0⟩ : ∃ M0, M0 = M ++ [O.lst (ws.map Tr.str), O.lst (shp0.map Tr.str), O.lst (shp1.map Tr.str), O.lst [Tr.ref (List.length M + 1), Tr.ref (List.length M + 2), Tr.ref (List.length M + 4)], O.lst (shp2.map Tr.str)] := ⟨_, rfl⟩
    have l0 : List.length M0 = List.length M + 5 := by rw [e0, List.length_append]; rfl
    have a0 : M0[List.length M]? = some (.lst (ws.map Tr.str)) := by rw [e0, at_00]; rfl
    have a1 : M0[List.length M + 1]? = some (.lst (shp0.map Tr.str)) := by rw [e0, at_kk]; rfl
    have a2 : M0[List.length M + 2]? = some (.lst (shp1.map Tr.str)) := by rw [e0, at_kk]; rfl
    have a3 : M0[List.length M + 3]? = some (.lst [Tr.ref (List.length M + 1), Tr.ref (List.length M + 2), Tr.ref (List.length M + 4)]) := by rw [e0, at_kk]; rfl
    have a4 : M0[List.length M + 4]? = some (.lst (shp2.map Tr.str)) := by rw [e0, at_kk]; rfl
    have b0 : belM (List.length M0) M0 = true := by
      rw [l0, e0]
      refine belM_ext (g := [_, _, _, _, _]) m.belM ?_
      simp only [belM, O.bel, bels_strs, Bool.and_true, Bool.true_and]
      simp [Tr.bels, Tr.bel]
    have kp : ∀ (g : Mem) (v : Tr), Tr.bel (List.length M) v = true → P v M → Keep (List.length M) P v (M0 ++ g) := fun g v h1 h2 => by
      rw [e0, List.append_assoc]
      exact keep_app m h1 h2
    show fFor _ _ _ _ _ (M ++ [O.lst (ws.map Tr.str), O.lst (shp0.map Tr.str), O.lst (shp1.map Tr.str), O.lst [Tr.ref (List.length M + 1), Tr.ref (List.length M + 2), Tr.ref (List.length M + 4)], O.lst (shp2.map Tr.str)])
    rw [← e0]
    unfold fFor
    refine ⟨_, rfl, _, lstAt_of a3, fun i L2 M2 => ∃ v3 v4 v5 v6, L2 = [some (Tr.str line), some (Tr.ref (List.length M)), some (Tr.ref (List.length M + 3)), v3, v4, v5, v6] ∧ M2 = M0 ∧ (0 < i → ws.length ≠ 4 ∨ rdRow numV ws = none) ∧ (1 < i → ws.length ≠ 6 ∨ rdRow numV ws = none) ∧ (2 < i → ws.length ≠ 10 ∨ rdRow numV ws = none), ?_, ?_, ?_, ?_⟩
    · exact ⟨none, none, none, none, rfl, rfl, fun h => absurd h (by omega), fun h => absurd h (by omega), fun h => absurd h (by omega)⟩
    · rintro i L2 M2 hi ⟨v3, v4, v5, v6, rfl, rfl, _⟩
      exact lstAt_of a3
    · rintro i t L2 M2 ht ⟨v3, v4, v5, v6, rfl, rfl, n1, n2, n3⟩
      obtain ⟨s, js, rfl, hs, hok, nxt⟩ : ∃ (s : List Str) (js : Nat), t = .ref js ∧ M2[js]? = some (.lst (s.map Tr.str)) ∧ ShapeOk s ∧ ((ws.length ≠ s.length ∨ rdRow numV ws = none) → (0 < i + 1 → ws.length ≠ 4 ∨ rdRow numV ws = none) ∧ (1 < i + 1 → ws.length ≠ 6 ∨ rdRow numV ws = none) ∧ (2 < i + 1 → ws.length ≠ 10 ∨ rdRow numV ws = none)) := by
        match i, ht with
        | 0, ht => cases ht; exact ⟨shp0, _, rfl, a1, shape0, fun h => ⟨fun _ => h, fun z => absurd z (by omega), fun z => absurd z (by omega)⟩⟩
        | 1, ht => cases ht; exact ⟨shp1, _, rfl, a2, shape1, fun h => ⟨fun _ => n1 (by omega), fun _ => h, fun z => absurd z (by omega)⟩⟩
        | 2, ht => cases ht; exact ⟨shp2, _, rfl, a4, shape2, fun h => ⟨fun _ => n1 (by omega), fun _ => n2 (by omega), fun _ => h⟩⟩
        | i + 3, ht => simp at ht
      have back : ∀ (v4 v5 v6 : Option Tr) (g : Mem), (ws.length ≠ s.length ∨ rdRow numV ws = none) → Forget (List.length M2) (fun L2 M3 => ∃ v3 v4 v5 v6, L2 = [some (Tr.str line), some (Tr.ref (List.length M)), some (Tr.ref (List.length M + 3)), v3, v4, v5, v6] ∧ M3 = M2 ∧ (0 < i + 1 → ws.length ≠ 4 ∨ rdRow numV ws = none) ∧ (1 < i + 1 → ws.length ≠ 6 ∨ rdRow numV ws = none) ∧ (2 < i + 1 → ws.length ≠ 10 ∨ rdRow numV ws = none)) [some (Tr.str line), some (Tr.ref (List.length M)), some (Tr.ref (List.length M + 3)), some (Tr.ref js), v4, v5, v6] (M2 ++ g) := fun v4 v5 v6 g h => by
        refine forget_base (L' := [some (Tr.str line), some (Tr.ref (List.length M)), some (Tr.ref (List.length M + 3)), none, none, none, none]) (Nat.le_refl _) ⟨_, rfl, _, rfl, _, rfl, _, _, rfl, _, _, rfl, _, _, rfl, _, _, rfl, rfl⟩ ⟨none, none, none, none, rfl, rfl, nxt h⟩ ?_ b0
        simp only [belL, Tr.bel, Bool.and_true, Bool.and_eq_true, decide_eq_true_eq, true_and, l0]
        omega
      have hwl : ∀ w ∈ odds ws, w.length ≤ 640 ∧ PyData.strOk w = true := fun w hw => hf2 w (odds_mem hw)
      have fin : ∀ (g : Mem) (kn : Nat), ntab g = true → belM (List.length (M2 ++ g)) (M2 ++ g) = true → (M2 ++ g)[kn]? = some (.lst ((odds ws).map intT)) → okS s ws → (odds ws).all goodW = true → ws.length = s.length →
          fsValid [.ref kn] (M2 ++ g) (fun x M1 => ∃ k, x = .bl k ∧ if k = true then Keep (List.length M) P (.ref kn) M1 else Keep (List.length M) P (.ref (List.length M1)) (M1 ++ [O.lst []])) noX := fun g kn hnt hbl hat hS hG hlen => by
        rcases hok.rd ws hlen with ⟨_, z⟩ | ⟨r, hr1, _, _, hr2⟩
        · exact absurd ⟨hS, hG⟩ z
        · have hat2 : (M2 ++ g)[kn]? = some (.lst (r.ns.map Tr.int)) := by rw [hat, hr2, nums_good hG]
          refine ⟨kn, r, rfl, hat2, fun i hi => ?_, decide r.ok, rfl, ?_⟩
          · rw [hr2] at hi
            obtain ⟨w, hw, rfl⟩ := List.mem_map.mp hi
            exact numV_small (List.all_eq_true.mp hG w hw) (hwl w hw).1
          · obtain ⟨q3, q4⟩ := q2 r hr1
            have eM : ∀ g : Mem, M2 ++ g = M ++ ([O.lst (ws.map Tr.str), O.lst (shp0.map Tr.str), O.lst (shp1.map Tr.str), O.lst [Tr.ref (List.length M + 1), Tr.ref (List.length M + 2), Tr.ref (List.length M + 4)], O.lst (shp2.map Tr.str)] ++ g) := fun g => by rw [e0, List.append_assoc]
            have hkl : kn < List.length (M2 ++ g) := (List.getElem?_eq_some_iff.mp hat).1
            have hml : ∀ g : Mem, List.length M ≤ List.length (M2 ++ g) := fun g => by rw [List.length_append, l0]; omega
            by_cases hk : r.ok
            · rw [if_pos (decide_eq_true hk)]
              have := q3 hk ([O.lst (ws.map Tr.str), O.lst (shp0.map Tr.str), O.lst (shp1.map Tr.str), O.lst [Tr.ref (List.length M + 1), Tr.ref (List.length M + 2), Tr.ref (List.length M + 4)], O.lst (shp2.map Tr.str)] ++ g) kn (by rw [ntab_app, hnt]; rfl) (by rw [← eM]; exact hbl) (by rw [← eM]; exact hat2)
              rw [← eM] at this
              exact keep_whole (hml g) (decide_eq_true hkl) hbl this
            · rw [if_neg (fun z => hk (of_decide_eq_true z))]
              have hbl2 : belM (List.length (M2 ++ (g ++ [O.lst []]))) (M2 ++ (g ++ [O.lst []])) = true := by
                rw [← List.append_assoc, List.length_append (as := M2 ++ g), belM_app, belM_mono (Nat.le_add_right _ _) hbl]
                rfl
              have := q4 hk ([O.lst (ws.map Tr.str), O.lst (shp0.map Tr.str), O.lst (shp1.map Tr.str), O.lst [Tr.ref (List.length M + 1), Tr.ref (List.length M + 2), Tr.ref (List.length M + 4)], O.lst (shp2.map Tr.str)] ++ (g ++ [O.lst []])) (List.length (M2 ++ g)) (by rw [ntab_app, ntab_app, hnt]; rfl) (by rw [← eM]; exact hbl2) (by rw [← eM, ← List.append_assoc, at_snoc])
              rw [← eM] at this
              rw [List.append_assoc]
              exact keep_whole (hml _) (by simp only [Tr.bel, decide_eq_true_eq, List.length_append, List.length_cons, List.length_nil]; omega) hbl2 this
      walk_at "fd"
      refine ⟨_, by rw [a0]; rfl, _, by rw [hs]; rfl, ?_⟩
      rw [List.length_map, List.length_map]
      by_cases hlen : ws.length = s.length
      rotate_left
      · rw [if_neg hlen]
        have := back v4 v5 v6 [] (.inl hlen)
        rw [List.append_nil] at this
        exact this
      rw [if_pos hlen]
      refine lc_R (k := s.length) (fixT s ws) (fun R hR => ?_) b0 (by have := hok.le; rw [sizeLine_eq]; omega) (fun x hx y hy => ?_) (fun x hx => ?_) ?_
      · walk_at "fd"
        refine ⟨_, by rw [hs]; rfl, ?_, ?_, ?_⟩
        · omega
        · rw [List.length_map]
          have := hok.le
          omega
        · rw [List.length_map, Int.toNat_natCast]
          exact hR
      · cases x with
        | int k =>
          unfold fixT at hy
          dsimp only at hy
          split at hy <;> cases hy
          rfl
        | _ => cases hy
      · obtain ⟨k, hk⟩ := List.mem_iff_getElem?.mp hx
        obtain ⟨hk1, rfl⟩ := rngT_get hk
        rw [Int.zero_add]
        intro R N hR hN
        walk_at "fd"
        have hkw : k < ws.length := by omega
        have eF : fixT s ws (Tr.int (k : Int)) = if fixB s ws k = true then some (.int (k : Int)) else none := rfl
        rw [eF] at hR hN
        refine ⟨_, rfl, _, rfl, _, lstAt_of hs, _, rfl, _, sAt_get hk1, _, rfl, ?_⟩
        by_cases hz : sAt s k = ""
        · have hB : ¬ fixB s ws k = true := fun z => by
            unfold fixB at z
            rw [Bool.and_eq_true] at z
            exact of_decide_eq_true z.1 hz
          rw [if_neg hB] at hN
          rw [if_neg (by rw [decide_eq_true hz]; decide)]
          exact (hN rfl).1
        · rw [if_pos (decide_eq_false hz)]
          refine ⟨_, rfl, _, rfl, _, lstAt_of hs, _, rfl, _, sAt_get hk1, _, rfl, _, rfl, _, lstAt_of a0, _, rfl, _, sAt_get hkw, _, rfl, ?_⟩
          by_cases hz2 : sAt s k = sAt ws k
          · have hB : ¬ fixB s ws k = true := fun z => by
              unfold fixB at z
              rw [Bool.and_eq_true] at z
              exact of_decide_eq_true z.2 hz2
            rw [if_neg hB] at hN
            rw [if_neg (by rw [decide_eq_true hz2]; decide)]
            exact (hN rfl).1
          · have hB : fixB s ws k = true := by
              unfold fixB
              rw [decide_eq_true hz, decide_eq_true hz2]
              rfl
            rw [if_pos hB] at hR
            rw [if_pos (decide_eq_false hz2)]
            exact ⟨_, rfl, (hR _ rfl).1⟩
      · rw [fix_eq]
        have b1 : belM (List.length (M2 ++ [O.lst ((fixI s ws).map Tr.int)])) (M2 ++ [O.lst ((fixI s ws).map Tr.int)]) = true := by
          rw [List.length_append, belM_app, belM_mono (Nat.le_add_right _ _) b0]
          simp only [belM, O.bel, bels_ints, Bool.and_true]
        refine lc_G (ts := stpT 1 2 (s.length / 2)) (numT ws) (fun R hR => ?_) b1 (by rw [stpT_len, sizeLine_eq]; have := hok.le; omega) (fun x hx y hy => ?_) (fun x hx => ?_) ?_
        · unfold fIR3
          walk_at "fd"
          exact ⟨_, by rw [at_l a0]; rfl, s.length / 2, by rw [List.length_map, hlen]; exact hok.rg, hR⟩
        · cases x with
          | int k =>
            cases hy
            unfold intT
            split <;> rfl
          | _ => cases hy
        · obtain ⟨k, hk⟩ := List.mem_iff_getElem?.mp hx
          obtain ⟨hk1, rfl⟩ := stpT_get hk
          intro R N hR hN
          walk_at "fd"
          have ek : 1 + (k : Int) * 2 = ((1 + k * 2 : Nat) : Int) := by omega
          have hk2 : 1 + k * 2 < s.length := by have := hok.hl; omega
          have hR' : R (intT (sAt ws (1 + k * 2))) (M2 ++ [O.lst (List.map Tr.int (fixI s ws))]) := by
            have := (hR (intT (sAt ws (1 + (k : Int) * 2).toNat)) rfl).1
            rw [ek, Int.toNat_natCast] at this
            exact this
          refine ⟨_, rfl, _, rfl, _, lstAt_of (at_l hs), _, rfl, _, (by rw [ek]; exact sAt_get hk2), _, rfl, ?_⟩
          rw [if_pos (decide_eq_true (hok.bl k hk1))]
          exact ⟨_, rfl, _, rfl, _, lstAt_of (at_l a0), _, rfl, _, (by rw [ek]; exact sAt_get (by omega)), fsInt_any (hf2 _ (sAt_mem (by omega))) hR'⟩
        · rw [hok.nm ws hlen, List.append_assoc]
          refine ⟨_, by rw [at_l hs]; rfl, ?_⟩
          rw [List.length_map]
          have e4 : ∀ g : Mem, (M2 ++ (([O.lst ((fixI s ws).map Tr.int)] : Mem) ++ g))[List.length M2]? = some (O.lst ((fixI s ws).map Tr.int)) := fun g => at_0
          have hbad : ¬ (okS s ws ∧ (odds ws).all goodW = true) → rdRow numV ws = none := fun h => by
            rcases hok.rd ws hlen with ⟨z, _⟩ | ⟨r, _, z1, z2, _⟩
            · exact z
            · exact absurd ⟨z1, z2⟩ h
          by_cases h4 : (s.length : Int) = 4
          · rw [if_pos h4]
            have h4n : ws.length = 4 := by omega
            have eo : (odds ws).map intT = [intT (sAt ws 1), intT (sAt ws 3)] := by
              match ws, h4n with
              | [_, _, _, _], _ => rfl
            refine ⟨_, by rw [at_l a0]; rfl, _, sAt_get (k := 1) (by omega), fsInt_any (hf2 _ (sAt_mem (by omega))) ?_⟩
            refine ⟨_, by rw [at_l a0]; rfl, _, sAt_get (k := 3) (by omega), fsInt_any (hf2 _ (sAt_mem (by omega))) ?_⟩
            rw [← eo]
            have ln : List.length (M2 ++ (([O.lst (List.map Tr.int (fixI s ws))] : Mem) ++ [O.lst (List.map intT (odds ws))])) = List.length M2 + 2 := by rw [List.length_append]; rfl
            have hbG : belM (List.length (M2 ++ (([O.lst (List.map Tr.int (fixI s ws))] : Mem) ++ [O.lst (List.map intT (odds ws))] ++ [O.lst (List.map intT (odds ws)), O.lst []]))) (M2 ++ (([O.lst (List.map Tr.int (fixI s ws))] : Mem) ++ [O.lst (List.map intT (odds ws))] ++ [O.lst (List.map intT (odds ws)), O.lst []])) = true := by
              rw [List.length_append, belM_app, belM_mono (Nat.le_add_right _ _) b0]
              simp only [List.cons_append, List.nil_append, belM, O.bel, bels_ints, bels_nums, Bool.and_true, Bool.true_and]
              rfl
            rw [ln, List.append_assoc]
            refine ⟨by rw [sizeLine_eq]; decide, .list ((fixI s ws).map PyData.int), .lst (lstAt_of (e4 _)) (da_ints _), .list [], .lst (lstAt_of (by rw [Nat.add_assoc, at_kk]; rfl)) .nil, shaped_ints _, by decide +kernel, ?_⟩
            rw [eqv_ints_nil]
            by_cases hz : fixI s ws = []
            · rw [if_pos (decide_eq_true hz)]
              refine ⟨rfl, flat_nums _, ?_⟩
              rw [any_non]
              by_cases hG : (odds ws).all goodW = true
              · rw [if_pos (by rw [hG]; rfl)]
                exact fin _ _ (by rfl) hbG (by rw [at_kk]; rfl) ((fix_nil s ws).mp hz) hG hlen
              · rw [if_neg (by rw [Bool.eq_false_iff.mpr hG]; decide)]
                exact back _ _ _ _ (.inr (hbad (fun z => hG z.2)))
            · rw [if_neg (fun z => hz (of_decide_eq_true z))]
              exact back _ _ _ _ (.inr (hbad (fun z => hz ((fix_nil s ws).mpr z.1))))
          · rw [if_neg h4]
            have ln : List.length (M2 ++ (([O.lst (List.map Tr.int (fixI s ws))] : Mem) ++ [O.lst (List.map intT (odds ws))])) = List.length M2 + 2 := by rw [List.length_append]; rfl
            have hbG : belM (List.length (M2 ++ (([O.lst (List.map Tr.int (fixI s ws))] : Mem) ++ [O.lst (List.map intT (odds ws))] ++ [O.lst []]))) (M2 ++ (([O.lst (List.map Tr.int (fixI s ws))] : Mem) ++ [O.lst (List.map intT (odds ws))] ++ [O.lst []])) = true := by
              rw [List.length_append, belM_app, belM_mono (Nat.le_add_right _ _) b0]
              simp only [List.cons_append, List.nil_append, belM, O.bel, bels_ints, bels_nums, Bool.and_true, Bool.true_and]
              rfl
            have ln1 : List.length (M2 ++ [O.lst (List.map Tr.int (fixI s ws))]) = List.length M2 + 1 := by rw [List.length_append]; rfl
            rw [ln, ln1, List.append_assoc]
            refine ⟨.list ((fixI s ws).map PyData.int), .lst (lstAt_of (e4 _)) (da_ints _), .list [], .lst (lstAt_of (by rw [at_kk]; rfl)) .nil, shaped_ints _, by decide +kernel, ?_⟩
            rw [eqv_ints_nil]
            by_cases hz : fixI s ws = []
            · rw [if_pos (decide_eq_true hz)]
              refine ⟨_, seqAt_of (by rw [at_kk]; rfl), rfl, flat_nums _, ?_⟩
              rw [any_non]
              by_cases hG : (odds ws).all goodW = true
              · rw [if_pos (by rw [hG]; rfl)]
                exact fin _ _ (by rfl) hbG (by rw [at_kk]; rfl) ((fix_nil s ws).mp hz) hG hlen
              · rw [if_neg (by rw [Bool.eq_false_iff.mpr hG]; decide)]
                exact back _ _ _ _ (.inr (hbad (fun z => hG z.2)))
            · rw [if_neg (fun z => hz (of_decide_eq_true z))]
              exact back _ _ _ _ (.inr (hbad (fun z => hz ((fix_nil s ws).mpr z.1))))
    · rintro L2 M2 ⟨v3, v4, v5, v6, rfl, rfl, n1, n2, n3⟩
      have hn : rdRow numV ws = none := by
        have n1 := n1 (by show 0 < 3; decide)
        have n2 := n2 (by show 1 < 3; decide)
        have n3 := n3 (by show 2 < 3; decide)
        rcases n1 with n1 | n1
        · rcases n2 with n2 | n2
          · rcases n3 with n3 | n3
            · exact rd_lens n1 n2 n3
            · exact n3
          · exact n2
        · exact n1
      have := kp [] .non rfl (q1 hn)
      rw [List.append_nil] at this
      exact this
end
end T1

set_option Elab.async false
set_option linter.all false
set_option maxRecDepth 100000
set_option maxHeartbeats 4000000
namespace T1
open PySem PySem.Spec PyProof.Rows L2 C8 Fm T2
local macro_rules | `(tactic| walk_at "sim1") => `(tactic| with_reducible first
  | exact sim_nil | exact sim_var | exact sim_int | exact sim_str | exact sim_bl | exact sim_non | exact sim_raw
  | apply sim_cons | apply sim_op | apply sim_un | apply sim_tup | apply sim_lst
  | apply sim_CB | apply sim_if | apply sim_test | apply sim_B | apply sim_not | apply sim_and | apply sim_or
  | apply sim_andV | apply sim_orV | apply sim_notV | apply sim_chain | exact sim_nopart | apply sim_part
  | apply sim_sl | apply sim_BML | apply sim_BMS | apply sim_BM0S | apply sim_M1 | apply sim_M0
  | apply sim_fmt | apply sim_joined | exact SimJ.nil | apply SimJ.cons
  | exact s_I0i | exact s_I0b | exact s_Ii | exact s_Ui | exact s_eq | exact s_ne | exact s_isN | exact s_notN | exact s_ixL | exact s_ixT | exact s_ixS
  | exact s_cat | exact s_catA | exact s_rep | exact s_repT | exact s_in | exact s_slL | exact s_slA | exact s_slS | exact s_addS | exact s_leS | exact s_ltS
  | exact c_len | exact c_lenS | exact c_list | exact c_tuple | exact c_int1 | exact c_intS | exact c_strI | exact c_max2 | exact c_min2
  | exact m_append | exact m_extend | exact m_split | exact m_join | exact m_0b | exact m_1b
  | apply sim_call | exact simSpF
  | exact sim_name | exact sim_gnil | apply sim_gcons | apply sim_gtup | apply sim_gsub | exact set_list
  | exact sim_next | apply sim_seq | apply sim_cut | exact sim_break | exact sim_cont | apply sim_drop | apply sim_ret | exact sim_retN
  | apply sim_ifS | exact sim_never | apply sim_asg | apply sim_par | apply sim_aug
  | apply sim_for | apply sim_while | apply i_list | apply i_tup | apply i_rng1 | apply i_rng2 | apply i_str | apply i_enum | apply i_zip
  | apply sim_lc | exact sim_yes | exact sim_namew (by decide) | exact sim_gnilw | apply sim_gconsw | apply sim_gtupw
  | apply sim_fld | apply sim_con | apply sim_setFld | apply sim_make | apply sim_prop | apply sim_meth | apply sim_cmeth | exact c_isi | apply sim_isiT | exact s_eqD | exact s_neD
  | walk_at "sim2")
local macro_rules | `(tactic| walk_at "sim2") => `(tactic| fail)
local macro_rules | `(tactic| walk_at "sim") => `(tactic| repeat' (walk_at "sim1"))
/-- open the trees' reading as far as it goes by itself -/
local macro_rules | `(tactic| walk_at "fm") => `(tactic| simp (config := { failIfUnchanged := false }) only [fVar, fC, fOp, fUn, fNil, fCons, fTup, fLst, fCB, fIf, fTest, fNot, fAnd, fOr, fAndV, fOrV, fNotV, fChain, fNoPart, fPart, fI, fI0, fU, fEq, fNe, fIsN, fNotN, fIxL, fIxT, fIxS,
  fCat, fCatA, fRep, fRepT, fSlL, fSlA, fSlS, fSl, fLen, fLenS, fList, fTuple, fIntS, fStrI, fMax2, fMin2, fAppend, fExtend, fIn, fBM, fMS, fBMS, fBM0S, fAddS, fLeS, fLtS, fM0b, fM1b, fSplit, fJoin, fJoined, fJs,
  fName, fGNil, fGCons, fGTup, fSetL, fGSub, fNext, fSeq, fCut, fBreak, fCont, fDrop, fRet, fRetN, fIfS, fAsg, fPar, fAug, fCall, fFld, fCon, fSetFld, fMake, fProp, fMeth, fCMeth, fIsi, fIsiT, fEqD, fNeD, insAt_ref, insO_ins, fFmt, fmtS_i, fmtS_s, fmtOk_i, fmtOk_s, fIL, fIT, fIR1, fIR2, fIS, fIEn, fIZ,
  startL, List.map_cons, List.map_nil, List.length_cons, List.length_nil, List.cons_append, List.nil_append, List.replicate, List.getElem?_cons_zero, List.getElem?_cons_succ, List.set_cons_zero, List.set_cons_succ, Nat.reduceSub, Nat.reduceAdd,
  Option.some.injEq, Tr.int.injEq, Tr.str.injEq, Tr.bl.injEq, Tr.tup.injEq, Tr.ref.injEq, List.cons.injEq, exists_eq_left, exists_eq_left', exists_eq_right, true_and, and_true, and_self, exists_and_left, tupOf_tup, eqS_ii, eqS_ss, eqS_bb, eqS_ni, eqS_in, eqS_nn, isStr_s, isN_n, isN_i, isN_b, isN_s, isN_t, isN_r, noRaw_n, noRaw_i, noRaw_b, noRaw_s, noRaw_t, noRaw_r, and_assoc, reduceIte, Bool.false_eq_true, exists_const, lstAt_ref, seqAt_ref, seqAt_tup, refAt_ref, lstO_lst, app_assoc2, len_app1, at_kk, at_00, set_k, set_00, Nat.add_assoc, Option.map_some, Prod.mk.injEq, int_cast_inj, Nat.zero_le, decide_eq_true_eq, Bool.not_eq_true', decide_eq_false_iff_not, Nat.add_zero, implies_true, forall_const, ite_true, ite_false, if_true, if_false, decide_true, decide_false, Bool.not_true, Bool.not_false, asg_len, Option.isSome_some])
local macro_rules | `(tactic| walk_at "bel") => `(tactic| first | rfl | (simp (config := { failIfUnchanged := false }) only [belM, O.bel, bels_strs, bels_ints, belL, Tr.bel, Tr.bels, Bool.and_true, Bool.true_and, Bool.and_self, decide_eq_true_eq, Bool.and_eq_true, true_and, and_true, List.length_cons, List.length_nil, Nat.reduceAdd]; try omega))

local macro_rules | `(tactic| walk_at "sim2") => `(tactic| first | exact simDrawn | assumption | apply sim_match | apply SimM2.cons | exact SimM2.nil | apply i_enumT | apply sim_truS | apply sim_listG | apply sim_lcG | apply sim_eitherG | apply sim_methG | apply sim_methJ | apply sim_either | apply sim_sortKey | apply sim_sortSet | apply sim_raiseX)
local macro_rules | `(tactic| walk_at "sim1") => `(tactic| first | (with_reducible apply sim_callX; assumption) | (with_reducible apply sim_methX; assumption) | (with_reducible apply sim_makeX; assumption) | (with_reducible apply sim_makeKX; assumption) | (with_reducible apply sim_makeVSX; assumption) | (with_reducible apply sim_conA) | (with_reducible apply sim_sortSet))
local macro_rules | `(tactic| walk_at "fm2") => `(tactic| simp (config := { failIfUnchanged := false }) only [sm_app, sm_len, sm_at, sm_at0, sm_set, sm_set0, List.getElem?_cons_zero, List.getElem?_cons_succ, List.set_cons_zero, List.set_cons_succ, lstO_lst, Option.isSome_some, Option.map_some, Option.some.injEq, Prod.mk.injEq, Nat.add_assoc, Nat.reduceAdd, exists_eq_left', exists_eq_left, true_and, and_assoc, fRaiseX, fCVal, fNv, int1_i, fEither, fTruS, fIEnT, fMatch, fGoM, setAllT, fMakeK, fMakeVS, fMethJ, fEitherG, fListG, fSortKey, fSortSet, fConA])
local macro_rules | `(tactic| walk_at "fd") => `(tactic| (walk_at "fm"; walk_at "fm2"; walk_at "fm"; walk_at "fm2"; walk_at "fm"))

/-! ### the law's own order -/
theorem flat_mem {all : List Tr} {out : List Int} {t : Tr} : t ∈ out.flatMap (fun c => all.filter fun p => keyT p == c) ↔ t ∈ all ∧ keyT t ∈ out := by
  rw [List.mem_flatMap]
  constructor
  · rintro ⟨c, hc, ht⟩
    obtain ⟨h1, h2⟩ := List.mem_filter.mp ht
    have : keyT t = c := by simpa using h2
    exact ⟨h1, by rw [this]; exact hc⟩
  · rintro ⟨h1, h2⟩
    exact ⟨keyT t, h2, List.mem_filter.mpr ⟨h1, by simp⟩⟩
theorem flat_pw {all : List Tr} : ∀ {out : List Int}, out.Pairwise (· < ·) → (out.flatMap (fun c => all.filter fun p => keyT p == c)).Pairwise (fun p q => keyT p ≤ keyT q)
  | [], _ => List.Pairwise.nil
  | c :: out, h => by
    rw [List.pairwise_cons] at h
    rw [List.flatMap_cons, List.pairwise_append]
    refine ⟨?_, flat_pw h.2, fun a ha b hb => ?_⟩
    · refine List.Pairwise.imp_of_mem (R := fun _ _ => True) (fun {a b} ha hb _ => ?_) (List.pairwise_of_forall (fun _ _ => trivial))
      have h1 := (List.mem_filter.mp ha).2
      have h2 := (List.mem_filter.mp hb).2
      have h1 : keyT a = c := by simpa using h1
      have h2 : keyT b = c := by simpa using h2
      omega
    · have h1 := (List.mem_filter.mp ha).2
      have h1 : keyT a = c := by simpa using h1
      have h2 := h.1 _ (flat_mem.mp hb).2
      omega
theorem flat_fl {all : List Tr} {c : Int} : ∀ {out : List Int}, out.Pairwise (· < ·) → (out.flatMap (fun c => all.filter fun p => keyT p == c)).filter (fun p => keyT p == c) = if c ∈ out then all.filter (fun p => keyT p == c) else []
  | [], _ => rfl
  | d :: out, h => by
    rw [List.pairwise_cons] at h
    rw [List.flatMap_cons, List.filter_append, flat_fl h.2, List.filter_filter]
    by_cases hd : c = d
    · subst hd
      have hn : c ∉ out := fun z => by have := h.1 _ z; omega
      rw [if_neg hn, if_pos List.mem_cons_self, List.append_nil]
      congr 1
      funext p
      simp
    · have e : all.filter (fun p => (keyT p == c) && (keyT p == d)) = [] := by
        rw [List.filter_eq_nil_iff]
        intro a _ z
        simp at z
        omega
      rw [e, List.nil_append]
      by_cases hc : c ∈ out
      · rw [if_pos hc, if_pos (List.mem_cons_of_mem _ hc)]
      · rw [if_neg hc, if_neg (by simp [hd, hc])]
theorem flat_stab {all : List Tr} {out : List Int} (h : out.Pairwise (· < ·)) (hm : ∀ k, k ∈ out ↔ k ∈ all.map keyT) : out.flatMap (fun c => all.filter fun p => keyT p == c) = stab keyT all :=
  sorted_eq keyT (flat_pw h) (stab_pw keyT) fun c => by
    rw [flat_fl h, stab_fl]
    by_cases hc : c ∈ out
    · rw [if_pos hc]
    · rw [if_neg hc]
      symm
      rw [List.filter_eq_nil_iff]
      intro a ha z
      have z : keyT a = c := by simpa using z
      exact hc ((hm c).mpr (by rw [← z]; exact List.mem_map_of_mem ha))
theorem atI_1 {u x : Tr} {r : List Tr} : atI (u :: x :: r) 1 = some x := by
  unfold atI L2.ixN
  rw [if_pos (by decide), if_pos (by simp only [List.length_cons]; omega)]
  rfl
theorem filterMap_if {c : Int} : ∀ l : List Tr, l.filterMap (fun t => if keyT t == c then some t else none) = l.filter fun p => keyT p == c
  | [] => rfl
  | t :: l => by
    rw [List.filterMap_cons, List.filter_cons]
    cases h : (keyT t == c)
    · simp only [Bool.false_eq_true, if_false]
      exact filterMap_if l
    · simp only [if_true]
      rw [filterMap_if l]
/-- lists of rows' numbers -/
def RowsAt (M : Mem) (ks : List Nat) (rs : List Row) : Prop := ks.length = rs.length ∧ ∀ (i k : Nat) (r : Row), ks[i]? = some k → rs[i]? = some r → M[k]? = some (.lst (r.ns.map Tr.int)) ∧ r.ok
theorem rowsAt_app {M g : Mem} {ks : List Nat} {rs : List Row} (h : RowsAt M ks rs) : RowsAt (M ++ g) ks rs := ⟨h.1, fun i n r h1 h2 => ⟨at_l (h.2 i n r h1 h2).1, (h.2 i n r h1 h2).2⟩⟩
def fsSorted : FSp := fun ts M P _ => ∃ (l : Nat) (ks : List Nat) (rs : List Row), ts = [.ref l] ∧ M[l]? = some (.lst (ks.map Tr.ref)) ∧ RowsAt M ks rs ∧ rs.length ≤ 1000 ∧ (allCh rs).length ≤ 60 ∧ ResL M P (stab keyT (allCh rs))
structure Ch (P : Program) (w : World) (K : PySem.W.Frag) (mg : Str → Option Value) (base : Heap) : Prop where
  _law_changes : Cal P w K mg base 1 "_law_changes" (spF K fsLawCh) []
section
variable {P : Program} {w : World} {K : PySem.W.Frag} {mg : Str → Option Value} {base : Heap}
theorem scSorted : FnScope ["_law_rows", "_law_changes_here", "_law_numbers", "_law_result", "_law_position", "_law_change"] ["_law_rows"] (fnScope sSorted) := fnScope_by (by decide +kernel)
theorem ok_sorted {f : Addr} {fd : FuncData} (F : Def K mg "_law_sorted" sSorted f fd) (b : Binds K fd ["_law_rows"] []) (T : BQ mg) (C : Ch P w K mg base) : Cal P w K mg base 2 "_law_sorted" (spF K fsSorted) [] := by
  refine cal0 F b .nil scSorted (fun vs H Q E h => ?_) (fun cdv A outer s H vs Q E hr h => ?_)
  · obtain ⟨ts, ρ, M, P, PX, r, m, ⟨l, ks, rs, rfl, _⟩, o, ox⟩ := h
    exact r.len
  · refine ⟨_, (pss_cons (ps_set (i := 1) scSorted.nd rfl (Or.inl rfl) (pe_lst pa_nil))
 (pss_cons (ps_for PassesOwn.never rfl (pi_list (pv 0)) (pg_name (i := 2) scSorted.nd rfl (Or.inl rfl)) (pss_one (ps_set (i := 1) scSorted.nd rfl (Or.inl rfl) (pe_op op_cat (pv 1) (pe_c C._law_changes hr (by first | decide | omega) (by rfl) (pa_cons (pv 2) pa_nil))))))
 (pss_cons (ps_set (i := 3) scSorted.nd rfl (Or.inl rfl) (pe_lst pa_nil))
 (pss_cons (ps_for PassesOwn.never rfl (pi_list (pe_callB (cr_sortedSet rfl) (by rfl) T.sorted (by decide +kernel) (pa_cons (pe_callTy (SEx.cr_setL rfl) (by rfl) T.set PyProof.Rows.boot_set (pa_cons (pe_lc (own := [("_law_change", 5)]) (g := gName 5) rfl scSorted.nd (pi_list (pv 1)) (blkOk_by (N := ["_law_rows", "_law_changes_here", "_law_numbers", "_law_result", "_law_position", "_law_change"]) (sc := fnScope sSorted) (by decide +kernel)) (fun _ _ _ _ _ => pg_name (i := 5) scSorted.nd rfl (Or.inl rfl)) (fun _ _ _ _ _ => pts_nil) (fun _ _ _ _ _ => (pe_ix (ix_tupK (K := K) rfl) (pv 5) pe_int (fun _ _ => rfl)))) pa_nil) (by decide) (by decide)) pa_nil) (by decide) (by decide))) (pg_name (i := 4) scSorted.nd rfl (Or.inr rfl)) (pss_one (ps_set (i := 3) scSorted.nd rfl (Or.inl rfl) (pe_op op_cat (pv 3) (pe_lc (own := [("_law_change", 5)]) (g := gName 5) rfl scSorted.nd (pi_list (pv 1)) (blkOk_by (N := ["_law_rows", "_law_changes_here", "_law_numbers", "_law_result", "_law_position", "_law_change"]) (sc := fnScope sSorted) (by decide +kernel)) (fun _ _ _ _ _ => pg_name (i := 5) scSorted.nd rfl (Or.inl rfl)) (fun _ _ _ _ _ => (pts_one (pt_cmpR op_eq (pe_ix (ix_tupK (K := K) rfl) (pv 5) pe_int (fun _ _ => rfl)) (pv 4) (nomark _)))) (fun _ _ _ _ _ => (pv 5)))))))
 (pss_one (ps_ret (pv 3))))))), ?_⟩
    obtain ⟨ts, ρ, M, P, PX, r, m, ⟨l, ks, rs, rfl, hl, hR, hn, h60, q⟩, o, ox⟩ := h
    try simp only [nox_K, cx_K]
    refine run_in r m o (by walk_at "sim") ?_
    walk_at "fd"
    unfold fFor
    refine ⟨_, rfl, ks.map Tr.ref, lstAt_of (at_l hl), fun i L2 M2 => ∃ (h : Mem) (k : Nat) (v2 : Option Tr), L2 = [some (.ref l), some (.ref k), v2, none, none, none] ∧ M2 = M ++ h ∧ ntab h = true ∧ belM (List.length M2) M2 = true ∧ M2[k]? = some (.lst (allCh (rs.take i))), ?_, ?_, ?_, ?_⟩
    · refine ⟨[O.lst []], List.length M, none, rfl, rfl, rfl, ?_, at_snoc⟩
      rw [List.length_append]
      exact belM_ext m.belM rfl
    · rintro i L2 M2 hi ⟨h, k, v2, rfl, rfl, hnt, hbl, hk⟩
      exact lstAt_of (at_l hl)
    · rintro i t L2 M2 ht ⟨h, k, v2, rfl, rfl, hnt, hbl, hk⟩
      have ht : (ks.map Tr.ref)[i]? = some t := ht
      rw [List.getElem?_map] at ht
      cases hki : ks[i]? with
      | none => rw [hki] at ht; cases ht
      | some kk =>
        rw [hki] at ht
        cases ht
        have hi : i < rs.length := by rw [← hR.1]; exact (List.getElem?_eq_some_iff.mp hki).1
        obtain ⟨r1, hr1⟩ : ∃ r, rs[i]? = some r := ⟨_, List.getElem?_eq_getElem hi⟩
        obtain ⟨ha, hok⟩ := hR.2 i kk r1 hki hr1
        have hkl := (List.getElem?_eq_some_iff.mp hk).1
        have hle : (allCh (rs.take (i + 1))).length ≤ 60 := by
          refine Nat.le_trans ?_ h60
          unfold allCh
          rw [← List.take_append_drop (i + 1) rs, List.flatMap_append, List.take_append_drop]
          simp
        rw [all_snoc hr1, List.length_append] at hle
        walk_at "fd"
        refine ⟨kk, r1, rfl, at_l ha, hok, ?_⟩
        walk_at "fd"
        have hB : belM (List.length (M ++ (h ++ [O.lst r1.ch, O.lst (allCh (rs.take i) ++ r1.ch)]))) (M ++ (h ++ [O.lst r1.ch, O.lst (allCh (rs.take i) ++ r1.ch)])) = true := by
          rw [← List.append_assoc, List.length_append (as := M ++ h), belM_app, belM_mono (Nat.le_add_right _ _) hbl, ← all_snoc hr1]
          simp only [belM, O.bel, bels_all', Bool.and_true, Bool.true_and]
          exact bels_all fun x hx => (ch_keyed _ x hx).2 _
        refine ⟨allCh (rs.take i), by rw [← List.append_assoc, at_l hk]; rfl, by rw [sizeLine_eq]; omega, ?_⟩
        refine forget_same (L' := [some (.ref l), some (.ref (List.length M + (List.length h + 1))), none, none, none, none]) ⟨_, rfl, _, rfl, _, _, rfl, _, _, rfl, _, _, rfl, _, _, rfl, rfl⟩ ⟨h ++ [O.lst r1.ch, O.lst (allCh (rs.take i) ++ r1.ch)], List.length M + (List.length h + 1), none, rfl, rfl, by rw [ntab_app, hnt]; rfl, hB, by rw [at_kk, at_kk, all_snoc hr1]; rfl⟩ ⟨?_, ?_⟩ hB
        · rw [List.length_append, List.length_append]
          simp only [List.length_cons, List.length_nil]
          omega
        · have := (List.getElem?_eq_some_iff.mp hl).1
          simp only [belL, Tr.bel, Bool.and_true, Bool.and_eq_true, decide_eq_true_eq, List.length_append, List.length_cons, List.length_nil]
          omega
    · rintro L2 M2 ⟨h, k, v2, rfl, rfl, hnt, hbl, hk⟩
      rw [show (⟨ks.map Tr.ref, fun M => lstAt M (.ref l) = some (ks.map Tr.ref)⟩ : FIt).items.length = rs.length by show (ks.map Tr.ref).length = _; rw [List.length_map, hR.1], List.take_length] at hk
      obtain ⟨M1, e1⟩ : ∃ M1, M1 = M ++ h := ⟨_, rfl⟩
      rw [← e1] at hbl hk ⊢
      walk_at "fd"
      have hkl : k < List.length M1 := (List.getElem?_eq_some_iff.mp hk).1
      have hll : l < List.length M1 := by
        have := (List.getElem?_eq_some_iff.mp hl).1
        rw [e1, List.length_append]
        omega
      have b1 : belM (List.length (M1 ++ [O.lst []])) (M1 ++ [O.lst []]) = true := by
        rw [List.length_append, belM_app, belM_mono (Nat.le_add_right _ _) hbl]
        rfl
      refine lc_L (i := 1) (x := .ref k) (ts := allCh rs) (fun t => some (.int (keyT t))) rfl (lstAt_of (at_l hk)) b1 (by rw [sizeLine_eq]; omega) (fun t ht y hy => by cases hy; rfl) (fun t ht => ?_) ?_
      · have hkt := (all_keyed rs t ht).1
        intro R N hR hN
        have hR' := (hR _ rfl).1
        unfold keyed at hkt
        split at hkt
        · rename_i u c r
          simp only [wipeF]
          walk_at "fd"
          exact ⟨_, atI_1, hR'⟩
        · cases hkt
      · have ek : (allCh rs).filterMap (fun t => some (Tr.int (keyT t))) = ((allCh rs).map keyT).map Tr.int := by
          rw [List.filterMap_eq_map', List.map_map]
          rfl
        rw [ek, List.append_assoc]
        refine ⟨(allCh rs).map keyT, lstAt_of (by
          have := at_kk (M := M1) (g := ([O.lst []] : Mem) ++ [O.lst (((allCh rs).map keyT).map Tr.int)]) (k := 1)
          rw [show List.length (M1 ++ [O.lst []]) = List.length M1 + 1 by rw [List.length_append]; rfl, this]
          rfl), by rw [List.length_map]; omega, fun out hpw hmem => ?_⟩
        have hfs := flat_stab hpw hmem
        have hpre : ∀ i, ((out.take i).flatMap (fun c => (allCh rs).filter fun p => keyT p == c)).length ≤ 60 := fun i => by
          have h1 : (out.flatMap (fun c => (allCh rs).filter fun p => keyT p == c)).length ≤ 60 := by rw [hfs, len_stab]; exact h60
          rw [← List.take_append_drop i out, List.flatMap_append, List.length_append] at h1
          omega
        obtain ⟨M4, e4⟩ : ∃ M4, M4 = M1 ++ (([O.lst []] : Mem) ++ [O.lst (((allCh rs).map keyT).map Tr.int)]) ++ [O.lst (out.map Tr.int)] := ⟨_, rfl⟩
        have l4 : List.length (M1 ++ (([O.lst []] : Mem) ++ [O.lst (((allCh rs).map keyT).map Tr.int)])) = List.length M1 + 2 := by rw [List.length_append]; rfl
        have l5 : List.length M4 = List.length M1 + 3 := by rw [e4, List.length_append, l4]; rfl
        have e5 : M4 = M1 ++ [O.lst [], O.lst (((allCh rs).map keyT).map Tr.int), O.lst (out.map Tr.int)] := by rw [e4, List.append_assoc]; rfl
        have a4 : M4[List.length M1 + 2]? = some (O.lst (out.map Tr.int)) := by rw [e5, at_kk]; rfl
        have ar : M4[List.length M1]? = some (O.lst []) := by rw [e5, at_00]; rfl
        have hk4 : M4[k]? = some (O.lst (allCh rs)) := by rw [e5]; exact at_l hk
        have b4 : belM (List.length M4) M4 = true := by
          rw [l5, e5, belM_app, belM_mono (Nat.le_add_right _ _) hbl]
          simp only [belM, O.bel, bels_ints, Bool.and_true, Bool.true_and]
          rfl
        rw [l4]
        rw [← e4]
        refine ⟨fun i L2 M2 => ∃ (h2 : Mem) (kr : Nat) (v2 v4 : Option Tr), L2 = [some (.ref l), some (.ref k), v2, some (.ref kr), v4, none] ∧ M2 = M4 ++ h2 ∧ ntab h2 = true ∧ belM (List.length M2) M2 = true ∧ M2[kr]? = some (.lst ((out.take i).flatMap (fun c => (allCh rs).filter fun p => keyT p == c))), ?_, ?_, ?_, ?_⟩
        · refine ⟨[], List.length M1, v2, none, rfl, by rw [List.append_nil], rfl, b4, ?_⟩
          rw [ar]
          rfl
        · rintro i L2 M2 hi ⟨h2, kr, v2, v4, rfl, rfl, hnt2, hbl2, hk2⟩
          rw [at_l a4]
          rfl
        · rintro i t L2 M2 ht ⟨h2, kr, v2, v4, rfl, rfl, hnt2, hbl2, hk2⟩
          rw [List.getElem?_map] at ht
          cases hoi : out[i]? with
          | none => rw [hoi] at ht; cases ht
          | some c =>
            rw [hoi] at ht
            cases ht
            have hsn : (out.take (i + 1)).flatMap (fun c => (allCh rs).filter fun p => keyT p == c) = (out.take i).flatMap (fun c => (allCh rs).filter fun p => keyT p == c) ++ (allCh rs).filter fun p => keyT p == c := by
              rw [List.take_succ, hoi, List.flatMap_append]
              simp
            have hp1 := hpre (i + 1)
            rw [hsn, List.length_append] at hp1
            have hkr := (List.getElem?_eq_some_iff.mp hk2).1
            refine ⟨_, rfl, ?_⟩
            refine lc_L (i := 1) (x := .ref k) (ts := allCh rs) (fun t => if keyT t == c then some t else none) rfl (lstAt_of (at_l hk4)) hbl2 (by rw [sizeLine_eq]; omega) (fun t ht y hy => ?_) (fun t ht => ?_) ?_
            · split at hy
              · cases hy
                exact (all_keyed rs _ ht).2 _
              · cases hy
            · have hkt := (all_keyed rs t ht).1
              intro R N hR hN
              unfold keyed at hkt
              split at hkt
              · rename_i u d r
                simp only [wipeF]
                walk_at "fd"
                refine ⟨_, atI_1, _, rfl, ?_⟩
                have ekd : (keyT (Tr.tup (u :: Tr.int d :: r)) == c) = decide (d = c) := by
                  show (d == c) = _
                  rfl
                by_cases hdc : d = c
                · rw [if_pos (decide_eq_true hdc)]
                  refine (hR _ ?_).1
                  show (if (keyT (Tr.tup (u :: Tr.int d :: r)) == c) = true then some (Tr.tup (u :: Tr.int d :: r)) else none) = _
                  rw [if_pos (by rw [ekd]; exact decide_eq_true hdc)]
                · rw [if_neg (fun z => hdc (of_decide_eq_true z))]
                  refine (hN ?_).1
                  show (if (keyT (Tr.tup (u :: Tr.int d :: r)) == c) = true then some (Tr.tup (u :: Tr.int d :: r)) else none) = _
                  rw [if_neg (by rw [ekd]; exact fun z => hdc (of_decide_eq_true z))]
              · cases hkt
            · rw [filterMap_if]
              refine ⟨_, lstAt_of (at_l hk2), _, lstAt_of at_snoc, by rw [sizeLine_eq]; omega, ?_⟩
              have hB : belM (List.length (M4 ++ (h2 ++ [O.lst ((allCh rs).filter fun p => keyT p == c), O.lst ((out.take i).flatMap (fun c => (allCh rs).filter fun p => keyT p == c) ++ (allCh rs).filter fun p => keyT p == c)]))) (M4 ++ (h2 ++ [O.lst ((allCh rs).filter fun p => keyT p == c), O.lst ((out.take i).flatMap (fun c => (allCh rs).filter fun p => keyT p == c) ++ (allCh rs).filter fun p => keyT p == c)])) = true := by
                rw [← List.append_assoc, List.length_append (as := M4 ++ h2), belM_app, belM_mono (Nat.le_add_right _ _) hbl2, ← hsn]
                simp only [belM, O.bel, Bool.and_true, Bool.true_and, Bool.and_eq_true]
                exact ⟨bels_all fun x hx => (all_keyed rs x (List.mem_filter.mp hx).1).2 _, bels_all fun x hx => (all_keyed rs x (flat_mem.mp hx).1).2 _⟩
              have lx : List.length (M4 ++ h2 ++ [O.lst ((allCh rs).filter fun p => keyT p == c)]) = List.length (M4 ++ h2) + 1 := by rw [List.length_append]; rfl
              have eX : M4 ++ h2 ++ [O.lst ((allCh rs).filter fun p => keyT p == c)] ++ [O.lst ((out.take i).flatMap (fun c => (allCh rs).filter fun p => keyT p == c) ++ (allCh rs).filter fun p => keyT p == c)] = M4 ++ (h2 ++ [O.lst ((allCh rs).filter fun p => keyT p == c), O.lst ((out.take i).flatMap (fun c => (allCh rs).filter fun p => keyT p == c) ++ (allCh rs).filter fun p => keyT p == c)]) := by simp
              rw [lx, eX]
              refine forget_same (L' := [some (.ref l), some (.ref k), none, some (.ref (List.length (M4 ++ h2) + 1)), none, none]) ⟨_, rfl, _, rfl, _, _, rfl, ?_⟩ ⟨h2 ++ [O.lst ((allCh rs).filter fun p => keyT p == c), O.lst ((out.take i).flatMap (fun c => (allCh rs).filter fun p => keyT p == c) ++ (allCh rs).filter fun p => keyT p == c)], List.length (M4 ++ h2) + 1, none, none, rfl, ?_, by rw [ntab_app, hnt2]; rfl, hB, ?_⟩ ⟨?_, ?_⟩ hB
              · exact ⟨_, rfl, _, _, rfl, _, _, rfl, rfl⟩
              · rfl
              · rw [← List.append_assoc, at_kk, hsn]
                rfl
              · rw [List.length_append, l5, List.length_append]
                simp only [List.length_cons, List.length_nil]
                omega
              · simp only [belL, Tr.bel, Bool.and_true, Bool.and_eq_true, decide_eq_true_eq, List.length_append, List.length_cons, List.length_nil]
                omega
        · rintro L2 M2 ⟨h2, kr, v2, v4, rfl, rfl, hnt2, hbl2, hk2⟩
          refine ⟨_, rfl, ?_⟩
          rw [List.length_map, List.take_length, hfs] at hk2
          have eM : M4 ++ h2 = M ++ (h ++ ([O.lst [], O.lst (((allCh rs).map keyT).map Tr.int), O.lst (out.map Tr.int)] ++ h2)) := by rw [e5, e1]; simp
          have := q (h ++ ([O.lst [], O.lst (((allCh rs).map keyT).map Tr.int), O.lst (out.map Tr.int)] ++ h2)) kr (by rw [ntab_app, hnt, ntab_app, hnt2]; rfl) (by rw [← eM]; exact hbl2) (by rw [← eM]; exact hk2)
          rw [← eM] at this
          exact keep_whole (by rw [eM, List.length_append]; omega) (decide_eq_true (List.getElem?_eq_some_iff.mp hk2).1) hbl2 this
end
end T1

set_option Elab.async false
set_option linter.all false
set_option maxRecDepth 100000
set_option maxHeartbeats 4000000
namespace T1
open PySem PySem.Spec PyProof.Rows L2 C8 Fm T2
local macro_rules | `(tactic| walk_at "sim1") => `(tactic| with_reducible first
  | exact sim_nil | exact sim_var | exact sim_int | exact sim_str | exact sim_bl | exact sim_non | exact sim_raw
  | apply sim_cons | apply sim_op | apply sim_un | apply sim_tup | apply sim_lst
  | apply sim_CB | apply sim_if | apply sim_test | apply sim_B | apply sim_not | apply sim_and | apply sim_or
  | apply sim_andV | apply sim_orV | apply sim_notV | apply sim_chain | exact sim_nopart | apply sim_part
  | apply sim_sl | apply sim_BML | apply sim_BMS | apply sim_BM0S | apply sim_M1 | apply sim_M0
  | apply sim_fmt | apply sim_joined | exact SimJ.nil | apply SimJ.cons
  | exact s_I0i | exact s_I0b | exact s_Ii | exact s_Ui | exact s_eq | exact s_ne | exact s_isN | exact s_notN | exact s_ixL | exact s_ixT | exact s_ixS
  | exact s_cat | exact s_catA | exact s_rep | exact s_repT | exact s_in | exact s_slL | exact s_slA | exact s_slS | exact s_addS | exact s_leS | exact s_ltS
  | exact c_len | exact c_lenS | exact c_list | exact c_tuple | exact c_int1 | exact c_intS | exact c_strI | exact c_max2 | exact c_min2
  | exact m_append | exact m_extend | exact m_split | exact m_join | exact m_0b | exact m_1b
  | apply sim_call | exact simSpF
  | exact sim_name | exact sim_gnil | apply sim_gcons | apply sim_gtup | apply sim_gsub | exact set_list
  | exact sim_next | apply sim_seq | apply sim_cut | exact sim_break | exact sim_cont | apply sim_drop | apply sim_ret | exact sim_retN
  | apply sim_ifS | exact sim_never | apply sim_asg | apply sim_par | apply sim_aug
  | apply sim_for | apply sim_while | apply i_list | apply i_tup | apply i_rng1 | apply i_rng2 | apply i_str | apply i_enum | apply i_zip
  | apply sim_lc | exact sim_yes | exact sim_namew (by decide) | exact sim_gnilw | apply sim_gconsw | apply sim_gtupw
  | apply sim_fld | apply sim_con | apply sim_setFld | apply sim_make | apply sim_prop | apply sim_meth | apply sim_cmeth | exact c_isi | apply sim_isiT | exact s_eqD | exact s_neD
  | walk_at "sim2")
local macro_rules | `(tactic| walk_at "sim2") => `(tactic| fail)
local macro_rules | `(tactic| walk_at "sim") => `(tactic| repeat' (walk_at "sim1"))
/-- open the trees' reading as far as it goes by itself -/
local macro_rules | `(tactic| walk_at "fm") => `(tactic| simp (config := { failIfUnchanged := false }) only [fVar, fC, fOp, fUn, fNil, fCons, fTup, fLst, fCB, fIf, fTest, fNot, fAnd, fOr, fAndV, fOrV, fNotV, fChain, fNoPart, fPart, fI, fI0, fU, fEq, fNe, fIsN, fNotN, fIxL, fIxT, fIxS,
  fCat, fCatA, fRep, fRepT, fSlL, fSlA, fSlS, fSl, fLen, fLenS, fList, fTuple, fIntS, fStrI, fMax2, fMin2, fAppend, fExtend, fIn, fBM, fMS, fBMS, fBM0S, fAddS, fLeS, fLtS, fM0b, fM1b, fSplit, fJoin, fJoined, fJs,
  fName, fGNil, fGCons, fGTup, fSetL, fGSub, fNext, fSeq, fCut, fBreak, fCont, fDrop, fRet, fRetN, fIfS, fAsg, fPar, fAug, fCall, fFld, fCon, fSetFld, fMake, fProp, fMeth, fCMeth, fIsi, fIsiT, fEqD, fNeD, insAt_ref, insO_ins, fFmt, fmtS_i, fmtS_s, fmtOk_i, fmtOk_s, fIL, fIT, fIR1, fIR2, fIS, fIEn, fIZ,
  startL, List.map_cons, List.map_nil, List.length_cons, List.length_nil, List.cons_append, List.nil_append, List.replicate, List.getElem?_cons_zero, List.getElem?_cons_succ, List.set_cons_zero, List.set_cons_succ, Nat.reduceSub, Nat.reduceAdd,
  Option.some.injEq, Tr.int.injEq, Tr.str.injEq, Tr.bl.injEq, Tr.tup.injEq, Tr.ref.injEq, List.cons.injEq, exists_eq_left, exists_eq_left', exists_eq_right, true_and, and_true, and_self, exists_and_left, tupOf_tup, eqS_ii, eqS_ss, eqS_bb, eqS_ni, eqS_in, eqS_nn, isStr_s, isN_n, isN_i, isN_b, isN_s, isN_t, isN_r, noRaw_n, noRaw_i, noRaw_b, noRaw_s, noRaw_t, noRaw_r, and_assoc, reduceIte, Bool.false_eq_true, exists_const, lstAt_ref, seqAt_ref, seqAt_tup, refAt_ref, lstO_lst, app_assoc2, len_app1, at_kk, at_00, set_k, set_00, Nat.add_assoc, Option.map_some, Prod.mk.injEq, int_cast_inj, Nat.zero_le, decide_eq_true_eq, Bool.not_eq_true', decide_eq_false_iff_not, Nat.add_zero, implies_true, forall_const, ite_true, ite_false, if_true, if_false, decide_true, decide_false, Bool.not_true, Bool.not_false, asg_len, Option.isSome_some])
local macro_rules | `(tactic| walk_at "bel") => `(tactic| first | rfl | (simp (config := { failIfUnchanged := false }) only [belM, O.bel, bels_strs, bels_ints, belL, Tr.bel, Tr.bels, Bool.and_true, Bool.true_and, Bool.and_self, decide_eq_true_eq, Bool.and_eq_true, true_and, and_true, List.length_cons, List.length_nil, Nat.reduceAdd]; try omega))

local macro_rules | `(tactic| walk_at "sim2") => `(tactic| first | exact simDrawn | assumption | apply sim_match | apply SimM2.cons | exact SimM2.nil | apply i_enumT | apply sim_truS | apply sim_listG | apply sim_lcG | apply sim_eitherG | apply sim_methG | apply sim_methJ | apply sim_either | apply sim_sortKey | apply sim_sortSet | apply sim_raiseX)
local macro_rules | `(tactic| walk_at "sim1") => `(tactic| first | (with_reducible apply sim_callX; assumption) | (with_reducible apply sim_methX; assumption) | (with_reducible apply sim_makeX; assumption) | (with_reducible apply sim_makeKX; assumption) | (with_reducible apply sim_makeVSX; assumption) | (with_reducible apply sim_conA) | (with_reducible apply sim_sortSet))
local macro_rules | `(tactic| walk_at "fm2") => `(tactic| simp (config := { failIfUnchanged := false }) only [sm_app, sm_len, sm_at, sm_at0, sm_set, sm_set0, List.getElem?_cons_zero, List.getElem?_cons_succ, List.set_cons_zero, List.set_cons_succ, lstO_lst, Option.isSome_some, Option.map_some, Option.some.injEq, Prod.mk.injEq, Nat.add_assoc, Nat.reduceAdd, exists_eq_left', exists_eq_left, true_and, and_assoc, fRaiseX, fCVal, fNv, int1_i, fEither, fTruS, fIEnT, fMatch, fGoM, setAllT, fMakeK, fMakeVS, fMethJ, fEitherG, fListG, fSortKey, fSortSet, fConA])
local macro_rules | `(tactic| walk_at "fd") => `(tactic| (walk_at "fm"; walk_at "fm2"; walk_at "fm"; walk_at "fm2"; walk_at "fm"))

/-! ### what the law expects -/
def ReadV (ls : List (List Str)) (i : Nat) (rs : List Row) : Prop := rs.length = i ∧ scan numV 0 ls = (match scan numV i (ls.drop i) with
  | .ok r => .ok (rs ++ r)
  | .error e => .error e)
theorem scan_dropV {ls : List (List Str)} {i : Nat} {ws : List Str} (h : ls[i]? = some ws) : scan numV i (ls.drop i) = (match rdRow numV ws with
    | none => .error (false, i)
    | some row => if row.ok then (match scan numV (i + 1) (ls.drop (i + 1)) with
      | .ok rs => .ok (row :: rs)
      | .error e => .error e) else .error (true, i)) := by
  rw [drop_at h]
  rfl
theorem ReadV.nil {ls : List (List Str)} : ReadV ls 0 [] := ⟨rfl, by
  rw [List.drop_zero]
  cases scan numV 0 ls <;> rfl⟩
theorem ReadV.text {ls : List (List Str)} {i : Nat} {rs : List Row} {ws : List Str} (h : ReadV ls i rs) (e : ls[i]? = some ws) (z : rdRow numV ws = none) : scan numV 0 ls = .error (false, i) := by
  rw [h.2, scan_dropV e, z]
theorem ReadV.work {ls : List (List Str)} {i : Nat} {rs : List Row} {ws : List Str} {r : Row} (h : ReadV ls i rs) (e : ls[i]? = some ws) (z : rdRow numV ws = some r) (n : ¬ r.ok) : scan numV 0 ls = .error (true, i) := by
  rw [h.2, scan_dropV e, z]
  simp only
  rw [if_neg n]
theorem ReadV.snoc {ls : List (List Str)} {i : Nat} {rs : List Row} {ws : List Str} {r : Row} (h : ReadV ls i rs) (e : ls[i]? = some ws) (z : rdRow numV ws = some r) (n : r.ok) : ReadV ls (i + 1) (rs ++ [r]) := ⟨by simp [h.1], by
  rw [h.2, scan_dropV e, z]
  simp only
  rw [if_pos n]
  cases scan numV (i + 1) (ls.drop (i + 1)) with
  | ok rs2 => simp
  | error e => rfl⟩
theorem ReadV.all {ls : List (List Str)} {rs : List Row} (h : ReadV ls ls.length rs) : scan numV 0 ls = .ok rs := by
  rw [h.2, List.drop_of_length_le (Nat.le_refl _)]
  show Except.ok (rs ++ []) = _
  rw [List.append_nil]
def FineT (t : Str) : Prop := t.length ≤ 800000 ∧ ∀ l ∈ linesOf t, FineL l
def ExpAt (M : Mem) (k : Nat) (rs : List Row) (t : Str) : Prop := ∃ s, M[k]? = some (.lst [.ref s, .str t]) ∧ M[s]? = some (.lst (stab keyT (allCh rs)))
def fsExp : FSp := fun ts M P _ => ∃ t : Str, ts = [.str t] ∧ FineT t ∧
  (∀ i, scan numV 0 (wordsL t) = .error (false, i) → P (.tup [.str "InvalidText", .int (i : Int)]) M) ∧ (∀ i, scan numV 0 (wordsL t) = .error (true, i) → P (.tup [.str "InvalidWork", .int (i : Int)]) M) ∧
  ∀ rs, scan numV 0 (wordsL t) = .ok rs → (∀ i, i < rs.length → overAt rs i → (∀ j, j < i → ¬ overAt rs j) → P (.tup [.str "InvalidWork", .int (i : Int)]) M) ∧
    ((∀ i, i < rs.length → ¬ overAt rs i) → ∀ (h : Mem) (k : Nat), ntab h = true → belM (List.length (M ++ h)) (M ++ h) = true → ExpAt (M ++ h) k rs t → P (.ref k) (M ++ h))
theorem atI_nat {xs : List Tr} {i : Nat} {x : Tr} (h : xs[i]? = some x) : atI xs (i : Int) = some x := by
  have hl := (List.getElem?_eq_some_iff.mp h).1
  unfold atI L2.ixN
  rw [if_pos (Int.natCast_nonneg _), if_pos (by omega)]
  show xs[(i : Int).toNat]? = _
  rw [Int.toNat_natCast]
  exact h
theorem nil_at {M h h' : Mem} {a b x : O} : (M ++ (a :: b :: (h ++ (h' ++ [x]))))[List.length M + (List.length h + (List.length h' + 2))]? = some x := by
  rw [at_kk, show List.length h + (List.length h' + 2) = (List.length h + List.length h') + 1 + 1 by omega, List.getElem?_cons_succ, List.getElem?_cons_succ, at_kk, at_snoc]
theorem ns_ne (r : Row) : r.ns ≠ [] := by cases r <;> intro h <;> cases h
theorem RowsAt.set {M : Mem} {ks ks0 : List Nat} {rs : List Row} {n : Nat} {o : O} (h : RowsAt M ks rs) (e : M[n]? = some (.lst (ks0.map Tr.ref))) : RowsAt (M.set n o) ks rs := ⟨h.1, fun i k r h1 h2 => by
  obtain ⟨h3, h4⟩ := h.2 i k r h1 h2
  have : n ≠ k := fun z => by
    subst z
    rw [e] at h3
    cases r <;> cases ks0 <;> simp [Row.ns] at h3
  exact ⟨by rw [List.getElem?_set_ne this]; exact h3, h4⟩⟩
theorem len0 {t : Str} (h : t.length = 0) : t = "" := TL.ext_tl (by
  rw [TL.len_tl] at h
  rw [List.length_eq_zero_iff.mp h]
  rfl)
theorem rowsAt_snoc {M : Mem} {ws : List Nat} {rs : List Row} {n : Nat} {r : Row} (h : RowsAt M ws rs) (e : M[n]? = some (.lst (r.ns.map Tr.int))) (k : r.ok) : RowsAt M (ws ++ [n]) (rs ++ [r]) := ⟨by simp [h.1], fun i n' r' h1 h2 => by
  by_cases hi : i < ws.length
  · rw [List.getElem?_append_left hi] at h1
    rw [List.getElem?_append_left (by rw [← h.1]; exact hi)] at h2
    exact h.2 i n' r' h1 h2
  · rw [List.getElem?_append_right (by omega)] at h1
    rw [List.getElem?_append_right (by rw [← h.1]; omega), ← h.1] at h2
    cases hj : i - ws.length with
    | zero =>
      rw [hj] at h1 h2
      cases h1
      cases h2
      exact ⟨e, k⟩
    | succ j =>
      rw [hj] at h1
      simp at h1⟩
structure Cx3 (P : Program) (w : World) (K : PySem.W.Frag) (mg : Str → Option Value) (base : Heap) : Prop where
  _law_read_line : Cal P w K mg base 2 "_law_read_line" (spF K fsLR) []
  _law_changes : Cal P w K mg base 1 "_law_changes" (spF K fsLawCh) []
  _law_sorted : Cal P w K mg base 2 "_law_sorted" (spF K fsSorted) []
section
variable {P : Program} {w : World} {K : PySem.W.Frag} {mg : Str → Option Value} {base : Heap}
theorem scExpected : FnScope ["_law_text", "_law_rows", "_law_lines", "_law_row", "_law_numbers", "_law_counts"] ["_law_text"] (fnScope sExpected) := fnScope_by (by decide +kernel)
theorem ok_expected {f : Addr} {fd : FuncData} (F : Def K mg "_law_expected" sExpected f fd) (b : Binds K fd ["_law_text"] []) (T : BQ mg) (C : Cx3 P w K mg base) : Cal P w K mg base 3 "_law_expected" (spF K fsExp) [] := by
  refine cal0 F b .nil scExpected (fun vs H Q E h => ?_) (fun cdv A outer s H vs Q E hr h => ?_)
  · obtain ⟨ts, ρ, M, P, PX, r, m, ⟨t, rfl, _⟩, o, ox⟩ := h
    exact r.len
  · refine ⟨_, (pss_cons (ps_par (i := 1) (j := 2) (by rfl) scExpected.nd rfl rfl (by decide) rfl rfl (pa_cons (pe_lst pa_nil) (pa_cons (pe_ifExp (pt_cmpR op_ne (pv 0) pe_str (nomark _)) (pe_split (pv 0) pe_str) (pe_lst pa_nil)) pa_nil)) (by rfl))
 (pss_cons (ps_for PassesOwn.never rfl (pi_range1 (by rfl) T.range (pa_cons (pe_callB call_len_seq (by rfl) T.len PySem.boot_len (pa_cons (pv 2) pa_nil)) pa_nil)) (pg_name (i := 3) scExpected.nd rfl (Or.inl rfl)) (pss_cons (ps_set (i := 4) scExpected.nd rfl (Or.inl rfl) (pe_c C._law_read_line hr (by first | decide | omega) (by rfl) (pa_cons (pe_ix ix_list (pv 2) (pv 3) (fun _ _ => rfl)) pa_nil)))
 (pss_cons (ps_if (pt_cmpR op_isN (pv 4) pe_non (nomark _)) (pss_one (ps_ret (pe_tup (pa_cons pe_str (pa_cons (pv 3) pa_nil))))) pss_nil)
 (pss_cons (ps_if (pt_cmpR (op_eqD hr.units) (pv 4) (pe_lst pa_nil) (nomark _)) (pss_one (ps_ret (pe_tup (pa_cons pe_str (pa_cons (pv 3) pa_nil))))) pss_nil)
 (pss_one (ps_expr (pe_bm PySem.F.plainAttrs_list PySem.F.slot_list_append PySem.F.type_list_append mt_append (pv 1) (pa_cons (pv 4) pa_nil))))))))
 (pss_cons (ps_set (i := 5) scExpected.nd rfl (Or.inl rfl) pe_int)
 (pss_cons (ps_for PassesOwn.never rfl (pi_range1 (by rfl) T.range (pa_cons (pe_callB call_len_seq (by rfl) T.len PySem.boot_len (pa_cons (pv 1) pa_nil)) pa_nil)) (pg_name (i := 3) scExpected.nd rfl (Or.inl rfl)) (pss_cons (ps_set (i := 5) scExpected.nd rfl (Or.inl rfl) (pe_op op_add (pv 5) (pe_callB call_len_seq (by rfl) T.len PySem.boot_len (pa_cons (pe_c C._law_changes hr (by first | decide | omega) (by rfl) (pa_cons (pe_ix ix_list (pv 1) (pv 3) (fun _ _ => rfl)) pa_nil)) pa_nil))))
 (pss_one (ps_if (PW.pt (pw_or (pt_cmpR op_eq (pv 3) pe_int (nomark _)) (pw_or1 (pt_cmpR op_gt (pv 5) pe_int (nomark _))))) (pss_one (ps_ret (pe_tup (pa_cons pe_str (pa_cons (pv 3) pa_nil))))) pss_nil))))
 (pss_one (ps_ret (pe_lst (pa_cons (pe_c C._law_sorted hr (by first | decide | omega) (by rfl) (pa_cons (pv 1) pa_nil)) (pa_cons (pv 0) pa_nil))))))))), ?_⟩
    obtain ⟨ts, ρ, M, P, PX, r, m, ⟨t, rfl, hf, q1, q2, q3⟩, o, ox⟩ := h
    try simp only [nox_K, cx_K]
    refine run_in r m o (by walk_at "sim") ?_
    walk_at "fd"
    obtain ⟨hf1, hf2⟩ := hf
    refine iteX (x := (linesOf t).map Tr.str) (F := fun ls => fFor _ _ _ _ _ (M ++ [O.lst [], O.lst ls])) (by decide +kernel) (by rw [sizeLine_eq]; omega) (fun h => ?_) (fun h => ?_) ?_
    · unfold linesOf
      rw [if_neg (fun z => h (len0 z))]
    · unfold linesOf
      rw [if_pos (by rw [Classical.not_not.mp h]; decide +kernel)]
      rfl
    have hLn := linesOf_num t
    unfold fFor
    walk_at "fd"
    rw [List.length_map, Int.toNat_natCast]
    refine ⟨by omega, by omega, fun i L2 M2 => ∃ (ks : List Nat) (rs : List Row) (h : Mem) (v3 v4 : Option Tr), L2 = [some (Tr.str t), some (Tr.ref (List.length M)), some (Tr.ref (List.length M + 1)), v3, v4, none] ∧ M2 = M ++ (O.lst (ks.map Tr.ref) :: O.lst ((linesOf t).map Tr.str) :: h) ∧ ntab h = true ∧ belM (List.length M2) M2 = true ∧ RowsAt M2 ks rs ∧ ReadV (wordsL t) i rs, ?_, ?_, ?_⟩
    · refine ⟨[], [], [], none, none, rfl, rfl, rfl, ?_, ⟨rfl, fun i n r h => by simp at h⟩, ReadV.nil⟩
      rw [List.length_append]
      exact belM_ext m.belM (by simp only [belM, O.bel, bels_strs, Bool.and_true]; rfl)
    · rintro i x L2 M2 hx ⟨ks, rs, h, v3, v4, rfl, rfl, hnt, hbl, hw, hr⟩
      obtain ⟨hi, rfl⟩ := rngT_get hx
      obtain ⟨line, hlu⟩ : ∃ line, (linesOf t)[i]? = some line := ⟨_, List.getElem?_eq_getElem hi⟩
      have hwo := linesOf_at hlu
      rw [Int.zero_add]
      walk_at "fd"
      refine ⟨.str line, atI_nat (by rw [List.getElem?_map, hlu]; rfl), line, rfl, hf2 _ (List.mem_of_getElem? hlu), fun hnone => ?_, fun row hrow => ⟨fun hok h' k hnt' hbl' hat => ?_, fun hno h' k hnt' hbl' hat => ?_⟩⟩
      · walk_at "fd"
        refine ⟨by rw [sizeLine_eq]; decide, ?_⟩
        exact keep_app m rfl (q1 _ (hr.text hwo hnone))
      · walk_at "fd"
        have e1 : ∀ g : Mem, M ++ (O.lst (ks.map Tr.ref) :: O.lst ((linesOf t).map Tr.str) :: (h ++ (h' ++ g))) = (M ++ (O.lst (ks.map Tr.ref) :: O.lst ((linesOf t).map Tr.str) :: h) ++ h') ++ g := fun g => by simp
        have hat2 : (M ++ (O.lst (ks.map Tr.ref) :: O.lst ((linesOf t).map Tr.str) :: (h ++ (h' ++ [O.lst []]))))[k]? = some (O.lst (row.ns.map Tr.int)) := by
          rw [e1]
          exact at_l hat
        have hkl := (List.getElem?_eq_some_iff.mp hat).1
        have lN : List.length (M ++ (O.lst (ks.map Tr.ref) :: O.lst ((linesOf t).map Tr.str) :: h)) = List.length M + (List.length h + 2) := by rw [List.length_append]; rfl
        rw [List.length_append, lN] at hkl
        refine ⟨.list (row.ns.map PyData.int), .lst (lstAt_of hat2) (da_ints _), .list [], .lst (lstAt_of nil_at) .nil, shaped_ints _, by decide +kernel, ?_⟩
        rw [eqv_ints_nil, if_neg (fun z => ns_ne row (of_decide_eq_true z))]
        have hks : ks.length = i := by rw [hw.1, hr.1]
        refine ⟨by rw [List.length_map, sizeLine_eq]; omega, ?_⟩
        have hkb : ∀ k' ∈ ks, k' < List.length M + (List.length h + 2) := fun k' hk' => by
          obtain ⟨j, hj⟩ := List.mem_iff_getElem?.mp hk'
          have hj2 : j < rs.length := by rw [← hw.1]; exact (List.getElem?_eq_some_iff.mp hj).1
          have := (List.getElem?_eq_some_iff.mp (hw.2 j k' _ hj (List.getElem?_eq_getElem hj2)).1).1
          rwa [lN] at this
        have hset : ((M ++ (O.lst (ks.map Tr.ref) :: O.lst ((linesOf t).map Tr.str) :: h) ++ h') ++ [O.lst []]).set (List.length M) (O.lst (ks.map Tr.ref ++ [Tr.ref k])) = M ++ (O.lst ((ks ++ [k]).map Tr.ref) :: O.lst ((linesOf t).map Tr.str) :: (h ++ (h' ++ [O.lst []]))) := by
          rw [← e1, set_00]
          simp
        have hR2 : RowsAt (M ++ (O.lst ((ks ++ [k]).map Tr.ref) :: O.lst ((linesOf t).map Tr.str) :: (h ++ (h' ++ [O.lst []])))) (ks ++ [k]) (rs ++ [row]) := by
          rw [← hset]
          refine RowsAt.set (ks0 := ks) (rowsAt_snoc (rowsAt_app (rowsAt_app hw)) (at_l hat) hok) ?_
          rw [← e1, at_00]
          rfl
        have hB : belM (List.length (M ++ (O.lst ((ks ++ [k]).map Tr.ref) :: O.lst ((linesOf t).map Tr.str) :: (h ++ (h' ++ [O.lst []]))))) (M ++ (O.lst ((ks ++ [k]).map Tr.ref) :: O.lst ((linesOf t).map Tr.str) :: (h ++ (h' ++ [O.lst []])))) = true := by
          have lZ : List.length (M ++ (O.lst ((ks ++ [k]).map Tr.ref) :: O.lst ((linesOf t).map Tr.str) :: (h ++ (h' ++ [O.lst []])))) = List.length M + (List.length h + 2) + List.length h' + 1 := by
            simp only [List.length_append, List.length_cons, List.length_nil]
            omega
          have hb2 := hbl'
          rw [List.length_append (as := M ++ _), lN, belM_app, belM_app] at hb2
          simp only [belM, Bool.and_eq_true] at hb2
          rw [lZ, belM_app, belM_mono (by omega) m.belM]
          simp only [belM, O.bel, belM_app, bels_strs, Bool.true_and, Bool.and_true, Bool.and_eq_true]
          refine ⟨bels_refs fun k' hk' => ?_, belM_mono (by omega) hb2.1.2.2.2, belM_mono (by omega) hb2.2, rfl⟩
          rcases List.mem_append.mp hk' with hk' | hk'
          · have := hkb k' hk'
            omega
          · rw [List.mem_singleton.mp hk']
            omega
        rw [show ks.map Tr.ref ++ [Tr.ref k] = (ks ++ [k]).map Tr.ref by rw [List.map_append]; rfl]
        refine forget_same (L' := [some (Tr.str t), some (Tr.ref (List.length M)), some (Tr.ref (List.length M + 1)), none, none, none]) ⟨_, rfl, _, rfl, _, rfl, _, _, rfl, _, _, rfl, _, _, rfl, rfl⟩ ⟨ks ++ [k], rs ++ [row], h ++ (h' ++ [O.lst []]), none, none, rfl, rfl, by rw [ntab_app, hnt, ntab_app, hnt']; rfl, hB, hR2, hr.snoc hwo hrow hok⟩ ⟨?_, ?_⟩ hB
        · simp only [List.length_append, List.length_cons, List.length_nil]
          omega
        · simp only [belL, Tr.bel, Bool.and_true, Bool.and_eq_true, decide_eq_true_eq, List.length_append, List.length_cons, List.length_nil, true_and]
          omega
      · walk_at "fd"
        have e1 : ∀ g : Mem, M ++ (O.lst (ks.map Tr.ref) :: O.lst ((linesOf t).map Tr.str) :: (h ++ (h' ++ g))) = (M ++ (O.lst (ks.map Tr.ref) :: O.lst ((linesOf t).map Tr.str) :: h) ++ h') ++ g := fun g => by simp
        have hat2 : (M ++ (O.lst (ks.map Tr.ref) :: O.lst ((linesOf t).map Tr.str) :: (h ++ (h' ++ [O.lst []]))))[k]? = some (O.lst (([] : List Int).map Tr.int)) := by
          rw [e1]
          exact at_l hat
        refine ⟨.list (([] : List Int).map PyData.int), .lst (lstAt_of hat2) (da_ints _), .list [], .lst (lstAt_of nil_at) .nil, shaped_ints _, by decide +kernel, ?_⟩
        rw [eqv_ints_nil, if_pos (by rfl)]
        exact ⟨by rw [sizeLine_eq]; decide, keep_app m rfl (q2 _ (hr.work hwo hrow hno))⟩
    · rintro L2 M2 ⟨ks, rs, h, v3, v4, rfl, rfl, hnt, hbl, hw, hr⟩
      walk_at "fd"
      rw [rngT_len, show (linesOf t).length = (wordsL t).length by unfold wordsL; rw [List.length_map]] at hr
      obtain ⟨q4, q5⟩ := q3 rs hr.all
      have hz : rs.length ≤ t.length + 1 := by
        rw [hr.1]
        unfold wordsL
        rw [List.length_map]
        exact linesOf_num t
      have hkz : ks.length = rs.length := hw.1
      have a0 : (M ++ (O.lst (ks.map Tr.ref) :: O.lst ((linesOf t).map Tr.str) :: h))[List.length M]? = some (O.lst (ks.map Tr.ref)) := by rw [at_00]; rfl
      obtain ⟨M1, e1⟩ : ∃ M1, M1 = M ++ (O.lst (ks.map Tr.ref) :: O.lst ((linesOf t).map Tr.str) :: h) := ⟨_, rfl⟩
      have lN : List.length M1 = List.length M + (List.length h + 2) := by rw [e1, List.length_append]; rfl
      have kp : ∀ (g : Mem) (i : Int), P (.tup [.str "InvalidWork", .int i]) M → Keep (List.length M) P (.tup [.str "InvalidWork", .int i]) (M1 ++ g) := fun g i hp => by
        rw [e1, List.append_assoc]
        exact keep_app m rfl hp
      rw [← e1] at hw hbl a0 ⊢
      rw [List.length_map, Int.toNat_natCast]
      refine ⟨by omega, by omega, fun i L2 M2 => ∃ v3 v4, L2 = [some (Tr.str t), some (Tr.ref (List.length M)), some (Tr.ref (List.length M + 1)), v3, v4, some (Tr.int ((allCh (rs.take i)).length : Int))] ∧ M2 = M1 ∧ ∀ j, j < i → ¬ overAt rs j, ?_, ?_, ?_⟩
      · exact ⟨v3, v4, rfl, rfl, fun j hj => absurd hj (Nat.not_lt_zero _)⟩
      · rintro i x L2 M2 hx ⟨v3, v4, rfl, rfl, hno⟩
        obtain ⟨hi, rfl⟩ := rngT_get hx
        rw [Int.zero_add]
        have hi2 : i < rs.length := by omega
        obtain ⟨kk, hkk⟩ : ∃ kk, ks[i]? = some kk := ⟨_, List.getElem?_eq_getElem hi⟩
        obtain ⟨r1, hr1⟩ : ∃ r, rs[i]? = some r := ⟨_, List.getElem?_eq_getElem hi2⟩
        obtain ⟨ha, hok⟩ := hw.2 i kk r1 hkk hr1
        walk_at "fd"
        refine ⟨_, by rw [a0]; rfl, _, atI_nat (by rw [List.getElem?_map, hkk]; rfl), kk, r1, rfl, ha, hok, _, seqAt_of at_snoc, ?_⟩
        have bad : overAt rs i → Keep (List.length M) P (.tup [.str "InvalidWork", .int (i : Int)]) (M2 ++ [O.lst r1.ch]) := fun h => kp _ _ (q4 i hi2 h hno)
        by_cases h20 : (i : Int) = 20
        · rw [if_pos h20]
          exact ⟨by rw [sizeLine_eq]; decide, bad (.inl (by omega))⟩
        rw [if_neg h20]
        have hs := all_snoc hr1
        by_cases h6 : (60 : Int) < ((allCh (rs.take i)).length : Int) + (r1.ch.length : Int)
        · rw [if_pos h6]
          exact ⟨by rw [sizeLine_eq]; decide, bad (.inr (by rw [hs, List.length_append]; omega))⟩
        rw [if_neg h6, ← lN]
        refine forget_base (L' := [some (Tr.str t), some (Tr.ref (List.length M)), some (Tr.ref (List.length M + 1)), none, none, some (Tr.int (((allCh (rs.take i)).length : Int) + (r1.ch.length : Int)))]) (Nat.le_refl _) ⟨_, rfl, _, rfl, _, rfl, _, _, rfl, _, _, rfl, _, rfl, rfl⟩ ⟨none, none, ?_, rfl, fun j hj => ?_⟩ ?_ hbl
        · rw [hs, List.length_append]
          rfl
        · rcases Nat.lt_succ_iff_lt_or_eq.mp hj with h | h
          · exact hno j h
          · subst h
            rintro (z | z)
            · omega
            · rw [hs, List.length_append] at z
              omega
        · simp only [belL, Tr.bel, Bool.and_true, Bool.and_eq_true, decide_eq_true_eq, true_and, lN]
          omega
      · rintro L2 M2 ⟨v3, v4, rfl, rfl, hno⟩
        rw [rngT_len, hkz] at hno
        have h20 : rs.length ≤ 20 := by
          by_cases h : rs.length ≤ 20
          · exact h
          · exact absurd (.inl rfl) (hno 20 (by omega))
        have h60 : (allCh rs).length ≤ 60 := by
          cases hl : rs.length with
          | zero =>
            rw [List.length_eq_zero_iff.mp hl]
            exact Nat.zero_le _
          | succ n =>
            have h1 := hno n (by omega)
            have : ¬ 60 < (allCh (rs.take (n + 1))).length := fun z => h1 (.inr z)
            rw [← hl, List.take_length] at this
            omega
        walk_at "fd"
        refine ⟨List.length M, ks, rs, rfl, a0, hw, by omega, h60, fun h' k hnt' hbl' hat => ⟨by rw [sizeLine_eq]; decide, ?_⟩⟩
        have eM : M2 ++ h' ++ [O.lst [.ref k, .str t]] = M ++ ((O.lst (ks.map Tr.ref) :: O.lst ((linesOf t).map Tr.str) :: h) ++ (h' ++ [O.lst [.ref k, .str t]])) := by rw [e1]; simp
        have hkl := (List.getElem?_eq_some_iff.mp hat).1
        have hB : belM (List.length (M2 ++ h' ++ [O.lst [.ref k, .str t]])) (M2 ++ h' ++ [O.lst [.ref k, .str t]]) = true := by
          rw [List.length_append (as := M2 ++ h'), belM_app, belM_mono (Nat.le_add_right _ _) hbl']
          simp only [belM, O.bel, Tr.bels, Tr.bel, Bool.and_true, Bool.true_and, decide_eq_true_eq]
          omega
        have := q5 hno ((O.lst (ks.map Tr.ref) :: O.lst ((linesOf t).map Tr.str) :: h) ++ (h' ++ [O.lst [.ref k, .str t]])) (List.length (M2 ++ h')) ?_ (by rw [← eM]; exact hB) ⟨k, by rw [← eM, at_snoc], by rw [← eM]; exact at_l hat⟩
        · rw [← eM] at this
          refine keep_whole ?_ ?_ hB this
          · simp only [List.length_append, lN]
            omega
          · simp only [Tr.bel, decide_eq_true_eq, List.length_append, List.length_cons, List.length_nil]
            omega
        · rw [ntab_app, ntab_app, hnt']
          unfold ntab at hnt ⊢
          simpa using hnt
end
end T1

set_option Elab.async false
set_option linter.all false
set_option maxRecDepth 100000
set_option maxHeartbeats 4000000
namespace T1
open PySem PySem.Spec PyProof.Rows L2 C8 Fm T2
local macro_rules | `(tactic| walk_at "sim1") => `(tactic| with_reducible first
  | exact sim_nil | exact sim_var | exact sim_int | exact sim_str | exact sim_bl | exact sim_non | exact sim_raw
  | apply sim_cons | apply sim_op | apply sim_un | apply sim_tup | apply sim_lst
  | apply sim_CB | apply sim_if | apply sim_test | apply sim_B | apply sim_not | apply sim_and | apply sim_or
  | apply sim_andV | apply sim_orV | apply sim_notV | apply sim_chain | exact sim_nopart | apply sim_part
  | apply sim_sl | apply sim_BML | apply sim_BMS | apply sim_BM0S | apply sim_M1 | apply sim_M0
  | apply sim_fmt | apply sim_joined | exact SimJ.nil | apply SimJ.cons
  | exact s_I0i | exact s_I0b | exact s_Ii | exact s_Ui | exact s_eq | exact s_ne | exact s_isN | exact s_notN | exact s_ixL | exact s_ixT | exact s_ixS
  | exact s_cat | exact s_catA | exact s_rep | exact s_repT | exact s_in | exact s_slL | exact s_slA | exact s_slS | exact s_addS | exact s_leS | exact s_ltS
  | exact c_len | exact c_lenS | exact c_list | exact c_tuple | exact c_int1 | exact c_intS | exact c_strI | exact c_max2 | exact c_min2
  | exact m_append | exact m_extend | exact m_split | exact m_join | exact m_0b | exact m_1b
  | apply sim_call | exact simSpF
  | exact sim_name | exact sim_gnil | apply sim_gcons | apply sim_gtup | apply sim_gsub | exact set_list
  | exact sim_next | apply sim_seq | apply sim_cut | exact sim_break | exact sim_cont | apply sim_drop | apply sim_ret | exact sim_retN
  | apply sim_ifS | exact sim_never | apply sim_asg | apply sim_par | apply sim_aug
  | apply sim_for | apply sim_while | apply i_list | apply i_tup | apply i_rng1 | apply i_rng2 | apply i_str | apply i_enum | apply i_zip
  | apply sim_lc | exact sim_yes | exact sim_namew (by decide) | exact sim_gnilw | apply sim_gconsw | apply sim_gtupw
  | apply sim_fld | apply sim_con | apply sim_setFld | apply sim_make | apply sim_prop | apply sim_meth | apply sim_cmeth | exact c_isi | apply sim_isiT | exact s_eqD | exact s_neD
  | walk_at "sim2")
local macro_rules | `(tactic| walk_at "sim2") => `(tactic| fail)
local macro_rules | `(tactic| walk_at "sim") => `(tactic| repeat' (walk_at "sim1"))
/-- open the trees' reading as far as it goes by itself -/
local macro_rules | `(tactic| walk_at "fm") => `(tactic| simp (config := { failIfUnchanged := false }) only [fVar, fC, fOp, fUn, fNil, fCons, fTup, fLst, fCB, fIf, fTest, fNot, fAnd, fOr, fAndV, fOrV, fNotV, fChain, fNoPart, fPart, fI, fI0, fU, fEq, fNe, fIsN, fNotN, fIxL, fIxT, fIxS,
  fCat, fCatA, fRep, fRepT, fSlL, fSlA, fSlS, fSl, fLen, fLenS, fList, fTuple, fIntS, fStrI, fMax2, fMin2, fAppend, fExtend, fIn, fBM, fMS, fBMS, fBM0S, fAddS, fLeS, fLtS, fM0b, fM1b, fSplit, fJoin, fJoined, fJs,
  fName, fGNil, fGCons, fGTup, fSetL, fGSub, fNext, fSeq, fCut, fBreak, fCont, fDrop, fRet, fRetN, fIfS, fAsg, fPar, fAug, fCall, fFld, fCon, fSetFld, fMake, fProp, fMeth, fCMeth, fIsi, fIsiT, fEqD, fNeD, insAt_ref, insO_ins, fFmt, fmtS_i, fmtS_s, fmtOk_i, fmtOk_s, fIL, fIT, fIR1, fIR2, fIS, fIEn, fIZ,
  startL, List.map_cons, List.map_nil, List.length_cons, List.length_nil, List.cons_append, List.nil_append, List.replicate, List.getElem?_cons_zero, List.getElem?_cons_succ, List.set_cons_zero, List.set_cons_succ, Nat.reduceSub, Nat.reduceAdd,
  Option.some.injEq, Tr.int.injEq, Tr.str.injEq, Tr.bl.injEq, Tr.tup.injEq, Tr.ref.injEq, List.cons.injEq, exists_eq_left, exists_eq_left', exists_eq_right, true_and, and_true, and_self, exists_and_left, tupOf_tup, eqS_ii, eqS_ss, eqS_bb, eqS_ni, eqS_in, eqS_nn, isStr_s, isN_n, isN_i, isN_b, isN_s, isN_t, isN_r, noRaw_n, noRaw_i, noRaw_b, noRaw_s, noRaw_t, noRaw_r, and_assoc, reduceIte, Bool.false_eq_true, exists_const, lstAt_ref, seqAt_ref, seqAt_tup, refAt_ref, lstO_lst, app_assoc2, len_app1, at_kk, at_00, set_k, set_00, Nat.add_assoc, Option.map_some, Prod.mk.injEq, int_cast_inj, Nat.zero_le, decide_eq_true_eq, Bool.not_eq_true', decide_eq_false_iff_not, Nat.add_zero, implies_true, forall_const, ite_true, ite_false, if_true, if_false, decide_true, decide_false, Bool.not_true, Bool.not_false, asg_len, Option.isSome_some])
local macro_rules | `(tactic| walk_at "bel") => `(tactic| first | rfl | (simp (config := { failIfUnchanged := false }) only [belM, O.bel, bels_strs, bels_ints, belL, Tr.bel, Tr.bels, Bool.and_true, Bool.true_and, Bool.and_self, decide_eq_true_eq, Bool.and_eq_true, true_and, and_true, List.length_cons, List.length_nil, Nat.reduceAdd]; try omega))

local macro_rules | `(tactic| walk_at "sim2") => `(tactic| first | exact simDrawn | assumption | apply sim_match | apply SimM2.cons | exact SimM2.nil | apply i_enumT | apply sim_truS | apply sim_listG | apply sim_lcG | apply sim_eitherG | apply sim_methG | apply sim_methJ | apply sim_either | apply sim_sortKey | apply sim_sortSet | apply sim_raiseX)
local macro_rules | `(tactic| walk_at "sim1") => `(tactic| first | (with_reducible apply sim_callX; assumption) | (with_reducible apply sim_methX; assumption) | (with_reducible apply sim_makeX; assumption) | (with_reducible apply sim_makeKX; assumption) | (with_reducible apply sim_makeVSX; assumption) | (with_reducible apply sim_conA) | (with_reducible apply sim_sortSet))
local macro_rules | `(tactic| walk_at "fm2") => `(tactic| simp (config := { failIfUnchanged := false }) only [sm_app, sm_len, sm_at, sm_at0, sm_set, sm_set0, List.getElem?_cons_zero, List.getElem?_cons_succ, List.set_cons_zero, List.set_cons_succ, lstO_lst, Option.isSome_some, Option.map_some, Option.some.injEq, Prod.mk.injEq, Nat.add_assoc, Nat.reduceAdd, exists_eq_left', exists_eq_left, true_and, and_assoc, fRaiseX, fCVal, fNv, int1_i, fEither, fTruS, fIEnT, fMatch, fGoM, setAllT, fMakeK, fMakeVS, fMethJ, fEitherG, fListG, fSortKey, fSortSet, fConA])
local macro_rules | `(tactic| walk_at "fd") => `(tactic| (walk_at "fm"; walk_at "fm2"; walk_at "fm"; walk_at "fm2"; walk_at "fm"))

/-! ### texts whose words stay short -/
def RunL (W : Nat) (l : List Nat) : Prop := ∀ a u b, l = a ++ (u ++ b) → (∀ c ∈ u, c ≠ 32 ∧ c ≠ 10) → u.length ≤ W
def Inf (u l : List Nat) : Prop := ∃ a b, l = a ++ (u ++ b)
theorem RunL.inf {W : Nat} {u l : List Nat} (h : RunL W l) (i : Inf u l) : RunL W u := fun a v b e hv => by
  obtain ⟨x, y, rfl⟩ := i
  subst e
  exact h (x ++ a) v (b ++ y) (by simp) hv
theorem RunL.app {V W : Nat} {k l : List Nat} (h : RunL V k) (g : RunL W l) : RunL (V + W) (k ++ l) := fun a u b e hu => by
  rcases List.append_eq_append_iff.mp e with ⟨x, e1, e2⟩ | ⟨x, e1, e2⟩
  · have := g x u b e2 hu
    omega
  · rcases List.append_eq_append_iff.mp e2 with ⟨y, e3, e4⟩ | ⟨y, e3, e4⟩
    · have := h a u y (by rw [e1, e3]) hu
      omega
    · have h1 := h a x [] (by rw [e1, List.append_nil]) fun c hc => hu c (by rw [e3]; exact List.mem_append_left _ hc)
      have h2 := g [] y b (by rw [e4]; rfl) fun c hc => hu c (by rw [e3]; exact List.mem_append_right _ hc)
      rw [e3, List.length_append]
      omega
theorem RunL.short {l : List Nat} {W : Nat} (h : l.length ≤ W) : RunL W l := fun a u b e _ => by
  rw [e, List.length_append, List.length_append] at h
  omega
theorem RunL.mono {V W : Nat} {l : List Nat} (h : RunL V l) (k : V ≤ W) : RunL W l := fun a u b e hu => Nat.le_trans (h a u b e hu) k
def okC (c : Nat) : Prop := PyData.strOk ⟨#[c]⟩ = true
theorem strOk_iff {w : Str} : PyData.strOk w = true ↔ ∀ c ∈ TL.tl w, okC c := by
  unfold okC PyData.strOk
  rw [all_arr, List.all_eq_true]
  constructor
  · intro h c hc
    have := h c hc
    simpa using this
  · intro h c hc
    have := h c hc
    simpa using this
structure Good (W N : Nat) (t : Str) : Prop where
  run : RunL W (TL.tl t)
  len : t.length ≤ N
  ok : ∀ c ∈ TL.tl t, okC c
theorem Good.mix {W N : Nat} {t t' : Str} {A m B : List Nat} (h : Good W N t) (e : TL.tl t' = A ++ (m ++ B)) (hA : Inf A (TL.tl t)) (hB : Inf B (TL.tl t)) (hm : m.length ≤ 19) (hc : ∀ c ∈ m, okC c) : Good (2 * W + 19) (2 * N + 19) t' := by
  have inl : ∀ {u : List Nat}, Inf u (TL.tl t) → u.length ≤ t.length ∧ ∀ c ∈ u, c ∈ TL.tl t := fun {u} ⟨a, b, e⟩ => by
    rw [TL.len_tl, e]
    exact ⟨by simp only [List.length_append]; omega, fun c hc => List.mem_append_right _ (List.mem_append_left _ hc)⟩
  obtain ⟨a1, a2⟩ := inl hA
  obtain ⟨b1, b2⟩ := inl hB
  have hl := h.len
  refine ⟨?_, ?_, fun c hc' => ?_⟩
  · rw [e]
    exact ((h.run.inf hA).app ((RunL.short hm).app (h.run.inf hB))).mono (by omega)
  · rw [TL.len_tl, e]
    simp only [List.length_append]
    omega
  · rw [e] at hc'
    rcases List.mem_append.mp hc' with x | x
    · exact h.ok c (a2 c x)
    · rcases List.mem_append.mp x with x | x
      · exact hc c x
      · exact h.ok c (b2 c x)
/-! joins -/
theorem join_one {y p : Str} : TL.tl (Str.join y [p]) = TL.tl p := by
  show TL.tl (Str.join y [p]) = _
  rfl
theorem join_two {y p q : Str} {l : List Str} : TL.tl (Str.join y (p :: q :: l)) = TL.tl p ++ (TL.tl y ++ TL.tl (Str.join y (q :: l))) := by
  simp only [Str.join, TL.tl_append, List.append_assoc]
theorem join_set {y w : Str} : ∀ {ws : List Str} {i : Nat} (h : i < ws.length), ∃ A B, TL.tl (Str.join y ws) = A ++ (TL.tl (ws[i]) ++ B) ∧ TL.tl (Str.join y (ws.set i w)) = A ++ (TL.tl w ++ B)
  | [p], 0, _ => ⟨[], [], by rw [join_one]; simp, by show TL.tl (Str.join y [w]) = _; rw [join_one]; simp⟩
  | p :: q :: l, 0, _ => ⟨[], TL.tl y ++ TL.tl (Str.join y (q :: l)), by rw [join_two]; rfl, by show TL.tl (Str.join y (w :: q :: l)) = _; rw [join_two]; rfl⟩
  | p :: q :: l, i + 1, h => by
    obtain ⟨A, B, h1, h2⟩ := join_set (y := y) (w := w) (ws := q :: l) (i := i) (by simpa using h)
    refine ⟨TL.tl p ++ (TL.tl y ++ A), B, ?_, ?_⟩
    · rw [join_two, h1]
      simp
    · cases i with
      | zero =>
        show TL.tl (Str.join y (p :: w :: l)) = _
        have h2' : TL.tl (Str.join y (w :: l)) = A ++ (TL.tl w ++ B) := h2
        rw [join_two, h2']
        simp
      | succ j =>
        show TL.tl (Str.join y (p :: q :: l.set j w)) = _
        have h2' : TL.tl (Str.join y (q :: l.set j w)) = A ++ (TL.tl w ++ B) := h2
        rw [join_two, h2']
        simp
theorem join_inf {y : Str} {ws : List Str} {p : Str} (h : p ∈ ws) : Inf (TL.tl p) (TL.tl (Str.join y ws)) := by
  obtain ⟨i, hi, rfl⟩ := List.getElem_of_mem h
  obtain ⟨A, B, h1, _⟩ := join_set (y := y) (w := Str.empty) hi
  exact ⟨A, B, h1⟩
theorem join_app {y : Str} : ∀ {l k : List Str}, l ≠ [] → k ≠ [] → TL.tl (Str.join y (l ++ k)) = TL.tl (Str.join y l) ++ (TL.tl y ++ TL.tl (Str.join y k))
  | [p], q :: k, _, _ => by
    show TL.tl (Str.join y (p :: q :: k)) = _
    rw [join_two, join_one]
  | p :: q :: l, k, _, hk => by
    show TL.tl (Str.join y (p :: q :: (l ++ k))) = _
    rw [join_two, join_two]
    have := join_app (y := y) (l := q :: l) (k := k) (by simp) hk
    have h2 : TL.tl (Str.join y (q :: (l ++ k))) = TL.tl (Str.join y (q :: l)) ++ (TL.tl y ++ TL.tl (Str.join y k)) := this
    rw [h2]
    simp
  | [], _, h, _ => absurd rfl h
  | [_], [], _, h => absurd rfl h
theorem inf_refl (l : List Nat) : Inf l l := ⟨[], [], by simp⟩
theorem inf_nil (l : List Nat) : Inf [] l := ⟨[], l, by simp⟩
/-- a join with a part left out: what is before, what is behind -/
theorem join_drop {y : Str} (hy : (TL.tl y).length ≤ 19) {ls : List Str} {i : Nat} (h : i < ls.length) : ∃ A m B, TL.tl (Str.join y (ls.take i ++ ls.drop (i + 1))) = A ++ (m ++ B) ∧ Inf A (TL.tl (Str.join y ls)) ∧ Inf B (TL.tl (Str.join y ls)) ∧ m.length ≤ 19 ∧ ∀ c ∈ m, c ∈ TL.tl y := by
  obtain ⟨x, e⟩ : ∃ x, ls = ls.take i ++ (x :: ls.drop (i + 1)) := ⟨ls[i], by rw [← List.drop_eq_getElem_cons h, List.take_append_drop]⟩
  have hA : ls.take i ≠ [] → Inf (TL.tl (Str.join y (ls.take i))) (TL.tl (Str.join y ls)) := fun hn => ⟨[], TL.tl y ++ TL.tl (Str.join y (x :: ls.drop (i + 1))), by
    conv => lhs; rw [e]
    rw [join_app hn (by simp)]
    rfl⟩
  have hB : ls.drop (i + 1) ≠ [] → Inf (TL.tl (Str.join y (ls.drop (i + 1)))) (TL.tl (Str.join y ls)) := fun hn => by
    have e2 : ls = ls.take (i + 1) ++ ls.drop (i + 1) := (List.take_append_drop _ _).symm
    refine ⟨TL.tl (Str.join y (ls.take (i + 1))) ++ TL.tl y, [], ?_⟩
    conv => lhs; rw [e2]
    rw [join_app (fun z => by
      have h3 : (ls.take (i + 1)).length = 0 := by rw [z]; rfl
      rw [List.length_take] at h3
      omega) hn]
    simp
  by_cases h1 : ls.take i = []
  · by_cases h2 : ls.drop (i + 1) = []
    · exact ⟨[], [], [], by rw [h1, h2]; rfl, inf_nil _, inf_nil _, by decide, fun c hc => nomatch hc⟩
    · exact ⟨[], [], _, by rw [h1]; rfl, inf_nil _, hB h2, by decide, fun c hc => nomatch hc⟩
  · by_cases h2 : ls.drop (i + 1) = []
    · exact ⟨_, [], [], by rw [h2]; simp, hA h1, inf_nil _, by decide, fun c hc => nomatch hc⟩
    · exact ⟨_, TL.tl y, _, join_app h1 h2, hA h1, hB h2, hy, fun c hc => hc⟩
theorem cut_to {w : Str} {i : Int} (h : 0 ≤ i) : TL.tl (cutS w none (some i)) = (TL.tl w).take i.toNat := by
  obtain ⟨n, rfl⟩ := Int.eq_ofNat_of_zero_le h
  show (((w.cps.toList.drop (HT.sIx w.length 0 none)).take (HT.sIx w.length w.length (some (n : Int)) - HT.sIx w.length 0 none)).toArray).toList = _
  rw [HT.sIx_none, List.drop_zero, Nat.sub_zero, HT.sIx_nat]
  show (w.cps.toList.take _) = _
  rw [TL.len_tl, Int.toNat_natCast]
  by_cases h : n ≤ (TL.tl w).length
  · rw [Nat.min_eq_left h]
  · rw [Nat.min_eq_right (by omega), List.take_of_length_le (Nat.le_refl _), List.take_of_length_le (by omega)]
theorem cut_from {w : Str} {i : Int} (h : 0 ≤ i) : TL.tl (cutS w (some i) none) = (TL.tl w).drop i.toNat := by
  obtain ⟨n, rfl⟩ := Int.eq_ofNat_of_zero_le h
  show (((w.cps.toList.drop (HT.sIx w.length 0 (some (n : Int)))).take (HT.sIx w.length w.length none - HT.sIx w.length 0 (some (n : Int)))).toArray).toList = _
  rw [HT.sIx_none, HT.sIx_nat, Int.toNat_natCast]
  show ((w.cps.toList.drop _).take _) = _
  rw [TL.len_tl]
  by_cases h : n ≤ (TL.tl w).length
  · rw [Nat.min_eq_left h, List.take_of_length_le (by rw [List.length_drop]; exact Nat.le_refl _)]
  · rw [Nat.min_eq_right (by omega), List.drop_of_length_le (Nat.le_refl _), List.drop_of_length_le (by omega), List.take_nil]
theorem inf_take {l : List Nat} {n : Nat} : Inf (l.take n) l := ⟨[], l.drop n, by simp⟩
theorem inf_drop {l : List Nat} {n : Nat} : Inf (l.drop n) l := ⟨l.take n, [], by simp⟩
theorem Good.fine {W N : Nat} {t : Str} (h : Good W N t) (hW : W ≤ 640) (hN : N ≤ 800000) : FineT t := by
  refine ⟨Nat.le_trans h.len hN, fun l hl => ?_⟩
  have hl2 := linesOf_len hl
  have hls : l ∈ Txt.split t "\n" := by
    unfold linesOf at hl
    split at hl
    · cases hl
    · exact hl
  have i1 : Inf (TL.tl l) (TL.tl t) := by
    have := join_inf (y := "\n") hls
    rw [StrLaws.join_split] at this
    exact this
  refine ⟨by have := h.len; omega, fun w hw => ?_⟩
  have i2 : Inf (TL.tl w) (TL.tl l) := by
    have := join_inf (y := " ") hw
    rw [StrLaws.join_split] at this
    exact this
  obtain ⟨a, b, e1⟩ := i1
  obtain ⟨c, d, e2⟩ := i2
  have e3 : TL.tl t = (a ++ c) ++ (TL.tl w ++ (d ++ b)) := by rw [e1, e2]; simp
  refine ⟨?_, strOk_iff.mpr fun x hx => h.ok x (by rw [e3]; exact List.mem_append_right _ (List.mem_append_left _ hx))⟩
  rw [TL.len_tl]
  refine Nat.le_trans (h.run _ _ _ e3 fun x hx => ⟨fun z => ?_, fun z => ?_⟩) hW
  · exact word_free hw (z ▸ hx)
  · exact line_free hls (part_mem hw (z ▸ hx))
end T1

set_option Elab.async false
set_option linter.all false
set_option maxRecDepth 100000
set_option maxHeartbeats 4000000
namespace T1
open PySem PySem.Spec PyProof.Rows L2 C8 Fm T2
local macro_rules | `(tactic| walk_at "sim1") => `(tactic| with_reducible first
  | exact sim_nil | exact sim_var | exact sim_int | exact sim_str | exact sim_bl | exact sim_non | exact sim_raw
  | apply sim_cons | apply sim_op | apply sim_un | apply sim_tup | apply sim_lst
  | apply sim_CB | apply sim_if | apply sim_test | apply sim_B | apply sim_not | apply sim_and | apply sim_or
  | apply sim_andV | apply sim_orV | apply sim_notV | apply sim_chain | exact sim_nopart | apply sim_part
  | apply sim_sl | apply sim_BML | apply sim_BMS | apply sim_BM0S | apply sim_M1 | apply sim_M0
  | apply sim_fmt | apply sim_joined | exact SimJ.nil | apply SimJ.cons
  | exact s_I0i | exact s_I0b | exact s_Ii | exact s_Ui | exact s_eq | exact s_ne | exact s_isN | exact s_notN | exact s_ixL | exact s_ixT | exact s_ixS
  | exact s_cat | exact s_catA | exact s_rep | exact s_repT | exact s_in | exact s_slL | exact s_slA | exact s_slS | exact s_addS | exact s_leS | exact s_ltS
  | exact c_len | exact c_lenS | exact c_list | exact c_tuple | exact c_int1 | exact c_intS | exact c_strI | exact c_max2 | exact c_min2
  | exact m_append | exact m_extend | exact m_split | exact m_join | exact m_0b | exact m_1b
  | apply sim_call | exact simSpF
  | exact sim_name | exact sim_gnil | apply sim_gcons | apply sim_gtup | apply sim_gsub | exact set_list
  | exact sim_next | apply sim_seq | apply sim_cut | exact sim_break | exact sim_cont | apply sim_drop | apply sim_ret | exact sim_retN
  | apply sim_ifS | exact sim_never | apply sim_asg | apply sim_par | apply sim_aug
  | apply sim_for | apply sim_while | apply i_list | apply i_tup | apply i_rng1 | apply i_rng2 | apply i_str | apply i_enum | apply i_zip
  | apply sim_lc | exact sim_yes | exact sim_namew (by decide) | exact sim_gnilw | apply sim_gconsw | apply sim_gtupw
  | apply sim_fld | apply sim_con | apply sim_setFld | apply sim_make | apply sim_prop | apply sim_meth | apply sim_cmeth | exact c_isi | apply sim_isiT | exact s_eqD | exact s_neD
  | walk_at "sim2")
local macro_rules | `(tactic| walk_at "sim2") => `(tactic| fail)
local macro_rules | `(tactic| walk_at "sim") => `(tactic| repeat' (walk_at "sim1"))
/-- open the trees' reading as far as it goes by itself -/
local macro_rules | `(tactic| walk_at "fm") => `(tactic| simp (config := { failIfUnchanged := false }) only [fVar, fC, fOp, fUn, fNil, fCons, fTup, fLst, fCB, fIf, fTest, fNot, fAnd, fOr, fAndV, fOrV, fNotV, fChain, fNoPart, fPart, fI, fI0, fU, fEq, fNe, fIsN, fNotN, fIxL, fIxT, fIxS,
  fCat, fCatA, fRep, fRepT, fSlL, fSlA, fSlS, fSl, fLen, fLenS, fList, fTuple, fIntS, fStrI, fMax2, fMin2, fAppend, fExtend, fIn, fBM, fMS, fBMS, fBM0S, fAddS, fLeS, fLtS, fM0b, fM1b, fSplit, fJoin, fJoined, fJs,
  fName, fGNil, fGCons, fGTup, fSetL, fGSub, fNext, fSeq, fCut, fBreak, fCont, fDrop, fRet, fRetN, fIfS, fAsg, fPar, fAug, fCall, fFld, fCon, fSetFld, fMake, fProp, fMeth, fCMeth, fIsi, fIsiT, fEqD, fNeD, insAt_ref, insO_ins, fFmt, fmtS_i, fmtS_s, fmtOk_i, fmtOk_s, fIL, fIT, fIR1, fIR2, fIS, fIEn, fIZ,
  startL, List.map_cons, List.map_nil, List.length_cons, List.length_nil, List.cons_append, List.nil_append, List.replicate, List.getElem?_cons_zero, List.getElem?_cons_succ, List.set_cons_zero, List.set_cons_succ, Nat.reduceSub, Nat.reduceAdd,
  Option.some.injEq, Tr.int.injEq, Tr.str.injEq, Tr.bl.injEq, Tr.tup.injEq, Tr.ref.injEq, List.cons.injEq, exists_eq_left, exists_eq_left', exists_eq_right, true_and, and_true, and_self, exists_and_left, tupOf_tup, eqS_ii, eqS_ss, eqS_bb, eqS_ni, eqS_in, eqS_nn, isStr_s, isN_n, isN_i, isN_b, isN_s, isN_t, isN_r, noRaw_n, noRaw_i, noRaw_b, noRaw_s, noRaw_t, noRaw_r, and_assoc, reduceIte, Bool.false_eq_true, exists_const, lstAt_ref, seqAt_ref, seqAt_tup, refAt_ref, lstO_lst, app_assoc2, len_app1, at_kk, at_00, set_k, set_00, Nat.add_assoc, Option.map_some, Prod.mk.injEq, int_cast_inj, Nat.zero_le, decide_eq_true_eq, Bool.not_eq_true', decide_eq_false_iff_not, Nat.add_zero, implies_true, forall_const, ite_true, ite_false, if_true, if_false, decide_true, decide_false, Bool.not_true, Bool.not_false, asg_len, Option.isSome_some])
local macro_rules | `(tactic| walk_at "bel") => `(tactic| first | rfl | (simp (config := { failIfUnchanged := false }) only [belM, O.bel, bels_strs, bels_ints, belL, Tr.bel, Tr.bels, Bool.and_true, Bool.true_and, Bool.and_self, decide_eq_true_eq, Bool.and_eq_true, true_and, and_true, List.length_cons, List.length_nil, Nat.reduceAdd]; try omega))

local macro_rules | `(tactic| walk_at "sim2") => `(tactic| first | exact simDrawn | assumption | apply sim_match | apply SimM2.cons | exact SimM2.nil | apply i_enumT | apply sim_truS | apply sim_listG | apply sim_lcG | apply sim_eitherG | apply sim_methG | apply sim_methJ | apply sim_either | apply sim_sortKey | apply sim_sortSet | apply sim_raiseX)
local macro_rules | `(tactic| walk_at "sim1") => `(tactic| first | (with_reducible apply sim_callX; assumption) | (with_reducible apply sim_methX; assumption) | (with_reducible apply sim_makeX; assumption) | (with_reducible apply sim_makeKX; assumption) | (with_reducible apply sim_makeVSX; assumption) | (with_reducible apply sim_conA) | (with_reducible apply sim_sortSet))
local macro_rules | `(tactic| walk_at "fm2") => `(tactic| simp (config := { failIfUnchanged := false }) only [sm_app, sm_len, sm_at, sm_at0, sm_set, sm_set0, List.getElem?_cons_zero, List.getElem?_cons_succ, List.set_cons_zero, List.set_cons_succ, lstO_lst, Option.isSome_some, Option.map_some, Option.some.injEq, Prod.mk.injEq, Nat.add_assoc, Nat.reduceAdd, exists_eq_left', exists_eq_left, true_and, and_assoc, fRaiseX, fCVal, fNv, int1_i, fEither, fTruS, fIEnT, fMatch, fGoM, setAllT, fMakeK, fMakeVS, fMethJ, fEitherG, fListG, fSortKey, fSortSet, fConA])
local macro_rules | `(tactic| walk_at "fd") => `(tactic| (walk_at "fm"; walk_at "fm2"; walk_at "fm"; walk_at "fm2"; walk_at "fm"))

def fsChanged : FSp := fun ts M P _ => ∃ (t : Str) (d : Ds) (g : Mem) (W N : Nat), ts = [.ref 0, .str t] ∧ M = sm d g ∧ d.ok ∧ Good W N t ∧ N ≤ 300000 ∧ ∀ t' d', d'.ok → Good (2 * W + 19) (2 * N + 19) t' → P (.str t') (sm d' g)
theorem chr_at {i : Int} (h0 : 0 ≤ i) (h1 : i < 28) : ∃ c, atI (" \n0123456789atclosemndbyivr-" : Str).cps.toList i = some c ∧ okC c := by
  have key : ∀ n < 28, ∃ c, (" \n0123456789atclosemndbyivr-" : Str).cps.toList[n]? = some c ∧ okC c := by
    intro n hn
    have hl : (" \n0123456789atclosemndbyivr-" : Str).cps.toList.length = 28 := by decide +kernel
    refine ⟨_, List.getElem?_eq_getElem (by rw [hl]; exact hn), ?_⟩
    have : ∀ c ∈ (" \n0123456789atclosemndbyivr-" : Str).cps.toList, okC c := by
      unfold okC
      decide +kernel
    exact this _ (List.getElem_mem _)
  obtain ⟨c, h2, h3⟩ := key i.toNat (by omega)
  refine ⟨c, ?_, h3⟩
  unfold atI L2.ixN
  rw [if_pos h0, if_pos (by have hl : (" \n0123456789atclosemndbyivr-" : Str).cps.toList.length = 28 := by decide +kernel
                            rw [hl]; exact h1)]
  exact h2
def newWords : List Str := ["0", "24", "51", "1000000000000000001", "by", "at"]
theorem new_at {i : Int} (h0 : 0 ≤ i) (h1 : i < 6) : ∃ w, atI (newWords.map Tr.str) i = some (.str w) ∧ (TL.tl w).length ≤ 19 ∧ ∀ c ∈ TL.tl w, okC c := by
  obtain ⟨n, rfl⟩ := Int.eq_ofNat_of_zero_le h0
  have hn : n < newWords.length := by show n < 6; omega
  refine ⟨newWords[n], atI_nat (by rw [List.getElem?_map, List.getElem?_eq_getElem hn]; rfl), ?_⟩
  have : ∀ w ∈ newWords, (TL.tl w).length ≤ 19 ∧ ∀ c ∈ TL.tl w, okC c := by
    unfold okC
    decide +kernel
  exact this _ (List.getElem_mem hn)
theorem cutT_to {xs : List Tr} {n : Nat} : cutT xs none (some (n : Int)) = xs.take n := by
  unfold cutT
  rw [HT.sIx_none, HT.sIx_nat, List.drop_zero, Nat.sub_zero]
  by_cases h : n ≤ xs.length
  · rw [Nat.min_eq_left h]
  · rw [Nat.min_eq_right (by omega), List.take_of_length_le (Nat.le_refl _), List.take_of_length_le (by omega)]
theorem cutT_from {xs : List Tr} {n : Nat} : cutT xs (some ((n : Int) + 1)) none = xs.drop (n + 1) := by
  unfold cutT
  rw [show (n : Int) + 1 = ((n + 1 : Nat) : Int) by omega, HT.sIx_none, HT.sIx_nat]
  by_cases h : n + 1 ≤ xs.length
  · rw [Nat.min_eq_left h, List.take_of_length_le (by rw [List.length_drop]; exact Nat.le_refl _)]
  · rw [Nat.min_eq_right (by omega), List.drop_of_length_le (Nat.le_refl _), List.drop_of_length_le (by omega), List.take_nil]
theorem keep_sm0 {K : PySem.W.Frag} {H : Hp} {ρ : List Addr} {d d' : Ds} {g h : Mem} {P : PF} {v : Tr} (m : RM K H ρ (sm d g)) (b : Tr.bel (List.length g + 1) v = true) (p : P v (sm d' g)) : Keep (List.length g + 1) P v (sm d' g ++ h) :=
  ⟨List.length g + 1, Nat.le_refl _, b, by rw [show List.length g + 1 = List.length (sm d' g) from rfl, List.take_left]; show belM (List.length g + 1) (sm d' g) = true; rw [belM_sm]; exact bel_g m, by rw [show List.length g + 1 = List.length (sm d' g) from rfl, List.take_left]; exact p⟩
theorem sum_join {y : Str} : ∀ ws : List Str, (ws.map (·.length)).sum ≤ (TL.tl (Str.join y ws)).length
  | [] => Nat.zero_le _
  | [p] => by
    rw [join_one, ← TL.len_tl]
    simp
  | p :: q :: l => by
    have := sum_join (y := y) (q :: l)
    rw [join_two, List.length_append, List.length_append, List.map_cons, List.sum_cons, ← TL.len_tl]
    omega
theorem sum_set {w : Str} : ∀ (ws : List Str) (i : Nat), ((ws.set i w).map (·.length)).sum ≤ (ws.map (·.length)).sum + w.length
  | [], _ => Nat.zero_le _
  | p :: l, 0 => by
    show ((w :: l).map (·.length)).sum ≤ _
    rw [List.map_cons, List.sum_cons, List.map_cons, List.sum_cons]
    omega
  | p :: l, i + 1 => by
    show ((p :: l.set i w).map (·.length)).sum ≤ _
    have := sum_set (w := w) l i
    rw [List.map_cons, List.sum_cons, List.map_cons, List.sum_cons]
    omega
theorem sum_cut : ∀ (ls : List Str) (i : Nat), ((ls.take i ++ ls.drop (i + 1)).map (·.length)).sum ≤ (ls.map (·.length)).sum
  | [], _ => by simp
  | p :: l, 0 => by
    show (l.map (·.length)).sum ≤ _
    rw [List.map_cons, List.sum_cons]
    omega
  | p :: l, i + 1 => by
    have := sum_cut l i
    show ((p :: (l.take i ++ l.drop (i + 1))).map (·.length)).sum ≤ _
    rw [List.map_cons, List.sum_cons, List.map_cons, List.sum_cons]
    omega
section
variable {P : Program} {w : World} {K : PySem.W.Frag} {mg : Str → Option Value} {base : Heap}
theorem scChanged : FnScope ["_law_state", "_law_text", "_law_at", "_law_branch", "_law_character", "_law_words", "_law_some", "_law_lines", "_law_row"] ["_law_state", "_law_text"] (fnScope sChanged) := fnScope_by (by decide +kernel)
theorem ok_changed {f : Addr} {fd : FuncData} (F : Def K mg "_law_changed" sChanged f fd) (b : Binds K fd ["_law_state", "_law_text"] []) (T : BQ mg) (C : Cl P w K mg base) : Cal P w K mg base 2 "_law_changed" (spF K fsChanged) [] := by
  refine cal0 F b .nil scChanged (fun vs H Q E h => ?_) (fun cdv A outer s H vs Q E hr h => ?_)
  · obtain ⟨ts, ρ, M, P, PX, r, m, ⟨t, d, g, W, N, rfl, _⟩, o, ox⟩ := h
    exact r.len
  · refine ⟨_, (pss_cons (ps_par (i := 2) (j := 3) (by rfl) scChanged.nd rfl rfl (by decide) rfl rfl (pa_cons (pe_c C._law_drawn hr (by first | decide | omega) (by rfl) (pa_cons (pv 0) (pa_cons (pe_op op_add (pe_callB call_len_str (by rfl) T.len PySem.boot_len (pa_cons (pv 1) pa_nil)) pe_int) pa_nil))) (pa_cons (pe_c C._law_drawn hr (by first | decide | omega) (by rfl) (pa_cons (pv 0) (pa_cons pe_int pa_nil))) pa_nil)) (by rfl))
 (pss_cons (ps_set (i := 4) scChanged.nd rfl (Or.inl rfl) (pe_ix ix_str pe_str (pe_c C._law_drawn hr (by first | decide | omega) (by rfl) (pa_cons (pv 0) (pa_cons pe_int pa_nil))) (fun _ _ => rfl)))
 (pss_cons (ps_set (i := 5) scChanged.nd rfl (Or.inl rfl) (pe_split (pv 1) pe_str))
 (pss_cons (ps_asg (pe_ix ix_list (pe_lst (pa_cons pe_str (pa_cons pe_str (pa_cons pe_str (pa_cons pe_str (pa_cons pe_str (pa_cons pe_str pa_nil))))))) (pe_c C._law_drawn hr (by first | decide | omega) (by rfl) (pa_cons (pv 0) (pa_cons pe_int pa_nil))) (fun _ _ => rfl)) (pg_sub (pv 5) (pe_c C._law_drawn hr (by first | decide | omega) (by rfl) (pa_cons (pv 0) (pa_cons (pe_callB call_len_seq (by rfl) T.len PySem.boot_len (pa_cons (pv 5) pa_nil)) pa_nil))) set_list))
 (pss_cons (ps_set (i := 6) scChanged.nd rfl (Or.inl rfl) (pe_lst (pa_cons (pe_op op_add_str (pe_op op_add_str (pe_slice sl_str (pv 1) po_none (po_some (pv 2))) (pv 4)) (pe_slice sl_str (pv 1) (po_some (pv 2)) po_none)) (pa_cons (pe_op op_add_str (pe_op op_add_str (pe_slice sl_str (pv 1) po_none (po_some (pv 2))) (pv 4)) (pe_slice sl_str (pv 1) (po_some (pe_op op_add (pv 2) pe_int)) po_none)) (pa_cons (pe_op op_add_str (pe_slice sl_str (pv 1) po_none (po_some (pv 2))) (pe_slice sl_str (pv 1) (po_some (pe_op op_add (pv 2) pe_int)) po_none)) pa_nil)))))
 (pss_cons (ps_set (i := 7) scChanged.nd rfl (Or.inl rfl) (pe_split (pv 1) pe_str))
 (pss_cons (ps_set (i := 8) scChanged.nd rfl (Or.inl rfl) (pe_c C._law_drawn hr (by first | decide | omega) (by rfl) (pa_cons (pv 0) (pa_cons (pe_callB call_len_seq (by rfl) T.len PySem.boot_len (pa_cons (pv 7) pa_nil)) pa_nil))))
 (pss_cons (ps_set (i := 6) scChanged.nd rfl (Or.inl rfl) (pe_op op_cat (pv 6) (pe_lst (pa_cons (pe_join pe_str (pv 5)) (pa_cons (pe_join pe_str (pe_op op_cat (pe_slice sl_list (pv 7) po_none (po_some (pv 8))) (pe_slice sl_list (pv 7) (po_some (pe_op op_add (pv 8) pe_int)) po_none))) (pa_cons (pv 1) (pa_cons (pv 1) pa_nil)))))))
 (pss_one (ps_ret (pe_ix ix_list (pv 6) (pv 3) (fun _ _ => rfl)))))))))))), ?_⟩
    obtain ⟨ts, ρ, M, P, PX, r, m, ⟨t, d, g, W, N, rfl, rfl, hd, hg, hN, q⟩, o, ox⟩ := h
    try simp only [nox_K, cx_K]
    refine run_in r m o (by walk_at "sim") ?_
    walk_at "fd"
    have hl := hg.len
    have hsz : t.length ≤ sizeLine := by rw [sizeLine_eq]; omega
    refine ⟨hsz, ?_⟩
    refine drawn_0 hd (by omega) (by omega) fun a d1 hd1 a0 a1 => ?_
    refine drawn_0 hd1 (by omega) (by omega) fun br d2 hd2 br0 br1 => ?_
    refine drawn_0 hd2 (by omega) (by omega) fun ci d3 hd3 c0 c1 => ?_
    obtain ⟨c, hc, hcm⟩ := chr_at c0 c1
    refine ⟨ci, rfl, by rw [sizeLine_eq]; decide +kernel, c, hc, by decide +kernel, by rw [sizeLine_eq]; omega, by rw [sizeLine_eq]; decide, ?_⟩
    walk_at "fd"
    refine drawn_at hd3 (by omega) (by omega) fun wi d4 hd4 w0 w1 => ?_
    walk_at "fd"
    obtain ⟨nw, hnw, hnwm⟩ := new_at w0 w1
    refine ⟨.str nw, hnw, ?_⟩
    have hws := split_len (x := t) len_sp
    have hwp : 0 < (Txt.split t " ").length := List.length_pos_iff.mpr (split_ne t " ")
    refine drawn_at hd4 (by rw [List.length_map]; omega) (by rw [List.length_map]; omega) fun j d5 hd5 j0 j1 => ?_
    rw [List.length_map] at j1
    walk_at "fd"
    refine ⟨j.toNat, ixN_pos j0 (by rw [List.length_map]; exact j1), ?_⟩
    have a2 : (TL.tl (cutS t none (some a))).length ≤ (TL.tl t).length := by rw [cut_to a0, List.length_take]; omega
    have a3 : (TL.tl (cutS t (some a) none)).length ≤ (TL.tl t).length := by rw [cut_from a0, List.length_drop]; omega
    have a4 : (TL.tl (cutS t (some (a + 1)) none)).length ≤ (TL.tl t).length := by rw [cut_from (by omega), List.length_drop]; omega
    rw [← TL.len_tl, ← TL.len_tl] at a2 a3 a4
    have c1' : ({ cps := #[c] } : Str).length = 1 := rfl
    have hls := split_len (x := t) len_nl
    have hlp : 0 < (Txt.split t "\n").length := List.length_pos_iff.mpr (split_ne t "\n")
    refine ⟨hsz, by rw [sizeLine_eq]; omega, hsz, by rw [sizeLine_eq, Str.length_append]; omega, hsz, by rw [sizeLine_eq]; omega, hsz, by rw [sizeLine_eq, Str.length_append]; omega, hsz, hsz, by rw [sizeLine_eq]; omega, by rw [sizeLine_eq]; decide, by decide +kernel, by rw [sizeLine_eq]; omega, ?_⟩
    refine drawn_at hd5 (by rw [List.length_map]; omega) (by rw [List.length_map]; omega) fun rw_ d6 hd6 r0 r1 => ?_
    rw [List.length_map] at r1
    obtain ⟨rn, rfl⟩ := Int.eq_ofNat_of_zero_le r0
    have hrn : rn < (Txt.split t "\n").length := by omega
    walk_at "fd"
    have hjn : j.toNat < (Txt.split t " ").length := by omega
    have s1 := sum_join (y := " ") (Txt.split t " ")
    rw [StrLaws.join_split, ← TL.len_tl] at s1
    have s2 := sum_set (w := nw) (Txt.split t " ") j.toNat
    have s3 := sum_join (y := "\n") (Txt.split t "\n")
    rw [StrLaws.join_split, ← TL.len_tl] at s3
    have nwl := hnwm.1
    rw [← TL.len_tl] at nwl
    have s4 := sum_cut (Txt.split t "\n") rn
    refine ⟨(Txt.split t " ").set j.toNat nw, by rw [List.map_set], by rw [List.length_set, len_sp]; omega, ?_⟩
    walk_at "fd"
    rw [cutT_to, cutT_from]
    have fin : ∀ (z : Str) (h : Mem), Good (2 * W + 19) (2 * N + 19) z → Keep (List.length g + 1) P (.str z) (sm d6 g ++ h) := fun z h hz => keep_sm0 m rfl (q z d6 hd6 hz)
    have g5 : Good (2 * W + 19) (2 * N + 19) t := hg.mix (A := TL.tl t) (m := []) (B := []) (by simp) (inf_refl _) (inf_nil _) (by decide) (fun c hc => nomatch hc)
    refine ⟨?_, (Txt.split t "\n").take rn ++ (Txt.split t "\n").drop (rn + 1), by rw [List.map_append, List.map_take, List.map_drop], ?_, by rw [sizeLine_eq]; decide, by rw [sizeLine_eq]; decide, ?_⟩
    · rw [sizeLine_eq, List.length_take, List.length_drop, List.length_map]
      omega
    · rw [len_nl, List.length_append, List.length_take, List.length_drop]
      omega
    have hb : br = 0 ∨ br = 1 ∨ br = 2 ∨ br = 3 ∨ br = 4 ∨ br = 5 ∨ br = 6 := by omega
    rcases hb with rfl | rfl | rfl | rfl | rfl | rfl | rfl
    · exact ⟨_, rfl, fin _ _ (hg.mix (m := [c]) (by rw [TL.tl_append, TL.tl_append, cut_to a0, cut_from a0, List.append_assoc] <;> try rfl) inf_take inf_drop (by show 1 ≤ 19; decide) (fun x hx => by rw [List.mem_singleton.mp hx]; exact hcm))⟩
    · exact ⟨_, rfl, fin _ _ (hg.mix (m := [c]) (by rw [TL.tl_append, TL.tl_append, cut_to a0, cut_from (by omega), List.append_assoc] <;> try rfl) inf_take inf_drop (by show 1 ≤ 19; decide) (fun x hx => by rw [List.mem_singleton.mp hx]; exact hcm))⟩
    · exact ⟨_, rfl, fin _ _ (hg.mix (m := []) (by rw [TL.tl_append, cut_to a0, cut_from (by omega)] <;> try rfl) inf_take inf_drop (by decide) (fun x hx => nomatch hx))⟩
    · refine ⟨_, rfl, fin _ _ ?_⟩
      obtain ⟨A, B, h1, h2⟩ := join_set (y := " ") (w := nw) hjn
      rw [StrLaws.join_split] at h1
      rw [TL.join_eq]
      exact hg.mix h2 ⟨[], _, h1⟩ ⟨A ++ TL.tl ((Txt.split t " ")[j.toNat]), [], by rw [h1]; simp⟩ hnwm.1 hnwm.2
    · refine ⟨_, rfl, fin _ _ ?_⟩
      obtain ⟨A, mm, B, h1, h2, h3, h4, h5⟩ := join_drop (y := "\n") (by decide +kernel) hrn
      rw [StrLaws.join_split] at h2 h3
      rw [TL.join_eq]
      refine hg.mix h1 h2 h3 h4 fun c hc => ?_
      have : ∀ c ∈ TL.tl "\n", okC c := by
        unfold okC
        decide +kernel
      exact this c (h5 c hc)
    · exact ⟨_, rfl, fin _ _ g5⟩
    · exact ⟨_, rfl, fin _ _ g5⟩
end
end T1

set_option Elab.async false
set_option linter.all false
set_option maxRecDepth 100000
set_option maxHeartbeats 4000000
namespace T1
open PySem PySem.Spec PyProof.Rows L2 C8 Fm T2
local macro_rules | `(tactic| walk_at "sim1") => `(tactic| with_reducible first
  | exact sim_nil | exact sim_var | exact sim_int | exact sim_str | exact sim_bl | exact sim_non | exact sim_raw
  | apply sim_cons | apply sim_op | apply sim_un | apply sim_tup | apply sim_lst
  | apply sim_CB | apply sim_if | apply sim_test | apply sim_B | apply sim_not | apply sim_and | apply sim_or
  | apply sim_andV | apply sim_orV | apply sim_notV | apply sim_chain | exact sim_nopart | apply sim_part
  | apply sim_sl | apply sim_BML | apply sim_BMS | apply sim_BM0S | apply sim_M1 | apply sim_M0
  | apply sim_fmt | apply sim_joined | exact SimJ.nil | apply SimJ.cons
  | exact s_I0i | exact s_I0b | exact s_Ii | exact s_Ui | exact s_eq | exact s_ne | exact s_isN | exact s_notN | exact s_ixL | exact s_ixT | exact s_ixS
  | exact s_cat | exact s_catA | exact s_rep | exact s_repT | exact s_in | exact s_slL | exact s_slA | exact s_slS | exact s_addS | exact s_leS | exact s_ltS
  | exact c_len | exact c_lenS | exact c_list | exact c_tuple | exact c_int1 | exact c_intS | exact c_strI | exact c_max2 | exact c_min2
  | exact m_append | exact m_extend | exact m_split | exact m_join | exact m_0b | exact m_1b
  | apply sim_call | exact simSpF
  | exact sim_name | exact sim_gnil | apply sim_gcons | apply sim_gtup | apply sim_gsub | exact set_list
  | exact sim_next | apply sim_seq | apply sim_cut | exact sim_break | exact sim_cont | apply sim_drop | apply sim_ret | exact sim_retN
  | apply sim_ifS | exact sim_never | apply sim_asg | apply sim_par | apply sim_aug
  | apply sim_for | apply sim_while | apply i_list | apply i_tup | apply i_rng1 | apply i_rng2 | apply i_str | apply i_enum | apply i_zip
  | apply sim_lc | exact sim_yes | exact sim_namew (by decide) | exact sim_gnilw | apply sim_gconsw | apply sim_gtupw
  | apply sim_fld | apply sim_con | apply sim_setFld | apply sim_make | apply sim_prop | apply sim_meth | apply sim_cmeth | exact c_isi | apply sim_isiT | exact s_eqD | exact s_neD
  | walk_at "sim2")
local macro_rules | `(tactic| walk_at "sim2") => `(tactic| fail)
local macro_rules | `(tactic| walk_at "sim") => `(tactic| repeat' (walk_at "sim1"))
/-- open the trees' reading as far as it goes by itself -/
local macro_rules | `(tactic| walk_at "fm") => `(tactic| simp (config := { failIfUnchanged := false }) only [fVar, fC, fOp, fUn, fNil, fCons, fTup, fLst, fCB, fIf, fTest, fNot, fAnd, fOr, fAndV, fOrV, fNotV, fChain, fNoPart, fPart, fI, fI0, fU, fEq, fNe, fIsN, fNotN, fIxL, fIxT, fIxS,
  fCat, fCatA, fRep, fRepT, fSlL, fSlA, fSlS, fSl, fLen, fLenS, fList, fTuple, fIntS, fStrI, fMax2, fMin2, fAppend, fExtend, fIn, fBM, fMS, fBMS, fBM0S, fAddS, fLeS, fLtS, fM0b, fM1b, fSplit, fJoin, fJoined, fJs,
  fName, fGNil, fGCons, fGTup, fSetL, fGSub, fNext, fSeq, fCut, fBreak, fCont, fDrop, fRet, fRetN, fIfS, fAsg, fPar, fAug, fCall, fFld, fCon, fSetFld, fMake, fProp, fMeth, fCMeth, fIsi, fIsiT, fEqD, fNeD, insAt_ref, insO_ins, fFmt, fmtS_i, fmtS_s, fmtOk_i, fmtOk_s, fIL, fIT, fIR1, fIR2, fIS, fIEn, fIZ,
  startL, List.map_cons, List.map_nil, List.length_cons, List.length_nil, List.cons_append, List.nil_append, List.replicate, List.getElem?_cons_zero, List.getElem?_cons_succ, List.set_cons_zero, List.set_cons_succ, Nat.reduceSub, Nat.reduceAdd,
  Option.some.injEq, Tr.int.injEq, Tr.str.injEq, Tr.bl.injEq, Tr.tup.injEq, Tr.ref.injEq, List.cons.injEq, exists_eq_left, exists_eq_left', exists_eq_right, true_and, and_true, and_self, exists_and_left, tupOf_tup, eqS_ii, eqS_ss, eqS_bb, eqS_ni, eqS_in, eqS_nn, isStr_s, isN_n, isN_i, isN_b, isN_s, isN_t, isN_r, noRaw_n, noRaw_i, noRaw_b, noRaw_s, noRaw_t, noRaw_r, and_assoc, reduceIte, Bool.false_eq_true, exists_const, lstAt_ref, seqAt_ref, seqAt_tup, refAt_ref, lstO_lst, app_assoc2, len_app1, at_kk, at_00, set_k, set_00, Nat.add_assoc, Option.map_some, Prod.mk.injEq, int_cast_inj, Nat.zero_le, decide_eq_true_eq, Bool.not_eq_true', decide_eq_false_iff_not, Nat.add_zero, implies_true, forall_const, ite_true, ite_false, if_true, if_false, decide_true, decide_false, Bool.not_true, Bool.not_false, asg_len, Option.isSome_some])
local macro_rules | `(tactic| walk_at "bel") => `(tactic| first | rfl | (simp (config := { failIfUnchanged := false }) only [belM, O.bel, bels_strs, bels_ints, belL, Tr.bel, Tr.bels, Bool.and_true, Bool.true_and, Bool.and_self, decide_eq_true_eq, Bool.and_eq_true, true_and, and_true, List.length_cons, List.length_nil, Nat.reduceAdd]; try omega))

local macro_rules | `(tactic| walk_at "sim2") => `(tactic| first | exact simDrawn | assumption | apply sim_match | apply SimM2.cons | exact SimM2.nil | apply i_enumT | apply sim_truS | apply sim_listG | apply sim_lcG | apply sim_eitherG | apply sim_methG | apply sim_methJ | apply sim_either | apply sim_sortKey | apply sim_sortSet | apply sim_raiseX)
local macro_rules | `(tactic| walk_at "sim1") => `(tactic| first | (with_reducible apply sim_callX; assumption) | (with_reducible apply sim_methX; assumption) | (with_reducible apply sim_makeX; assumption) | (with_reducible apply sim_makeKX; assumption) | (with_reducible apply sim_makeVSX; assumption) | (with_reducible apply sim_conA) | (with_reducible apply sim_sortSet))
local macro_rules | `(tactic| walk_at "fm2") => `(tactic| simp (config := { failIfUnchanged := false }) only [sm_app, sm_len, sm_at, sm_at0, sm_set, sm_set0, List.getElem?_cons_zero, List.getElem?_cons_succ, List.set_cons_zero, List.set_cons_succ, lstO_lst, Option.isSome_some, Option.map_some, Option.some.injEq, Prod.mk.injEq, Nat.add_assoc, Nat.reduceAdd, exists_eq_left', exists_eq_left, true_and, and_assoc, fRaiseX, fCVal, fNv, int1_i, fEither, fTruS, fIEnT, fMatch, fGoM, setAllT, fMakeK, fMakeVS, fMethJ, fEitherG, fListG, fSortKey, fSortSet, fConA])
local macro_rules | `(tactic| walk_at "fd") => `(tactic| (walk_at "fm"; walk_at "fm2"; walk_at "fm"; walk_at "fm2"; walk_at "fm"))

local macro_rules | `(tactic| walk_at "sim1") => `(tactic| with_reducible apply sim_isiT)
/-! ### the law's comparison -/
def SameT : Nat → Mem → Tr → Tr → Prop
  | 0, _, x, y => (∃ i, x = .int i ∧ y = .int i) ∨ ∃ s, x = .str s ∧ y = .str s
  | n + 1, M, x, y => ((∃ i, x = .int i ∧ y = .int i) ∨ ∃ s, x = .str s ∧ y = .str s) ∨ ∃ xs ys, ((x = .tup xs ∧ y = .tup ys) ∨ (lstAt M x = some xs ∧ lstAt M y = some ys)) ∧ xs.length = ys.length ∧ xs.length ≤ 1000 ∧ ∀ (i : Nat) a b, xs[i]? = some a → ys[i]? = some b → SameT n M a b
def fsSame (n : Nat) : FSp := fun ts M P _ => ∃ x y, ts = [x, y] ∧ SameT n M x y ∧ P (.bl true) M
theorem kb_int_tuple : kitB "int" "tuple" = some false := by decide +kernel
theorem kb_int_list : kitB "int" "list" = some false := by decide +kernel
theorem kb_int_bool : kitB "int" "bool" = some false := by decide +kernel
theorem kb_int_int : kitB "int" "int" = some true := by decide +kernel
theorem kb_tuple_tuple : kitB "tuple" "tuple" = some true := by decide +kernel
theorem kb_tuple_list : kitB "tuple" "list" = some false := by decide +kernel
theorem kb_tuple_bool : kitB "tuple" "bool" = some false := by decide +kernel
theorem kb_tuple_int : kitB "tuple" "int" = some false := by decide +kernel
theorem kb_list_tuple : kitB "list" "tuple" = some false := by decide +kernel
theorem kb_list_list : kitB "list" "list" = some true := by decide +kernel
theorem kb_list_bool : kitB "list" "bool" = some false := by decide +kernel
theorem kb_list_int : kitB "list" "int" = some false := by decide +kernel
theorem kb_str_tuple : kitB "str" "tuple" = some false := by decide +kernel
theorem kb_str_list : kitB "str" "list" = some false := by decide +kernel
theorem kb_str_bool : kitB "str" "bool" = some false := by decide +kernel
theorem kb_str_int : kitB "str" "int" = some false := by decide +kernel
/-- an item of a list or a tuple -/
def fIxQ : F2 := fun x y M P => ∃ ts i t, seqAt M x = some ts ∧ y = .int i ∧ atI ts i = some t ∧ P t M
theorem seqAt_cases {M : Mem} {x : Tr} {ts : List Tr} (h : seqAt M x = some ts) : lstAt M x = some ts ∨ tupOf x = some ts := by
  cases x with
  | tup us => exact .inr h
  | _ => exact .inl h
theorem s_ixQ {K : PySem.W.Frag} : Sim2 K (rIx K) fIxQ := ⟨fun hm rx ry ⟨ts, i, t, e1, e2, e3, p⟩ o => by
  rcases seqAt_cases e1 with h | h
  · exact .inl (s_ixL.run hm rx ry ⟨ts, i, t, h, e2, e3, p⟩ o)
  · exact .inr (.inl (s_ixT.run hm rx ry ⟨ts, i, t, h, e2, e3, p⟩ o))⟩
local macro_rules | `(tactic| walk_at "sim2") => `(tactic| exact s_ixQ)
structure Csm (P : Program) (w : World) (K : PySem.W.Frag) (mg : Str → Option Value) (base : Heap) (k n : Nat) : Prop where
  _law_same : Cal P w K mg base k "_law_same" (spF K (fsSame n)) []
theorem lstAt_mono {M g : Mem} {x : Tr} {ts : List Tr} (h : lstAt M x = some ts) : lstAt (M ++ g) x = some ts := by
  cases x with
  | ref n =>
    rw [lstAt_ref] at h ⊢
    cases e : M[n]? with
    | none => rw [e] at h; cases h
    | some o => rw [at_l e, ← e]; exact h
  | _ => exact h
theorem seqAt_lst {M : Mem} {x : Tr} {ts : List Tr} (h : lstAt M x = some ts) : seqAt M x = some ts := by
  cases x with
  | tup us => cases h
  | _ => exact h
theorem tyN_lst {M : Mem} {x : Tr} {ts : List Tr} (h : lstAt M x = some ts) : tyN M x = some "list" := by
  cases x with
  | ref n =>
    show (match lstAt M (.ref n) with | some _ => some "list" | none => none) = _
    rw [h]
  | _ => cases h
theorem SameT.mono : ∀ {n : Nat} {M : Mem} {x y : Tr} (g : Mem), SameT n M x y → SameT n (M ++ g) x y
  | 0, _, _, _, _, h => h
  | n + 1, M, x, y, g, h => by
    rcases h with h | ⟨xs, ys, h1, h2, h3, h4⟩
    · exact .inl h
    · refine .inr ⟨xs, ys, ?_, h2, h3, fun i a b ha hb => SameT.mono g (h4 i a b ha hb)⟩
      rcases h1 with h1 | ⟨h1, h5⟩
      · exact .inl h1
      · refine .inr ⟨lstAt_mono h1, lstAt_mono h5⟩
section
variable {P : Program} {w : World} {K : PySem.W.Frag} {mg : Str → Option Value} {base : Heap}
theorem scSame : FnScope ["_law_result", "_law_expected_here", "_law_k"] ["_law_result", "_law_expected_here"] (fnScope sSame) := fnScope_by (by decide +kernel)
theorem ok_same0 {f : Addr} {fd : FuncData} (F : Def K mg "_law_same" sSame f fd) (b : Binds K fd ["_law_result", "_law_expected_here"] []) (T : BQ mg) : Cal P w K mg base 1 "_law_same" (spF K (fsSame 0)) [] := by
  refine cal0 F b .nil scSame (fun vs H Q E h => ?_) (fun cdv A outer s H vs Q E hr h => ?_)
  · obtain ⟨ts, ρ, M, P, PX, r, m, ⟨x, y, rfl, _⟩, o, ox⟩ := h
    exact r.len
  · refine ⟨_, (pss_cons (ps_if (pt_val (pe_callB call_isiT (by rfl) T.isinstance (by decide +kernel) (pa_cons (pv 1) (pa_cons (pe_tup (pa_cons (pe_bltn (v := .ty "tuple") (by rfl) T.tuple (by decide +kernel) rfl) (pa_cons (pe_bltn (v := .ty "list") (by rfl) T.list (by decide +kernel) rfl) pa_nil))) pa_nil)))) (pss_cons (ps_if (PW.pt (pw_or (pt_not (pt_val (pe_callB call_isiT (by rfl) T.isinstance (by decide +kernel) (pa_cons (pv 0) (pa_cons (pe_tup (pa_cons (pe_bltn (v := .ty "tuple") (by rfl) T.tuple (by decide +kernel) rfl) (pa_cons (pe_bltn (v := .ty "list") (by rfl) T.list (by decide +kernel) rfl) pa_nil))) pa_nil))))) (pw_or1 (pt_cmpR op_ne (pe_callB call_isi (by rfl) T.isinstance (by decide +kernel) (pa_cons (pv 0) (pa_cons (pe_bltn (v := .ty "list") (by rfl) T.list (by decide +kernel) rfl) pa_nil))) (pe_callB call_isi (by rfl) T.isinstance (by decide +kernel) (pa_cons (pv 1) (pa_cons (pe_bltn (v := .ty "list") (by rfl) T.list (by decide +kernel) rfl) pa_nil))) (nomark _))))) (pss_one (ps_ret pe_bl)) pss_nil)
 (pss_cons (ps_if (pt_cmpR op_ne (pe_callB call_len_seq (by rfl) T.len PySem.boot_len (pa_cons (pv 0) pa_nil)) (pe_callB call_len_seq (by rfl) T.len PySem.boot_len (pa_cons (pv 1) pa_nil)) (nomark _)) (pss_one (ps_ret pe_bl)) pss_nil)
 (pss_one ps_never))) pss_nil)
 (pss_cons (ps_if (pt_cmpR op_ne (pe_callB call_isi (by rfl) T.isinstance (by decide +kernel) (pa_cons (pv 0) (pa_cons (pe_bltn (v := .ty "bool") (by rfl) T.bool (by decide +kernel) rfl) pa_nil))) (pe_callB call_isi (by rfl) T.isinstance (by decide +kernel) (pa_cons (pv 1) (pa_cons (pe_bltn (v := .ty "bool") (by rfl) T.bool (by decide +kernel) rfl) pa_nil))) (nomark _)) (pss_one (ps_ret pe_bl)) pss_nil)
 (pss_one (ps_ret (pe_and (pe_cmpR op_eq (pe_callB call_isi (by rfl) T.isinstance (by decide +kernel) (pa_cons (pv 0) (pa_cons (pe_bltn (v := .ty "int") (by rfl) T.int (by decide +kernel) rfl) pa_nil))) (pe_callB call_isi (by rfl) T.isinstance (by decide +kernel) (pa_cons (pv 1) (pa_cons (pe_bltn (v := .ty "int") (by rfl) T.int (by decide +kernel) rfl) pa_nil))) (nomark _)) (pe_one (pe_cmpR op_eq (pv 0) (pv 1) (nomark _)))))))), ?_⟩
    obtain ⟨ts, ρ, M, P, PX, r, m, ⟨x, y, rfl, hs, q⟩, o, ox⟩ := h
    try simp only [nox_K, cx_K]
    refine run_in r m o (by walk_at "sim") ?_
    have nd : ∀ M z, tyN M (.str z) = some "str" := fun _ _ => rfl
    have ni : ∀ M i, tyN M (.int i) = some "int" := fun _ _ => rfl
    rcases hs with ⟨i, rfl, rfl⟩ | ⟨z, rfl, rfl⟩
    · walk_at "fm"
      simp only [Tr.raw.injEq, V.ty.injEq, exists_eq_left', ni, Option.some.injEq, kb_int_tuple, kb_int_list, kb_int_bool, kb_int_int, Bool.or_false, Bool.false_eq_true, if_false, if_true]
      walk_at "fm"
      first | exact keep_same m rfl q | (rw [if_neg (by simp)]; exact keep_same m rfl q)
    · walk_at "fm"
      simp only [Tr.raw.injEq, V.ty.injEq, exists_eq_left', nd, Option.some.injEq, kb_str_tuple, kb_str_list, kb_str_bool, kb_str_int, Bool.or_false, Bool.false_eq_true, if_false, if_true]
      walk_at "fm"
      first | exact keep_same m rfl q | (rw [if_neg (by simp)]; exact keep_same m rfl q)
theorem ok_sameN {f : Addr} {fd : FuncData} {k n : Nat} (F : Def K mg "_law_same" sSame f fd) (b : Binds K fd ["_law_result", "_law_expected_here"] []) (T : BQ mg) (C : Csm P w K mg base k n) : Cal P w K mg base (k + 1) "_law_same" (spF K (fsSame (n + 1))) [] := by
  refine cal0 F b .nil scSame (fun vs H Q E h => ?_) (fun cdv A outer s H vs Q E hr h => ?_)
  · obtain ⟨ts, ρ, M, P, PX, r, m, ⟨x, y, rfl, _⟩, o, ox⟩ := h
    exact r.len
  · refine ⟨_, (pss_cons (ps_if (pt_val (pe_callB call_isiT (by rfl) T.isinstance (by decide +kernel) (pa_cons (pv 1) (pa_cons (pe_tup (pa_cons (pe_bltn (v := .ty "tuple") (by rfl) T.tuple (by decide +kernel) rfl) (pa_cons (pe_bltn (v := .ty "list") (by rfl) T.list (by decide +kernel) rfl) pa_nil))) pa_nil)))) (pss_cons (ps_if (PW.pt (pw_or (pt_not (pt_val (pe_callB call_isiT (by rfl) T.isinstance (by decide +kernel) (pa_cons (pv 0) (pa_cons (pe_tup (pa_cons (pe_bltn (v := .ty "tuple") (by rfl) T.tuple (by decide +kernel) rfl) (pa_cons (pe_bltn (v := .ty "list") (by rfl) T.list (by decide +kernel) rfl) pa_nil))) pa_nil))))) (pw_or1 (pt_cmpR op_ne (pe_callB call_isi (by rfl) T.isinstance (by decide +kernel) (pa_cons (pv 0) (pa_cons (pe_bltn (v := .ty "list") (by rfl) T.list (by decide +kernel) rfl) pa_nil))) (pe_callB call_isi (by rfl) T.isinstance (by decide +kernel) (pa_cons (pv 1) (pa_cons (pe_bltn (v := .ty "list") (by rfl) T.list (by decide +kernel) rfl) pa_nil))) (nomark _))))) (pss_one (ps_ret pe_bl)) pss_nil)
 (pss_cons (ps_if (pt_cmpR op_ne (pe_callB call_len_seq (by rfl) T.len PySem.boot_len (pa_cons (pv 0) pa_nil)) (pe_callB call_len_seq (by rfl) T.len PySem.boot_len (pa_cons (pv 1) pa_nil)) (nomark _)) (pss_one (ps_ret pe_bl)) pss_nil)
 (pss_one (ps_ret (pe_cmpR (op_eqD hr.units) (pe_lc (own := [("_law_k", 2)]) (g := gName 2) rfl scSame.nd (pi_range1 (by rfl) T.range (pa_cons (pe_callB call_len_seq (by rfl) T.len PySem.boot_len (pa_cons (pv 1) pa_nil)) pa_nil)) (blkOk_by (N := ["_law_result", "_law_expected_here", "_law_k"]) (sc := fnScope sSame) (by decide +kernel)) (fun _ _ _ _ _ => pg_name (i := 2) scSame.nd rfl (Or.inl rfl)) (fun _ _ _ _ _ => (pts_one (pt_not (pt_val (pe_c C._law_same hr (by first | decide | omega) (by rfl) (pa_cons (pe_ix (ix_seqK (K := K) rfl) (pv 0) (pv 2) (fun _ _ => rfl)) (pa_cons (pe_ix (ix_seqK (K := K) rfl) (pv 1) (pv 2) (fun _ _ => rfl)) pa_nil))))))) (fun _ _ _ _ _ => (pv 2))) (pe_lst pa_nil) (nomark _)))))) pss_nil)
 (pss_cons (ps_if (pt_cmpR op_ne (pe_callB call_isi (by rfl) T.isinstance (by decide +kernel) (pa_cons (pv 0) (pa_cons (pe_bltn (v := .ty "bool") (by rfl) T.bool (by decide +kernel) rfl) pa_nil))) (pe_callB call_isi (by rfl) T.isinstance (by decide +kernel) (pa_cons (pv 1) (pa_cons (pe_bltn (v := .ty "bool") (by rfl) T.bool (by decide +kernel) rfl) pa_nil))) (nomark _)) (pss_one (ps_ret pe_bl)) pss_nil)
 (pss_one (ps_ret (pe_and (pe_cmpR op_eq (pe_callB call_isi (by rfl) T.isinstance (by decide +kernel) (pa_cons (pv 0) (pa_cons (pe_bltn (v := .ty "int") (by rfl) T.int (by decide +kernel) rfl) pa_nil))) (pe_callB call_isi (by rfl) T.isinstance (by decide +kernel) (pa_cons (pv 1) (pa_cons (pe_bltn (v := .ty "int") (by rfl) T.int (by decide +kernel) rfl) pa_nil))) (nomark _)) (pe_one (pe_cmpR op_eq (pv 0) (pv 1) (nomark _)))))))), ?_⟩
    obtain ⟨ts, ρ, M, P, PX, r, m, ⟨x, y, rfl, hs, q⟩, o, ox⟩ := h
    try simp only [nox_K, cx_K]
    refine run_in r m o (by walk_at "sim") ?_
    have nd : ∀ M z, tyN M (.str z) = some "str" := fun _ _ => rfl
    have ni : ∀ M i, tyN M (.int i) = some "int" := fun _ _ => rfl
    rcases hs with (⟨i, rfl, rfl⟩ | ⟨z, rfl, rfl⟩) | ⟨xs, ys, hxy, hl, hz, hn⟩
    · walk_at "fm"
      simp only [Tr.raw.injEq, V.ty.injEq, exists_eq_left', ni, Option.some.injEq, kb_int_tuple, kb_int_list, kb_int_bool, kb_int_int, Bool.or_false, Bool.false_eq_true, if_false, if_true]
      walk_at "fm"
      first | exact keep_same m rfl q | (rw [if_neg (by simp)]; exact keep_same m rfl q)
    · walk_at "fm"
      simp only [Tr.raw.injEq, V.ty.injEq, exists_eq_left', nd, Option.some.injEq, kb_str_tuple, kb_str_list, kb_str_bool, kb_str_int, Bool.or_false, Bool.false_eq_true, if_false, if_true]
      walk_at "fm"
      first | exact keep_same m rfl q | (rw [if_neg (by simp)]; exact keep_same m rfl q)
    · have sx : seqAt M x = some xs ∧ seqAt M y = some ys := by
        rcases hxy with ⟨rfl, rfl⟩ | ⟨h1, h2⟩
        · exact ⟨rfl, rfl⟩
        · exact ⟨seqAt_lst h1, seqAt_lst h2⟩
      obtain ⟨sx, sy⟩ := sx
      obtain ⟨a, ha, hb, k1, k2, hor, hk1, hk2⟩ : ∃ a, tyN M x = some a ∧ tyN M y = some a ∧ ∃ r1 r2, (r1 || r2) = true ∧ kitB a "tuple" = some r1 ∧ kitB a "list" = some r2 := by
        rcases hxy with ⟨rfl, rfl⟩ | ⟨h1, h2⟩
        · exact ⟨"tuple", rfl, rfl, true, false, rfl, kb_tuple_tuple, kb_tuple_list⟩
        · exact ⟨"list", tyN_lst h1, tyN_lst h2, false, true, rfl, kb_list_tuple, kb_list_list⟩
      walk_at "fm"
      refine ⟨a, hb, k1, hk1, k2, hk2, ?_⟩
      rw [if_pos hor]
      refine ⟨a, ha, k1, hk1, k2, hk2, ?_⟩
      rw [if_neg (by rw [hor]; decide)]
      refine ⟨"list", rfl, a, ha, k2, hk2, "list", rfl, a, hb, k2, hk2, ?_⟩
      rw [if_neg (by simp)]
      refine ⟨xs, sx, ys, sy, ?_⟩
      rw [if_neg (by simpa using hl)]
      refine lc_R (k := ys.length) (fun _ => none) (fun R hR => ?_) m.belM (by rw [sizeLine_eq]; omega) (fun t ht z hz => by cases hz) (fun t ht => ?_) ?_
      · walk_at "fm"
        exact ⟨ys, sy, by omega, by omega, by rw [Int.toNat_natCast]; exact hR⟩
      · obtain ⟨i, hi⟩ := List.mem_iff_getElem?.mp ht
        obtain ⟨hi1, rfl⟩ := rngT_get hi
        rw [Int.zero_add]
        intro R N hR hN
        have hx1 : xs[i]? = some (xs[i]'(by omega)) := List.getElem?_eq_getElem (by omega)
        have hy1 : ys[i]? = some (ys[i]'hi1) := List.getElem?_eq_getElem hi1
        simp only [wipeF]
        walk_at "fm"
        refine ⟨xs, (i : Int), _, sx, rfl, atI_nat hx1, ys, (i : Int), _, sy, rfl, atI_nat hy1, _, _, rfl, hn i _ _ hx1 hy1, true, rfl, ?_⟩
        rw [if_neg (by decide)]
        exact (hN rfl).1
      · have ef : (rngT 0 ys.length).filterMap (fun _ => (none : Option Tr)) = [] := by simp
        rw [ef]
        walk_at "fm"
        exact ⟨.list [], .lst (lstAt_of at_0) .nil, .list [], .lst (lstAt_of (by rw [at_kk]; rfl)) .nil, by decide +kernel, by decide +kernel, keep_app m rfl q⟩
end
end T1

set_option Elab.async false
set_option linter.all false
set_option maxRecDepth 100000
namespace L2
open PySem PySem.Spec PyProof.Rows
/-! several except clauses, some with a name -/
abbrev Clause := Value × Option Nat × (Addr → Value → Option Addr → TS)
def offS (D : Ends) : Option Nat → Ends
  | none => D
  | some j => { nx := fun τ G => D.nx (τ.set j none) G, rt := D.rt, bk := fun τ G => D.bk (τ.set j none) G, ct := fun τ G => D.ct (τ.set j none) G }
def onS (τ : St) (e : Addr) : Option Nat → St
  | none => τ
  | some j => τ.set j (some (.ref e))
def wMix (K : PySem.W.Frag) (Wo : WX) (D : Ends) : List Clause → WX
  | [] => Wo
  | (c, o, ts) :: r => fun cl d τ G => ∃ yes, PySem.W.exmOne K cl c = some yes ∧
      (yes = true → ∀ e, G e = none → ts e cl d (offS D o) (onS τ e o) G) ∧ (yes = false → wMix K Wo D r cl d τ G)
inductive MixOk (X : Cx) : List ExceptHandler → List Clause → Prop
  | nil : MixOk X [] []
  | bare {y : Str} {c : Value} {ts : Addr → Value → Option Addr → TS} {st : Stmt} {sts : List Stmt} {q1 q2 : Pos} {hs : List ExceptHandler} {l : List Clause} (hc : Names X y c)
      (su : ∀ (e : Addr) (oe : Obj) (cl : Value) (d : Option Addr) (pn : List (Addr × Obj)), Zc cl d oe → (∃ vs, oe.data = .fields vs) → PSs (X.suite e ((e, oe) :: pn)) (st :: sts) (ts e cl d)) (r : MixOk X hs l) :
      MixOk X (.ExceptHandler (some (.Name y q1)) none (st :: sts) q2 :: hs) ((c, none, ts) :: l)
  | named {y n : Str} {j : Nat} {c : Value} {ts : Addr → Value → Option Addr → TS} {st : Stmt} {sts : List Stmt} {q1 q2 : Pos} {hs : List ExceptHandler} {l : List Clause} (hc : Names X y c) (hj : X.N[j]? = some n) (hl : X.env.kindOf n = some .local)
      (su : ∀ (e : Addr) (oe : Obj) (cl : Value) (d : Option Addr) (pn : List (Addr × Obj)), Zc cl d oe → (∃ vs, oe.data = .fields vs) → PSs (X.suite e ((e, oe) :: pn)) (st :: sts) (ts e cl d)) (r : MixOk X hs l) :
      MixOk X (.ExceptHandler (some (.Name y q1)) (some n) (st :: sts) q2 :: hs) ((c, some j, ts) :: l)
section
variable {X : Cx} {bd : List Stmt} {h0 : ExceptHandler} {hs : List ExceptHandler} {l : List Clause} {p : Pos} {tb : WX → TS} {Wo : WX}
theorem ps_try_mix (e1 : X.stack = X.env :: X.outer) (e2 : X.env.frame = some X.env.locals) (nd : X.N.Nodup) (tk : Takes X Wo)
    (hb : ∀ (W : WX) (pn : List (Addr × Obj)) (xe : Value → Shared → Prop), Takes (X.tr pn xe) W → PassesOwn (model X.prog X.w) X.A X.env xe → PSs (X.tr pn xe) bd (tb W))
    (mo : MixOk X (h0 :: hs) l) : PS X (.Try bd (h0 :: hs) [] [] p) (fun D τ G => tb (wMix X.K Wo D l) D τ G) := by
  refine ⟨fun pins s0 τ G D J0 w0 => ?_⟩
  have ok := J0.ok
  have fr : X.A.frames = some (X.env :: X.outer) := ok.frames.trans (congrArg some e1)
  refine wpAny_Try_except (wpAny_mono ((hb (wMix X.K Wo D l) (X.pn ++ pins) (fun u t1 => wpAny (model X.prog X.w) X.A (noteFrame u X.env) (fun _ t2 => wpAny (model X.prog X.w) X.A (setFlight u none)
    (fun _ t3 => wpAny (model X.prog X.w) X.A (handleBy u X.env (h0 :: hs)) (SP X pins D) X.xe t3) X.xe t2) X.xe t1) (fun u t xx => ?_) PassesOwn.looking).run [] s0 τ G D (J0.toTry _) w0) (fun fl t sp => ?_) (fun u t hu => hu))
  · obtain ⟨e, B, sI, pins', τ', G', cl, d, rfl, J1, nb, up, sky, ne, os, ag, w⟩ := xx
    have J : Inv X pins τ' G' sI := J1.ofTry ok
    have sky' : Sky B (X.env :: X.outer) e (Zc cl d) X.env.locals t.heap := e1 ▸ sky
    show wpAny (model X.prog X.w) X.A (noteFrame (.ref e) X.env) _ _ _
    refine Sky.land Zc.steady fr e2 sky' fun g3 fl3 up3 => ?_
    have J3 : Inv X pins τ' G' { t with heap := g3 } := J.landed nb fl3.1 (up.trans up3) os ag
    obtain ⟨o3, vs3, at3, z3, f3⟩ := fl3.there
    have nfr : e ∉ frs (X.env :: X.outer) := fun hm => by
      obtain ⟨_, o', at', nn⟩ := fl3.2.2.1.mem hm
      cases at3.symm.trans at'
      exact nn _ f3
    have nL : e ≠ X.env.locals := fun z => nfr (List.mem_filterMap.mpr ⟨X.env, .head _, e2.trans (congrArg some z.symm)⟩)
    have nF : e ∉ X.fs := fun hm => by
      obtain ⟨v, hv, q⟩ := List.mem_filterMap.mp hm
      exact nfr (List.mem_filterMap.mpr ⟨v, .tail _ hv, q⟩)
    have S3 := J3.suite at3 f3 ne nL nF
    have LT : PySem.W.Looks (model X.prog X.w) g3 (typeOf (.ref e)) cl := fun A Q E s k q => wpAny_typeOf_ref (k _ _ at3) (z3.1 ▸ q)
    have test : ∀ {y : Str} {c : Value} {q1 : Pos} {Q E : Value → Shared → Prop}, Names X y c → Q c { t with heap := g3 } → wpAny (model X.prog X.w) (X.A.mark (some (.ref e))) (eval (.Name y q1) X.env) Q E { t with heap := g3 } := by
      intro y c q1 Q E hc q
      obtain ⟨gl, db, m | ⟨m, v, n⟩⟩ := hc
      · exact ld_glob (X := X.suite e ((e, o3) :: (X.pn ++ pins))) S3 gl m q db
      · exact ld_blt (X := X.suite e ((e, o3) :: (X.pn ++ pins))) S3 gl m v q n db
    have go : ∀ {hs' : List ExceptHandler} {l' : List Clause}, MixOk X hs' l' → wMix X.K Wo D l' cl d τ' G' →
        wpAny (model X.prog X.w) X.A (handleBy (.ref e) X.env hs') (SP X pins D) X.xe { t with heap := g3 } := by
      intro hs' l' hk
      induction hk with
      | nil =>
        intro wo
        refine wpAny_handleBy_nil ?_
        obtain ⟨_, _, _, oe, vs, T, oT, ts', at4, z4, f4, x1, x2⟩ := id fl3
        unfold PySem.passOn
        refine wpAny_bind (wpAny_field at4 f4 x1 ?_)
        rw [if_neg (show ¬ ((Value.ref T == Value.none) = true) by simp)]
        have last : wpAny (model X.prog X.w) X.A (setFlight (.ref e) X.env.frame) (fun _ t4 => wpAny (model X.prog X.w) X.A (throw (.ref e) : Sem Flow) (SP X pins D) X.xe t4) X.xe { t with heap := g3 } := by
          rw [e2]
          exact HandSPX.setFlight_upZ fl3 fun g4 sk4 up4 => wpAny_throw (tk _ _ ⟨e, B, sI, pins, τ', G', cl, d, rfl, J, nb, (up.trans up3).trans up4, .inr (.inr (e1.symm ▸ sk4)), ne, os, ag, wo⟩)
        first
          | exact wpAny_bind (wpAny_pure (wpAny_bind last))
          | exact wpAny_bind last
      | @bare y c ts st sts q1 q2 hs2 l2 hc su r ih =>
        rintro ⟨yes, m1, w1, w2⟩
        refine wpAny_handleBy_cons (codeAny_handlers_test (test hc ((PySem.W.exm_one (M := model X.prog X.w) J3.kIn LT m1).here ?_))) (by intro q; cases q)
        cases yes with
        | false => exact ih (w2 rfl)
        | true =>
          refine codeAny_handlers_suite (HandSPX.lands_againZ fl3 fun g4 fl4 up4 => ?_)
          have J4 : Inv X pins τ' G' { t with heap := g4 } := J.landed nb fl4.1 ((up.trans up3).trans up4) os ag
          obtain ⟨o4, vs4, at4, z4, f4⟩ := fl4.there
          refine wpAny_mono ((su e o4 cl d (X.pn ++ pins) z4 ⟨_, f4⟩).run [] _ _ G' _ (J4.suite at4 f4 ne nL nF) (w1 rfl e ne)) (fun fl t6 sp => ?_) (fun _ _ z => False.elim z)
          cases fl with
          | ret u => obtain ⟨v, τ6, G6, S6, r6, q6⟩ := sp; exact ⟨v, τ6, G6, S6.unsuite ok, r6, q6⟩
          | next => obtain ⟨τ6, G6, S6, q6⟩ := sp; exact ⟨τ6, G6, S6.unsuite ok, q6⟩
          | brk => obtain ⟨τ6, G6, S6, q6⟩ := sp; exact ⟨τ6, G6, S6.unsuite ok, q6⟩
          | cont => obtain ⟨τ6, G6, S6, q6⟩ := sp; exact ⟨τ6, G6, S6.unsuite ok, q6⟩
      | @named y n j c ts st sts q1 q2 hs2 l2 hc hj hl su r ih =>
        rintro ⟨yes, m1, w1, w2⟩
        refine wpAny_handleBy_cons (codeAny_handlers_test (test hc ((PySem.W.exm_one (M := model X.prog X.w) J3.kIn LT m1).here ?_))) (by intro q; cases q)
        cases yes with
        | false => exact ih (w2 rfl)
        | true =>
          refine codeAny_handlers_suite_as (HandSPX.lands_againZ fl3 fun g4 fl4 up4 => ?_)
          have J4 : Inv X pins τ' G' { t with heap := g4 } := J.landed nb fl4.1 ((up.trans up3).trans up4) os ag
          obtain ⟨o4, vs4, at4, z4, f4⟩ := fl4.there
          refine store_ok (X := X.suite e ((e, o4) :: (X.pn ++ pins))) (v := .ref e) (J4.suite at4 f4 ne nL nF) nd hj (.inl hl) rfl (fun t5 S5 => ?_) (.inr hl)
          refine wpAny_mono ((su e o4 cl d (X.pn ++ pins) z4 ⟨_, f4⟩).run [] t5 _ G' _ S5 (w1 rfl e ne)) (fun fl t6 sp => ?_) (fun _ _ z => False.elim z)
          cases fl with
          | ret u => obtain ⟨v, τ6, G6, S6, r6, q6⟩ := sp; exact gone_ok (S6.unsuite ok) nd hj hl fun t7 J7 => ⟨v, _, G6, J7, r6, q6⟩
          | next => obtain ⟨τ6, G6, S6, q6⟩ := sp; exact gone_ok (S6.unsuite ok) nd hj hl fun t7 J7 => ⟨_, G6, J7, q6⟩
          | brk => obtain ⟨τ6, G6, S6, q6⟩ := sp; exact gone_ok (S6.unsuite ok) nd hj hl fun t7 J7 => ⟨_, G6, J7, q6⟩
          | cont => obtain ⟨τ6, G6, S6, q6⟩ := sp; exact gone_ok (S6.unsuite ok) nd hj hl fun t7 J7 => ⟨_, G6, J7, q6⟩
    exact go mo w
  · cases fl with
    | ret u => obtain ⟨v, τ', G', J', r, q⟩ := sp; exact ⟨v, τ', G', J'.ofTry ok, r, q⟩
    | next => obtain ⟨τ', G', J', q⟩ := sp; exact wpAny_execs_nil ⟨τ', G', J'.ofTry ok, q⟩
    | brk => obtain ⟨τ', G', J', q⟩ := sp; exact ⟨τ', G', J'.ofTry ok, q⟩
    | cont => obtain ⟨τ', G', J', q⟩ := sp; exact ⟨τ', G', J'.ofTry ok, q⟩
end
end L2

set_option Elab.async false
set_option linter.all false
set_option maxRecDepth 100000
set_option maxHeartbeats 4000000
namespace T1
open PySem PySem.Spec PyProof.Rows L2 C8
local macro_rules | `(tactic| walk_at "hf") => `(tactic| (fail_if_success (show (fun _ => none : Hp) _ = _)); first | assumption | with_reducible exact upd_same | ((with_reducible show upd _ _ _ _ = _); first | exact up_new' (by assumption) (by walk_at "hf") | exact up_set (by walk_at "ne") (by walk_at "hf")) | exact Same.at' (by assumption) (by walk_at "hf") | exact But.at' (by assumption) (by walk_at "ne") (by walk_at "ne") (by walk_at "hf"))
local macro_rules | `(tactic| walk_at "hf0") => `(tactic| (fail_if_success (show (fun _ => none : Hp) _ = _)); first | assumption | with_reducible exact upd_same | ((with_reducible show upd _ _ _ _ = _); exact up_new' (by assumption) (by walk_at "hf0")))
local macro_rules | `(tactic| walk_at "ne") => `(tactic| first | assumption | (apply Ne.symm; assumption) | exact ne_of_none' (by assumption) (by walk_at "hf0") | exact Ne.symm (ne_of_none' (by assumption) (by walk_at "hf0")) | exact LSt.f1 (by assumption) (by walk_at "lst") | exact LSt.f2 (by assumption) (by walk_at "lst"))
local macro_rules | `(tactic| walk_at "sqt") => `(tactic| (fail_if_success (show SqT _ (fun _ => none) _ _)); first | assumption | exact SqT.of' (by walk_at "hf") | ((with_reducible show SqT _ (upd _ _ _) _ _); first | exact SqT.new' (by assumption) (by walk_at "sqt") | exact SqT.put' (by walk_at "hf") (by walk_at "sqt")) | exact Same.tup (by assumption) (by walk_at "sqt") | exact But.tup (by assumption) (by walk_at "lst") (by walk_at "sqt"))
local macro_rules | `(tactic| walk_at "sql") => `(tactic| (fail_if_success (show SqL _ (fun _ => none) _ _)); first | assumption | exact SqL.of' (by walk_at "hf") | ((with_reducible show SqL _ (upd _ _ _) _ _); exact SqL.new' (by assumption) (by walk_at "sql")) | exact Same.sql' (by assumption) (by walk_at "sql"))
local macro_rules | `(tactic| walk_at "lst") => `(tactic| (fail_if_success (show LSt (fun _ => none) _ _)); first | assumption | ((with_reducible show LSt (upd _ _ _) _ _); first | exact LSt.new (by walk_at "lst") (by assumption) | exact LSt.put (by walk_at "lst") (by walk_at "ne") (by walk_at "ne")) | exact LSt.same' (by assumption) (by walk_at "lst"))
local macro_rules | `(tactic| walk_at "but") => `(tactic| first | assumption | exact But.refl _ _ _ | ((with_reducible show But _ _ _ (upd _ _ _)); exact But.nw (by assumption) (by walk_at "but")) | exact But.bu (by assumption) (by walk_at "but") | exact But.sm (by assumption) (by walk_at "but"))
local macro_rules | `(tactic| walk_at "ls") => `(tactic| first | assumption | exact Ls.same (by walk_at "ls") (Same.upd' (by assumption)))
local macro_rules | `(tactic| walk_at "ll") => `(tactic| first | assumption | exact LL.same (by walk_at "ll") (Same.upd' (by assumption)) | exact LL.same' (by assumption) (by walk_at "ll") | exact LL.but' (by assumption) (by walk_at "lst") (by walk_at "ll"))
local macro_rules | `(tactic| walk_at "sm") => `(tactic| first | assumption | exact Same.refl _ | ((with_reducible show Same _ (upd _ _ _)); first | exact Same.put' (by assumption) (by walk_at "sm") | exact Same.trans (by walk_at "sm") (Same.upd' (by assumption))) | exact Same.trans (by walk_at "sm") (by assumption))
/-- one step of a reading -/
local macro_rules | `(tactic| walk_at "rd") => `(tactic| first
  | with_reducible refine iteF ?_
  | with_reducible refine iteT ?_
  | with_reducible refine itNotF ?_
  | with_reducible refine itNotT ?_
  | refine ⟨_, rfl, ?_⟩
  | refine ⟨_, _, rfl, rfl, ?_⟩
  | refine ⟨_, _, rfl, ?_⟩
  | refine ⟨(_ : Addr), (_ : List V), (_ : Int), (_ : V), rfl, rfl, SqL.of' (by walk_at "hf"), (by first | assumption | rfl), ?_⟩
  | refine ⟨(_ : Addr), (_ : List V), (_ : Int), (_ : V), rfl, rfl, (by walk_at "sqt" : SqT _ _ _ _), (by first | assumption | rfl), ?_⟩
  | refine .inl ⟨_, rfl, ?_⟩
  | refine ⟨_, _, rfl, .inl (by walk_at "sql" : SqL _ _ _ _), ?_⟩
  | refine ⟨_, _, rfl, .inl ⟨(by walk_at "sql" : SqL _ _ _ _), fun p hp => ?_⟩⟩
  | refine ⟨_, _, rfl, .inr ⟨(by walk_at "sqt" : SqT _ _ _ _), ?_⟩⟩
  | refine fun (p : Addr) (hp : (_ : Hp) p = none) => ?_
  | refine ⟨_, _, rfl, .inr (by walk_at "sqt" : SqT _ _ _ _), ?_⟩
  | refine And.intro (by show _ ≤ sizeLine; first | decide | walk_at "sz") (fun p hp => ?_)
  | refine ⟨(_ : Addr), (_ : Addr), (_ : List V), (_ : List V), rfl, rfl, (by walk_at "hf"), (by walk_at "hf"), (by walk_at "sz"), fun p hp => ?_⟩
  | refine ⟨(_ : Addr), (_ : Addr), (_ : List V), (_ : List V), rfl, rfl, (by walk_at "hf"), (by walk_at "hf"), (by walk_at "sz"), ?_⟩
  | refine ⟨(_ : Addr), (_ : List V), (_ : Int), (_ : Nat), rfl, rfl, (by walk_at "hf"), (by rfl), ?_⟩
  | refine And.intro ⟨_, (by walk_at "sql" : SqL _ _ _ _)⟩ ?_
  | refine And.intro ⟨_, (by walk_at "sqt" : SqT _ _ _ _)⟩ ?_
  | refine And.intro (.inl ⟨rfl, _, SqL.of' (by walk_at "hf")⟩) ?_
  | refine And.intro (by walk_at "cond") ?_
  | exact .inl ⟨rfl, _, SqL.of' (by walk_at "hf")⟩
  | with_reducible refine iteT ?_
  | with_reducible refine iteF ?_
  | refine And.intro (by rfl : scal _ _ = true) ?_
  | refine And.intro (by rfl : _ = V.non) ?_
  | refine And.intro (by rfl : wipe _ _ = wipe _ _) ?_
  | refine And.intro (by rfl : (_ : List V) = []) ?_
  | refine ⟨(_ : Addr), (_ : List V), rfl, (by walk_at "sqt" : SqT _ _ _ _), (by rfl), ?_⟩)
/-- a test: known, or both ways -/
local macro_rules | `(tactic| walk_at "if") => `(tactic| first
  | with_reducible refine itD (by omega) ?_
  | with_reducible refine itN (by omega) ?_
  | with_reducible refine itnD (by omega) ?_
  | with_reducible refine itnN (by omega) ?_
  | with_reducible refine itE (by omega) ?_
  | with_reducible refine itEn (by omega) ?_
  | with_reducible refine itnE (by omega) ?_
  | with_reducible refine itnEn (by omega) ?_
  | with_reducible refine itN (by intro z; cases z) ?_
  | with_reducible refine itD (by decide) ?_
  | with_reducible refine itN (by decide) ?_
  | with_reducible refine itnD (by decide) ?_
  | with_reducible refine itnN (by decide) ?_)
local macro_rules | `(tactic| walk_at "if2") => `(tactic| first
  | with_reducible refine itS (fun z => ?_) (fun z => ?_)
  | with_reducible refine itS' (fun z => ?_) (fun z => ?_)
  | with_reducible refine itSE (fun z => ?_) (fun z => ?_)
  | with_reducible refine itnS (fun z => ?_) (fun z => ?_)
  | with_reducible refine itnS' (fun z => ?_) (fun z => ?_)
  | with_reducible refine itnSE (fun z => ?_) (fun z => ?_))
local macro_rules | `(tactic| walk_at "go") => `(tactic| repeat' (first | walk_at "rd" | walk_at "if" | walk_at "if2" | fail))
local macro_rules | `(tactic| walk_at "sz") => `(tactic| (rw [sizeLine_eq]; simp only [List.length_append, List.length_map, List.length_cons, List.length_nil]; omega))
local macro_rules | `(tactic| walk_at "cond") => `(tactic| first | assumption | (show (_ : Int) ≠ 0; first | omega | (split <;> omega)) | (show (0 : Int) < _; first | assumption | decide) | exact ⟨by decide, by decide, by decide⟩ | exact .inr ⟨by decide, by decide⟩ | exact wide_div (b := 64) (by assumption) (by omega) (by decide) (by decide) | exact ⟨by decide, by decide⟩)


/-! ### what the catcher makes of a call -/
structure Errs2 (K : PySem.W.Frag) (mg : Str → Option Value) (CT CW : Addr) : Prop where
  gT : mg "InvalidText" = some (.ref CT)
  gW : mg "InvalidWork" = some (.ref CW)
  tt : PySem.W.exmOne K (.ref CT) (.ref CT) = some true
  wt : PySem.W.exmOne K (.ref CW) (.ref CT) = some false
  ww : PySem.W.exmOne K (.ref CW) (.ref CW) = some true
  xt : XfC K CT
  xw : XfC K CW
  nR : PySem.W.findIn K (.ref CT) "row" = some none
  nI : PySem.W.findIn K (.ref CW) "index" = some none
def ErrOf2 (K : PySem.W.Frag) (CT CW : Addr) (Q : VK) : XK := fun cls d H' =>
  (cls = .ref CT ∧ ∃ dd i, d = some dd ∧ H' dd = some (.xd (ixF "row" i)) ∧ ∀ b H'', Same H' H'' → SqT K H'' b [.str "InvalidText", .int i] → Q (.ref b) H'') ∨
  (cls = .ref CW ∧ ∃ dd i, d = some dd ∧ H' dd = some (.xd (ixF "index" i)) ∧ ∀ b H'', Same H' H'' → SqT K H'' b [.str "InvalidWork", .int i] → Q (.ref b) H'')
def TTout (K : PySem.W.Frag) (CT CW : Addr) : (XK → Hp → VK → Prop) → Hp → VK → Prop := fun tl H Q => tl (ErrOf2 K CT CW Q) H Q
def TCall2 (f c' : Addr) (q : Str) (tl : XK → Hp → VK → Prop) : WX → TS := fun W D σ H =>
  ∃ Ech : XK, (∀ cls d σ' H', Ech cls d H' → W cls d σ' H') ∧ σ[0]? = some (some (.ref f)) ∧ H c' = some (LamX.CodeO c' q) ∧ tl Ech H D.rt
def TSx (K : PySem.W.Frag) (nm fld : Str) (CX : Addr) : Addr → Value → Option Addr → TS := fun a cls d D σ H => cls = .ref CX ∧ ∃ (τ : L2.St) (dd : Addr) (i : Int), σ = τ.set 1 (some (.ref a)) ∧ d = some dd ∧ H dd = some (.xd (ixF fld i)) ∧ ∀ b H'', Same H H'' → SqT K H'' b [.str nm, .int i] → D.rt (.ref b) H''
theorem scOutc : FnScope ["_law_work", "e"] ["_law_work"] (fnScope sOutcome) := fnScope_by (by decide +kernel)
theorem outc_gives {X : Cx} {g CT CW : Addr} {cdg : Value} {q : Str} (T1 : Errs2 X.K X.mg CT CW) :
    LamX.GivesTo X ["_law_work", "e"] "_law_outcome" (fnScope sOutcome) g cdg (fnBody sOutcome) "_law_work" q (TTout X.K CT CW) := by
  intro f c' s H Q tl act hc h
  let X0 : Cx := (cxOf C8.CX0 X.prog X.w X.K X.mg X.base ["_law_work", "e"] "_law_outcome" (fnScope sOutcome) g cdg X.A X.stack s H C8.E0).nox
  refine ⟨_, pss_one (ps_try_mix (X := X0) (l := [(.ref CT, some 1, TSx X.K "InvalidText" "row" CT), (.ref CW, some 1, TSx X.K "InvalidWork" "index" CW)]) (tb := TCall2 f c' q tl) (Wo := fun _ _ _ _ => False) rfl rfl scOutc.nd LamX.takes0 (fun W pn xe tk _ => ?_)
    (.named (n := "e") (j := 1) ⟨rfl, by decide, .inl T1.gT⟩ rfl rfl (fun a oe cls d pn hz hf => ?_) (.named (n := "e") (j := 1) ⟨rfl, by decide, .inl T1.gW⟩ rfl rfl (fun a oe cls d pn hz hf => ?_) .nil))), ?_⟩
  · refine ⟨fun pins s1 σ H1 D I h1 => ?_⟩
    obtain ⟨Ech, hW, e1, e2, e3⟩ := h1
    exact (pss_one (ps_ret (act W pn xe Ech _ _ tk hW))).run pins s1 σ H1 D I ⟨e1, e2, e3⟩
  · refine ⟨fun pins s1 σ H1 D I h1 => ?_⟩
    obtain ⟨rfl, τ, dd, i, rfl, rfl, hdd, k⟩ := h1
    have two : τ.length = 2 := (List.length_set ..).symm.trans I.len
    match τ, two with
    | [v0, _], _ =>
      refine (pss_one (ps_ret (pe_tup (pa_cons pe_str (pa_cons (pe_xf (X := X0) T1.xt T1.nR hz hf (pv 1)) pa_nil))))).run pins s1 _ H1 D I ?_
      walk_at "go"
      exact ⟨rfl, rfl, dd, ixF "row" i, .int i, rfl, hdd, rfl, by rw [sizeLine_eq]; exact (by decide : 2 ≤ 16777216), fun p hp => k p _ (by walk_at "sm") (SqT.of' upd_same)⟩
  · refine ⟨fun pins s1 σ H1 D I h1 => ?_⟩
    obtain ⟨rfl, τ, dd, i, rfl, rfl, hdd, k⟩ := h1
    have two : τ.length = 2 := (List.length_set ..).symm.trans I.len
    match τ, two with
    | [v0, _], _ =>
      refine (pss_one (ps_ret (pe_tup (pa_cons pe_str (pa_cons (pe_xf (X := X0) T1.xw T1.nI hz hf (pv 1)) pa_nil))))).run pins s1 _ H1 D I ?_
      walk_at "go"
      exact ⟨rfl, rfl, dd, ixF "index" i, .int i, rfl, hdd, rfl, by rw [sizeLine_eq]; exact (by decide : 2 ≤ 16777216), fun p hp => k p _ (by walk_at "sm") (SqT.of' upd_same)⟩
  · refine ⟨ErrOf2 X.K CT CW Q, fun cls d σ H1 h1 => ?_, rfl, hc, h⟩
    rcases h1 with ⟨rfl, dd, i, rfl, hdd, k⟩ | ⟨rfl, dd, i, rfl, hdd, k⟩
    · exact ⟨true, T1.tt, fun _ a ha => ⟨rfl, σ, dd, i, rfl, rfl, hdd, k⟩, fun z => Bool.noConfusion z⟩
    · exact ⟨false, T1.wt, (fun z => Bool.noConfusion z), fun _ => ⟨true, T1.ww, fun _ a ha => ⟨rfl, σ, dd, i, rfl, rfl, hdd, k⟩, fun z => Bool.noConfusion z⟩⟩
/-! ### the catcher with a lambda, said of trees -/
section
open Fm
def outX (CT CW : Addr) (P : PF) : PXF := fun C fs M' => (C = CT ∧ ∃ i, fs = ixT "row" i ∧ P (.tup [.str "InvalidText", .int i]) M') ∨ (C = CW ∧ ∃ i, fs = ixT "index" i ∧ P (.tup [.str "InvalidWork", .int i]) M')
def fOut (CT CW : Addr) (T : List (Addr × Str)) (fb : PXF → FE) : FE := fun L M P => TabsM T M ∧ fb (outX CT CW P) L M P
variable {K : PySem.W.Frag} {B : Bs} {H H1 : Hp} {ρ : List Addr} {M : Mem} {CT CW : Addr} {T : List (Addr × Str)} {fld : Str}
theorem xr_ix {i : Int} {d : Option Addr} (x : XR K H ρ (ixT fld i) d) : ∃ dd, d = some dd ∧ H dd = some (.xd (ixF fld i)) := by
  rcases x with ⟨x, _⟩ | ⟨dd, gs, rfl, h, y1, r1, rfl, h1, rfl⟩
  · cases x
  · rw [h1.int_inv] at h
    exact ⟨dd, rfl, h⟩
theorem sim_out {t : XK → TE} {fb : PXF → FE} (s : ∀ (B : Bs) (E : XK) (PX : PXF), OutX K B.1 B.2 PX E → SimE K B (t E) (fb PX)) : SimE K B (LamX.tLam T (TTout K CT CW) t) (fOut CT CW T fb) := ⟨fun {σ H ρ L M P Q} hl hm h o => by
  obtain ⟨ta, h⟩ := h
  refine ⟨ta.heap hm, fun H1 e1 T1 => ?_⟩
  obtain ⟨g1, m1⟩ := tabs_grow e1 T1 ta hm
  have hE : OutX K H1 ρ (outX CT CW P) (ErrOf2 K CT CW Q) := fun C fs d H' ρ' M' g m x p => by
    rcases p with ⟨rfl, i, rfl, p1⟩ | ⟨rfl, i, rfl, p1⟩
    · obtain ⟨dd, rfl, hdd⟩ := xr_ix x
      refine .inl ⟨rfl, dd, i, rfl, hdd, fun b H'' sm sq => ?_⟩
      obtain ⟨g2, m2⟩ := same_grow sm m
      exact o _ _ _ _ _ ((g1.trans g).trans g2) m2 (by unfold RT; exact ⟨b, _, rfl, sq, RTs.cons RT.str_ (RTs.cons RT.int_ RTs.nil)⟩) p1
    · obtain ⟨dd, rfl, hdd⟩ := xr_ix x
      refine .inr ⟨rfl, dd, i, rfl, hdd, fun b H'' sm sq => ?_⟩
      obtain ⟨g2, m2⟩ := same_grow sm m
      exact o _ _ _ _ _ ((g1.trans g).trans g2) m2 (by unfold RT; exact ⟨b, _, rfl, sq, RTs.cons RT.str_ (RTs.cons RT.int_ RTs.nil)⟩) p1
  exact (s (H1, ρ) _ _ hE).run ⟨(hl.mono g1).rl, Grow.refl⟩ m1 h (o.step g1)⟩
/-! ### isinstance(x, tuple) of a schedule -/
structure TyC (K : PySem.W.Frag) (C : Addr) : Prop where
  cl : Cls K C
  ha : PySem.W.findIn K (.ref C) "__class__" = some (some (.builtin "object.__class__"))
  hn : PySem.W.specialIn K (.builtin "object.__class__") "__get__" = some (some (.builtin "getset_descriptor.__get__"))
  htk : PySem.W.takesIn K (.builtin "object.__class__") = some true
  hm : PySem.W.mroIn K C (.type "object") = some true
  kt : PySem.W.kitOne K (.ref C) (.type "tuple") = some false
def fIsTup (C : Addr) (fe : FE) : FE := fun L M P => fe L M fun x M1 => (∃ ts, x = .tup ts ∧ P (.bl true) M1) ∨ (∃ n fs, insAt M1 x = some (n, C, fs) ∧ P (.bl false) M1)
theorem sim_isTup {C : Addr} {te : TE} {fe : FE} (TC : TyC K C) (a : SimE K B te fe) : SimE K B (tCB (rIsi K) (tCons te (tCons (tC (.ty "tuple")) tNil))) (fIsTup C fe) := ⟨fun hl hm h o => a.run hl hm h fun x xv H1 ρ1 M1 g1 m1 rx hh => by
  rcases hh with ⟨ts, rfl, p⟩ | ⟨n, fs, e, p⟩
  · exact ⟨_, _, .type "tuple", .type "tuple", true, rfl, .ty "tuple", ty_ok m1 rx rfl, kit_ty rfl, o _ _ _ _ _ g1 m1 RT.bl_ p⟩
  · obtain ⟨b, dx, gs, rfl, h1, h2, rfl, h3, h4, h5⟩ := insAt_ok m1 rx e
    exact ⟨_, _, _, _, _, rfl, .ty "tuple", .base (.ins h3 TC.cl TC.ha TC.hn TC.htk TC.hm), TC.kt, o _ _ _ _ _ g1 m1 RT.bl_ p⟩⟩
end
end T1

set_option Elab.async false
set_option linter.all false
set_option maxRecDepth 100000
set_option maxHeartbeats 4000000
namespace T1
open PySem PySem.Spec PyProof.Rows L2 C8 Fm T2
local macro_rules | `(tactic| walk_at "hf") => `(tactic| (fail_if_success (show (fun _ => none : Hp) _ = _)); first | assumption | with_reducible exact upd_same | ((with_reducible show upd _ _ _ _ = _); first | exact up_new' (by assumption) (by walk_at "hf") | exact up_set (by walk_at "ne") (by walk_at "hf")) | exact Same.at' (by assumption) (by walk_at "hf") | exact But.at' (by assumption) (by walk_at "ne") (by walk_at "ne") (by walk_at "hf"))
local macro_rules | `(tactic| walk_at "hf0") => `(tactic| (fail_if_success (show (fun _ => none : Hp) _ = _)); first | assumption | with_reducible exact upd_same | ((with_reducible show upd _ _ _ _ = _); exact up_new' (by assumption) (by walk_at "hf0")))
local macro_rules | `(tactic| walk_at "ne") => `(tactic| first | assumption | (apply Ne.symm; assumption) | exact ne_of_none' (by assumption) (by walk_at "hf0") | exact Ne.symm (ne_of_none' (by assumption) (by walk_at "hf0")) | exact LSt.f1 (by assumption) (by walk_at "lst") | exact LSt.f2 (by assumption) (by walk_at "lst"))
local macro_rules | `(tactic| walk_at "sqt") => `(tactic| (fail_if_success (show SqT _ (fun _ => none) _ _)); first | assumption | exact SqT.of' (by walk_at "hf") | ((with_reducible show SqT _ (upd _ _ _) _ _); first | exact SqT.new' (by assumption) (by walk_at "sqt") | exact SqT.put' (by walk_at "hf") (by walk_at "sqt")) | exact Same.tup (by assumption) (by walk_at "sqt") | exact But.tup (by assumption) (by walk_at "lst") (by walk_at "sqt"))
local macro_rules | `(tactic| walk_at "sql") => `(tactic| (fail_if_success (show SqL _ (fun _ => none) _ _)); first | assumption | exact SqL.of' (by walk_at "hf") | ((with_reducible show SqL _ (upd _ _ _) _ _); exact SqL.new' (by assumption) (by walk_at "sql")) | exact Same.sql' (by assumption) (by walk_at "sql"))
local macro_rules | `(tactic| walk_at "lst") => `(tactic| (fail_if_success (show LSt (fun _ => none) _ _)); first | assumption | ((with_reducible show LSt (upd _ _ _) _ _); first | exact LSt.new (by walk_at "lst") (by assumption) | exact LSt.put (by walk_at "lst") (by walk_at "ne") (by walk_at "ne")) | exact LSt.same' (by assumption) (by walk_at "lst"))
local macro_rules | `(tactic| walk_at "but") => `(tactic| first | assumption | exact But.refl _ _ _ | ((with_reducible show But _ _ _ (upd _ _ _)); exact But.nw (by assumption) (by walk_at "but")) | exact But.bu (by assumption) (by walk_at "but") | exact But.sm (by assumption) (by walk_at "but"))
local macro_rules | `(tactic| walk_at "ls") => `(tactic| first | assumption | exact Ls.same (by walk_at "ls") (Same.upd' (by assumption)))
local macro_rules | `(tactic| walk_at "ll") => `(tactic| first | assumption | exact LL.same (by walk_at "ll") (Same.upd' (by assumption)) | exact LL.same' (by assumption) (by walk_at "ll") | exact LL.but' (by assumption) (by walk_at "lst") (by walk_at "ll"))
local macro_rules | `(tactic| walk_at "sm") => `(tactic| first | assumption | exact Same.refl _ | ((with_reducible show Same _ (upd _ _ _)); first | exact Same.put' (by assumption) (by walk_at "sm") | exact Same.trans (by walk_at "sm") (Same.upd' (by assumption))) | exact Same.trans (by walk_at "sm") (by assumption))
/-- one step of a reading -/
local macro_rules | `(tactic| walk_at "rd") => `(tactic| first
  | with_reducible refine iteF ?_
  | with_reducible refine iteT ?_
  | with_reducible refine itNotF ?_
  | with_reducible refine itNotT ?_
  | refine ⟨_, rfl, ?_⟩
  | refine ⟨_, _, rfl, rfl, ?_⟩
  | refine ⟨_, _, rfl, ?_⟩
  | refine ⟨(_ : Addr), (_ : List V), (_ : Int), (_ : V), rfl, rfl, SqL.of' (by walk_at "hf"), (by first | assumption | rfl), ?_⟩
  | refine ⟨(_ : Addr), (_ : List V), (_ : Int), (_ : V), rfl, rfl, (by walk_at "sqt" : SqT _ _ _ _), (by first | assumption | rfl), ?_⟩
  | refine .inl ⟨_, rfl, ?_⟩
  | refine ⟨_, _, rfl, .inl (by walk_at "sql" : SqL _ _ _ _), ?_⟩
  | refine ⟨_, _, rfl, .inl ⟨(by walk_at "sql" : SqL _ _ _ _), fun p hp => ?_⟩⟩
  | refine ⟨_, _, rfl, .inr ⟨(by walk_at "sqt" : SqT _ _ _ _), ?_⟩⟩
  | refine fun (p : Addr) (hp : (_ : Hp) p = none) => ?_
  | refine ⟨_, _, rfl, .inr (by walk_at "sqt" : SqT _ _ _ _), ?_⟩
  | refine And.intro (by show _ ≤ sizeLine; first | decide | walk_at "sz") (fun p hp => ?_)
  | refine ⟨(_ : Addr), (_ : Addr), (_ : List V), (_ : List V), rfl, rfl, (by walk_at "hf"), (by walk_at "hf"), (by walk_at "sz"), fun p hp => ?_⟩
  | refine ⟨(_ : Addr), (_ : Addr), (_ : List V), (_ : List V), rfl, rfl, (by walk_at "hf"), (by walk_at "hf"), (by walk_at "sz"), ?_⟩
  | refine ⟨(_ : Addr), (_ : List V), (_ : Int), (_ : Nat), rfl, rfl, (by walk_at "hf"), (by rfl), ?_⟩
  | refine And.intro ⟨_, (by walk_at "sql" : SqL _ _ _ _)⟩ ?_
  | refine And.intro ⟨_, (by walk_at "sqt" : SqT _ _ _ _)⟩ ?_
  | refine And.intro (.inl ⟨rfl, _, SqL.of' (by walk_at "hf")⟩) ?_
  | refine And.intro (by walk_at "cond") ?_
  | exact .inl ⟨rfl, _, SqL.of' (by walk_at "hf")⟩
  | with_reducible refine iteT ?_
  | with_reducible refine iteF ?_
  | refine And.intro (by rfl : scal _ _ = true) ?_
  | refine And.intro (by rfl : _ = V.non) ?_
  | refine And.intro (by rfl : wipe _ _ = wipe _ _) ?_
  | refine And.intro (by rfl : (_ : List V) = []) ?_
  | refine ⟨(_ : Addr), (_ : List V), rfl, (by walk_at "sqt" : SqT _ _ _ _), (by rfl), ?_⟩)
/-- a test: known, or both ways -/
local macro_rules | `(tactic| walk_at "if") => `(tactic| first
  | with_reducible refine itD (by omega) ?_
  | with_reducible refine itN (by omega) ?_
  | with_reducible refine itnD (by omega) ?_
  | with_reducible refine itnN (by omega) ?_
  | with_reducible refine itE (by omega) ?_
  | with_reducible refine itEn (by omega) ?_
  | with_reducible refine itnE (by omega) ?_
  | with_reducible refine itnEn (by omega) ?_
  | with_reducible refine itN (by intro z; cases z) ?_
  | with_reducible refine itD (by decide) ?_
  | with_reducible refine itN (by decide) ?_
  | with_reducible refine itnD (by decide) ?_
  | with_reducible refine itnN (by decide) ?_)
local macro_rules | `(tactic| walk_at "if2") => `(tactic| first
  | with_reducible refine itS (fun z => ?_) (fun z => ?_)
  | with_reducible refine itS' (fun z => ?_) (fun z => ?_)
  | with_reducible refine itSE (fun z => ?_) (fun z => ?_)
  | with_reducible refine itnS (fun z => ?_) (fun z => ?_)
  | with_reducible refine itnS' (fun z => ?_) (fun z => ?_)
  | with_reducible refine itnSE (fun z => ?_) (fun z => ?_))
local macro_rules | `(tactic| walk_at "go") => `(tactic| repeat' (first | walk_at "rd" | walk_at "if" | walk_at "if2" | fail))
local macro_rules | `(tactic| walk_at "sz") => `(tactic| (rw [sizeLine_eq]; simp only [List.length_append, List.length_map, List.length_cons, List.length_nil]; omega))
local macro_rules | `(tactic| walk_at "cond") => `(tactic| first | assumption | (show (_ : Int) ≠ 0; first | omega | (split <;> omega)) | (show (0 : Int) < _; first | assumption | decide) | exact ⟨by decide, by decide, by decide⟩ | exact .inr ⟨by decide, by decide⟩ | exact wide_div (b := 64) (by assumption) (by omega) (by decide) (by decide) | exact ⟨by decide, by decide⟩)


local macro_rules | `(tactic| walk_at "sim1") => `(tactic| with_reducible first
  | exact sim_nil | exact sim_var | exact sim_int | exact sim_str | exact sim_bl | exact sim_non | exact sim_raw
  | apply sim_cons | apply sim_op | apply sim_un | apply sim_tup | apply sim_lst
  | apply sim_CB | apply sim_if | apply sim_test | apply sim_B | apply sim_not | apply sim_and | apply sim_or
  | apply sim_andV | apply sim_orV | apply sim_notV | apply sim_chain | exact sim_nopart | apply sim_part
  | apply sim_sl | apply sim_BML | apply sim_BMS | apply sim_BM0S | apply sim_M1 | apply sim_M0
  | apply sim_fmt | apply sim_joined | exact SimJ.nil | apply SimJ.cons
  | exact s_I0i | exact s_I0b | exact s_Ii | exact s_Ui | exact s_eq | exact s_ne | exact s_isN | exact s_notN | exact s_ixL | exact s_ixT | exact s_ixS
  | exact s_cat | exact s_catA | exact s_rep | exact s_repT | exact s_in | exact s_slL | exact s_slA | exact s_slS | exact s_addS | exact s_leS | exact s_ltS
  | exact c_len | exact c_lenS | exact c_list | exact c_tuple | exact c_int1 | exact c_intS | exact c_strI | exact c_max2 | exact c_min2
  | exact m_append | exact m_extend | exact m_split | exact m_join | exact m_0b | exact m_1b
  | apply sim_call | exact simSpF
  | exact sim_name | exact sim_gnil | apply sim_gcons | apply sim_gtup | apply sim_gsub | exact set_list
  | exact sim_next | apply sim_seq | apply sim_cut | exact sim_break | exact sim_cont | apply sim_drop | apply sim_ret | exact sim_retN
  | apply sim_ifS | exact sim_never | apply sim_asg | apply sim_par | apply sim_aug
  | apply sim_for | apply sim_while | apply i_list | apply i_tup | apply i_rng1 | apply i_rng2 | apply i_str | apply i_enum | apply i_zip
  | apply sim_lc | exact sim_yes | exact sim_namew (by decide) | exact sim_gnilw | apply sim_gconsw | apply sim_gtupw
  | apply sim_fld | apply sim_con | apply sim_setFld | apply sim_make | apply sim_prop | apply sim_meth | apply sim_cmeth | exact c_isi | apply sim_isiT | exact s_eqD | exact s_neD
  | walk_at "sim2")
local macro_rules | `(tactic| walk_at "sim2") => `(tactic| fail)
local macro_rules | `(tactic| walk_at "sim") => `(tactic| repeat' (walk_at "sim1"))
/-- open the trees' reading as far as it goes by itself -/
local macro_rules | `(tactic| walk_at "fm") => `(tactic| simp (config := { failIfUnchanged := false }) only [fVar, fC, fOp, fUn, fNil, fCons, fTup, fLst, fCB, fIf, fTest, fNot, fAnd, fOr, fAndV, fOrV, fNotV, fChain, fNoPart, fPart, fI, fI0, fU, fEq, fNe, fIsN, fNotN, fIxL, fIxT, fIxS,
  fCat, fCatA, fRep, fRepT, fSlL, fSlA, fSlS, fSl, fLen, fLenS, fList, fTuple, fIntS, fStrI, fMax2, fMin2, fAppend, fExtend, fIn, fBM, fMS, fBMS, fBM0S, fAddS, fLeS, fLtS, fM0b, fM1b, fSplit, fJoin, fJoined, fJs,
  fName, fGNil, fGCons, fGTup, fSetL, fGSub, fNext, fSeq, fCut, fBreak, fCont, fDrop, fRet, fRetN, fIfS, fAsg, fPar, fAug, fCall, fFld, fCon, fSetFld, fMake, fProp, fMeth, fCMeth, fIsi, fIsiT, fEqD, fNeD, insAt_ref, insO_ins, fFmt, fmtS_i, fmtS_s, fmtOk_i, fmtOk_s, fIL, fIT, fIR1, fIR2, fIS, fIEn, fIZ,
  startL, List.map_cons, List.map_nil, List.length_cons, List.length_nil, List.cons_append, List.nil_append, List.replicate, List.getElem?_cons_zero, List.getElem?_cons_succ, List.set_cons_zero, List.set_cons_succ, Nat.reduceSub, Nat.reduceAdd,
  Option.some.injEq, Tr.int.injEq, Tr.str.injEq, Tr.bl.injEq, Tr.tup.injEq, Tr.ref.injEq, List.cons.injEq, exists_eq_left, exists_eq_left', exists_eq_right, true_and, and_true, and_self, exists_and_left, tupOf_tup, eqS_ii, eqS_ss, eqS_bb, eqS_ni, eqS_in, eqS_nn, isStr_s, isN_n, isN_i, isN_b, isN_s, isN_t, isN_r, noRaw_n, noRaw_i, noRaw_b, noRaw_s, noRaw_t, noRaw_r, and_assoc, reduceIte, Bool.false_eq_true, exists_const, lstAt_ref, seqAt_ref, seqAt_tup, refAt_ref, lstO_lst, app_assoc2, len_app1, at_kk, at_00, set_k, set_00, Nat.add_assoc, Option.map_some, Prod.mk.injEq, int_cast_inj, Nat.zero_le, decide_eq_true_eq, Bool.not_eq_true', decide_eq_false_iff_not, Nat.add_zero, implies_true, forall_const, ite_true, ite_false, if_true, if_false, decide_true, decide_false, Bool.not_true, Bool.not_false, asg_len, Option.isSome_some])
local macro_rules | `(tactic| walk_at "bel") => `(tactic| first | rfl | (simp (config := { failIfUnchanged := false }) only [belM, O.bel, bels_strs, bels_ints, belL, Tr.bel, Tr.bels, Bool.and_true, Bool.true_and, Bool.and_self, decide_eq_true_eq, Bool.and_eq_true, true_and, and_true, List.length_cons, List.length_nil, Nat.reduceAdd]; try omega))

local macro_rules | `(tactic| walk_at "sim2") => `(tactic| first | exact simDrawn | assumption | apply sim_match | apply SimM2.cons | exact SimM2.nil | apply i_enumT | apply sim_truS | apply sim_listG | apply sim_lcG | apply sim_eitherG | apply sim_methG | apply sim_methJ | apply sim_either | apply sim_sortKey | apply sim_sortSet | apply sim_raiseX)
local macro_rules | `(tactic| walk_at "sim1") => `(tactic| first | (with_reducible apply sim_callX; assumption) | (with_reducible apply sim_methX; assumption) | (with_reducible apply sim_makeX; assumption) | (with_reducible apply sim_makeKX; assumption) | (with_reducible apply sim_makeVSX; assumption) | (with_reducible apply sim_conA) | (with_reducible apply sim_sortSet))
local macro_rules | `(tactic| walk_at "fm2") => `(tactic| simp (config := { failIfUnchanged := false }) only [sm_app, sm_len, sm_at, sm_at0, sm_set, sm_set0, List.getElem?_cons_zero, List.getElem?_cons_succ, List.set_cons_zero, List.set_cons_succ, lstO_lst, Option.isSome_some, Option.map_some, Option.some.injEq, Prod.mk.injEq, Nat.add_assoc, Nat.reduceAdd, exists_eq_left', exists_eq_left, true_and, and_assoc, fRaiseX, fCVal, fNv, int1_i, fEither, fTruS, fIEnT, fMatch, fGoM, setAllT, fMakeK, fMakeVS, fMethJ, fEitherG, fListG, fSortKey, fSortSet, fConA])
local macro_rules | `(tactic| walk_at "fd") => `(tactic| (walk_at "fm"; walk_at "fm2"; walk_at "fm"; walk_at "fm2"; walk_at "fm"))

/-! ### the start, of a script that nothing froze -/
def spStart2 (K : PySem.W.Frag) : Sp := fun vs H Q _ => ∃ (a : Addr) (ns : List Int), vs = [.ref a] ∧ SqL K H a (ns.map V.int) ∧
  ∀ h m H', H h = none → 0 ≤ m → m < 2147483647 → H' h = some (.lst [.ref a, .int 0, .int m, .int 0]) → Same H H' → Q (.ref h) H'
/-- a classmethod -/
structure CmX (P : Program) (w : World) (K : PySem.W.Frag) (mg : Str → Option Value) (base : Heap) (CX : CXT) (k : Nat) (x : Str) (C : Addr) (m : Str) (sp : Sp) : Prop where
  ex : ∃ (p g : Addr) (mc : Value) (fd : FuncData) (ps : List Str), mg x = some (.ref C) ∧ ClX.CRead K C mc ∧ ClX.CMet K C mc m p g ∧ FnOk P w K mg base CX k g fd ps sp ∧ L2.Binds K fd ps []
structure GenJ (P : Program) (w : World) (K : PySem.W.Frag) (mg : Str → Option Value) (base : Heap) (k : Nat) (C : Addr) (m : Str) (sp : GCx.SpJ) : Prop where
  ex : ∃ (f : Addr) (fd : FuncData) (ps : List Str), Cls K C ∧ L2.Meth K C m f ∧ GCx.GFnJ P w K mg base k f fd ps sp ∧ L2.Binds K fd ps []
theorem pgenJ {X : Cx} {k j : Nat} {C : Addr} {m : Str} {sp : GCx.SpJ} {o : Expr} {apos pos' : Pos} {ta : TE} {pl : Sem Bool} (c : GenJ X.prog X.w X.K X.mg X.base k C m sp) (he : PE X o ta) (hr : Room j X.A) (hk : k ≤ j)
    (ht : eval (.Call (.Attribute o m apos) [] [] pos') X.env = (do
      let ov ← eval o X.env
      standAt apos.atName
      let (f, first) ← holding [ov] (getMethod ov m pl)
      callWith pos' f first (backTo pos' (starEach [] X.env)) (backToKw pos' (keywordEach [] X.env))) := by rfl) :
    GCx.PGenJ X k (.Call (.Attribute o m apos) [] [] pos') (GCx.tMethJ C m sp ta) := by
  obtain ⟨f, fd, ps, hc, hm, F, b⟩ := c.ex
  exact GCx.pgenJ_meth0 (pl := pl) he hc hm F (hr.mono hk) b ht
structure LawC (P : Program) (w : World) (K : PySem.W.Frag) (mg : Str → Option Value) (base : Heap) (CT CW CS : Addr) (D : Cl3) (T : List (Addr × Str)) : Prop where
  _law_start : Cal P w K mg base 1 "_law_start" (spStart2 K) []
  _law_drawn : Cal P w K mg base 1 "_law_drawn" (spDrawn K) []
  _law_work_numbers : Cal P w K mg base 2 "_law_work_numbers" (spF K fsWorkN) []
  _law_line : Cal P w K mg base 1 "_law_line" (spF K fsLawLine) []
  _law_changed : Cal P w K mg base 2 "_law_changed" (spF K fsChanged) []
  _law_expected : Cal P w K mg base 3 "_law_expected" (spF K fsExp) []
  _law_same : Cal P w K mg base 4 "_law_same" (spF K (fsSame 3)) []
  parse : CmX P w K mg base (L2.CX P w) 10 "Schedule" CS "parse" (spF K (fsParse CT CW CS D T))
  text : PrpX P w K mg base L2.CX0 4 CS "text" (spF K (fsStext CS D))
  planned : GenJ P w K mg base 1 CS "planned" (spFJ K (fsSplan CS))
section
variable {P : Program} {w : World} {K : PySem.W.Frag} {mg : Str → Option Value} {base : Heap}
theorem ok_start2 {f : Addr} {fd : FuncData} (F : Def K mg "_law_start" sStart f fd) (b : Binds K fd ["_law_script"] []) (T : BT mg) : Cal P w K mg base 1 "_law_start" (spStart2 K) [] := by
  refine cal0 F b .nil scStart (fun vs H Q E h => ?_) (fun cdv A outer s H vs Q E hr h => ?_)
  · obtain ⟨h, ns, rfl, _⟩ := h; rfl
  · obtain ⟨a, ns, rfl, ha, q⟩ := h
    refine ⟨_, (pss_cons (ps_set (i := 1) scStart.nd rfl (Or.inl rfl) pe_int)
 (pss_cons (ps_for PassesOwn.never rfl (pi_list (pv 0)) (pg_name (i := 2) scStart.nd rfl (Or.inl rfl)) (pss_one (ps_set (i := 1) scStart.nd rfl (Or.inl rfl) (pe_op op_modN (pe_op op_add (pe_op op_add (pe_op op_mul (pv 1) pe_int) (pv 2)) pe_int) pe_int))))
 (pss_one (ps_ret (pe_lst (pa_cons (pv 0) (pa_cons pe_int (pa_cons (pv 1) (pa_cons pe_int pa_nil))))))))), ?_⟩
    repeat walk_at "rd"
    refine for_list (K := K) (a := a) (xs := ns.map V.int) (fun i σ H' => H' = H ∧ ∃ (m : Int) (v : Option V), σ = [some (.ref a), some (.int m), v] ∧ 0 ≤ m ∧ m < 2147483647)
      ⟨rfl, 1, none, rfl, by decide, by decide⟩ (fun i σ H' _ ⟨e, _⟩ => by rw [e]; exact ha) ?_ ?_
    · rintro i y σ H' hi ⟨rfl, m, v, rfl, m0, m1⟩
      obtain ⟨z, hz, rfl⟩ := int_get hi
      repeat walk_at "rd"
      obtain ⟨u0, u1⟩ := fdN (a := m * 48271 + z + 7) (b := 2147483647) (by decide)
      exact ⟨rfl, _, _, rfl, u0, u1⟩
    · rintro σ H' ⟨rfl, m, v, rfl, m0, m1⟩
      repeat walk_at "rd"
      rename_i p1 hp1
      exact q p1 _ _ hp1 m0 m1 upd_same fun b o e => by walk_at "hf"
theorem sm_start {H : Hp} {h a Pt Ps : Addr} {q q2 : Str} {ns : List Int} {m : Int} (h1 : H h = some (.lst [.ref a, .int 0, .int m, .int 0])) (fz : Fz K H a (ns.map V.int)) (T : LamX.TabS H Pt q) (T2 : LamX.TabS H Ps q2) (hne : Pt ≠ Ps) : RM K H [h, Pt, Ps] (sm ⟨ns, 0, m, 0⟩ [O.tab Pt q, O.tab Ps q2]) := by
  have hT := T
  have hT2 := T2
  obtain ⟨ps, h3, _⟩ := T
  obtain ⟨ps2, h4, _⟩ := T2
  have n2 : h ≠ Pt := ne_of h1 h3 (fun z => nomatch z)
  have n3 : h ≠ Ps := ne_of h1 h4 (fun z => nomatch z)
  refine ⟨rfl, fun n o e => ?_, by simp [n2, n3, hne]⟩
  match n, e with
  | 0, e =>
    cases e
    exact ⟨h, rfl, a, h1, fz⟩
  | 1, e =>
    cases e
    exact ⟨Pt, rfl, rfl, hT⟩
  | 2, e =>
    cases e
    exact ⟨Ps, rfl, rfl, hT2⟩
  | n + 3, e => simp [sm] at e
theorem tabs_sm {Pt Ps : Addr} {q q2 : Str} {d : Ds} : TabsM [(Pt, q), (Ps, q2)] (sm d [O.tab Pt q, O.tab Ps q2]) := by
  refine ⟨fun p hp => ?_, fun P' q' hm => ?_⟩
  · simp only [List.mem_cons, List.not_mem_nil, or_false] at hp
    rcases hp with rfl | rfl <;> simp [sm]
  · unfold sm at hm
    simp only [List.mem_cons, List.not_mem_nil, or_false, reduceCtorEq, false_or, O.tab.injEq] at hm
    rcases hm with ⟨rfl, rfl⟩ | ⟨rfl, rfl⟩ <;> simp
end
/-- the catcher as it stands behind the top -/
structure CatchAt (K : PySem.W.Frag) (mg : Str → Option Value) (gE : Addr) (oc : Value) (od : Option Addr) (dV kV doc pm : Value) (an : Option Addr) (cdE ct : Value) (osl : Array (Option Value)) : Prop where
  mgE : mg "_law_outcome" = some (.ref gE)
  kE : PySem.W.keepIn K (.ref gE) = true
  lkE : K.lookup gE = some ⟨oc, od, .func (PySem.W.fnOf "_law_outcome" "_law_outcome" (fnArgs sOutcome) (fnBody sOutcome) (fnScope sOutcome) dV kV doc pm an cdE ct), osl⟩
  coE : PySem.W.codeIn K cdE "_law_outcome" = true
  bE : L2.Binds K (PySem.W.fnOf "_law_outcome" "_law_outcome" (fnArgs sOutcome) (fnBody sOutcome) (fnScope sOutcome) dV kV doc pm an cdE ct) ["_law_work"] []
def assignedE (s : Stmt) : Expr := match s with
  | .Assign _ e _ => e
  | _ => .Constant .none 0 ⟨0, 0, 0, 0⟩
def forBody (s : Stmt) : List Stmt := match s with
  | .For _ _ b _ _ => b
  | _ => []
abbrev sPass0 : Stmt := .Pass ⟨0, 0, 0, 0⟩
abbrev sFor : Stmt := (fnBody sLaw).getD 1 sPass0
abbrev lamD : Expr := assignedE ((forBody sFor).getD 5 sPass0)
abbrev lamQ : Str := (envOfC "law" (fnScope sLaw) 0 0 .none).qual ++ "<lambda>"
abbrev lawN : List Str := ["_law_script", "_law_state", "_law_turn", "_law_high", "_law_rows", "_law_k", "_law_text", "_law_numbers", "_law_change", "_law_expected_here", "_law_actual"]
theorem scLaw : FnScope lawN ["_law_script"] (fnScope sLaw) := fnScope_by (by decide +kernel)
def lamTD (K : PySem.W.Frag) (CT CW CS : Addr) (D : Cl3) (T : List (Addr × Str)) : XK → TE := fun E => ClX.tCMeth CS (spF K (fsParse CT CW CS D T)) E (tC (.ref CS)) (tCons (tVar 6) tNil)
theorem pe_cm {X : Cx} {CX : CXT} {k j : Nat} {x m : Str} {C : Addr} {sp : Sp} {E : XK} {e : Expr} {es : List Expr} {t : TA} {p apos pos : Pos} {pl : Sem Bool} (c : CmX X.prog X.w X.K X.mg X.base CX k x C m sp) (hr : Room j X.A) (hk : k ≤ j) (hg : Gl X x) (hx : L2.Passes CX X E) (ha : PA X (e :: es) t)
    (hd : (x == ("__debug__" : Str)) = false := by decide) (hst : starEach (e :: es) X.env = (false, eval e X.env) :: starEach es X.env := by rfl) (hpl : (backTo pos (starEach es X.env)).any (·.1) = false := by rfl)
    (ht : eval (.Call (.Attribute (.Name x p) m apos) (e :: es) [] pos) X.env = (do
      let ov ← eval (.Name x p) X.env
      standAt apos.atName
      let (f, first) ← holding [ov] (getMethod ov m pl)
      callWith pos f first (backTo pos (starEach (e :: es) X.env)) (backToKw pos (keywordEach [] X.env))) := by rfl) :
    PE X (.Call (.Attribute (.Name x p) m apos) (e :: es) [] pos) (ClX.tCMeth C sp E (tC (.ref C)) t) := by
  obtain ⟨q, g, mc, fd, ps, hm, r, cm, F, b⟩ := c.ex
  exact ClX.pe_cmeth (pl := pl) (pe_gc (v := .ref C) hg ⟨_, hm, rfl⟩ hd) r cm ((F.raw b .nil).imp fun vs H Q E h => by rw [List.append_nil]; exact h) (hr.mono hk) hx ha hst hpl ht
end T1

set_option Elab.async false
set_option linter.all false
set_option maxRecDepth 100000
set_option maxHeartbeats 4000000
namespace T1
open PySem PySem.Spec PyProof.Rows L2 C8 Fm T2
/-! ### the texts that the law writes -/
theorem RunL.sep {W s : Nat} {a b : List Nat} (ha : RunL W a) (hb : RunL W b) (hs : s = 32 ∨ s = 10) : RunL W (a ++ s :: b) := fun x u y e hu => by
  have ns : s ∉ u := fun z => by
    have := hu s z
    rcases hs with rfl | rfl
    · exact this.1 rfl
    · exact this.2 rfl
  rcases List.append_eq_append_iff.mp e with ⟨z, e1, e2⟩ | ⟨z, e1, e2⟩
  · cases z with
    | nil =>
      cases u with
      | nil => exact Nat.zero_le _
      | cons c u =>
        have : s = c := (List.cons.inj e2).1
        exact absurd (by rw [this]; exact List.mem_cons_self) ns
    | cons c z =>
      exact hb z u y (List.cons.inj e2).2 hu
  · rcases List.append_eq_append_iff.mp e2 with ⟨v, e3, e4⟩ | ⟨v, e3, e4⟩
    · exact ha x u v (by rw [e1, e3]) hu
    · cases v with
      | nil =>
        rw [List.append_nil] at e3
        exact ha x u [] (by rw [e1, e3, List.append_nil]) hu
      | cons c v =>
        have : s = c := (List.cons.inj e4).1
        exact absurd (by rw [e3, this]; simp) ns
theorem run_join {W s : Nat} {y : Str} (hy : TL.tl y = [s]) (hs : s = 32 ∨ s = 10) : ∀ {ws : List Str}, (∀ w ∈ ws, RunL W (TL.tl w)) → RunL W (TL.tl (Str.join y ws))
  | [], _ => RunL.short (Nat.zero_le _)
  | [p], h => by
    rw [join_one]
    exact h p List.mem_cons_self
  | p :: q :: l, h => by
    rw [join_two, hy]
    exact RunL.sep (h p List.mem_cons_self) (run_join hy hs (ws := q :: l) fun w hw => h w (List.mem_cons_of_mem _ hw)) hs
def wordsR : Row → List Str
  | .c p b => ["at", iS p, "close", iS b]
  | .m p b a => ["at", iS p, "mend", iS b, "by", iS a]
  | .u p b a e t => ["at", iS p, "mend", iS b, "by", iS a, "every", iS e, "times", iS t]
theorem w_cl : TL.tl "close " = TL.tl "close" ++ TL.tl " " := by decide +kernel
theorem w_me : TL.tl "mend " = TL.tl "mend" ++ TL.tl " " := by decide +kernel
theorem lineL_join (r : Row) : TL.tl (lineL r) = TL.tl (Str.join " " (wordsR r)) := by
  cases r <;> simp only [lineL, wordsR, iS, Str.join, TL.tl_append, List.append_assoc, w_at, w_cl, w_me, w_by, w_ev, w_ti]
theorem okC_low {c : Nat} (h : c < 128) : okC c := by
  have : ∀ c < 128, okC c := by
    unfold okC
    decide +kernel
  exact this c h
theorem iS_ok {i : Int} (h0 : 0 ≤ i) (h1 : i ≤ 2000000000000000000) : (TL.tl (iS i)).length ≤ 19 ∧ ∀ c ∈ TL.tl (iS i), c < 128 := by
  have y := len20 h0 h1
  refine ⟨by rw [← TL.len_tl]; exact y, fun c hc => ?_⟩
  obtain ⟨n, rfl⟩ := Int.eq_ofNat_of_zero_le h0
  unfold iS at hc
  rw [TL.tl_num] at hc
  have := TL.numL_digits n c hc
  omega
theorem kw_ok : ∀ w ∈ (["at", "close", "mend", "by", "every", "times"] : List Str), (TL.tl w).length ≤ 19 ∧ ∀ c ∈ TL.tl w, c < 128 := by decide +kernel
theorem words_ok {r : Row} (h : r.wr) : ∀ w ∈ wordsR r, (TL.tl w).length ≤ 19 ∧ ∀ c ∈ TL.tl w, c < 128 := fun w hw => by
  have n : ∀ i ∈ r.ns, (TL.tl (iS i)).length ≤ 19 ∧ ∀ c ∈ TL.tl (iS i), c < 128 := fun i hi => iS_ok (h i hi).1 (h i hi).2
  cases r with
  | c p b =>
    simp only [wordsR, List.mem_cons, List.not_mem_nil, or_false] at hw
    rcases hw with rfl | rfl | rfl | rfl <;> first | exact kw_ok _ (by decide +kernel) | exact n _ (by simp [Row.ns]; done)
  | m p b a =>
    simp only [wordsR, List.mem_cons, List.not_mem_nil, or_false] at hw
    rcases hw with rfl | rfl | rfl | rfl | rfl | rfl <;> first | exact kw_ok _ (by decide +kernel) | exact n _ (by simp [Row.ns]; done)
  | u p b a e t =>
    simp only [wordsR, List.mem_cons, List.not_mem_nil, or_false] at hw
    rcases hw with rfl | rfl | rfl | rfl | rfl | rfl | rfl | rfl | rfl | rfl <;> first | exact kw_ok _ (by decide +kernel) | exact n _ (by simp [Row.ns]; done)
theorem lineL_run {r : Row} (h : r.wr) : RunL 20 (TL.tl (lineL r)) := by
  rw [lineL_join]
  exact run_join tl_sp (.inl rfl) fun w hw => RunL.short (by have := (words_ok h w hw).1; omega)
theorem lineL_chr {r : Row} (h : r.wr) : ∀ c ∈ TL.tl (lineL r), c < 128 := fun c hc => by
  rw [lineL_join] at hc
  rcases join_mem hc with hc | ⟨p, hp, hc⟩
  · rw [tl_sp] at hc
    rw [List.mem_singleton.mp hc]
    decide
  · exact (words_ok h p hp).2 c hc
theorem lineL_len {r : Row} (h : r.wr) : (lineL r).length ≤ 200 := by
  rw [TL.len_tl, lineL_join, ← TL.len_tl]
  have := join_le len_sp (b := 19) (ws := wordsR r) fun w hw => by rw [TL.len_tl]; exact (words_ok h w hw).1
  have h2 : (wordsR r).length ≤ 10 := by cases r <;> (simp [wordsR])
  have h3 : (wordsR r).length * (19 + 1) ≤ 10 * 20 := Nat.mul_le_mul h2 (Nat.le_refl _)
  omega
theorem text_good {rs : List Row} (h : ∀ r ∈ rs, r.wr) (hn : rs.length ≤ 24) : Good 20 6000 (Txt.join "\n" (rs.map lineL)) := by
  rw [TL.join_eq]
  refine ⟨run_join tl_nl (.inr rfl) fun w hw => ?_, ?_, fun c hc => okC_low ?_⟩
  · obtain ⟨r, hr, rfl⟩ := List.mem_map.mp hw
    exact lineL_run (h r hr)
  · have := join_le len_nl (b := 200) (ws := rs.map lineL) fun w hw => by
      obtain ⟨r, hr, rfl⟩ := List.mem_map.mp hw
      exact lineL_len (h r hr)
    rw [List.length_map] at this
    have h3 : rs.length * (200 + 1) ≤ 24 * 201 := Nat.mul_le_mul hn (Nat.le_refl _)
    omega
  · rcases join_mem hc with hc | ⟨p, hp, hc⟩
    · rw [tl_nl] at hc
      rw [List.mem_singleton.mp hc]
      decide
    · obtain ⟨r, hr, rfl⟩ := List.mem_map.mp hp
      exact lineL_chr (h r hr) c hc
/-- rows as the law draws them -/
def RowsW (M : Mem) (ks : List Nat) (rs : List Row) : Prop := ks.length = rs.length ∧ ∀ (i k : Nat) (r : Row), ks[i]? = some k → rs[i]? = some r → M[k]? = some (.lst (r.ns.map Tr.int)) ∧ r.wr
theorem ns_inj {r r' : Row} (h : r.ns.map Tr.int = r'.ns.map Tr.int) : r = r' := by
  cases r <;> cases r' <;> simp [Row.ns] at h <;> simp [h]
noncomputable def lineG (M : Mem) : Tr → Option Tr
  | .ref k => some (.str (@Classical.epsilon Str ⟨Str.empty⟩ fun z => ∃ r : Row, M[k]? = some (.lst (r.ns.map Tr.int)) ∧ z = lineL r))
  | _ => none
theorem lineG_eq {M : Mem} {k : Nat} {r : Row} (h : M[k]? = some (.lst (r.ns.map Tr.int))) : lineG M (.ref k) = some (.str (lineL r)) := by
  show some (Tr.str (@Classical.epsilon Str ⟨Str.empty⟩ fun z => ∃ r : Row, M[k]? = some (.lst (r.ns.map Tr.int)) ∧ z = lineL r)) = _
  obtain ⟨r2, e, e2⟩ := @Classical.epsilon_spec Str (fun z => ∃ r : Row, M[k]? = some (.lst (r.ns.map Tr.int)) ∧ z = lineL r) ⟨lineL r, r, h, rfl⟩
  rw [h] at e
  rw [← ns_inj (O.lst.inj (Option.some.inj e))] at e2
  exact congrArg (fun z => some (Tr.str z)) e2
theorem linesG_eq {M : Mem} : ∀ {ws : List Nat} {rs : List Row}, RowsW M ws rs → (ws.map Tr.ref).filterMap (lineG M) = (rs.map lineL).map Tr.str
  | [], [], _ => rfl
  | [], _ :: _, h => by cases h.1
  | _ :: _, [], h => by cases h.1
  | k :: ws, r :: rs, h => by
    have h0 := (h.2 0 k r rfl rfl).1
    rw [List.map_cons, List.filterMap_cons, lineG_eq h0, List.map_cons, List.map_cons, linesG_eq (ws := ws) (rs := rs) ⟨by have := h.1; simpa using this, fun i n r' h1 h2 => h.2 (i + 1) n r' (by simpa using h1) (by simpa using h2)⟩]
theorem RowsW.app {M g : Mem} {ks : List Nat} {rs : List Row} (h : RowsW M ks rs) : RowsW (M ++ g) ks rs := ⟨h.1, fun i n r h1 h2 => ⟨at_l (h.2 i n r h1 h2).1, (h.2 i n r h1 h2).2⟩⟩
theorem RowsW.sm {d d' : Ds} {g : Mem} {ks : List Nat} {rs : List Row} (h : RowsW (sm d g) ks rs) : RowsW (sm d' g) ks rs := ⟨h.1, fun i n r h1 h2 => ⟨by
  have := (h.2 i n r h1 h2).1
  cases n with
  | zero => cases this
  | succ n => exact this, (h.2 i n r h1 h2).2⟩⟩
theorem RowsW.snoc {M : Mem} {ws : List Nat} {rs : List Row} {n : Nat} {r : Row} (h : RowsW M ws rs) (e : M[n]? = some (.lst (r.ns.map Tr.int))) (k : r.wr) : RowsW M (ws ++ [n]) (rs ++ [r]) := ⟨by simp [h.1], fun i n' r' h1 h2 => by
  by_cases hi : i < ws.length
  · rw [List.getElem?_append_left hi] at h1
    rw [List.getElem?_append_left (by rw [← h.1]; exact hi)] at h2
    exact h.2 i n' r' h1 h2
  · rw [List.getElem?_append_right (by omega)] at h1
    rw [List.getElem?_append_right (by rw [← h.1]; omega), ← h.1] at h2
    cases hj : i - ws.length with
    | zero =>
      rw [hj] at h1 h2
      cases h1
      cases h2
      exact ⟨e, k⟩
    | succ j =>
      rw [hj] at h1
      simp at h1⟩
theorem RowsW.all {M : Mem} {ks : List Nat} {rs : List Row} (h : RowsW M ks rs) : ∀ r ∈ rs, r.wr := fun r hr => by
  obtain ⟨i, hi⟩ := List.mem_iff_getElem?.mp hr
  have hi2 : i < ks.length := by rw [h.1]; exact (List.getElem?_eq_some_iff.mp hi).1
  exact (h.2 i _ r (List.getElem?_eq_getElem hi2) hi).2
theorem RowsW.lt {M : Mem} {ks : List Nat} {rs : List Row} (h : RowsW M ks rs) : ∀ k ∈ ks, k < List.length M := fun k hk => by
  obtain ⟨j, hj⟩ := List.mem_iff_getElem?.mp hk
  have hj2 : j < rs.length := by rw [← h.1]; exact (List.getElem?_eq_some_iff.mp hj).1
  exact (List.getElem?_eq_some_iff.mp (h.2 j k _ hj (List.getElem?_eq_getElem hj2)).1).1
/-- a text's lines, from its rows -/
theorem text_back {t : Str} {rs : List Row} (h : scan numV 0 (wordsL t) = .ok rs) : Txt.join "\n" (rs.map Row.line) = t := by
  have key : ∀ (ls : List Str) (k : Nat) (rs : List Row), scan numV k (ls.map fun l => Txt.split l " ") = .ok rs → rs.map Row.line = ls := by
    intro ls
    induction ls with
    | nil =>
      intro k rs h
      cases h
      rfl
    | cons l ls ih =>
      intro k rs h
      rw [List.map_cons] at h
      unfold scan at h
      cases e : rdRow numV (Txt.split l " ") with
      | none => rw [e] at h; cases h
      | some r =>
        rw [e] at h
        simp only at h
        split at h
        · cases e2 : scan numV (k + 1) (ls.map fun l => Txt.split l " ") with
          | error z => rw [e2] at h; cases h
          | ok rs2 =>
            rw [e2] at h
            cases h
            rw [List.map_cons, ih _ _ e2, back_any e, TL.join_eq, StrLaws.join_split]
        · cases h
  rw [key _ _ _ h]
  unfold linesOf
  by_cases h0 : t.length = 0
  · rw [if_pos h0, len0 h0]
    exact join_nil
  · rw [if_neg h0, TL.join_eq, StrLaws.join_split]
end T1

set_option Elab.async false
set_option linter.all false
set_option maxRecDepth 100000
set_option maxHeartbeats 4000000
namespace T1
open PySem PySem.Spec PyProof.Rows L2 C8 Fm T2
local macro_rules | `(tactic| walk_at "hf") => `(tactic| (fail_if_success (show (fun _ => none : Hp) _ = _)); first | assumption | with_reducible exact upd_same | ((with_reducible show upd _ _ _ _ = _); first | exact up_new' (by assumption) (by walk_at "hf") | exact up_set (by walk_at "ne") (by walk_at "hf")) | exact Same.at' (by assumption) (by walk_at "hf") | exact But.at' (by assumption) (by walk_at "ne") (by walk_at "ne") (by walk_at "hf"))
local macro_rules | `(tactic| walk_at "hf0") => `(tactic| (fail_if_success (show (fun _ => none : Hp) _ = _)); first | assumption | with_reducible exact upd_same | ((with_reducible show upd _ _ _ _ = _); exact up_new' (by assumption) (by walk_at "hf0")))
local macro_rules | `(tactic| walk_at "ne") => `(tactic| first | assumption | (apply Ne.symm; assumption) | exact ne_of_none' (by assumption) (by walk_at "hf0") | exact Ne.symm (ne_of_none' (by assumption) (by walk_at "hf0")) | exact LSt.f1 (by assumption) (by walk_at "lst") | exact LSt.f2 (by assumption) (by walk_at "lst"))
local macro_rules | `(tactic| walk_at "sqt") => `(tactic| (fail_if_success (show SqT _ (fun _ => none) _ _)); first | assumption | exact SqT.of' (by walk_at "hf") | ((with_reducible show SqT _ (upd _ _ _) _ _); first | exact SqT.new' (by assumption) (by walk_at "sqt") | exact SqT.put' (by walk_at "hf") (by walk_at "sqt")) | exact Same.tup (by assumption) (by walk_at "sqt") | exact But.tup (by assumption) (by walk_at "lst") (by walk_at "sqt"))
local macro_rules | `(tactic| walk_at "sql") => `(tactic| (fail_if_success (show SqL _ (fun _ => none) _ _)); first | assumption | exact SqL.of' (by walk_at "hf") | ((with_reducible show SqL _ (upd _ _ _) _ _); exact SqL.new' (by assumption) (by walk_at "sql")) | exact Same.sql' (by assumption) (by walk_at "sql"))
local macro_rules | `(tactic| walk_at "lst") => `(tactic| (fail_if_success (show LSt (fun _ => none) _ _)); first | assumption | ((with_reducible show LSt (upd _ _ _) _ _); first | exact LSt.new (by walk_at "lst") (by assumption) | exact LSt.put (by walk_at "lst") (by walk_at "ne") (by walk_at "ne")) | exact LSt.same' (by assumption) (by walk_at "lst"))
local macro_rules | `(tactic| walk_at "but") => `(tactic| first | assumption | exact But.refl _ _ _ | ((with_reducible show But _ _ _ (upd _ _ _)); exact But.nw (by assumption) (by walk_at "but")) | exact But.bu (by assumption) (by walk_at "but") | exact But.sm (by assumption) (by walk_at "but"))
local macro_rules | `(tactic| walk_at "ls") => `(tactic| first | assumption | exact Ls.same (by walk_at "ls") (Same.upd' (by assumption)))
local macro_rules | `(tactic| walk_at "ll") => `(tactic| first | assumption | exact LL.same (by walk_at "ll") (Same.upd' (by assumption)) | exact LL.same' (by assumption) (by walk_at "ll") | exact LL.but' (by assumption) (by walk_at "lst") (by walk_at "ll"))
local macro_rules | `(tactic| walk_at "sm") => `(tactic| first | assumption | exact Same.refl _ | ((with_reducible show Same _ (upd _ _ _)); first | exact Same.put' (by assumption) (by walk_at "sm") | exact Same.trans (by walk_at "sm") (Same.upd' (by assumption))) | exact Same.trans (by walk_at "sm") (by assumption))
/-- one step of a reading -/
local macro_rules | `(tactic| walk_at "rd") => `(tactic| first
  | with_reducible refine iteF ?_
  | with_reducible refine iteT ?_
  | with_reducible refine itNotF ?_
  | with_reducible refine itNotT ?_
  | refine ⟨_, rfl, ?_⟩
  | refine ⟨_, _, rfl, rfl, ?_⟩
  | refine ⟨_, _, rfl, ?_⟩
  | refine ⟨(_ : Addr), (_ : List V), (_ : Int), (_ : V), rfl, rfl, SqL.of' (by walk_at "hf"), (by first | assumption | rfl), ?_⟩
  | refine ⟨(_ : Addr), (_ : List V), (_ : Int), (_ : V), rfl, rfl, (by walk_at "sqt" : SqT _ _ _ _), (by first | assumption | rfl), ?_⟩
  | refine .inl ⟨_, rfl, ?_⟩
  | refine ⟨_, _, rfl, .inl (by walk_at "sql" : SqL _ _ _ _), ?_⟩
  | refine ⟨_, _, rfl, .inl ⟨(by walk_at "sql" : SqL _ _ _ _), fun p hp => ?_⟩⟩
  | refine ⟨_, _, rfl, .inr ⟨(by walk_at "sqt" : SqT _ _ _ _), ?_⟩⟩
  | refine fun (p : Addr) (hp : (_ : Hp) p = none) => ?_
  | refine ⟨_, _, rfl, .inr (by walk_at "sqt" : SqT _ _ _ _), ?_⟩
  | refine And.intro (by show _ ≤ sizeLine; first | decide | walk_at "sz") (fun p hp => ?_)
  | refine ⟨(_ : Addr), (_ : Addr), (_ : List V), (_ : List V), rfl, rfl, (by walk_at "hf"), (by walk_at "hf"), (by walk_at "sz"), fun p hp => ?_⟩
  | refine ⟨(_ : Addr), (_ : Addr), (_ : List V), (_ : List V), rfl, rfl, (by walk_at "hf"), (by walk_at "hf"), (by walk_at "sz"), ?_⟩
  | refine ⟨(_ : Addr), (_ : List V), (_ : Int), (_ : Nat), rfl, rfl, (by walk_at "hf"), (by rfl), ?_⟩
  | refine And.intro ⟨_, (by walk_at "sql" : SqL _ _ _ _)⟩ ?_
  | refine And.intro ⟨_, (by walk_at "sqt" : SqT _ _ _ _)⟩ ?_
  | refine And.intro (.inl ⟨rfl, _, SqL.of' (by walk_at "hf")⟩) ?_
  | refine And.intro (by walk_at "cond") ?_
  | exact .inl ⟨rfl, _, SqL.of' (by walk_at "hf")⟩
  | with_reducible refine iteT ?_
  | with_reducible refine iteF ?_
  | refine And.intro (by rfl : scal _ _ = true) ?_
  | refine And.intro (by rfl : _ = V.non) ?_
  | refine And.intro (by rfl : wipe _ _ = wipe _ _) ?_
  | refine And.intro (by rfl : (_ : List V) = []) ?_
  | refine ⟨(_ : Addr), (_ : List V), rfl, (by walk_at "sqt" : SqT _ _ _ _), (by rfl), ?_⟩)
/-- a test: known, or both ways -/
local macro_rules | `(tactic| walk_at "if") => `(tactic| first
  | with_reducible refine itD (by omega) ?_
  | with_reducible refine itN (by omega) ?_
  | with_reducible refine itnD (by omega) ?_
  | with_reducible refine itnN (by omega) ?_
  | with_reducible refine itE (by omega) ?_
  | with_reducible refine itEn (by omega) ?_
  | with_reducible refine itnE (by omega) ?_
  | with_reducible refine itnEn (by omega) ?_
  | with_reducible refine itN (by intro z; cases z) ?_
  | with_reducible refine itD (by decide) ?_
  | with_reducible refine itN (by decide) ?_
  | with_reducible refine itnD (by decide) ?_
  | with_reducible refine itnN (by decide) ?_)
local macro_rules | `(tactic| walk_at "if2") => `(tactic| first
  | with_reducible refine itS (fun z => ?_) (fun z => ?_)
  | with_reducible refine itS' (fun z => ?_) (fun z => ?_)
  | with_reducible refine itSE (fun z => ?_) (fun z => ?_)
  | with_reducible refine itnS (fun z => ?_) (fun z => ?_)
  | with_reducible refine itnS' (fun z => ?_) (fun z => ?_)
  | with_reducible refine itnSE (fun z => ?_) (fun z => ?_))
local macro_rules | `(tactic| walk_at "go") => `(tactic| repeat' (first | walk_at "rd" | walk_at "if" | walk_at "if2" | fail))
local macro_rules | `(tactic| walk_at "sz") => `(tactic| (rw [sizeLine_eq]; simp only [List.length_append, List.length_map, List.length_cons, List.length_nil]; omega))
local macro_rules | `(tactic| walk_at "cond") => `(tactic| first | assumption | (show (_ : Int) ≠ 0; first | omega | (split <;> omega)) | (show (0 : Int) < _; first | assumption | decide) | exact ⟨by decide, by decide, by decide⟩ | exact .inr ⟨by decide, by decide⟩ | exact wide_div (b := 64) (by assumption) (by omega) (by decide) (by decide) | exact ⟨by decide, by decide⟩)


local macro_rules | `(tactic| walk_at "sim1") => `(tactic| with_reducible first
  | exact sim_nil | exact sim_var | exact sim_int | exact sim_str | exact sim_bl | exact sim_non | exact sim_raw
  | apply sim_cons | apply sim_op | apply sim_un | apply sim_tup | apply sim_lst
  | apply sim_CB | apply sim_if | apply sim_test | apply sim_B | apply sim_not | apply sim_and | apply sim_or
  | apply sim_andV | apply sim_orV | apply sim_notV | apply sim_chain | exact sim_nopart | apply sim_part
  | apply sim_sl | apply sim_BML | apply sim_BMS | apply sim_BM0S | apply sim_M1 | apply sim_M0
  | apply sim_fmt | apply sim_joined | exact SimJ.nil | apply SimJ.cons
  | exact s_I0i | exact s_I0b | exact s_Ii | exact s_Ui | exact s_eq | exact s_ne | exact s_isN | exact s_notN | exact s_ixL | exact s_ixT | exact s_ixS
  | exact s_cat | exact s_catA | exact s_rep | exact s_repT | exact s_in | exact s_slL | exact s_slA | exact s_slS | exact s_addS | exact s_leS | exact s_ltS
  | exact c_len | exact c_lenS | exact c_list | exact c_tuple | exact c_int1 | exact c_intS | exact c_strI | exact c_max2 | exact c_min2
  | exact m_append | exact m_extend | exact m_split | exact m_join | exact m_0b | exact m_1b
  | apply sim_call | exact simSpF
  | exact sim_name | exact sim_gnil | apply sim_gcons | apply sim_gtup | apply sim_gsub | exact set_list
  | exact sim_next | apply sim_seq | apply sim_cut | exact sim_break | exact sim_cont | apply sim_drop | apply sim_ret | exact sim_retN
  | apply sim_ifS | exact sim_never | apply sim_asg | apply sim_par | apply sim_aug
  | apply sim_for | apply sim_while | apply i_list | apply i_tup | apply i_rng1 | apply i_rng2 | apply i_str | apply i_enum | apply i_zip
  | apply sim_lc | exact sim_yes | exact sim_namew (by decide) | exact sim_gnilw | apply sim_gconsw | apply sim_gtupw
  | apply sim_fld | apply sim_con | apply sim_setFld | apply sim_make | apply sim_prop | apply sim_meth | apply sim_cmeth | exact c_isi | apply sim_isiT | exact s_eqD | exact s_neD
  | walk_at "sim2")
local macro_rules | `(tactic| walk_at "sim2") => `(tactic| fail)
local macro_rules | `(tactic| walk_at "sim") => `(tactic| repeat' (walk_at "sim1"))
/-- open the trees' reading as far as it goes by itself -/
local macro_rules | `(tactic| walk_at "fm") => `(tactic| simp (config := { failIfUnchanged := false }) only [fVar, fC, fOp, fUn, fNil, fCons, fTup, fLst, fCB, fIf, fTest, fNot, fAnd, fOr, fAndV, fOrV, fNotV, fChain, fNoPart, fPart, fI, fI0, fU, fEq, fNe, fIsN, fNotN, fIxL, fIxT, fIxS,
  fCat, fCatA, fRep, fRepT, fSlL, fSlA, fSlS, fSl, fLen, fLenS, fList, fTuple, fIntS, fStrI, fMax2, fMin2, fAppend, fExtend, fIn, fBM, fMS, fBMS, fBM0S, fAddS, fLeS, fLtS, fM0b, fM1b, fSplit, fJoin, fJoined, fJs,
  fName, fGNil, fGCons, fGTup, fSetL, fGSub, fNext, fSeq, fCut, fBreak, fCont, fDrop, fRet, fRetN, fIfS, fAsg, fPar, fAug, fCall, fFld, fCon, fSetFld, fMake, fProp, fMeth, fCMeth, fIsi, fIsiT, fEqD, fNeD, insAt_ref, insO_ins, fFmt, fmtS_i, fmtS_s, fmtOk_i, fmtOk_s, fIL, fIT, fIR1, fIR2, fIS, fIEn, fIZ,
  startL, List.map_cons, List.map_nil, List.length_cons, List.length_nil, List.cons_append, List.nil_append, List.replicate, List.getElem?_cons_zero, List.getElem?_cons_succ, List.set_cons_zero, List.set_cons_succ, Nat.reduceSub, Nat.reduceAdd,
  Option.some.injEq, Tr.int.injEq, Tr.str.injEq, Tr.bl.injEq, Tr.tup.injEq, Tr.ref.injEq, List.cons.injEq, exists_eq_left, exists_eq_left', exists_eq_right, true_and, and_true, and_self, exists_and_left, tupOf_tup, eqS_ii, eqS_ss, eqS_bb, eqS_ni, eqS_in, eqS_nn, isStr_s, isN_n, isN_i, isN_b, isN_s, isN_t, isN_r, noRaw_n, noRaw_i, noRaw_b, noRaw_s, noRaw_t, noRaw_r, and_assoc, reduceIte, Bool.false_eq_true, exists_const, lstAt_ref, seqAt_ref, seqAt_tup, refAt_ref, lstO_lst, app_assoc2, len_app1, at_kk, at_00, set_k, set_00, Nat.add_assoc, Option.map_some, Prod.mk.injEq, int_cast_inj, Nat.zero_le, decide_eq_true_eq, Bool.not_eq_true', decide_eq_false_iff_not, Nat.add_zero, implies_true, forall_const, ite_true, ite_false, if_true, if_false, decide_true, decide_false, Bool.not_true, Bool.not_false, asg_len, Option.isSome_some])
local macro_rules | `(tactic| walk_at "bel") => `(tactic| first | rfl | (simp (config := { failIfUnchanged := false }) only [belM, O.bel, bels_strs, bels_ints, belL, Tr.bel, Tr.bels, Bool.and_true, Bool.true_and, Bool.and_self, decide_eq_true_eq, Bool.and_eq_true, true_and, and_true, List.length_cons, List.length_nil, Nat.reduceAdd]; try omega))

local macro_rules | `(tactic| walk_at "sim2") => `(tactic| first | exact simDrawn | assumption | apply sim_match | apply SimM2.cons | exact SimM2.nil | apply i_enumT | apply sim_truS | apply sim_listG | apply sim_lcG | apply sim_eitherG | apply sim_methG | apply sim_methJ | apply sim_either | apply sim_sortKey | apply sim_sortSet | apply sim_raiseX)
local macro_rules | `(tactic| walk_at "sim1") => `(tactic| first | (with_reducible apply sim_callX; assumption) | (with_reducible apply sim_methX; assumption) | (with_reducible apply sim_makeX; assumption) | (with_reducible apply sim_makeKX; assumption) | (with_reducible apply sim_makeVSX; assumption) | (with_reducible apply sim_conA) | (with_reducible apply sim_sortSet))
local macro_rules | `(tactic| walk_at "fm2") => `(tactic| simp (config := { failIfUnchanged := false }) only [sm_app, sm_len, sm_at, sm_at0, sm_set, sm_set0, List.getElem?_cons_zero, List.getElem?_cons_succ, List.set_cons_zero, List.set_cons_succ, lstO_lst, Option.isSome_some, Option.map_some, Option.some.injEq, Prod.mk.injEq, Nat.add_assoc, Nat.reduceAdd, exists_eq_left', exists_eq_left, true_and, and_assoc, fRaiseX, fCVal, fNv, int1_i, fEither, fTruS, fIEnT, fMatch, fGoM, setAllT, fMakeK, fMakeVS, fMethJ, fEitherG, fListG, fSortKey, fSortSet, fConA])
local macro_rules | `(tactic| walk_at "fd") => `(tactic| (walk_at "fm"; walk_at "fm2"; walk_at "fm"; walk_at "fm2"; walk_at "fm"))

theorem sim_lamD {K : PySem.W.Frag} {B : Bs} {CT CW CS : Addr} {D : Cl3} {T : List (Addr × Str)} : SimE K B (LamX.tLam T (TTout K CT CW) (lamTD K CT CW CS D T)) (fOut CT CW T fun PX => fCMeth CS (fsParse CT CW CS D T) PX (fC (.raw (.ref CS))) (fCons (fVar 6) fNil)) :=
  sim_out fun B E PX hE => by
    unfold lamTD
    exact sim_cmethX hE simSpF sim_raw (sim_cons sim_var sim_nil)
local macro_rules | `(tactic| walk_at "sim1") => `(tactic| first | exact sim_lamD | (with_reducible apply sim_cutF) | (with_reducible apply sim_isTup; assumption))
theorem run_at {K : PySem.W.Frag} {B : Bs} {H : Hp} {ρ : List Addr} {L : Fm.Loc} {σ : L2.St} {M : Mem} {t : TS} {f : FS} {D' : FEnds} {D : Ends} (sim : SimS K B t f) (hl : RX K B H ρ L σ) (hm : RM K H ρ M) (p : f D' L M) (e : EndR K B H ρ D' D) : t D σ H := sim.run hl hm p e
theorem cp18 : CPow 10 18 := ⟨by decide, by decide, by decide⟩
/-- what stands between the turns, and within one -/
def LawI (a Pt Ps : Addr) (L2 : Fm.Loc) (M2 : Mem) : Prop := ∃ (d : Ds) (v2 v3 v4 v5 v6 v7 v8 v9 v10 : Option Tr), d.ok ∧ L2 = [some (.raw (.ref a)), some (.ref 0), v2, v3, v4, v5, v6, v7, v8, v9, v10] ∧ M2 = sm d [O.tab Pt lamQ, O.tab Ps lamS]
def LawJ (F : Str → Prop) (a Pt Ps : Addr) (L2 : Fm.Loc) (M2 : Mem) : Prop := ∃ (d : Ds) (h : Mem) (t6 : Str), d.ok ∧ L2 = [some (.raw (.ref a)), some (.ref 0), none, none, none, none, some (.str t6), none, none, none, none] ∧ M2 = sm d ([O.tab Pt lamQ, O.tab Ps lamS] ++ h) ∧ ntab h = true ∧ belM (List.length h + 3) h = true ∧ F t6
theorem bel_tabs {d : Ds} {h : Mem} {Pt Ps : Addr} {q q2 : Str} (hb : belM (List.length h + 3) h = true) : belM (List.length (sm d ([O.tab Pt q, O.tab Ps q2] ++ h))) (sm d ([O.tab Pt q, O.tab Ps q2] ++ h)) = true := by
  rw [belM_sm, sm_len]
  show (true && (true && belM _ h)) = true
  rw [belM_mono (n := List.length h + 3) (by simp <;> omega) hb]
  rfl
theorem len_tabs {d : Ds} {h : Mem} {Pt Ps : Addr} {q q2 : Str} : List.length (sm d ([O.tab Pt q, O.tab Ps q2] ++ h)) = List.length h + 3 := by simp [sm_len] <;> omega
theorem same_scal {M : Mem} {ts : List Tr} (h : ∀ t ∈ ts, (∃ i, t = .int i) ∨ ∃ s, t = .str s) (hl : ts.length ≤ 1000) {n : Nat} : SameT (n + 1) M (.tup ts) (.tup ts) := .inr ⟨ts, ts, .inl ⟨rfl, rfl⟩, rfl, hl, fun i a b ha hb => by
  rw [ha] at hb
  cases hb
  have hs : (∃ i, a = Tr.int i ∧ a = .int i) ∨ ∃ s, a = Tr.str s ∧ a = .str s := by
    rcases h a (List.mem_of_getElem? ha) with ⟨i, e⟩ | ⟨s, e⟩
    · exact .inl ⟨i, e, e⟩
    · exact .inr ⟨s, e, e⟩
  cases n with
  | zero => exact hs
  | succ n => exact .inl hs⟩
theorem same_pair {M : Mem} {s : Str} {i : Int} : SameT 3 M (.tup [.str s, .int i]) (.tup [.str s, .int i]) := same_scal (fun t ht => by
  simp only [List.mem_cons, List.not_mem_nil, or_false] at ht
  rcases ht with rfl | rfl
  · exact .inr ⟨_, rfl⟩
  · exact .inl ⟨_, rfl⟩) (by show 2 ≤ 1000; decide)
theorem same_mend {M : Mem} {n : Nat} {q b a : Int} : SameT (n + 1) M (mendT q b a) (mendT q b a) := same_scal (fun t ht => by
  simp only [List.mem_cons, List.not_mem_nil, or_false] at ht
  rcases ht with rfl | rfl | rfl | rfl
  · exact .inr ⟨_, rfl⟩
  · exact .inl ⟨_, rfl⟩
  · exact .inl ⟨_, rfl⟩
  · exact .inl ⟨_, rfl⟩) (by show 4 ≤ 1000; decide)
theorem same_ch {M : Mem} {n : Nat} {rs : List Row} {t : Tr} (h : t ∈ allCh rs) : SameT (n + 1) M t t := by
  obtain ⟨r, _, h⟩ := List.mem_flatMap.mp h
  cases r with
  | c p b =>
    rw [List.mem_singleton.mp h]
    refine same_scal (fun t ht => ?_) (by show 3 ≤ 1000; decide)
    simp only [List.mem_cons, List.not_mem_nil, or_false] at ht
    rcases ht with rfl | rfl | rfl
    · exact .inr ⟨_, rfl⟩
    · exact .inl ⟨_, rfl⟩
    · exact .inl ⟨_, rfl⟩
  | m p b a =>
    rw [List.mem_singleton.mp h]
    exact same_mend
  | u p b a e u =>
    obtain ⟨k, _, rfl⟩ := List.mem_map.mp h
    exact same_mend
theorem lk_plan {ws : List Nat} {k : Nat} : (fS ws k).lookup ("planned" : Str) = none := by
  unfold fS
  repeat (rw [List.lookup_cons, show (("planned" : Str) == _) = false by decide +kernel])
  rfl
/-- the schedule, set out as the law sets it out, against the one that it reads -/
theorem same_sched {M : Mem} {l k m s : Nat} {rs : List Row} {t : Str} (h1 : M[l]? = some (.lst [.ref m, .str t])) (h2 : M[m]? = some (.lst (stab keyT (allCh rs)))) (h3 : M[k]? = some (.lst [.ref s, .str t])) (h4 : M[s]? = some (.lst (stab keyT (allCh rs)))) (h60 : (allCh rs).length ≤ 60) : SameT 3 M (.ref l) (.ref k) := by
  refine .inr ⟨_, _, .inr ⟨lstAt_of h1, lstAt_of h3⟩, rfl, by show 2 ≤ 1000; decide, fun i a b ha hb => ?_⟩
  match i, ha, hb with
  | 0, ha, hb =>
    cases ha
    cases hb
    refine .inr ⟨_, _, .inr ⟨lstAt_of h2, lstAt_of h4⟩, rfl, by rw [len_stab]; omega, fun i a b ha hb => ?_⟩
    rw [ha] at hb
    cases hb
    exact same_ch ((mem_stab _).mp (List.mem_of_getElem? ha))
  | 1, ha, hb =>
    cases ha
    cases hb
    exact .inl (.inr ⟨t, rfl, rfl⟩)
def spLaw (K : PySem.W.Frag) (T : List (Addr × Str)) : Sp := fun vs H Q _ => ∃ (a : Addr) (ns : List Int), vs = [.ref a] ∧ SqL K H a (ns.map V.int) ∧ ns.length ≤ 63 ∧ LamX.Tabs T H ∧ ∀ H', Q (.bl true) H'
section
variable {P : Program} {w : World} {K : PySem.W.Frag} {mg : Str → Option Value} {base : Heap} {CT CW CS : Addr} {D3 : Cl3}
theorem ok_law {f cl Pt Ps gE : Addr} {oc dV kV doc pm ct oc' dV' kV' doc' pm' cdE ct' : Value} {od an od' an' : Option Addr} {osl osl' : Array (Option Value)}
    (lk : K.lookup f = some ⟨oc, od, .func (PySem.W.fnOf "law" "law" (fnArgs sLaw) (fnBody sLaw) (fnScope sLaw) dV kV doc pm an (.ref cl) ct), osl⟩) (cdL : PySem.W.codeIn K (.ref cl) "law" = true)
    (T : BQ mg) (T1 : Errs2 K mg CT CW) (C9 : LawC P w K mg base CT CW CS D3 [(Pt, lamQ), (Ps, lamS)]) (LH : CatchAt K mg gE oc' od' dV' kV' doc' pm' an' cdE ct' osl') (TB : LamX.TabB base mg cl Pt) (hne : Pt ≠ Ps) (TC : TyC K CS) :
    FnOk P w K mg base C8.CX0 16 f (PySem.W.fnOf "law" "law" (fnArgs sLaw) (fnBody sLaw) (fnScope sLaw) dV kV doc pm an (.ref cl) ct) ["_law_script"] (spLaw K [(Pt, lamQ), (Ps, lamS)]) := by
  refine fn_of lk cdL scLaw (fun vs H Q E h => ?_) (fun A outer s H vs Q E hr h => ?_)
  · obtain ⟨a, ns, rfl, _⟩ := h; rfl
  obtain ⟨a, ns, rfl, ha, hl, hT, q⟩ := h
  let X0 : Cx := (cxOf C8.CX0 P w K mg base lawN "law" (fnScope sLaw) f (.ref cl) A outer s H E).nox
  have lamDE : PE X0 lamD (LamX.tLam [(Pt, lamQ), (Ps, lamS)] (TTout K CT CW) (lamTD K CT CW CS D3 [(Pt, lamQ), (Ps, lamS)])) := (LamX.pe_lamcall (T := [(Pt, lamQ), (Ps, lamS)]) (TT := TTout K CT CW) (a := "_law_work") (k := 10) (t := lamTD K CT CW CS D3 [(Pt, lamQ), (Ps, lamS)]) (by rfl) LH.mgE LH.kE LH.lkE LH.coE LH.bE scOutc rfl (Or.inl rfl) (outc_gives T1) TB rfl List.mem_cons_self (fun p hp he => by
    simp only [List.mem_cons, List.not_mem_nil, or_false] at hp
    rcases hp with rfl | rfl
    · rfl
    · exact absurd he.symm hne) (hr.mono (by decide : 12 ≤ 15)) (LamX.lamS_by (sc := fnScope sLaw) (by decide +kernel)) rfl (fun _ _ _ _ _ => rfl) (fun A outer s H E f c' hr2 => pe_cm C9.parse hr2 (by decide) (by rfl) (L2.passes_call (takes_of rfl rfl rfl rfl) (fun _ _ _ _ z => z)) (pa_cons (pv 6) pa_nil)))
  have forP : ∃ tF, PS X0 sFor tF ∧ ∀ (H1 : Hp) (h : Addr) (d : Ds), d.ok → RM K H1 [h, Pt, Ps] (sm d [O.tab Pt lamQ, O.tab Ps lamS]) → ∀ D : Ends, (∀ σ' H', (∀ b o u, H1 b = some (.frz o u) → H' b = some (.frz o u)) → D.nx σ' H') →
      tF D ((L2.start lawN [.ref a]).set 1 (some (.ref h))) H1 := by
    have C := C9
    refine ⟨_, (ps_for PassesOwn.never rfl (pi_range1 (by rfl) T.range (pa_cons pe_int pa_nil)) (pg_name (i := 2) scLaw.nd rfl (Or.inl rfl)) (pss_cons (ps_set (i := 3) scLaw.nd rfl (Or.inr rfl) (pe_ix ix_list (pe_lst (pa_cons pe_int (pa_cons (pe_op op_add (pe_op op_pow pe_int pe_int) pe_int) pa_nil))) (pe_c C._law_drawn hr (by first | decide | omega) (by rfl) (pa_cons (pv 1) (pa_cons pe_int pa_nil))) (fun _ _ => rfl)))
 (pss_cons (ps_setLc (i := 4) (own := [("_law_k", 5)]) (g := gName 5) rfl scLaw.nd rfl rfl (sw_true rfl rfl rfl rfl) (pi_range1 (by rfl) T.range (pa_cons (pe_c C._law_drawn hr (by first | decide | omega) (by rfl) (pa_cons (pv 1) (pa_cons (pe_ix (ix_listK (K := K) rfl) (pe_lst (pa_cons pe_int (pa_cons pe_int pa_nil))) (pe_c C._law_drawn hr (by first | decide | omega) (by rfl) (pa_cons (pv 1) (pa_cons pe_int pa_nil))) (fun _ _ => rfl)) pa_nil))) pa_nil)) (blkOk_by (N := ["_law_script", "_law_state", "_law_turn", "_law_high", "_law_rows", "_law_k", "_law_text", "_law_numbers", "_law_change", "_law_expected_here", "_law_actual"]) (sc := fnScope sLaw) (by decide +kernel)) (fun _ _ _ _ _ => pg_name (i := 5) scLaw.nd rfl (Or.inl rfl)) (fun _ _ _ _ _ => pts_nil) (fun _ _ _ _ _ => (pe_c C._law_work_numbers hr (by first | decide | omega) (by rfl) (pa_cons (pv 1) (pa_cons pe_int (pa_cons (pv 3) pa_nil))))))
 (pss_cut (ps_set (i := 6) scLaw.nd rfl (Or.inr rfl) (pe_join pe_str (pe_lc (own := [("_law_numbers", 7)]) (g := gName 7) rfl scLaw.nd (pi_list (pv 4)) (blkOk_by (N := ["_law_script", "_law_state", "_law_turn", "_law_high", "_law_rows", "_law_k", "_law_text", "_law_numbers", "_law_change", "_law_expected_here", "_law_actual"]) (sc := fnScope sLaw) (by decide +kernel)) (fun _ _ _ _ _ => pg_name (i := 7) scLaw.nd rfl (Or.inl rfl)) (fun _ _ _ _ _ => pts_nil) (fun _ _ _ _ _ => (pe_c C._law_line hr (by first | decide | omega) (by rfl) (pa_cons (pv 7) pa_nil))))))
 (pss_cut (ps_for PassesOwn.never rfl (pi_range1 (by rfl) T.range (pa_cons (pe_c C._law_drawn hr (by first | decide | omega) (by rfl) (pa_cons (pv 1) (pa_cons pe_int pa_nil))) pa_nil)) (pg_name (i := 8) scLaw.nd rfl (Or.inl rfl)) (pss_one (ps_set (i := 6) scLaw.nd rfl (Or.inr rfl) (pe_c C._law_changed hr (by first | decide | omega) (by rfl) (pa_cons (pv 1) (pa_cons (pv 6) pa_nil))))))
 (pss_cons (ps_set (i := 9) scLaw.nd rfl (Or.inl rfl) (pe_c C._law_expected hr (by first | decide | omega) (by rfl) (pa_cons (pv 6) pa_nil)))
 (pss_cons (ps_set (i := 10) scLaw.nd rfl (Or.inl rfl) lamDE)
 (pss_cons (ps_if (pt_not (pt_val (pe_callB call_isi (by rfl) T.isinstance (by decide +kernel) (pa_cons (pv 10) (pa_cons (pe_bltn (v := .ty "tuple") (by rfl) T.tuple (by decide +kernel) rfl) pa_nil))))) (pss_one (ps_set (i := 10) scLaw.nd rfl (Or.inl rfl) (pe_lst (pa_cons (GCx.pe_lcG rfl (pgenJ C.planned (pv 10) hr (by decide)) (hr.mono (by decide)) rfl rfl (by decide)) (pa_cons (pe_prX C.text (pv 10) hr (by decide) L2.pass0) pa_nil))))) pss_nil)
 (pss_one (ps_if (pt_not (pt_val (pe_c C._law_same hr (by first | decide | omega) (by rfl) (pa_cons (pv 10) (pa_cons (pv 9) pa_nil))))) (pss_one (ps_ret pe_bl)) pss_nil)))))))))), fun H1 h d hd m0 D hD => ?_⟩
    have hl0 : RX K (H1, [h, Pt, Ps]) H1 [h, Pt, Ps] [some (.raw (.ref a)), some (.ref 0), none, none, none, none, none, none, none, none, none] ((L2.start lawN [.ref a]).set 1 (some (.ref h))) := by
      refine ⟨?_, Grow.refl⟩
      refine ⟨_, _, rfl, ⟨_, rfl, by unfold RT; rfl⟩, _, _, rfl, ⟨_, rfl, by unfold RT; exact ⟨h, rfl, rfl⟩⟩, ?_⟩
      exact RL.nones 9 _ rfl
    have hfz : ∀ b o u, H1 b = some (.frz o u) → b ∉ [h, Pt, Ps] := by
      intro b o u e hb
      obtain ⟨h', e1, s', e2, _⟩ := m0.at_ 0 _ rfl
      obtain ⟨p', e3, e4, ps, e5, _⟩ := m0.at_ 1 _ rfl
      obtain ⟨p2', e6, e7, ps2, e8, _⟩ := m0.at_ 2 _ rfl
      cases e1
      cases e3
      cases e6
      simp only [List.mem_cons, List.not_mem_nil, or_false] at hb
      rcases hb with rfl | rfl | rfl
      · rw [e] at e2
        cases e2
      · rw [e] at e5
        cases e5
      · rw [e] at e8
        cases e8
    simp only [X0, nox_K, cx_K]
    try dsimp only [gName]
    refine run_at (D' := { nx := fun _ _ => True, rt := fun _ _ => False }) (by walk_at "sim") hl0 m0 ?_ ⟨fun L' σ' H' ρ' M' g lx m' p => hD _ _ ?_, fun _ _ _ _ _ _ _ _ p => p.elim, fun _ _ _ _ _ _ _ _ p => p.elim, fun _ _ _ _ _ _ _ _ p => p.elim⟩
    · unfold fFor
      walk_at "fd"
      have hpw : (10 : Int) ^ Int.toNat 18 = 1000000000000000000 := by decide +kernel
      rw [hpw]
      refine ⟨by decide, by decide, fun _ => LawI a Pt Ps, ⟨d, none, none, none, none, none, none, none, none, none, hd, rfl, rfl⟩, ?_⟩
      rintro i t L2 M2 ht ⟨d0, v2, v3, v4, v5, v6, v7, v8, v9, v10, hd0, rfl, rfl⟩
      refine ⟨cp18, by rw [sizeLine_eq]; decide, _, rfl, drawn_at hd0 (by decide) (by decide) fun r1 d1 hd1 r10 r11 => ?_⟩
      obtain ⟨hi, hhi, hi0, hi1⟩ : ∃ v : Int, atI ([.int 9, .int (1000000000000000000 + 1)] : List Tr) r1 = some (.int v) ∧ 1 ≤ v ∧ v ≤ 1000000000000000001 := by
        have hr : r1 = 0 ∨ r1 = 1 := by omega
        rcases hr with e | e <;> rw [e]
        · exact ⟨9, rfl, by decide, by decide⟩
        · exact ⟨1000000000000000001, rfl, by decide, by decide⟩
      refine ⟨_, rfl, _, rfl, _, hhi, ?_⟩
      rw [fLc]
      walk_at "fd"
      refine ⟨by rw [sizeLine_eq]; decide, drawn_at hd1 (by decide) (by decide) fun r2 d2 hd2 r20 r21 => ?_⟩
      obtain ⟨mx, hmx, mx0, mx1⟩ : ∃ v : Int, atI ([.int 4, .int 24] : List Tr) r2 = some (.int v) ∧ 1 ≤ v ∧ v ≤ 24 := by
        have hr : r2 = 0 ∨ r2 = 1 := by omega
        rcases hr with e | e <;> rw [e]
        · exact ⟨4, rfl, by decide, by decide⟩
        · exact ⟨24, rfl, by decide, by decide⟩
      refine ⟨_, rfl, _, rfl, _, hmx, drawn_at hd2 (by omega) (by omega) fun r3 d3 hd3 r30 r31 => ?_⟩
      have tabNt : ∀ {d : Ds} {h : Mem}, sm d ([O.tab Pt lamQ, O.tab Ps lamS] ++ h) = sm d [O.tab Pt lamQ, O.tab Ps lamS] ++ h := rfl
      refine ⟨_, rfl, by omega, by omega, fun i acc M2 => ∃ (d : Ds) (h : Mem) (ks : List Nat) (rs : List Row), d.ok ∧ M2 = sm d ([O.tab Pt lamQ, O.tab Ps lamS] ++ h) ∧ acc = ks.map Tr.ref ∧ 2 ≤ List.length h ∧ ntab h = true ∧ belM (List.length h + 3) h = true ∧ RowsW M2 ks rs ∧ rs.length = i, ⟨d3, _, [], [], hd3, rfl, rfl, by decide, rfl, rfl, ⟨rfl, fun i k r h1 h2 => by cases h1⟩, rfl⟩, ?_, ?_⟩
      · rintro j tj acc M2 htj ⟨d4, h, ks, rs, hd4, rfl, rfl, hh2, hnt, hbl, hrw, hrl⟩
        obtain ⟨hj, rfl⟩ := rngT_get htj
        refine ⟨_, rfl, _, rfl, hi, d4, [O.tab Pt lamQ, O.tab Ps lamS] ++ h, rfl, rfl, hd4, hi0, hi1, fun r d5 hd5 wr u hu => ⟨by rw [List.length_map, hrw.1, sizeLine_eq]; omega, ?_⟩⟩
        have hb2 : belM (List.length (h ++ (u ++ [O.lst (r.ns.map Tr.int)])) + 3) (h ++ (u ++ [O.lst (r.ns.map Tr.int)])) = true := by
          rw [belM_app, belM_app, belM_mono (by simp) hbl, belM_mono (Nat.zero_le _) hu]
          simp [belM, O.bel, bels_ints]
        have hlen : List.length (sm d5 ([O.tab Pt lamQ, O.tab Ps lamS] ++ h ++ (u ++ [O.lst (r.ns.map Tr.int)]))) = List.length (h ++ (u ++ [O.lst (r.ns.map Tr.int)])) + 3 := by simp [sm_len] <;> omega
        refine ⟨List.length (sm d5 ([O.tab Pt lamQ, O.tab Ps lamS] ++ h ++ (u ++ [O.lst (r.ns.map Tr.int)]))), ?_, ?_, ?_, ?_⟩
        · rw [hlen]
          simp [sm_len]
          omega
        · rw [hlen]
          refine bels_all fun t ht => ?_
          rcases List.mem_append.mp ht with ht | ht
          · obtain ⟨k, hk, rfl⟩ := List.mem_map.mp ht
            have := hrw.lt k hk
            rw [sm_len] at this
            simp [Tr.bel] at this ⊢
            omega
          · rw [List.mem_singleton.mp ht]
            simp [Tr.bel]
            omega
        · rw [List.take_length, hlen]
          exact hb2
        · rw [List.take_length]
          refine ⟨d5, h ++ (u ++ [O.lst (r.ns.map Tr.int)]), ks ++ [List.length ([O.tab Pt lamQ, O.tab Ps lamS] ++ h) + 1 + List.length u], rs ++ [r], hd5, by rw [List.append_assoc], by simp, by (rw [List.length_append]; omega), ?_, hb2, ?_, by simp [hrl]⟩
          · rw [ntab_app, ntab_app, hnt, ntab_0 hu]
            rfl
          · have e1 : ([O.tab Pt lamQ, O.tab Ps lamS] ++ h ++ (u ++ [O.lst (r.ns.map Tr.int)])) = ([O.tab Pt lamQ, O.tab Ps lamS] ++ h) ++ (u ++ [O.lst (r.ns.map Tr.int)]) := rfl
            refine RowsW.snoc (RowsW.sm (d := d4) (RowsW.app (M := sm d4 ([O.tab Pt lamQ, O.tab Ps lamS] ++ h)) hrw)) ?_ wr
            rw [show ∀ z : Mem, sm d5 z = (sm d5 [] ++ z) from fun _ => rfl, show List.length ([O.tab Pt lamQ, O.tab Ps lamS] ++ h) + 1 + List.length u = List.length (sm d5 []) + (List.length ([O.tab Pt lamQ, O.tab Ps lamS] ++ h) + List.length u) by simp [sm_len] <;> omega, at_kk, at_kk, at_snoc]
      · rintro acc M2 ⟨d4, h, ks, rs, hd4, rfl, rfl, hh2, hnt, hbl, hrw, hrl⟩
        obtain ⟨M3, hM3⟩ : ∃ M3, sm d4 ([O.tab Pt lamQ, O.tab Ps lamS] ++ h) = M3 := ⟨_, rfl⟩
        have hb3 : belM (List.length M3) M3 = true := by
          rw [← hM3, belM_sm, sm_len]
          show (true && (true && belM _ h)) = true
          rw [belM_mono (by simp <;> omega) hbl]
          rfl
        rw [hM3] at hrw ⊢
        have hbT : ∀ d : Ds, belM (List.length (sm d [O.tab Pt lamQ, O.tab Ps lamS])) (sm d [O.tab Pt lamQ, O.tab Ps lamS]) = true := fun _ => rfl
        have hlk : List.length ks ≤ 24 := by
          rw [hrw.1, hrl]
          show (rngT 0 r3.toNat).length ≤ 24
          unfold rngT
          rw [List.length_map, List.length_range]
          omega
        refine ⟨LawJ (Good 20 6000) a Pt Ps, ?_, ?_⟩
        · walk_at "fd"
          have hb4 : belM (List.length (M3 ++ [O.lst (ks.map Tr.ref)])) (M3 ++ [O.lst (ks.map Tr.ref)]) = true := by
            rw [List.length_append]
            refine belM_ext hb3 ?_
            simp only [belM, O.bel, Bool.and_true]
            refine bels_refs fun k hk => ?_
            have := hrw.lt k hk
            simp only [List.length_cons, List.length_nil]
            omega
          refine lc_L (i := 4) (x := .ref (List.length M3)) (ts := ks.map Tr.ref) (lineG M3) rfl (lstAt_of (by rw [at_snoc])) hb4 (by rw [sizeLine_eq, List.length_map]; omega) (fun t ht y hy => ?_) (fun t ht => ?_) ?_
          · obtain ⟨k, hk, rfl⟩ := List.mem_map.mp ht
            cases hy
            rfl
          · obtain ⟨k, hk, rfl⟩ := List.mem_map.mp ht
            obtain ⟨jj, hjj⟩ := List.mem_iff_getElem?.mp hk
            have hj2 : jj < rs.length := by rw [← hrw.1]; exact (List.getElem?_eq_some_iff.mp hjj).1
            obtain ⟨hkr, hwr⟩ := hrw.2 jj k _ hjj (List.getElem?_eq_getElem hj2)
            intro R N hR hN
            have hR' := (hR _ (lineG_eq hkr)).1
            walk_at "fd"
            exact ⟨.ref k, rfl, k, _, rfl, at_l hkr, hwr, hR'⟩
          · rw [linesG_eq hrw]
            walk_at "fd"
            have hrl24 : List.length rs ≤ 24 := by rw [← hrw.1]; exact hlk
            have hsum := sum_join (y := "\n") (rs.map lineL)
            have hgood := text_good hrw.all hrl24
            have hlen6 := hgood.len
            rw [TL.len_tl, TL.join_eq] at hlen6
            refine ⟨rs.map lineL, rfl, by (rw [List.length_map, show (Str.ofString "\n").length = 1 from rfl]; omega), ?_⟩
            have eM3 : M3 ++ [O.lst (List.map Tr.ref ks), O.lst (List.map Tr.str (List.map lineL rs))] = sm d4 ([O.tab Pt lamQ, O.tab Ps lamS] ++ (h ++ [O.lst (List.map Tr.ref ks), O.lst (List.map Tr.str (List.map lineL rs))])) := by
              rw [← hM3, tabNt, tabNt, List.append_assoc]
            have hb5 : belM (List.length (h ++ [O.lst (List.map Tr.ref ks), O.lst (List.map Tr.str (List.map lineL rs))]) + 3) (h ++ [O.lst (List.map Tr.ref ks), O.lst (List.map Tr.str (List.map lineL rs))]) = true := by
              rw [belM_app, belM_mono (by simp <;> omega) hbl]
              simp only [belM, O.bel, Bool.and_true, Bool.true_and, bels_strs]
              refine bels_refs fun k hk => ?_
              have := hrw.lt k hk
              rw [← hM3, sm_len] at this
              simp at this ⊢
              omega
            rw [eM3]
            refine forget_same (L' := [some (.raw (.ref a)), some (.ref 0), none, none, none, none, some (.str (Txt.join "\n" (rs.map lineL))), none, none, none, none]) ⟨_, rfl, _, rfl, _, _, rfl, _, _, rfl, _, _, rfl, _, _, rfl, _, rfl, _, _, rfl, _, _, rfl, _, _, rfl, _, _, rfl, rfl⟩ ⟨d4, h ++ [O.lst (List.map Tr.ref ks), O.lst (List.map Tr.str (List.map lineL rs))], _, hd4, rfl, rfl, by rw [ntab_app, hnt]; rfl, hb5, hgood⟩ ⟨?_, ?_⟩ ?_
            · rw [← hM3]
              simp [sm_len] <;> omega
            · simp [belL, Tr.bel, sm_len]
            · exact bel_tabs hb5
        · rintro L' M' ⟨d6, h6, t6, hd6, rfl, rfl, hnt6, hbl6, hg⟩
          have hb6 : ∀ d : Ds, belM (List.length (sm d ([O.tab Pt lamQ, O.tab Ps lamS] ++ h6))) (sm d ([O.tab Pt lamQ, O.tab Ps lamS] ++ h6)) = true := fun d => bel_tabs hbl6
          have hl6 : ∀ d : Ds, List.length (sm d ([O.tab Pt lamQ, O.tab Ps lamS] ++ h6)) = List.length h6 + 3 := fun d => len_tabs
          refine ⟨LawJ FineT a Pt Ps, ?_, ?_⟩
          · refine ⟨_, rfl, drawn_0 hd6 (by decide) (by decide) fun r7 d7 hd7 r70 r71 => ?_⟩
            refine ⟨_, rfl, by omega, by omega, fun i L2 M2 => ∃ (d : Ds) (t6 : Str), d.ok ∧ L2 = [some (.raw (.ref a)), some (.ref 0), none, none, none, none, some (.str t6), none, none, none, none] ∧ M2 = sm d ([O.tab Pt lamQ, O.tab Ps lamS] ++ h6) ∧ ((i = 0 ∧ Good 20 6000 t6) ∨ (i = 1 ∧ Good 59 12019 t6) ∨ i = 2 ∧ Good 137 24057 t6), ⟨d7, t6, hd7, rfl, rfl, .inl ⟨rfl, hg⟩⟩, ?_, ?_⟩
            · rintro j tj L2 M2 htj ⟨d8, t8, hd8, rfl, rfl, hgd⟩
              obtain ⟨hj, rfl⟩ := rngT_get htj
              have put : ∀ (t' : Str) (d9 : Ds), d9.ok → ((j + 1 = 0 ∧ Good 20 6000 t') ∨ (j + 1 = 1 ∧ Good 59 12019 t') ∨ j + 1 = 2 ∧ Good 137 24057 t') → Forget (List.length (sm d7 ([O.tab Pt lamQ, O.tab Ps lamS] ++ h6))) (fun L2 M2 => ∃ (d : Ds) (t6 : Str), d.ok ∧ L2 = [some (.raw (.ref a)), some (.ref 0), none, none, none, none, some (.str t6), none, none, none, none] ∧ M2 = sm d ([O.tab Pt lamQ, O.tab Ps lamS] ++ h6) ∧ ((j + 1 = 0 ∧ Good 20 6000 t6) ∨ (j + 1 = 1 ∧ Good 59 12019 t6) ∨ j + 1 = 2 ∧ Good 137 24057 t6)) [some (.raw (.ref a)), some (.ref 0), none, none, none, none, some (.str t'), none, some (.int (0 + (j : Int))), none, none] (sm d9 ([O.tab Pt lamQ, O.tab Ps lamS] ++ h6)) := fun t' d9 hd9 hh => by
                refine forget_same (L' := [some (.raw (.ref a)), some (.ref 0), none, none, none, none, some (.str t'), none, none, none, none]) ⟨_, rfl, _, rfl, _, _, rfl, _, _, rfl, _, _, rfl, _, _, rfl, _, rfl, _, _, rfl, _, _, rfl, _, _, rfl, _, _, rfl, rfl⟩ ⟨d9, t', hd9, rfl, rfl, hh⟩ ⟨?_, ?_⟩ (hb6 d9)
                · rw [hl6, hl6]
                  exact Nat.le_refl _
                · rw [hl6]
                  simp [belL, Tr.bel]
              rcases hgd with ⟨rfl, hgd⟩ | ⟨rfl, hgd⟩ | ⟨rfl, _⟩
              · exact ⟨_, rfl, _, rfl, t8, d8, _, 20, 6000, rfl, rfl, hd8, hgd, by decide, fun t' d9 hd9 hg9 => put t' d9 hd9 (.inr (.inl ⟨rfl, hg9⟩))⟩
              · exact ⟨_, rfl, _, rfl, t8, d8, _, 59, 12019, rfl, rfl, hd8, hgd, by decide, fun t' d9 hd9 hg9 => put t' d9 hd9 (.inr (.inr ⟨rfl, hg9⟩))⟩
              · omega
            · rintro L2 M2 ⟨d8, t8, hd8, rfl, rfl, hgd⟩
              have hf : FineT t8 := by
                rcases hgd with ⟨_, h⟩ | ⟨_, h⟩ | ⟨_, h⟩
                · exact h.fine (by decide) (by decide)
                · exact h.fine (by decide) (by decide)
                · exact h.fine (by decide) (by decide)
              refine forget_same (LocLe.refl _) ⟨d8, h6, t8, hd8, rfl, rfl, hnt6, hbl6, hf⟩ ⟨?_, ?_⟩ (hb6 d8)
              · rw [hl6, hl6]
                exact Nat.le_refl _
              · rw [hl6]
                simp [belL, Tr.bel]
          · clear hbl6 hnt6 hb6 hl6
            rintro L' M' ⟨d8, h6, t8, hd8, rfl, rfl, hnt6, hbl6, hf⟩
            walk_at "fd"
            have tb8 : TabsM [(Pt, lamQ), (Ps, lamS)] (sm d8 (O.tab Pt lamQ :: O.tab Ps lamS :: h6)) := tabs_sm.app hnt6
            have fin : ∀ (g : Mem) (x y : Tr), Forget 3 (LawI a Pt Ps) [some (.raw (.ref a)), some (.ref 0), none, none, none, none, some (.str t8), none, none, some x, some y] (sm d8 (O.tab Pt lamQ :: O.tab Ps lamS :: h6) ++ g) := fun g x y => by
              rw [show sm d8 (O.tab Pt lamQ :: O.tab Ps lamS :: h6) ++ g = sm d8 [O.tab Pt lamQ, O.tab Ps lamS] ++ (h6 ++ g) from rfl]
              exact forget_base (L' := [some (.raw (.ref a)), some (.ref 0), none, none, none, none, none, none, none, none, none]) (Nat.le_refl _) ⟨_, rfl, _, rfl, _, _, rfl, _, _, rfl, _, _, rfl, _, _, rfl, _, _, rfl, _, _, rfl, _, _, rfl, _, _, rfl, _, _, rfl, rfl⟩ ⟨d8, none, none, none, none, none, none, none, none, none, hd8, rfl, rfl⟩ (by simp [belL, Tr.bel, sm_len]) rfl
            have fin0 : ∀ (x y : Tr), Forget 3 (LawI a Pt Ps) [some (.raw (.ref a)), some (.ref 0), none, none, none, none, some (.str t8), none, none, some x, some y] (sm d8 (O.tab Pt lamQ :: O.tab Ps lamS :: h6)) := fun x y => by
              have := fin [] x y
              rwa [List.append_nil] at this
            refine ⟨t8, rfl, hf, fun i hs => ?_, fun i hs => ?_, fun rs hs => ⟨fun i hi1 hi2 hi3 => ?_, fun hno h k hnt hbel hE => ?_⟩⟩
            · refine ⟨tb8, ?_⟩
              walk_at "fd"
              refine ⟨t8, rfl, hf.1, tb8, fun i' hs' => ?_, fun i' hs' => ?_, fun rs' hs' => ?_⟩ <;> rw [scan_agree, hs] at hs' <;> cases hs'
              refine .inl ⟨rfl, _, rfl, ?_⟩
              unfold fIsTup
              walk_at "fd"
              refine .inl ?_
              rw [if_neg (by decide)]
              refine ⟨_, _, rfl, same_pair, _, rfl, ?_⟩
              rw [if_neg (by decide)]
              exact fin0 _ _
            · refine ⟨tb8, ?_⟩
              walk_at "fd"
              refine ⟨t8, rfl, hf.1, tb8, fun i' hs' => ?_, fun i' hs' => ?_, fun rs' hs' => ?_⟩ <;> rw [scan_agree, hs] at hs' <;> cases hs'
              refine .inr ⟨rfl, _, rfl, ?_⟩
              unfold fIsTup
              walk_at "fd"
              refine .inl ?_
              rw [if_neg (by decide)]
              refine ⟨_, _, rfl, same_pair, _, rfl, ?_⟩
              rw [if_neg (by decide)]
              exact fin0 _ _
            · refine ⟨tb8, ?_⟩
              walk_at "fd"
              refine ⟨t8, rfl, hf.1, tb8, fun i' hs' => ?_, fun i' hs' => ?_, fun rs' hs' => ?_⟩ <;> rw [scan_agree, hs] at hs' <;> cases hs'
              refine ⟨fun i' hj1 hj2 hj3 => ?_, fun hno => absurd hi2 (hno i hi1)⟩
              have hii : i' = i := by
                rcases Nat.lt_trichotomy i' i with z | z | z
                · exact absurd hj2 (hi3 _ z)
                · exact z
                · exact absurd hi2 (hj3 _ z)
              subst hii
              refine .inr ⟨rfl, _, rfl, ?_⟩
              unfold fIsTup
              walk_at "fd"
              refine .inl ?_
              rw [if_neg (by decide)]
              refine ⟨_, _, rfl, same_pair, _, rfl, ?_⟩
              rw [if_neg (by decide)]
              exact fin0 _ _
            · have tb9 := tb8.app hnt
              refine ⟨tb9, ?_⟩
              walk_at "fd"
              refine ⟨t8, rfl, hf.1, tb9, fun i' hs' => ?_, fun i' hs' => ?_, fun rs' hs' => ?_⟩ <;> rw [scan_agree, hs] at hs' <;> cases hs'
              refine ⟨fun i' hj1 hj2 hj3 => absurd hj2 (hno i' hj1), fun _ g r hntg hbelg hS => ?_⟩
              obtain ⟨ws, kk, hr, hw, hkk⟩ := hS
              obtain ⟨s9, hk9, hs9⟩ := hE
              have h20 : rs.length ≤ 20 := by
                by_cases h : rs.length ≤ 20
                · exact h
                · exact absurd (.inl rfl) (hno 20 (by omega))
              have h60 : (allCh rs).length ≤ 60 := by
                cases hl : rs.length with
                | zero =>
                  rw [List.length_eq_zero_iff.mp hl]
                  exact Nat.zero_le _
                | succ n =>
                  have h1 := hno n (by omega)
                  have : ¬ 60 < (allCh (rs.take (n + 1))).length := fun z => h1 (.inr z)
                  rw [← hl, List.take_length] at this
                  omega
              have hs9' := at_l (g := g) hs9
              have hk9' := at_l (g := g) hk9
              rw [List.append_assoc] at hr hw hkk hs9' hk9'
              unfold fIsTup
              walk_at "fd"
              refine .inr ⟨r, fS ws kk, (by rw [hr]; rfl), r, fS ws kk, (by rw [hr]; rfl), lk_plan, r, kk, ws, _, rfl, hr, hkk, by rw [len_stab]; omega, r, fS ws kk, (by rw [at_l hr]; rfl), r, kk, ws, rs, rfl, at_l hr, worksAt_app hw, by omega, by rw [sizeLine_eq]; decide, _, _, rfl, ?_, _, rfl, ?_⟩
              · rw [text_back hs]
                exact same_sched (by rw [at_snoc]) (by rw [at_l (M := _ ++ [_]) (by rw [at_snoc])]) (at_l (at_l hk9')) (at_l (at_l hs9')) h60
              · rw [if_neg (by decide)]
                have key : ∀ (A B : Mem) (x y : O), A ++ B ++ [x] ++ [y] = A ++ (B ++ ([x] ++ [y])) := fun A B x y => by simp
                rw [key]
                exact fin _ _ _
    · exact fun b o u e => g.oth _ _ e (hfz b o u e) (fun ps z => nomatch z)
  obtain ⟨tF, hF, rF⟩ := forP
  have C := C9
  have hand : ∃ t, PSs X0 (fnBody sLaw) t ∧ t { nx := fun _ H' => Q .non H', rt := Q } (L2.start lawN [.ref a]) H := by
    have ha2 : H a = some (.lst (ns.map V.int)) ∨ Fz K H a (ns.map V.int) := by
      rcases ha with (e | e) | e
      · exact .inl e
      · exact .inr (.inl e)
      · exact .inr (.inr e)
    rcases ha2 with hA | hA
    · refine ⟨_, pss_cons (ps_set (i := 1) scLaw.nd rfl (Or.inr rfl) (pe_c C._law_start hr (by first | decide | omega) (by rfl) (pa_cons (pv 0) pa_nil))) (pss_cons (ps_lock hF) (pss_one (ps_ret pe_bl))), ?_⟩
      walk_at "go"
      refine ⟨a, ns, rfl, .inl (.inl hA), fun h m H1 hn m0 m1 eh sm1 => ?_⟩
      have tb1 : LamX.TabS H1 Pt lamQ := (hT.ext sm1) (Pt, lamQ) (List.mem_cons_self)
      have tb2 : LamX.TabS H1 Ps lamS := (hT.ext sm1) (Ps, lamS) (List.mem_cons_of_mem _ (List.mem_singleton.mpr rfl))
      have hA1 : H1 a = some (.lst (ns.map V.int)) := sm1 _ _ hA
      have nha : h ≠ a := fun z => by rw [z, hA] at hn; cases hn
      refine ⟨a, _, hA1, True.intro, fun od => rF _ h ⟨ns, 0, m, 0⟩ ⟨Int.le_refl 0, m0, m1, Int.le_refl 0, hl⟩ (sm_start (a := a) (by rw [upd_ne nha]; exact eh) (.inl ⟨od, upd_same⟩) ?_ ?_ hne) _ fun σ' H' kp => ⟨kp _ _ _ upd_same, ?_⟩⟩
      · obtain ⟨ps, t1, t2, t3⟩ := tb1
        refine ⟨ps, by rw [upd_ne (ne_of t1 hA1 (fun z => nomatch z))]; exact t1, t2, fun pos cv hc => ?_⟩
        obtain ⟨c, e1, e2⟩ := t3 pos cv hc
        exact ⟨c, e1, by rw [upd_ne (ne_of e2 hA1 (fun z => by unfold LamX.CodeO at z; cases z))]; exact e2⟩
      · obtain ⟨ps, t1, t2, t3⟩ := tb2
        refine ⟨ps, by rw [upd_ne (ne_of t1 hA1 (fun z => nomatch z))]; exact t1, t2, fun pos cv hc => ?_⟩
        obtain ⟨c, e1, e2⟩ := t3 pos cv hc
        exact ⟨c, e1, by rw [upd_ne (ne_of e2 hA1 (fun z => by unfold LamX.CodeO at z; cases z))]; exact e2⟩
      · walk_at "go"
        exact q _
    · have fz : Fz K H a (ns.map V.int) := hA
      refine ⟨_, pss_cons (ps_set (i := 1) scLaw.nd rfl (Or.inr rfl) (pe_c C._law_start hr (by first | decide | omega) (by rfl) (pa_cons (pv 0) pa_nil))) (pss_cons hF (pss_one (ps_ret pe_bl))), ?_⟩
      walk_at "go"
      refine ⟨a, ns, rfl, fz.sql, fun h m H1 hn m0 m1 eh sm1 => ?_⟩
      have tb1 : LamX.TabS H1 Pt lamQ := (hT.ext sm1) (Pt, lamQ) (List.mem_cons_self)
      have tb2 : LamX.TabS H1 Ps lamS := (hT.ext sm1) (Ps, lamS) (List.mem_cons_of_mem _ (List.mem_singleton.mpr rfl))
      have fz1 : Fz K H1 a (ns.map V.int) := fz.imp (fun ⟨o, e⟩ => ⟨o, sm1 _ _ e⟩) id
      refine rF _ h ⟨ns, 0, m, 0⟩ ⟨Int.le_refl 0, m0, m1, Int.le_refl 0, hl⟩ (sm_start (a := a) eh fz1 tb1 tb2 hne) _ fun σ' H' kp => ?_
      walk_at "go"
      exact q _
  obtain ⟨t, ht, hq⟩ := hand
  exact ⟨t, ht.nox, hq⟩
end
end T1

set_option Elab.async false
set_option linter.all false
set_option maxRecDepth 100000
set_option maxHeartbeats 4000000
namespace T1
open PySem PySem.Spec PyProof.Rows L2 C8 Fm T2
theorem tabs_new2 {T : List (Addr × Str)} {H : Hp} (h : ∀ p ∈ T, H p.1 = some (.tbl #[])) : LamX.Tabs T H := fun p hp => ⟨#[], h p hp, trivial, fun pos cv hc => by cases hc⟩
theorem kb_up {K : PySem.W.Frag} {f : Addr} {fd : FuncData} (F : L2.Fun K "__init__" "Upkeep.__init__" sUi f fd) : KBn K fd ["self", "position", "bridge", "amount", "every", "times"] (3 + 1) ["every", "times"] (fun us ws => us ++ ws) (fun vs zs => vs ++ zs) := by
  obtain ⟨oc, od, kV, doc, pm, an, cdv, ct, osl, rfl, lk, hcd⟩ := F.ex
  exact ⟨fun s us ws _ h1 h2 => match us, h1, ws, h2 with | [_, _, _, _], _, [_, _], _ => .of_eq rfl, fun a b => a.append b⟩
set_option maxHeartbeats 8000000 in
theorem all_mk {l : PySem.W.OpenLaw} {w : World} {K : PySem.W.Frag} {h : Heap} {mg : Str → Option Value} {fa : Addr} (X : K.In h) (G : h.Ns mainGlobals mg) (hfa : mg "law" = some (.ref fa))
    {CB CT CW CK CC CM CU CS fT fX fWi fMi fUi fSi mWp mCch mMch mUch mMat mSp p1 p2 p3 p4 g1 g2 g3 g4 pP gP fL cl cS Pt Ps fIsN fNuO fRd fStart fDrawn fSame fOutc fWoN fLLi fLCh fSor fInt fRdL fVal fExp fChg fChk fLnN fWoO : Addr} {nmT qT : Str} {NT : Addr} {bsT bmT : List Value} {snT : List Str} {subT : List Value} {abT : Bool} {colT : Option Bool} {ddT : Option Addr} {m0T m1T m2T m3T m5T : Option Value} {nmX qX : Str} {NX : Addr} {bsX bmX : List Value} {snX : List Str} {subX : List Value} {abX : Bool} {colX : Option Bool} {ddX : Option Addr} {m0X m1X m2X m3X m5X : Option Value} {mB : Value} {umbC uwdC umbM uwdM umbU uwdU umt umw umc w_MAX_COUNT w_MOST_DIGITS : Tok} {rP r1 r2 r3 r4 : List Value}
    {ocIsN kVIsN dcIsN pmIsN cdIsN ctIsN ocNuO kVNuO dcNuO pmNuO cdNuO ctNuO ocRd kVRd dcRd pmRd cdRd ctRd ocStart kVStart dcStart pmStart cdStart ctStart ocDrawn kVDrawn dcDrawn pmDrawn cdDrawn ctDrawn ocSame kVSame dcSame pmSame cdSame ctSame ocOutc kVOutc dcOutc pmOutc cdOutc ctOutc ocWoN kVWoN dcWoN pmWoN cdWoN ctWoN ocLLi kVLLi dcLLi pmLLi cdLLi ctLLi ocLCh kVLCh dcLCh pmLCh cdLCh ctLCh ocSor kVSor dcSor pmSor cdSor ctSor ocInt kVInt dcInt pmInt cdInt ctInt ocRdL kVRdL dcRdL pmRdL cdRdL ctRdL ocVal kVVal dcVal pmVal cdVal ctVal ocExp kVExp dcExp pmExp cdExp ctExp ocChg kVChg dcChg pmChg cdChg ctChg ocChk kVChk dcChk pmChk cdChk ctChk ocLnN kVLnN dcLnN pmLnN cdLnN ctLnN ocWoO kVWoO dcWoO pmWoO cdWoO ctWoO ocL kVL dcL pmL ctL ocITi kVITi dcITi pmITi cdITi ctITi ocIWi kVIWi dcIWi pmIWi cdIWi ctIWi ocWi kVWi dcWi pmWi cdWi ctWi ocMi kVMi dcMi pmMi cdMi ctMi ocUi kVUi dcUi pmUi cdUi ctUi ocWp kVWp dcWp pmWp cdWp ctWp ocCch kVCch dcCch pmCch cdCch ctCch ocMch kVMch dcMch pmMch cdMch ctMch ocUch kVUch dcUch pmUch cdUch ctUch ocMat kVMat dcMat pmMat cdMat ctMat ocg1 kVg1 dcg1 pmg1 cdg1 ctg1 ocg2 kVg2 dcg2 pmg2 cdg2 ctg2 ocg3 kVg3 dcg3 pmg3 cdg3 ctg3 ocg4 kVg4 dcg4 pmg4 cdg4 ctg4 ocPa kVPa dcPa pmPa cdPa ctPa ocSp kVSp dcSp pmSp cdSp ctSp ocSi kVSi dcSi pmSi ctSi : Value} {odIsN anIsN odNuO anNuO odRd anRd odStart anStart odDrawn anDrawn odSame anSame odOutc anOutc odWoN anWoN odLLi anLLi odLCh anLCh odSor anSor odInt anInt odRdL anRdL odVal anVal odExp anExp odChg anChg odChk anChk odLnN anLnN odWoO anWoO odL anL odITi anITi odIWi anIWi odWi anWi odMi anMi odUi anUi odWp anWp odCch anCch odMch anMch odUch anUch odMat anMat odg1 ang1 odg2 ang2 odg3 ang3 odg4 ang4 odPa anPa odSp anSp odSi anSi : Option Addr} {slIsN slNuO slRd slStart slDrawn slSame slOutc slWoN slLLi slLCh slSor slInt slRdL slVal slExp slChg slChk slLnN slWoO slL slITi slIWi slWi slMi slUi slWp slCch slMch slUch slMat slg1 slg2 slg3 slg4 slPa slSp slSi : Array (Option Value)}
    (aCB : PySem.W.nsIn K mainGlobals "BridgeError" = some (some (.ref CB)))
    (aCT : PySem.W.nsIn K mainGlobals "InvalidText" = some (some (.ref CT)))
    (aCW : PySem.W.nsIn K mainGlobals "InvalidWork" = some (some (.ref CW)))
    (aCK : PySem.W.nsIn K mainGlobals "Work" = some (some (.ref CK)))
    (aCC : PySem.W.nsIn K mainGlobals "Closing" = some (some (.ref CC)))
    (aCM : PySem.W.nsIn K mainGlobals "Mending" = some (some (.ref CM)))
    (aCU : PySem.W.nsIn K mainGlobals "Upkeep" = some (some (.ref CU)))
    (aCS : PySem.W.nsIn K mainGlobals "Schedule" = some (some (.ref CS)))
    (egT : PySem.W.findIn K (.ref CT) "__getattribute__" = some (some (.builtin "BaseException.__getattribute__")))
    (ekT : PySem.W.findIn K (.ref CT) "__getattr__" = some none)
    (esT : PySem.W.subIn K (.ref CT) (.type "BaseException") = some true)
    (edT : PySem.W.hasDictIn K CT = true)
    (olT : K.lookup CT = some (excClassObj nmT qT CT NT bsT bmT true snT subT abT colT ddT m0T m1T m2T m3T m5T "ValueError.__new__"))
    (osT : PySem.W.findIn K (.ref CT) "__setattr__" = some (some (.builtin "object.__setattr__")))
    (otT : PySem.W.typeIn K (.ref CT) = some (.type "type"))
    (okpT : PySem.W.keepIn K (.ref CT) = true)
    (egX : PySem.W.findIn K (.ref CW) "__getattribute__" = some (some (.builtin "BaseException.__getattribute__")))
    (ekX : PySem.W.findIn K (.ref CW) "__getattr__" = some none)
    (esX : PySem.W.subIn K (.ref CW) (.type "BaseException") = some true)
    (edX : PySem.W.hasDictIn K CW = true)
    (olX : K.lookup CW = some (excClassObj nmX qX CW NX bsX bmX true snX subX abX colX ddX m0X m1X m2X m3X m5X "ValueError.__new__"))
    (osX : PySem.W.findIn K (.ref CW) "__setattr__" = some (some (.builtin "object.__setattr__")))
    (otX : PySem.W.typeIn K (.ref CW) = some (.type "type"))
    (okpX : PySem.W.keepIn K (.ref CW) = true)
    (iT : PySem.W.findIn K (.ref CT) "__init__" = some (some (.ref fT)))
    (tT : PySem.W.typeIn K (.ref fT) = some (.type "function"))
    (nR : PySem.W.findIn K (.ref CT) "row" = some none)
    (iX : PySem.W.findIn K (.ref CW) "__init__" = some (some (.ref fX)))
    (tX : PySem.W.typeIn K (.ref fX) = some (.type "function"))
    (nI : PySem.W.findIn K (.ref CW) "index" = some none)
    (k_tt : PySem.W.exmOne K (.ref CT) (.ref CT) = some true)
    (k_wt : PySem.W.exmOne K (.ref CW) (.ref CT) = some false)
    (k_ww : PySem.W.exmOne K (.ref CW) (.ref CW) = some true)
    (rdB : PySem.W.readsIn K CB mB = true)
    (sgB : PySem.W.specialIn K (.ref CB) "__getattribute__" = some (some (.builtin "type.__getattribute__")))
    (inB : PySem.W.findCls K (.ref CB) mB "__init__" = some (.val (.builtin "ValueError.__init__")))
    (cpgC : PySem.W.plainGet K CC Str.empty = true)
    (chdC : PySem.W.hasDictIn K CC = true)
    (cpoC : PySem.W.plainOver K CC = true)
    (csaC : PySem.W.findIn K (.ref CC) "__setattr__" = some (some (.builtin "object.__setattr__")))
    (n1C : PySem.W.findIn K (.ref CC) "_first" = some none)
    (n2C : PySem.W.findIn K (.ref CC) "_bridge" = some none)
    (n3C : PySem.W.findIn K (.ref CC) "_amount" = some none)
    (n4C : PySem.W.findIn K (.ref CC) "_last" = some none)
    (n5C : PySem.W.findIn K (.ref CC) "_every" = some none)
    (n6C : PySem.W.findIn K (.ref CC) "_times" = some none)
    (cambC : PySem.W.findIn K (.ref CC) "MAX_BRIDGE" = some (some (.int 23 umbC)))
    (cgmbC : PySem.W.specialIn K (.int 23 umbC) "__get__" = some none)
    (cawdC : PySem.W.findIn K (.ref CC) "WORD" = some (some (.str "close" uwdC)))
    (cgwdC : PySem.W.specialIn K (.str "close" uwdC) "__get__" = some none)
    (cpgM : PySem.W.plainGet K CM Str.empty = true)
    (chdM : PySem.W.hasDictIn K CM = true)
    (cpoM : PySem.W.plainOver K CM = true)
    (csaM : PySem.W.findIn K (.ref CM) "__setattr__" = some (some (.builtin "object.__setattr__")))
    (n1M : PySem.W.findIn K (.ref CM) "_first" = some none)
    (n2M : PySem.W.findIn K (.ref CM) "_bridge" = some none)
    (n3M : PySem.W.findIn K (.ref CM) "_amount" = some none)
    (n4M : PySem.W.findIn K (.ref CM) "_last" = some none)
    (n5M : PySem.W.findIn K (.ref CM) "_every" = some none)
    (n6M : PySem.W.findIn K (.ref CM) "_times" = some none)
    (cambM : PySem.W.findIn K (.ref CM) "MAX_BRIDGE" = some (some (.int 23 umbM)))
    (cgmbM : PySem.W.specialIn K (.int 23 umbM) "__get__" = some none)
    (cawdM : PySem.W.findIn K (.ref CM) "WORD" = some (some (.str "mend" uwdM)))
    (cgwdM : PySem.W.specialIn K (.str "mend" uwdM) "__get__" = some none)
    (cpgU : PySem.W.plainGet K CU Str.empty = true)
    (chdU : PySem.W.hasDictIn K CU = true)
    (cpoU : PySem.W.plainOver K CU = true)
    (csaU : PySem.W.findIn K (.ref CU) "__setattr__" = some (some (.builtin "object.__setattr__")))
    (n1U : PySem.W.findIn K (.ref CU) "_first" = some none)
    (n2U : PySem.W.findIn K (.ref CU) "_bridge" = some none)
    (n3U : PySem.W.findIn K (.ref CU) "_amount" = some none)
    (n4U : PySem.W.findIn K (.ref CU) "_last" = some none)
    (n5U : PySem.W.findIn K (.ref CU) "_every" = some none)
    (n6U : PySem.W.findIn K (.ref CU) "_times" = some none)
    (cambU : PySem.W.findIn K (.ref CU) "MAX_BRIDGE" = some (some (.int 23 umbU)))
    (cgmbU : PySem.W.specialIn K (.int 23 umbU) "__get__" = some none)
    (cawdU : PySem.W.findIn K (.ref CU) "WORD" = some (some (.str "mend" uwdU)))
    (cgwdU : PySem.W.specialIn K (.str "mend" uwdU) "__get__" = some none)
    (camt : PySem.W.findIn K (.ref CU) "MAX_TIMES" = some (some (.int 50 umt)))
    (cgmt : PySem.W.specialIn K (.int 50 umt) "__get__" = some none)
    (cpgS : PySem.W.plainGet K CS Str.empty = true)
    (chdS : PySem.W.hasDictIn K CS = true)
    (cpoS : PySem.W.plainOver K CS = true)
    (csaS : PySem.W.findIn K (.ref CS) "__setattr__" = some (some (.builtin "object.__setattr__")))
    (n1S : PySem.W.findIn K (.ref CS) "_works" = some none)
    (n2S : PySem.W.findIn K (.ref CS) "_changes" = some none)
    (camw : PySem.W.findIn K (.ref CS) "MAX_WORKS" = some (some (.int 20 umw)))
    (cgmw : PySem.W.specialIn K (.int 20 umw) "__get__" = some none)
    (camc : PySem.W.findIn K (.ref CS) "MAX_CHANGES" = some (some (.int 60 umc)))
    (cgmc : PySem.W.specialIn K (.int 60 umc) "__get__" = some none)
    (mkC : PySem.W.makesIn K CC = true)
    (inC : PySem.W.findIn K (.ref CC) "__init__" = some (some (.ref fWi)))
    (fnC : PySem.W.isFn K (.ref fWi) = true)
    (ckpC : PySem.W.keepIn K (.ref CC) = true)
    (mkM : PySem.W.makesIn K CM = true)
    (inM : PySem.W.findIn K (.ref CM) "__init__" = some (some (.ref fMi)))
    (fnM : PySem.W.isFn K (.ref fMi) = true)
    (ckpM : PySem.W.keepIn K (.ref CM) = true)
    (mkU : PySem.W.makesIn K CU = true)
    (inU : PySem.W.findIn K (.ref CU) "__init__" = some (some (.ref fUi)))
    (fnU : PySem.W.isFn K (.ref fUi) = true)
    (ckpU : PySem.W.keepIn K (.ref CU) = true)
    (mkS : PySem.W.makesIn K CS = true)
    (inS : PySem.W.findIn K (.ref CS) "__init__" = some (some (.ref fSi)))
    (fnS : PySem.W.isFn K (.ref fSi) = true)
    (ckpS : PySem.W.keepIn K (.ref CS) = true)
    (crdK : PySem.W.readsIn K CK (.type "type") = true)
    (cgaK : PySem.W.specialIn K (.ref CK) "__getattribute__" = some (some (.builtin "type.__getattribute__")))
    (crdM : PySem.W.readsIn K CM (.type "type") = true)
    (cgaM : PySem.W.specialIn K (.ref CM) "__getattribute__" = some (some (.builtin "type.__getattribute__")))
    (crdS : PySem.W.readsIn K CS (.type "type") = true)
    (cgaS : PySem.W.specialIn K (.ref CS) "__getattribute__" = some (some (.builtin "type.__getattribute__")))
    (fcK : PySem.W.findCls K (.ref CK) (.type "type") "__init__" = some (.val (.ref fWi)))
    (hiK : PySem.W.handedIn (.ref fWi) = true)
    (fcM : PySem.W.findCls K (.ref CM) (.type "type") "__init__" = some (.val (.ref fMi)))
    (hiM : PySem.W.handedIn (.ref fMi) = true)
    (pcf : PySem.W.findCls K (.ref CS) (.type "type") "parse" = some (.get (.builtin "classmethod.__get__") (.ref pP) .none (.ref CS)))
    (pcr : PySem.W.recIn K pP "classmethod" = some (.ref gP :: rP))
    (pci : PySem.W.fnIn K gP = true)
    (mfplC : PySem.W.findIn K (.ref CC) "planned" = some (some (.ref mWp)))
    (miplC : PySem.W.isFn K (.ref mWp) = true)
    (mfplM : PySem.W.findIn K (.ref CM) "planned" = some (some (.ref mWp)))
    (miplM : PySem.W.isFn K (.ref mWp) = true)
    (mfplU : PySem.W.findIn K (.ref CU) "planned" = some (some (.ref mWp)))
    (miplU : PySem.W.isFn K (.ref mWp) = true)
    (mfchC : PySem.W.findIn K (.ref CC) "_changes_planned" = some (some (.ref mCch)))
    (michC : PySem.W.isFn K (.ref mCch) = true)
    (mfchM : PySem.W.findIn K (.ref CM) "_changes_planned" = some (some (.ref mMch)))
    (michM : PySem.W.isFn K (.ref mMch) = true)
    (mfchU : PySem.W.findIn K (.ref CU) "_changes_planned" = some (some (.ref mUch)))
    (michU : PySem.W.isFn K (.ref mUch) = true)
    (mfmaM : PySem.W.findIn K (.ref CM) "_mending_at" = some (some (.ref mMat)))
    (mimaM : PySem.W.isFn K (.ref mMat) = true)
    (mfmaU : PySem.W.findIn K (.ref CU) "_mending_at" = some (some (.ref mMat)))
    (mimaU : PySem.W.isFn K (.ref mMat) = true)
    (mfplS : PySem.W.findIn K (.ref CS) "planned" = some (some (.ref mSp)))
    (miplS : PySem.W.isFn K (.ref mSp) = true)
    (pa1 : PySem.W.findIn K (.ref CC) "line" = some (some (.ref p1)))
    (pg1 : PySem.W.specialIn K (.ref p1) "__get__" = some (some (.builtin "property.__get__")))
    (pt1 : PySem.W.takesIn K (.ref p1) = some true)
    (pr1 : PySem.W.recIn K p1 "property" = some (.ref g1 :: r1))
    (pa2 : PySem.W.findIn K (.ref CM) "line" = some (some (.ref p2)))
    (pg2 : PySem.W.specialIn K (.ref p2) "__get__" = some (some (.builtin "property.__get__")))
    (pt2 : PySem.W.takesIn K (.ref p2) = some true)
    (pr2 : PySem.W.recIn K p2 "property" = some (.ref g2 :: r2))
    (pa3 : PySem.W.findIn K (.ref CU) "line" = some (some (.ref p3)))
    (pg3 : PySem.W.specialIn K (.ref p3) "__get__" = some (some (.builtin "property.__get__")))
    (pt3 : PySem.W.takesIn K (.ref p3) = some true)
    (pr3 : PySem.W.recIn K p3 "property" = some (.ref g3 :: r3))
    (pa4 : PySem.W.findIn K (.ref CS) "text" = some (some (.ref p4)))
    (pg4 : PySem.W.specialIn K (.ref p4) "__get__" = some (some (.builtin "property.__get__")))
    (pt4 : PySem.W.takesIn K (.ref p4) = some true)
    (pr4 : PySem.W.recIn K p4 "property" = some (.ref g4 :: r4))
    (tca : PySem.W.findIn K (.ref CS) "__class__" = some (some (.builtin "object.__class__")))
    (ehn : PySem.W.specialIn K (.builtin "object.__class__") "__get__" = some (some (.builtin "getset_descriptor.__get__")))
    (eht : PySem.W.takesIn K (.builtin "object.__class__") = some true)
    (tcm : PySem.W.mroIn K CS (.type "object") = some true)
    (k_st : PySem.W.kitOne K (.ref CS) (.type "tuple") = some false)
    (aIsN : PySem.W.nsIn K mainGlobals "is_number" = some (some (.ref fIsN)))
    (lIsN : K.lookup fIsN = some ⟨ocIsN, odIsN, .func (PySem.W.fnOf "is_number" "is_number" (fnArgs sIsNum) (fnBody sIsNum) (fnScope sIsNum) .none kVIsN dcIsN pmIsN anIsN cdIsN ctIsN), slIsN⟩)
    (ccIsN : PySem.W.codeIn K cdIsN "is_number" = true)
    (kkIsN : PySem.W.keepIn K (.ref fIsN) = true)
    (aNuO : PySem.W.nsIn K mainGlobals "number_of" = some (some (.ref fNuO)))
    (lNuO : K.lookup fNuO = some ⟨ocNuO, odNuO, .func (PySem.W.fnOf "number_of" "number_of" (fnArgs sNumOf) (fnBody sNumOf) (fnScope sNumOf) .none kVNuO dcNuO pmNuO anNuO cdNuO ctNuO), slNuO⟩)
    (ccNuO : PySem.W.codeIn K cdNuO "number_of" = true)
    (kkNuO : PySem.W.keepIn K (.ref fNuO) = true)
    (aRd : PySem.W.nsIn K mainGlobals "read_numbers" = some (some (.ref fRd)))
    (lRd : K.lookup fRd = some ⟨ocRd, odRd, .func (PySem.W.fnOf "read_numbers" "read_numbers" (fnArgs sRead) (fnBody sRead) (fnScope sRead) .none kVRd dcRd pmRd anRd cdRd ctRd), slRd⟩)
    (ccRd : PySem.W.codeIn K cdRd "read_numbers" = true)
    (kkRd : PySem.W.keepIn K (.ref fRd) = true)
    (aStart : PySem.W.nsIn K mainGlobals "_law_start" = some (some (.ref fStart)))
    (lStart : K.lookup fStart = some ⟨ocStart, odStart, .func (PySem.W.fnOf "_law_start" "_law_start" (fnArgs sStart) (fnBody sStart) (fnScope sStart) .none kVStart dcStart pmStart anStart cdStart ctStart), slStart⟩)
    (ccStart : PySem.W.codeIn K cdStart "_law_start" = true)
    (kkStart : PySem.W.keepIn K (.ref fStart) = true)
    (aDrawn : PySem.W.nsIn K mainGlobals "_law_drawn" = some (some (.ref fDrawn)))
    (lDrawn : K.lookup fDrawn = some ⟨ocDrawn, odDrawn, .func (PySem.W.fnOf "_law_drawn" "_law_drawn" (fnArgs sDrawn) (fnBody sDrawn) (fnScope sDrawn) .none kVDrawn dcDrawn pmDrawn anDrawn cdDrawn ctDrawn), slDrawn⟩)
    (ccDrawn : PySem.W.codeIn K cdDrawn "_law_drawn" = true)
    (kkDrawn : PySem.W.keepIn K (.ref fDrawn) = true)
    (aSame : PySem.W.nsIn K mainGlobals "_law_same" = some (some (.ref fSame)))
    (lSame : K.lookup fSame = some ⟨ocSame, odSame, .func (PySem.W.fnOf "_law_same" "_law_same" (fnArgs sSame) (fnBody sSame) (fnScope sSame) .none kVSame dcSame pmSame anSame cdSame ctSame), slSame⟩)
    (ccSame : PySem.W.codeIn K cdSame "_law_same" = true)
    (kkSame : PySem.W.keepIn K (.ref fSame) = true)
    (aOutc : PySem.W.nsIn K mainGlobals "_law_outcome" = some (some (.ref fOutc)))
    (lOutc : K.lookup fOutc = some ⟨ocOutc, odOutc, .func (PySem.W.fnOf "_law_outcome" "_law_outcome" (fnArgs sOutcome) (fnBody sOutcome) (fnScope sOutcome) .none kVOutc dcOutc pmOutc anOutc cdOutc ctOutc), slOutc⟩)
    (ccOutc : PySem.W.codeIn K cdOutc "_law_outcome" = true)
    (kkOutc : PySem.W.keepIn K (.ref fOutc) = true)
    (aWoN : PySem.W.nsIn K mainGlobals "_law_work_numbers" = some (some (.ref fWoN)))
    (lWoN : K.lookup fWoN = some ⟨ocWoN, odWoN, .func (PySem.W.fnOf "_law_work_numbers" "_law_work_numbers" (fnArgs sWorkN) (fnBody sWorkN) (fnScope sWorkN) .none kVWoN dcWoN pmWoN anWoN cdWoN ctWoN), slWoN⟩)
    (ccWoN : PySem.W.codeIn K cdWoN "_law_work_numbers" = true)
    (kkWoN : PySem.W.keepIn K (.ref fWoN) = true)
    (aLLi : PySem.W.nsIn K mainGlobals "_law_line" = some (some (.ref fLLi)))
    (lLLi : K.lookup fLLi = some ⟨ocLLi, odLLi, .func (PySem.W.fnOf "_law_line" "_law_line" (fnArgs sLawLine) (fnBody sLawLine) (fnScope sLawLine) .none kVLLi dcLLi pmLLi anLLi cdLLi ctLLi), slLLi⟩)
    (ccLLi : PySem.W.codeIn K cdLLi "_law_line" = true)
    (kkLLi : PySem.W.keepIn K (.ref fLLi) = true)
    (aLCh : PySem.W.nsIn K mainGlobals "_law_changes" = some (some (.ref fLCh)))
    (lLCh : K.lookup fLCh = some ⟨ocLCh, odLCh, .func (PySem.W.fnOf "_law_changes" "_law_changes" (fnArgs sLawCh) (fnBody sLawCh) (fnScope sLawCh) .none kVLCh dcLCh pmLCh anLCh cdLCh ctLCh), slLCh⟩)
    (ccLCh : PySem.W.codeIn K cdLCh "_law_changes" = true)
    (kkLCh : PySem.W.keepIn K (.ref fLCh) = true)
    (aSor : PySem.W.nsIn K mainGlobals "_law_sorted" = some (some (.ref fSor)))
    (lSor : K.lookup fSor = some ⟨ocSor, odSor, .func (PySem.W.fnOf "_law_sorted" "_law_sorted" (fnArgs sSorted) (fnBody sSorted) (fnScope sSorted) .none kVSor dcSor pmSor anSor cdSor ctSor), slSor⟩)
    (ccSor : PySem.W.codeIn K cdSor "_law_sorted" = true)
    (kkSor : PySem.W.keepIn K (.ref fSor) = true)
    (aInt : PySem.W.nsIn K mainGlobals "_law_integer" = some (some (.ref fInt)))
    (lInt : K.lookup fInt = some ⟨ocInt, odInt, .func (PySem.W.fnOf "_law_integer" "_law_integer" (fnArgs sInteger) (fnBody sInteger) (fnScope sInteger) .none kVInt dcInt pmInt anInt cdInt ctInt), slInt⟩)
    (ccInt : PySem.W.codeIn K cdInt "_law_integer" = true)
    (kkInt : PySem.W.keepIn K (.ref fInt) = true)
    (aRdL : PySem.W.nsIn K mainGlobals "_law_read_line" = some (some (.ref fRdL)))
    (lRdL : K.lookup fRdL = some ⟨ocRdL, odRdL, .func (PySem.W.fnOf "_law_read_line" "_law_read_line" (fnArgs sReadLine) (fnBody sReadLine) (fnScope sReadLine) .none kVRdL dcRdL pmRdL anRdL cdRdL ctRdL), slRdL⟩)
    (ccRdL : PySem.W.codeIn K cdRdL "_law_read_line" = true)
    (kkRdL : PySem.W.keepIn K (.ref fRdL) = true)
    (aVal : PySem.W.nsIn K mainGlobals "_law_is_valid" = some (some (.ref fVal)))
    (lVal : K.lookup fVal = some ⟨ocVal, odVal, .func (PySem.W.fnOf "_law_is_valid" "_law_is_valid" (fnArgs sValid) (fnBody sValid) (fnScope sValid) .none kVVal dcVal pmVal anVal cdVal ctVal), slVal⟩)
    (ccVal : PySem.W.codeIn K cdVal "_law_is_valid" = true)
    (kkVal : PySem.W.keepIn K (.ref fVal) = true)
    (aExp : PySem.W.nsIn K mainGlobals "_law_expected" = some (some (.ref fExp)))
    (lExp : K.lookup fExp = some ⟨ocExp, odExp, .func (PySem.W.fnOf "_law_expected" "_law_expected" (fnArgs sExpected) (fnBody sExpected) (fnScope sExpected) .none kVExp dcExp pmExp anExp cdExp ctExp), slExp⟩)
    (ccExp : PySem.W.codeIn K cdExp "_law_expected" = true)
    (kkExp : PySem.W.keepIn K (.ref fExp) = true)
    (aChg : PySem.W.nsIn K mainGlobals "_law_changed" = some (some (.ref fChg)))
    (lChg : K.lookup fChg = some ⟨ocChg, odChg, .func (PySem.W.fnOf "_law_changed" "_law_changed" (fnArgs sChanged) (fnBody sChanged) (fnScope sChanged) .none kVChg dcChg pmChg anChg cdChg ctChg), slChg⟩)
    (ccChg : PySem.W.codeIn K cdChg "_law_changed" = true)
    (kkChg : PySem.W.keepIn K (.ref fChg) = true)
    (aChk : PySem.W.nsIn K mainGlobals "_check_range" = some (some (.ref fChk)))
    (lChk : K.lookup fChk = some ⟨ocChk, odChk, .func (PySem.W.fnOf "_check_range" "_check_range" (L2.defArgs sCheck) (L2.defBody sCheck) (L2.defScope sCheck) .none kVChk dcChk pmChk anChk cdChk ctChk), slChk⟩)
    (ccChk : PySem.W.codeIn K cdChk "_check_range" = true)
    (kkChk : PySem.W.keepIn K (.ref fChk) = true)
    (aLnN : PySem.W.nsIn K mainGlobals "_line_numbers" = some (some (.ref fLnN)))
    (lLnN : K.lookup fLnN = some ⟨ocLnN, odLnN, .func (PySem.W.fnOf "_line_numbers" "_line_numbers" (L2.defArgs sLnN) (L2.defBody sLnN) (L2.defScope sLnN) .none kVLnN dcLnN pmLnN anLnN cdLnN ctLnN), slLnN⟩)
    (ccLnN : PySem.W.codeIn K cdLnN "_line_numbers" = true)
    (kkLnN : PySem.W.keepIn K (.ref fLnN) = true)
    (aWoO : PySem.W.nsIn K mainGlobals "_work_of" = some (some (.ref fWoO)))
    (lWoO : K.lookup fWoO = some ⟨ocWoO, odWoO, .func (PySem.W.fnOf "_work_of" "_work_of" (L2.defArgs sWorkOf) (L2.defBody sWorkOf) (L2.defScope sWorkOf) .none kVWoO dcWoO pmWoO anWoO cdWoO ctWoO), slWoO⟩)
    (ccWoO : PySem.W.codeIn K cdWoO "_work_of" = true)
    (kkWoO : PySem.W.keepIn K (.ref fWoO) = true)
    (aL : PySem.W.nsIn K mainGlobals "law" = some (some (.ref fL)))
    (lL : K.lookup fL = some ⟨ocL, odL, .func (PySem.W.fnOf "law" "law" (fnArgs sLaw) (fnBody sLaw) (fnScope sLaw) .none kVL dcL pmL anL (.ref cl) ctL), slL⟩)
    (ccL : PySem.W.codeIn K (.ref cl) "law" = true)
    (kkL : PySem.W.keepIn K (.ref fL) = true)
    (lITi : K.lookup fT = some ⟨ocITi, odITi, .func (PySem.W.fnOf "__init__" "InvalidText.__init__" (L2.defArgs sITi) (L2.defBody sITi) (L2.defScope sITi) .none kVITi dcITi pmITi anITi cdITi ctITi), slITi⟩)
    (ccITi : PySem.W.codeIn K cdITi "InvalidText.__init__" = true)
    (kkITi : PySem.W.keepIn K (.ref fT) = true)
    (lIWi : K.lookup fX = some ⟨ocIWi, odIWi, .func (PySem.W.fnOf "__init__" "InvalidWork.__init__" (L2.defArgs sIWi) (L2.defBody sIWi) (L2.defScope sIWi) .none kVIWi dcIWi pmIWi anIWi cdIWi ctIWi), slIWi⟩)
    (ccIWi : PySem.W.codeIn K cdIWi "InvalidWork.__init__" = true)
    (kkIWi : PySem.W.keepIn K (.ref fX) = true)
    (lWi : K.lookup fWi = some ⟨ocWi, odWi, .func (PySem.W.fnOf "__init__" "Work.__init__" (L2.defArgs sWi) (L2.defBody sWi) (L2.defScope sWi) .none kVWi dcWi pmWi anWi cdWi ctWi), slWi⟩)
    (ccWi : PySem.W.codeIn K cdWi "Work.__init__" = true)
    (kkWi : PySem.W.keepIn K (.ref fWi) = true)
    (lMi : K.lookup fMi = some ⟨ocMi, odMi, .func (PySem.W.fnOf "__init__" "Mending.__init__" (L2.defArgs sMi) (L2.defBody sMi) (L2.defScope sMi) .none kVMi dcMi pmMi anMi cdMi ctMi), slMi⟩)
    (ccMi : PySem.W.codeIn K cdMi "Mending.__init__" = true)
    (kkMi : PySem.W.keepIn K (.ref fMi) = true)
    (lUi : K.lookup fUi = some ⟨ocUi, odUi, .func (PySem.W.fnOf "__init__" "Upkeep.__init__" (L2.defArgs sUi) (L2.defBody sUi) (L2.defScope sUi) .none kVUi dcUi pmUi anUi cdUi ctUi), slUi⟩)
    (ccUi : PySem.W.codeIn K cdUi "Upkeep.__init__" = true)
    (kkUi : PySem.W.keepIn K (.ref fUi) = true)
    (lWp : K.lookup mWp = some ⟨ocWp, odWp, .func (PySem.W.fnOf "planned" "Work.planned" (L2.defArgs sWplan) (L2.defBody sWplan) (L2.defScope sWplan) .none kVWp dcWp pmWp anWp cdWp ctWp), slWp⟩)
    (ccWp : PySem.W.codeIn K cdWp "Work.planned" = true)
    (kkWp : PySem.W.keepIn K (.ref mWp) = true)
    (lCch : K.lookup mCch = some ⟨ocCch, odCch, .func (PySem.W.fnOf "_changes_planned" "Closing._changes_planned" (L2.defArgs sCch) (L2.defBody sCch) (L2.defScope sCch) .none kVCch dcCch pmCch anCch cdCch ctCch), slCch⟩)
    (ccCch : PySem.W.codeIn K cdCch "Closing._changes_planned" = true)
    (kkCch : PySem.W.keepIn K (.ref mCch) = true)
    (lMch : K.lookup mMch = some ⟨ocMch, odMch, .func (PySem.W.fnOf "_changes_planned" "Mending._changes_planned" (L2.defArgs sMch) (L2.defBody sMch) (L2.defScope sMch) .none kVMch dcMch pmMch anMch cdMch ctMch), slMch⟩)
    (ccMch : PySem.W.codeIn K cdMch "Mending._changes_planned" = true)
    (kkMch : PySem.W.keepIn K (.ref mMch) = true)
    (lUch : K.lookup mUch = some ⟨ocUch, odUch, .func (PySem.W.fnOf "_changes_planned" "Upkeep._changes_planned" (L2.defArgs sUch) (L2.defBody sUch) (L2.defScope sUch) .none kVUch dcUch pmUch anUch cdUch ctUch), slUch⟩)
    (ccUch : PySem.W.codeIn K cdUch "Upkeep._changes_planned" = true)
    (kkUch : PySem.W.keepIn K (.ref mUch) = true)
    (lMat : K.lookup mMat = some ⟨ocMat, odMat, .func (PySem.W.fnOf "_mending_at" "Mending._mending_at" (L2.defArgs sMat) (L2.defBody sMat) (L2.defScope sMat) .none kVMat dcMat pmMat anMat cdMat ctMat), slMat⟩)
    (ccMat : PySem.W.codeIn K cdMat "Mending._mending_at" = true)
    (kkMat : PySem.W.keepIn K (.ref mMat) = true)
    (lg1 : K.lookup g1 = some ⟨ocg1, odg1, .func (PySem.W.fnOf "line" "Work.line" (L2.defArgs sWline) (L2.defBody sWline) (L2.defScope sWline) .none kVg1 dcg1 pmg1 ang1 cdg1 ctg1), slg1⟩)
    (ccg1 : PySem.W.codeIn K cdg1 "Work.line" = true)
    (kkg1 : PySem.W.keepIn K (.ref g1) = true)
    (lg2 : K.lookup g2 = some ⟨ocg2, odg2, .func (PySem.W.fnOf "line" "Mending.line" (L2.defArgs sMline) (L2.defBody sMline) (L2.defScope sMline) .none kVg2 dcg2 pmg2 ang2 cdg2 ctg2), slg2⟩)
    (ccg2 : PySem.W.codeIn K cdg2 "Mending.line" = true)
    (kkg2 : PySem.W.keepIn K (.ref g2) = true)
    (lg3 : K.lookup g3 = some ⟨ocg3, odg3, .func (PySem.W.fnOf "line" "Upkeep.line" (L2.defArgs sUline) (L2.defBody sUline) (L2.defScope sUline) .none kVg3 dcg3 pmg3 ang3 cdg3 ctg3), slg3⟩)
    (ccg3 : PySem.W.codeIn K cdg3 "Upkeep.line" = true)
    (kkg3 : PySem.W.keepIn K (.ref g3) = true)
    (lg4 : K.lookup g4 = some ⟨ocg4, odg4, .func (PySem.W.fnOf "text" "Schedule.text" (L2.defArgs sStext) (L2.defBody sStext) (L2.defScope sStext) .none kVg4 dcg4 pmg4 ang4 cdg4 ctg4), slg4⟩)
    (ccg4 : PySem.W.codeIn K cdg4 "Schedule.text" = true)
    (kkg4 : PySem.W.keepIn K (.ref g4) = true)
    (lPa : K.lookup gP = some ⟨ocPa, odPa, .func (PySem.W.fnOf "parse" "Schedule.parse" (L2.defArgs sParse) (L2.defBody sParse) (L2.defScope sParse) .none kVPa dcPa pmPa anPa cdPa ctPa), slPa⟩)
    (ccPa : PySem.W.codeIn K cdPa "Schedule.parse" = true)
    (kkPa : PySem.W.keepIn K (.ref gP) = true)
    (lSp : K.lookup mSp = some ⟨ocSp, odSp, .func (PySem.W.fnOf "planned" "Schedule.planned" (L2.defArgs sSplan) (L2.defBody sSplan) (L2.defScope sSplan) .none kVSp dcSp pmSp anSp cdSp ctSp), slSp⟩)
    (ccSp : PySem.W.codeIn K cdSp "Schedule.planned" = true)
    (kkSp : PySem.W.keepIn K (.ref mSp) = true)
    (lSi : K.lookup fSi = some ⟨ocSi, odSi, .func (PySem.W.fnOf "__init__" "Schedule.__init__" (L2.defArgs sSi) (L2.defBody sSi) (L2.defScope sSi) .none kVSi dcSi pmSi anSi (.ref cS) ctSi), slSi⟩)
    (ccSi : PySem.W.codeIn K (.ref cS) "Schedule.__init__" = true)
    (kkSi : PySem.W.keepIn K (.ref fSi) = true)
    (z_bool : PySem.W.nsIn K mainGlobals "bool" = some none)
    (z_dict : PySem.W.nsIn K mainGlobals "dict" = some none)
    (z_enumerate : PySem.W.nsIn K mainGlobals "enumerate" = some none)
    (z_int : PySem.W.nsIn K mainGlobals "int" = some none)
    (z_isinstance : PySem.W.nsIn K mainGlobals "isinstance" = some none)
    (z_len : PySem.W.nsIn K mainGlobals "len" = some none)
    (z_list : PySem.W.nsIn K mainGlobals "list" = some none)
    (z_max : PySem.W.nsIn K mainGlobals "max" = some none)
    (z_range : PySem.W.nsIn K mainGlobals "range" = some none)
    (z_set : PySem.W.nsIn K mainGlobals "set" = some none)
    (z_sorted : PySem.W.nsIn K mainGlobals "sorted" = some none)
    (z_str : PySem.W.nsIn K mainGlobals "str" = some none)
    (z_tuple : PySem.W.nsIn K mainGlobals "tuple" = some none)
    (z_zip : PySem.W.nsIn K mainGlobals "zip" = some none)
    (v_MAX_COUNT : PySem.W.nsIn K mainGlobals "MAX_COUNT" = some (some (.int 1000000000000000000 w_MAX_COUNT)))
    (v_MOST_DIGITS : PySem.W.nsIn K mainGlobals "MOST_DIGITS" = some (some (.int 20 w_MOST_DIGITS)))
    (ntP : K.lookup Pt = none)
    (cdH : PySem.W.codeHdIn K cl Pt = true)
    (ntS : K.lookup Ps = none)
    (cdS : PySem.W.codeHdIn K cS Ps = true)
    (nPS : decide (Pt = Ps) = false)
    (oxrT : PySem.HandSPX.refsVE bmT = true) (oxrX : PySem.HandSPX.refsVE bmX = true) (tab : h.get? Pt = some { cls := .none, data := .fields #[] }) (tab2 : h.get? Ps = some { cls := .none, data := .fields #[] }) : LamX.LawAtS l w K C8.CX0 16 63 "_law_script" mg fa h := by
  have e := hfa.symm.trans (PySem.W.mg_of X G aL)
  cases e
  have hne : Pt ≠ Ps := of_decide_eq_false nPS
  have T : BT mg := ⟨PySem.W.mg_none_of X G z_len, PySem.W.mg_none_of X G z_int, PySem.W.mg_none_of X G z_max, PySem.W.mg_none_of X G z_range, PySem.W.mg_none_of X G z_list, PySem.W.mg_none_of X G z_tuple, PySem.W.mg_none_of X G z_isinstance, PySem.W.mg_none_of X G z_enumerate, PySem.W.mg_none_of X G z_dict, PySem.W.mg_none_of X G z_str, PySem.W.mg_none_of X G z_bool⟩
  have U : BQ mg := ⟨PySem.W.mg_none_of X G z_len, PySem.W.mg_none_of X G z_int, PySem.W.mg_none_of X G z_range, PySem.W.mg_none_of X G z_list, PySem.W.mg_none_of X G z_tuple, PySem.W.mg_none_of X G z_isinstance, PySem.W.mg_none_of X G z_enumerate, PySem.W.mg_none_of X G z_sorted, PySem.W.mg_none_of X G z_set, PySem.W.mg_none_of X G z_zip, PySem.W.mg_none_of X G z_str, PySem.W.mg_none_of X G z_bool, ⟨_, PySem.W.mg_of X G v_MAX_COUNT, ⟨_, rfl⟩⟩, ⟨_, PySem.W.mg_of X G v_MOST_DIGITS, ⟨_, rfl⟩⟩⟩
  have oxT : OexC K CT := ⟨⟨nmT, qT, NT, bsT, bmT, snT, subT, abT, colT, ddT, m0T, m1T, m2T, m3T, m5T, olT, oxrT⟩, osT, esT, otT, okpT⟩
  have oxX : OexC K CW := ⟨⟨nmX, qX, NX, bsX, bmX, snX, subX, abX, colX, ddX, m0X, m1X, m2X, m3X, m5X, olX, oxrX⟩, osX, esX, otX, okpX⟩
  have TB0 : ProgB K mg CB mB := ⟨PySem.W.mg_of X G aCB, rdB, sgB, inB⟩
  have TXT : ProgX K mg "InvalidText" "row" CT fT := ⟨PySem.W.mg_of X G aCT, oxT, iT, tT, nR⟩
  have TXW : ProgX K mg "InvalidWork" "index" CW fX := ⟨PySem.W.mg_of X G aCW, oxX, iX, tX, nI⟩
  have T1 : Errs2 K mg CT CW := ⟨PySem.W.mg_of X G aCT, PySem.W.mg_of X G aCW, k_tt, k_wt, k_ww, ⟨egT, ekT, esT, edT⟩, ⟨egX, ekX, esX, edX⟩, nR, nI⟩
  have clC : L2.Cls K CC := ⟨cpgC, chdC, cpoC, csaC⟩
  have clM : L2.Cls K CM := ⟨cpgM, chdM, cpoM, csaM⟩
  have clU : L2.Cls K CU := ⟨cpgU, chdU, cpoU, csaU⟩
  have clS : L2.Cls K CS := ⟨cpgS, chdS, cpoS, csaS⟩
  have WcC : WC K CC "close" := ⟨clC, n1C, n2C, n3C, n4C, n5C, n6C, ⟨_, ⟨cambC, ⟨_, rfl⟩, cgmbC, by decide +kernel⟩⟩, ⟨_, ⟨cawdC, ⟨_, rfl⟩, cgwdC, by decide +kernel⟩⟩⟩
  have WcM : WC K CM "mend" := ⟨clM, n1M, n2M, n3M, n4M, n5M, n6M, ⟨_, ⟨cambM, ⟨_, rfl⟩, cgmbM, by decide +kernel⟩⟩, ⟨_, ⟨cawdM, ⟨_, rfl⟩, cgwdM, by decide +kernel⟩⟩⟩
  have WcU : WC K CU "mend" := ⟨clU, n1U, n2U, n3U, n4U, n5U, n6U, ⟨_, ⟨cambU, ⟨_, rfl⟩, cgmbU, by decide +kernel⟩⟩, ⟨_, ⟨cawdU, ⟨_, rfl⟩, cgwdU, by decide +kernel⟩⟩⟩
  have D3 : W3 K ⟨CC, CM, CU⟩ := ⟨WcC, WcM, WcU⟩
  have SCS : SC K CS := ⟨clS, n1S, n2S, ⟨_, ⟨camw, ⟨_, rfl⟩, cgmw, by decide +kernel⟩⟩, ⟨_, ⟨camc, ⟨_, rfl⟩, cgmc, by decide +kernel⟩⟩⟩
  have TC : TyC K CS := ⟨clS, tca, ehn, eht, tcm, k_st⟩
  have MKC : L2.Mk K CC fWi := ⟨mkC, inC, fnC, ckpC⟩
  have MKM : L2.Mk K CM fMi := ⟨mkM, inM, fnM, ckpM⟩
  have MKU : L2.Mk K CU fUi := ⟨mkU, inU, fnU, ckpU⟩
  have MKS : L2.Mk K CS fSi := ⟨mkS, inS, fnS, ckpS⟩
  have FIsN : C8.Fun K "is_number" "is_number" sIsNum fIsN _ := ⟨_, _, _, _, _, _, _, _, _, _, rfl, lIsN, ccIsN⟩
  have DIsN : Def K mg "is_number" sIsNum fIsN _ := ⟨FIsN, PySem.W.mg_of X G aIsN, kkIsN⟩
  have bIsN := FIsN.binds rfl (ps := ["word"]) fun _ _ _ _ _ _ us hl => match us, hl with | [_], _ => rfl
  have FNuO : C8.Fun K "number_of" "number_of" sNumOf fNuO _ := ⟨_, _, _, _, _, _, _, _, _, _, rfl, lNuO, ccNuO⟩
  have DNuO : Def K mg "number_of" sNumOf fNuO _ := ⟨FNuO, PySem.W.mg_of X G aNuO, kkNuO⟩
  have bNuO := FNuO.binds rfl (ps := ["word"]) fun _ _ _ _ _ _ us hl => match us, hl with | [_], _ => rfl
  have FRd : C8.Fun K "read_numbers" "read_numbers" sRead fRd _ := ⟨_, _, _, _, _, _, _, _, _, _, rfl, lRd, ccRd⟩
  have DRd : Def K mg "read_numbers" sRead fRd _ := ⟨FRd, PySem.W.mg_of X G aRd, kkRd⟩
  have bRd := FRd.binds rfl (ps := ["line", "form"]) fun _ _ _ _ _ _ us hl => match us, hl with | [_, _], _ => rfl
  have FStart : C8.Fun K "_law_start" "_law_start" sStart fStart _ := ⟨_, _, _, _, _, _, _, _, _, _, rfl, lStart, ccStart⟩
  have DStart : Def K mg "_law_start" sStart fStart _ := ⟨FStart, PySem.W.mg_of X G aStart, kkStart⟩
  have bStart := FStart.binds rfl (ps := ["_law_script"]) fun _ _ _ _ _ _ us hl => match us, hl with | [_], _ => rfl
  have FDrawn : C8.Fun K "_law_drawn" "_law_drawn" sDrawn fDrawn _ := ⟨_, _, _, _, _, _, _, _, _, _, rfl, lDrawn, ccDrawn⟩
  have DDrawn : Def K mg "_law_drawn" sDrawn fDrawn _ := ⟨FDrawn, PySem.W.mg_of X G aDrawn, kkDrawn⟩
  have bDrawn := FDrawn.binds rfl (ps := ["_law_state", "_law_count"]) fun _ _ _ _ _ _ us hl => match us, hl with | [_, _], _ => rfl
  have FSame : C8.Fun K "_law_same" "_law_same" sSame fSame _ := ⟨_, _, _, _, _, _, _, _, _, _, rfl, lSame, ccSame⟩
  have DSame : Def K mg "_law_same" sSame fSame _ := ⟨FSame, PySem.W.mg_of X G aSame, kkSame⟩
  have bSame := FSame.binds rfl (ps := ["_law_result", "_law_expected_here"]) fun _ _ _ _ _ _ us hl => match us, hl with | [_, _], _ => rfl
  have FOutc : C8.Fun K "_law_outcome" "_law_outcome" sOutcome fOutc _ := ⟨_, _, _, _, _, _, _, _, _, _, rfl, lOutc, ccOutc⟩
  have DOutc : Def K mg "_law_outcome" sOutcome fOutc _ := ⟨FOutc, PySem.W.mg_of X G aOutc, kkOutc⟩
  have bOutc := FOutc.binds rfl (ps := ["_law_work"]) fun _ _ _ _ _ _ us hl => match us, hl with | [_], _ => rfl
  have FWoN : C8.Fun K "_law_work_numbers" "_law_work_numbers" sWorkN fWoN _ := ⟨_, _, _, _, _, _, _, _, _, _, rfl, lWoN, ccWoN⟩
  have DWoN : Def K mg "_law_work_numbers" sWorkN fWoN _ := ⟨FWoN, PySem.W.mg_of X G aWoN, kkWoN⟩
  have bWoN := FWoN.binds rfl (ps := ["_law_state", "_law_bridges", "_law_high"]) fun _ _ _ _ _ _ us hl => match us, hl with | [_, _, _], _ => rfl
  have FLLi : C8.Fun K "_law_line" "_law_line" sLawLine fLLi _ := ⟨_, _, _, _, _, _, _, _, _, _, rfl, lLLi, ccLLi⟩
  have DLLi : Def K mg "_law_line" sLawLine fLLi _ := ⟨FLLi, PySem.W.mg_of X G aLLi, kkLLi⟩
  have bLLi := FLLi.binds rfl (ps := ["_law_numbers"]) fun _ _ _ _ _ _ us hl => match us, hl with | [_], _ => rfl
  have FLCh : C8.Fun K "_law_changes" "_law_changes" sLawCh fLCh _ := ⟨_, _, _, _, _, _, _, _, _, _, rfl, lLCh, ccLCh⟩
  have DLCh : Def K mg "_law_changes" sLawCh fLCh _ := ⟨FLCh, PySem.W.mg_of X G aLCh, kkLCh⟩
  have bLCh := FLCh.binds rfl (ps := ["_law_numbers"]) fun _ _ _ _ _ _ us hl => match us, hl with | [_], _ => rfl
  have FSor : C8.Fun K "_law_sorted" "_law_sorted" sSorted fSor _ := ⟨_, _, _, _, _, _, _, _, _, _, rfl, lSor, ccSor⟩
  have DSor : Def K mg "_law_sorted" sSorted fSor _ := ⟨FSor, PySem.W.mg_of X G aSor, kkSor⟩
  have bSor := FSor.binds rfl (ps := ["_law_rows"]) fun _ _ _ _ _ _ us hl => match us, hl with | [_], _ => rfl
  have FInt : C8.Fun K "_law_integer" "_law_integer" sInteger fInt _ := ⟨_, _, _, _, _, _, _, _, _, _, rfl, lInt, ccInt⟩
  have DInt : Def K mg "_law_integer" sInteger fInt _ := ⟨FInt, PySem.W.mg_of X G aInt, kkInt⟩
  have bInt := FInt.binds rfl (ps := ["_law_word"]) fun _ _ _ _ _ _ us hl => match us, hl with | [_], _ => rfl
  have FRdL : C8.Fun K "_law_read_line" "_law_read_line" sReadLine fRdL _ := ⟨_, _, _, _, _, _, _, _, _, _, rfl, lRdL, ccRdL⟩
  have DRdL : Def K mg "_law_read_line" sReadLine fRdL _ := ⟨FRdL, PySem.W.mg_of X G aRdL, kkRdL⟩
  have bRdL := FRdL.binds rfl (ps := ["_law_line_here"]) fun _ _ _ _ _ _ us hl => match us, hl with | [_], _ => rfl
  have FVal : C8.Fun K "_law_is_valid" "_law_is_valid" sValid fVal _ := ⟨_, _, _, _, _, _, _, _, _, _, rfl, lVal, ccVal⟩
  have DVal : Def K mg "_law_is_valid" sValid fVal _ := ⟨FVal, PySem.W.mg_of X G aVal, kkVal⟩
  have bVal := FVal.binds rfl (ps := ["_law_numbers"]) fun _ _ _ _ _ _ us hl => match us, hl with | [_], _ => rfl
  have FExp : C8.Fun K "_law_expected" "_law_expected" sExpected fExp _ := ⟨_, _, _, _, _, _, _, _, _, _, rfl, lExp, ccExp⟩
  have DExp : Def K mg "_law_expected" sExpected fExp _ := ⟨FExp, PySem.W.mg_of X G aExp, kkExp⟩
  have bExp := FExp.binds rfl (ps := ["_law_text"]) fun _ _ _ _ _ _ us hl => match us, hl with | [_], _ => rfl
  have FChg : C8.Fun K "_law_changed" "_law_changed" sChanged fChg _ := ⟨_, _, _, _, _, _, _, _, _, _, rfl, lChg, ccChg⟩
  have DChg : Def K mg "_law_changed" sChanged fChg _ := ⟨FChg, PySem.W.mg_of X G aChg, kkChg⟩
  have bChg := FChg.binds rfl (ps := ["_law_state", "_law_text"]) fun _ _ _ _ _ _ us hl => match us, hl with | [_, _], _ => rfl
  have FChk := L2.fun_mk (st := sCheck) lChk ccChk kkChk
  have bChk := FChk.binds (ps := ["number", "low", "high"]) fun _ _ _ _ _ _ us hl => match us, hl with | [_, _, _], _ => rfl
  have FLnN := L2.fun_mk (st := sLnN) lLnN ccLnN kkLnN
  have bLnN := FLnN.binds (ps := ["line"]) fun _ _ _ _ _ _ us hl => match us, hl with | [_], _ => rfl
  have FWoO := L2.fun_mk (st := sWorkOf) lWoO ccWoO kkWoO
  have bWoO := FWoO.binds (ps := ["numbers"]) fun _ _ _ _ _ _ us hl => match us, hl with | [_], _ => rfl
  have FITi := L2.fun_mk (st := sITi) lITi ccITi kkITi
  have bITi := FITi.binds (ps := ["self", "row"]) fun _ _ _ _ _ _ us hl => match us, hl with | [_, _], _ => rfl
  have FIWi := L2.fun_mk (st := sIWi) lIWi ccIWi kkIWi
  have bIWi := FIWi.binds (ps := ["self", "index"]) fun _ _ _ _ _ _ us hl => match us, hl with | [_, _], _ => rfl
  have FWi := L2.fun_mk (st := sWi) lWi ccWi kkWi
  have bWi := FWi.binds (ps := ["self", "position", "bridge"]) fun _ _ _ _ _ _ us hl => match us, hl with | [_, _, _], _ => rfl
  have FMi := L2.fun_mk (st := sMi) lMi ccMi kkMi
  have bMi := FMi.binds (ps := ["self", "position", "bridge", "amount"]) fun _ _ _ _ _ _ us hl => match us, hl with | [_, _, _, _], _ => rfl
  have FUi := L2.fun_mk (st := sUi) lUi ccUi kkUi
  have FWp := L2.fun_mk (st := sWplan) lWp ccWp kkWp
  have bWp := FWp.binds (ps := ["self"]) fun _ _ _ _ _ _ us hl => match us, hl with | [_], _ => rfl
  have FCch := L2.fun_mk (st := sCch) lCch ccCch kkCch
  have bCch := FCch.binds (ps := ["self"]) fun _ _ _ _ _ _ us hl => match us, hl with | [_], _ => rfl
  have FMch := L2.fun_mk (st := sMch) lMch ccMch kkMch
  have bMch := FMch.binds (ps := ["self"]) fun _ _ _ _ _ _ us hl => match us, hl with | [_], _ => rfl
  have FUch := L2.fun_mk (st := sUch) lUch ccUch kkUch
  have bUch := FUch.binds (ps := ["self"]) fun _ _ _ _ _ _ us hl => match us, hl with | [_], _ => rfl
  have FMat := L2.fun_mk (st := sMat) lMat ccMat kkMat
  have bMat := FMat.binds (ps := ["self", "position"]) fun _ _ _ _ _ _ us hl => match us, hl with | [_, _], _ => rfl
  have Fg1 := L2.fun_mk (st := sWline) lg1 ccg1 kkg1
  have bg1 := Fg1.binds (ps := ["self"]) fun _ _ _ _ _ _ us hl => match us, hl with | [_], _ => rfl
  have Fg2 := L2.fun_mk (st := sMline) lg2 ccg2 kkg2
  have bg2 := Fg2.binds (ps := ["self"]) fun _ _ _ _ _ _ us hl => match us, hl with | [_], _ => rfl
  have Fg3 := L2.fun_mk (st := sUline) lg3 ccg3 kkg3
  have bg3 := Fg3.binds (ps := ["self"]) fun _ _ _ _ _ _ us hl => match us, hl with | [_], _ => rfl
  have Fg4 := L2.fun_mk (st := sStext) lg4 ccg4 kkg4
  have bg4 := Fg4.binds (ps := ["self"]) fun _ _ _ _ _ _ us hl => match us, hl with | [_], _ => rfl
  have FPa := L2.fun_mk (st := sParse) lPa ccPa kkPa
  have bPa := FPa.binds (ps := ["cls", "text"]) fun _ _ _ _ _ _ us hl => match us, hl with | [_, _], _ => rfl
  have FSp := L2.fun_mk (st := sSplan) lSp ccSp kkSp
  have bSp := FSp.binds (ps := ["self"]) fun _ _ _ _ _ _ us hl => match us, hl with | [_], _ => rfl
  have FSi : FunC K "__init__" "Schedule.__init__" sSi fSi cS := ⟨_, _, _, _, _, _, _, _, lSi, ccSi⟩
  refine ⟨PySem.W.fnOf "law" "law" (fnArgs sLaw) (fnBody sLaw) (fnScope sLaw) .none kVL dcL pmL anL (.ref cl) ctL, [(cl, Pt), (cS, Ps)], spLaw K [(Pt, lamQ), (Ps, lamS)], fun p hp => ?_, fun p hp => ?_, fun p hp => ?_, fun s u => .of_eq rfl, fun H a ns hl _ hH hS => ⟨a, ns, rfl, hS, hl, tabs_new2 (fun p hp => ?_), fun _ => rfl⟩, fun base KX Gb TB => ?_⟩
  · simp only [List.mem_cons, List.not_mem_nil, or_false] at hp; rcases hp with rfl | rfl
    · exact tab
    · exact tab2
  · simp only [List.mem_cons, List.not_mem_nil, or_false] at hp; rcases hp with rfl | rfl
    · exact ntP
    · exact ntS
  · simp only [List.mem_cons, List.not_mem_nil, or_false] at hp; rcases hp with rfl | rfl
    · exact PySem.W.codeHd_of_K X cdH
    · exact PySem.W.codeHd_of_K X cdS
  · simp only [List.mem_cons, List.not_mem_nil, or_false] at hp; rcases hp with rfl | rfl
    · exact hH (cl, Pt) List.mem_cons_self
    · exact hH (cS, Ps) (List.mem_cons_of_mem _ (List.mem_singleton.mpr rfl))
  have TBt := TB (cl, Pt) List.mem_cons_self
  have TBs := TB (cS, Ps) (List.mem_cons_of_mem _ (List.mem_singleton.mpr rfl))
  have OIT := ok_ITi (P := l.prog) (w := w) (base := base) FITi TB0 TXT
  have OIW := ok_IWi (P := l.prog) (w := w) (base := base) FIWi TB0 TXW
  have OIH := ok_IWh (P := l.prog) (w := w) (base := base) FIWi TB0 TXW
  have RT : RaisesX l.prog w K mg base "InvalidText" "row" CT := ⟨_, _, _, TXT, OIT, bITi⟩
  have RW : RaisesX l.prog w K mg base "InvalidWork" "index" CW := ⟨_, _, _, TXW, OIW, bIWi⟩
  have RH : RaisesH l.prog w K mg base "InvalidWork" "index" CW := ⟨_, _, _, TXW, OIH, bIWi⟩
  have Cw0 : Cw l.prog w K mg base CW := ⟨⟨_, _, _, ok_check FChk RW, PySem.W.mg_of X G aChk, kkChk, bChk⟩⟩
  have BWM : BasX l.prog w K mg base (L2N.CX l.prog w) 4 "Work" "__init__" (spF K (fsWi CW CM)) := ⟨_, _, _, _, _, PySem.W.mg_of X G aCK, ⟨crdK, cgaK⟩, fcK, hiK, kkWi, ok_Wi FWi U Cw0 WcM, bWi⟩
  have BWU : BasX l.prog w K mg base (L2N.CX l.prog w) 4 "Work" "__init__" (spF K (fsWi CW CU)) := ⟨_, _, _, _, _, PySem.W.mg_of X G aCK, ⟨crdK, cgaK⟩, fcK, hiK, kkWi, ok_Wi FWi U Cw0 WcU, bWi⟩
  have BMU : BasX l.prog w K mg base (L2N.CX l.prog w) 5 "Mending" "__init__" (spF K (fsMi CW CU)) := ⟨_, _, _, _, _, PySem.W.mg_of X G aCM, ⟨crdM, cgaM⟩, fcM, hiM, kkMi, ok_Mi FMi U Cw0 WcU BWU, bMi⟩
  have KC : MakX l.prog w K mg base (L2N.CX l.prog w) 4 "Closing" CC (spF K (fsWi CW CC)) := ⟨_, _, _, MKC, ok_Wi FWi U Cw0 WcC, PySem.W.mg_of X G aCC, bWi⟩
  have KM : MakX l.prog w K mg base (L2N.CX l.prog w) 5 "Mending" CM (spF K (fsMi CW CM)) := ⟨_, _, _, MKM, ok_Mi FMi U Cw0 WcM BWM, PySem.W.mg_of X G aCM, bMi⟩
  have KU : MakK l.prog w K mg base (L2N.CX l.prog w) 6 "Upkeep" CU 3 ["every", "times"] (spF K (fsUi CW CU)) := ⟨_, _, _, MKU, ok_Ui FUi U Cw0 WcU ⟨_, ⟨camt, ⟨_, rfl⟩, cgmt, by decide +kernel⟩⟩ BMU, PySem.W.mg_of X G aCU, kb_up FUi⟩
  have OWo := ok_workOf (D := ⟨CC, CM, CU⟩) FWoO U KC KM KU
  have CIs := ok_isNum (P := l.prog) (w := w) (base := base) DIsN bIsN U
  have CNo := ok_numOf (P := l.prog) (w := w) (base := base) DNuO bNuO U
  have CRd := ok_read DRd bRd U ⟨CIs, CNo⟩
  have Cp : Cpa l.prog w K mg base CW ⟨CC, CM, CU⟩ := ⟨⟨_, _, _, ok_lnN FLnN U ⟨CRd⟩, PySem.W.mg_of X G aLnN, kkLnN, bLnN⟩, ⟨_, _, _, OWo, PySem.W.mg_of X G aWoO, kkWoO, bWoO⟩⟩
  have MTM : MetX l.prog w K mg base L2.CX0 1 CM "_mending_at" (spF K (fsMat CM)) := ⟨_, _, _, clM, ⟨mfmaM, mimaM, kkMat⟩, ok_mat FMat U WcM, bMat⟩
  have MTU : MetX l.prog w K mg base L2.CX0 1 CU "_mending_at" (spF K (fsMat CU)) := ⟨_, _, _, clU, ⟨mfmaU, mimaU, kkMat⟩, ok_mat FMat U WcU, bMat⟩
  have C3 : Cp3 l.prog w K mg base ⟨CC, CM, CU⟩ := ⟨⟨_, _, _, clC, ⟨mfchC, michC, kkCch⟩, (ok_chC FCch U D3).mono (by decide), bCch⟩, ⟨_, _, _, clM, ⟨mfchM, michM, kkMch⟩, ok_chM FMch U D3 MTM, bMch⟩, ⟨_, _, _, clU, ⟨mfchU, michU, kkUch⟩, ok_chU FUch U D3 MTU, bUch⟩⟩
  have OWp := ok_Wplan FWp C3
  have G3 : Gp3 l.prog w K mg base ⟨CC, CM, CU⟩ := ⟨⟨_, _, _, clC, ⟨mfplC, miplC, kkWp⟩, OWp, bWp⟩, ⟨_, _, _, clM, ⟨mfplM, miplM, kkWp⟩, OWp, bWp⟩, ⟨_, _, _, clU, ⟨mfplU, miplU, kkWp⟩, OWp, bWp⟩⟩
  have L3 : Lp3 l.prog w K mg base ⟨CC, CM, CU⟩ := ⟨⟨_, _, _, _, clC, ⟨pa1, pg1, pt1, ⟨_, pr1⟩⟩, ok_lnC Fg1 U D3, bg1⟩, ⟨_, _, _, _, clM, ⟨pa2, pg2, pt2, ⟨_, pr2⟩⟩, ok_lnM Fg2 U D3, bg2⟩, ⟨_, _, _, _, clU, ⟨pa3, pg3, pt3, ⟨_, pr3⟩⟩, ok_lnU Fg3 U D3, bg3⟩⟩
  have OSi := ok_Si (Tb := [(Pt, lamQ), (Ps, lamS)]) FSi U SCS G3 RW TBs (List.mem_cons_of_mem _ (List.mem_singleton.mpr rfl)) (fun p hp he => by
    simp only [List.mem_cons, List.not_mem_nil, or_false] at hp
    rcases hp with rfl | rfl
    · exact absurd he hne
    · rfl)
  have OPa := ok_Pa FPa U Cp RT RH (PySem.W.mg_of X G aCW) k_ww MKS OSi
  have CDr : Cal l.prog w K mg base 1 "_law_drawn" (spDrawn K) [] := ok_drawn DDrawn bDrawn T
  have CCh := ok_lawCh (P := l.prog) (w := w) (base := base) DLCh bLCh U
  have CSo := ok_sorted DSor bSor U ⟨CCh⟩
  have CRL := ok_readLine DRdL bRdL U ⟨ok_integer (P := l.prog) (w := w) (base := base) DInt bInt U, ok_valid DVal bVal U⟩
  have CEx := ok_expected DExp bExp U ⟨CRL, CCh, CSo⟩
  have S0 := ok_same0 (P := l.prog) (w := w) (base := base) DSame bSame U
  have S1 := ok_sameN DSame bSame U ⟨S0⟩
  have S2 := ok_sameN DSame bSame U ⟨S1⟩
  have S3 := ok_sameN DSame bSame U ⟨S2⟩
  have C9 : LawC l.prog w K mg base CT CW CS ⟨CC, CM, CU⟩ [(Pt, lamQ), (Ps, lamS)] := ⟨ok_start2 DStart bStart T, CDr, ok_workN DWoN bWoN U ⟨CDr⟩, ok_lawLine DLLi bLLi U, ok_changed DChg bChg U ⟨CDr⟩, CEx, S3, ⟨_, _, _, _, _, PySem.W.mg_of X G aCS, ⟨crdS, cgaS⟩, ⟨pcf, ⟨_, pcr⟩, pci⟩, OPa, bPa⟩, ⟨_, _, _, _, clS, ⟨pa4, pg4, pt4, ⟨_, pr4⟩⟩, ok_Stext Fg4 U SCS L3, bg4⟩, ⟨_, _, _, clS, ⟨mfplS, miplS, kkSp⟩, ok_Splan FSp SCS, bSp⟩⟩
  exact ok_law lL ccL U T1 C9 ⟨PySem.W.mg_of X G aOutc, kkOutc, lOutc, ccOutc, bOutc⟩ TBt hne TC
end T1
open PySem PySem.W PyProof.Rows
set_option maxRecDepth 100000 in
set_option maxHeartbeats 0 in
theorem PySem.Challenge.cw_wornbridges_k42_texts_of_schedules_holds : PySem.Challenge.rw_wornbridges_k42_texts_of_schedules.Holds := by
  w_on; o_law; k_head; (case hw => w_witness2)
  k_fill
  refine LamX.walk_ofTs (l := PySem.Challenge.rw_wornbridges_k42_texts_of_schedules) (n := 63) (k := 16) (CX := fun _ => C8.CX0) (x := "_law_script") rfl (by decide) rfl ⟨rfl, by decide, by decide⟩ (fun w h Y => PySem.W.km_in_of Y) ?F (fun _ _ _ _ _ z => z)
  case F =>
    intro w mg fa h Y KX G hmg
    have hT8 := PySem.W.km_tabs_of Y
    refine' T1.all_mk (mB := .type "type") KX G hmg ?aCB ?aCT ?aCW ?aCK ?aCC ?aCM ?aCU ?aCS ?egT ?ekT ?esT ?edT ?olT ?osT ?otT ?okpT ?egX ?ekX ?esX ?edX ?olX ?osX ?otX ?okpX ?iT ?tT ?nR ?iX ?tX ?nI ?k_tt ?k_wt ?k_ww ?rdB ?sgB ?inB ?cpgC ?chdC ?cpoC ?csaC ?n1C ?n2C ?n3C ?n4C ?n5C ?n6C ?cambC ?cgmbC ?cawdC ?cgwdC ?cpgM ?chdM ?cpoM ?csaM ?n1M ?n2M ?n3M ?n4M ?n5M ?n6M ?cambM ?cgmbM ?cawdM ?cgwdM ?cpgU ?chdU ?cpoU ?csaU ?n1U ?n2U ?n3U ?n4U ?n5U ?n6U ?cambU ?cgmbU ?cawdU ?cgwdU ?camt ?cgmt ?cpgS ?chdS ?cpoS ?csaS ?n1S ?n2S ?camw ?cgmw ?camc ?cgmc ?mkC ?inC ?fnC ?ckpC ?mkM ?inM ?fnM ?ckpM ?mkU ?inU ?fnU ?ckpU ?mkS ?inS ?fnS ?ckpS ?crdK ?cgaK ?crdM ?cgaM ?crdS ?cgaS ?fcK ?hiK ?fcM ?hiM ?pcf ?pcr ?pci ?mfplC ?miplC ?mfplM ?miplM ?mfplU ?miplU ?mfchC ?michC ?mfchM ?michM ?mfchU ?michU ?mfmaM ?mimaM ?mfmaU ?mimaU ?mfplS ?miplS ?pa1 ?pg1 ?pt1 ?pr1 ?pa2 ?pg2 ?pt2 ?pr2 ?pa3 ?pg3 ?pt3 ?pr3 ?pa4 ?pg4 ?pt4 ?pr4 ?tca ?ehn ?eht ?tcm ?k_st ?aIsN ?lIsN ?ccIsN ?kkIsN ?aNuO ?lNuO ?ccNuO ?kkNuO ?aRd ?lRd ?ccRd ?kkRd ?aStart ?lStart ?ccStart ?kkStart ?aDrawn ?lDrawn ?ccDrawn ?kkDrawn ?aSame ?lSame ?ccSame ?kkSame ?aOutc ?lOutc ?ccOutc ?kkOutc ?aWoN ?lWoN ?ccWoN ?kkWoN ?aLLi ?lLLi ?ccLLi ?kkLLi ?aLCh ?lLCh ?ccLCh ?kkLCh ?aSor ?lSor ?ccSor ?kkSor ?aInt ?lInt ?ccInt ?kkInt ?aRdL ?lRdL ?ccRdL ?kkRdL ?aVal ?lVal ?ccVal ?kkVal ?aExp ?lExp ?ccExp ?kkExp ?aChg ?lChg ?ccChg ?kkChg ?aChk ?lChk ?ccChk ?kkChk ?aLnN ?lLnN ?ccLnN ?kkLnN ?aWoO ?lWoO ?ccWoO ?kkWoO ?aL ?lL ?ccL ?kkL ?lITi ?ccITi ?kkITi ?lIWi ?ccIWi ?kkIWi ?lWi ?ccWi ?kkWi ?lMi ?ccMi ?kkMi ?lUi ?ccUi ?kkUi ?lWp ?ccWp ?kkWp ?lCch ?ccCch ?kkCch ?lMch ?ccMch ?kkMch ?lUch ?ccUch ?kkUch ?lMat ?ccMat ?kkMat ?lg1 ?ccg1 ?kkg1 ?lg2 ?ccg2 ?kkg2 ?lg3 ?ccg3 ?kkg3 ?lg4 ?ccg4 ?kkg4 ?lPa ?ccPa ?kkPa ?lSp ?ccSp ?kkSp ?lSi ?ccSi ?kkSi ?z_bool ?z_dict ?z_enumerate ?z_int ?z_isinstance ?z_len ?z_list ?z_max ?z_range ?z_set ?z_sorted ?z_str ?z_tuple ?z_zip ?v_MAX_COUNT ?v_MOST_DIGITS ?ntP ?cdH ?ntS ?cdS ?nPS ?oxrT ?oxrX ?tab ?tab2
    (case aCB => k_is)
    (case aCT => k_is)
    (case aCW => k_is)
    (case aCK => k_is)
    (case aCC => k_is)
    (case aCM => k_is)
    (case aCU => k_is)
    (case aCS => k_is)
    (case egT => k_is)
    (case ekT => k_is)
    (case esT => k_is)
    (case edT => k_is)
    (case olT => k_is)
    (case osT => k_is)
    (case otT => k_is)
    (case okpT => k_is)
    (case egX => k_is)
    (case ekX => k_is)
    (case esX => k_is)
    (case edX => k_is)
    (case olX => k_is)
    (case osX => k_is)
    (case otX => k_is)
    (case okpX => k_is)
    (case iT => k_is)
    (case tT => k_is)
    (case nR => k_is)
    (case iX => k_is)
    (case tX => k_is)
    (case nI => k_is)
    (case k_tt => kernel_rfl)
    (case k_wt => kernel_rfl)
    (case k_ww => kernel_rfl)
    (case rdB => k_is)
    (case sgB => k_is)
    (case inB => k_is)
    (case cpgC => k_is)
    (case chdC => k_is)
    (case cpoC => k_is)
    (case csaC => k_is)
    (case n1C => k_is)
    (case n2C => k_is)
    (case n3C => k_is)
    (case n4C => k_is)
    (case n5C => k_is)
    (case n6C => k_is)
    (case cambC => k_is)
    (case cgmbC => k_is)
    (case cawdC => k_is)
    (case cgwdC => k_is)
    (case cpgM => k_is)
    (case chdM => k_is)
    (case cpoM => k_is)
    (case csaM => k_is)
    (case n1M => k_is)
    (case n2M => k_is)
    (case n3M => k_is)
    (case n4M => k_is)
    (case n5M => k_is)
    (case n6M => k_is)
    (case cambM => k_is)
    (case cgmbM => k_is)
    (case cawdM => k_is)
    (case cgwdM => k_is)
    (case cpgU => k_is)
    (case chdU => k_is)
    (case cpoU => k_is)
    (case csaU => k_is)
    (case n1U => k_is)
    (case n2U => k_is)
    (case n3U => k_is)
    (case n4U => k_is)
    (case n5U => k_is)
    (case n6U => k_is)
    (case cambU => k_is)
    (case cgmbU => k_is)
    (case cawdU => k_is)
    (case cgwdU => k_is)
    (case camt => k_is)
    (case cgmt => k_is)
    (case cpgS => k_is)
    (case chdS => k_is)
    (case cpoS => k_is)
    (case csaS => k_is)
    (case n1S => k_is)
    (case n2S => k_is)
    (case camw => k_is)
    (case cgmw => k_is)
    (case camc => k_is)
    (case cgmc => k_is)
    (case mkC => k_is)
    (case inC => k_is)
    (case fnC => k_is)
    (case ckpC => k_is)
    (case mkM => k_is)
    (case inM => k_is)
    (case fnM => k_is)
    (case ckpM => k_is)
    (case mkU => k_is)
    (case inU => k_is)
    (case fnU => k_is)
    (case ckpU => k_is)
    (case mkS => k_is)
    (case inS => k_is)
    (case fnS => k_is)
    (case ckpS => k_is)
    (case crdK => k_is)
    (case cgaK => k_is)
    (case crdM => k_is)
    (case cgaM => k_is)
    (case crdS => k_is)
    (case cgaS => k_is)
    (case fcK => k_is)
    (case hiK => kernel_rfl)
    (case fcM => k_is)
    (case hiM => kernel_rfl)
    (case pcf => k_is)
    (case pcr => k_is)
    (case pci => k_is)
    (case mfplC => k_is)
    (case miplC => k_is)
    (case mfplM => k_is)
    (case miplM => k_is)
    (case mfplU => k_is)
    (case miplU => k_is)
    (case mfchC => k_is)
    (case michC => k_is)
    (case mfchM => k_is)
    (case michM => k_is)
    (case mfchU => k_is)
    (case michU => k_is)
    (case mfmaM => k_is)
    (case mimaM => k_is)
    (case mfmaU => k_is)
    (case mimaU => k_is)
    (case mfplS => k_is)
    (case miplS => k_is)
    (case pa1 => k_is)
    (case pg1 => k_is)
    (case pt1 => k_is)
    (case pr1 => k_is)
    (case pa2 => k_is)
    (case pg2 => k_is)
    (case pt2 => k_is)
    (case pr2 => k_is)
    (case pa3 => k_is)
    (case pg3 => k_is)
    (case pt3 => k_is)
    (case pr3 => k_is)
    (case pa4 => k_is)
    (case pg4 => k_is)
    (case pt4 => k_is)
    (case pr4 => k_is)
    (case tca => k_is)
    (case ehn => k_is)
    (case eht => k_is)
    (case tcm => k_is)
    (case k_st => kernel_rfl)
    (case aIsN => k_is)
    (case lIsN => k_is)
    (case ccIsN => k_is)
    (case kkIsN => k_is)
    (case aNuO => k_is)
    (case lNuO => k_is)
    (case ccNuO => k_is)
    (case kkNuO => k_is)
    (case aRd => k_is)
    (case lRd => k_is)
    (case ccRd => k_is)
    (case kkRd => k_is)
    (case aStart => k_is)
    (case lStart => k_is)
    (case ccStart => k_is)
    (case kkStart => k_is)
    (case aDrawn => k_is)
    (case lDrawn => k_is)
    (case ccDrawn => k_is)
    (case kkDrawn => k_is)
    (case aSame => k_is)
    (case lSame => k_is)
    (case ccSame => k_is)
    (case kkSame => k_is)
    (case aOutc => k_is)
    (case lOutc => k_is)
    (case ccOutc => k_is)
    (case kkOutc => k_is)
    (case aWoN => k_is)
    (case lWoN => k_is)
    (case ccWoN => k_is)
    (case kkWoN => k_is)
    (case aLLi => k_is)
    (case lLLi => k_is)
    (case ccLLi => k_is)
    (case kkLLi => k_is)
    (case aLCh => k_is)
    (case lLCh => k_is)
    (case ccLCh => k_is)
    (case kkLCh => k_is)
    (case aSor => k_is)
    (case lSor => k_is)
    (case ccSor => k_is)
    (case kkSor => k_is)
    (case aInt => k_is)
    (case lInt => k_is)
    (case ccInt => k_is)
    (case kkInt => k_is)
    (case aRdL => k_is)
    (case lRdL => k_is)
    (case ccRdL => k_is)
    (case kkRdL => k_is)
    (case aVal => k_is)
    (case lVal => k_is)
    (case ccVal => k_is)
    (case kkVal => k_is)
    (case aExp => k_is)
    (case lExp => k_is)
    (case ccExp => k_is)
    (case kkExp => k_is)
    (case aChg => k_is)
    (case lChg => k_is)
    (case ccChg => k_is)
    (case kkChg => k_is)
    (case aChk => k_is)
    (case lChk => k_is)
    (case ccChk => k_is)
    (case kkChk => k_is)
    (case aLnN => k_is)
    (case lLnN => k_is)
    (case ccLnN => k_is)
    (case kkLnN => k_is)
    (case aWoO => k_is)
    (case lWoO => k_is)
    (case ccWoO => k_is)
    (case kkWoO => k_is)
    (case aL => k_is)
    (case lL => k_is)
    (case ccL => k_is)
    (case kkL => k_is)
    (case lITi => k_is)
    (case ccITi => k_is)
    (case kkITi => k_is)
    (case lIWi => k_is)
    (case ccIWi => k_is)
    (case kkIWi => k_is)
    (case lWi => k_is)
    (case ccWi => k_is)
    (case kkWi => k_is)
    (case lMi => k_is)
    (case ccMi => k_is)
    (case kkMi => k_is)
    (case lUi => k_is)
    (case ccUi => k_is)
    (case kkUi => k_is)
    (case lWp => k_is)
    (case ccWp => k_is)
    (case kkWp => k_is)
    (case lCch => k_is)
    (case ccCch => k_is)
    (case kkCch => k_is)
    (case lMch => k_is)
    (case ccMch => k_is)
    (case kkMch => k_is)
    (case lUch => k_is)
    (case ccUch => k_is)
    (case kkUch => k_is)
    (case lMat => k_is)
    (case ccMat => k_is)
    (case kkMat => k_is)
    (case lg1 => k_is)
    (case ccg1 => k_is)
    (case kkg1 => k_is)
    (case lg2 => k_is)
    (case ccg2 => k_is)
    (case kkg2 => k_is)
    (case lg3 => k_is)
    (case ccg3 => k_is)
    (case kkg3 => k_is)
    (case lg4 => k_is)
    (case ccg4 => k_is)
    (case kkg4 => k_is)
    (case lPa => k_is)
    (case ccPa => k_is)
    (case kkPa => k_is)
    (case lSp => k_is)
    (case ccSp => k_is)
    (case kkSp => k_is)
    (case lSi => k_is)
    (case ccSi => k_is)
    (case kkSi => k_is)
    (case z_bool => k_is)
    (case z_dict => k_is)
    (case z_enumerate => k_is)
    (case z_int => k_is)
    (case z_isinstance => k_is)
    (case z_len => k_is)
    (case z_list => k_is)
    (case z_max => k_is)
    (case z_range => k_is)
    (case z_set => k_is)
    (case z_sorted => k_is)
    (case z_str => k_is)
    (case z_tuple => k_is)
    (case z_zip => k_is)
    (case v_MAX_COUNT => k_is)
    (case v_MOST_DIGITS => k_is)
    (case tab => exact hT8 _ (List.Mem.tail _ (List.Mem.head _)))
    (case tab2 => exact hT8 _ (List.Mem.head _))
    (case ntP => kernel_rfl)
    (case cdH => kernel_rfl)
    (case ntS => kernel_rfl)
    (case cdS => kernel_rfl)
    (case nPS => kernel_rfl)
    (case oxrT => decide +kernel)
    (case oxrX => decide +kernel)

