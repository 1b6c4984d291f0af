import PyProof.Rows.All
import Wide.All
import OpenK.AllK
import Wide.FinOn
import HandS.ForMost
import HandS.ForExc
import HandS.Codes
import HandS.Wide
import HandS.Conv
import HandS.TupAny
import HandS.TupMul
import HandS.IsInst
import HandS.ExcInit
import HandS.ExcIs
import HandS.ExcField
import HandS.Lambda
import HandS.EndTab
import HandS.Property
import HandS.ClsMeth
import HandS.FStr
import HandS.Walk
import HandS.Evl
import HandS.Steps
import KE.GoesMore
import HandS.Iter
import HandS.StrMore
import HandS.Style
import HandS.Bytes
import HandS.BytesMake
import HandS.WideBits
import HandS.Star
import HandS.Rev
import HandS.ExcOwn
import PyProof.ExcBaseAll.ValueError
import HandS.TryMany
import KE.KNestM
import PySem.Challenge.RW_wornbridges_k46_bytes_of_towns
set_option Elab.async false
set_option linter.all false
set_option maxRecDepth 100000
set_option maxHeartbeats 4000000
namespace T1
open PySem PySem.Spec PyProof.Rows L2 C8

def top (i : Nat) : Stmt := PySem.Challenge.pw_wornbridges_k46_bytes_of_towns.main.body.getD i (.Pass ⟨0, 0, 0, 0⟩)





/-- the built-in names that the module does not bind -/
structure BT (mg : Str → Option Value) : Prop where
  len : mg "len" = none
  int : mg "int" = none
  max : mg "max" = none
  range : mg "range" = none
  list : mg "list" = none
  tuple : mg "tuple" = none
  isinstance : mg "isinstance" = none
  enumerate : mg "enumerate" = none
  dict : mg "dict" = none
  str : mg "str" = none
  bool : mg "bool" = none

/-! ### the law's drawing state: h = [m, s, k], s the cells -/
structure LSt (H : Hp) (h s : Addr) : Prop where
  ex : ∃ (m k : Int) (xs : List Int), H h = some (.lst [.int m, .ref s, .int k]) ∧ H s = some (.lst (xs.map V.int)) ∧ 0 ≤ m ∧ m < 2147483647 ∧ 0 ≤ k ∧ xs.length ≤ 63
/-- all but the state stays -/
def But (h s : Addr) (H H' : Hp) : Prop := ∀ b o, b ≠ h → b ≠ s → H b = some o → H' b = some o
theorem But.refl (h s : Addr) (H : Hp) : But h s H H := fun _ _ _ _ e => e
theorem But.trans {h s : Addr} {H H1 H2 : Hp} (a : But h s H H1) (b : But h s H1 H2) : But h s H H2 := fun c o n1 n2 e => b c o n1 n2 (a c o n1 n2 e)
theorem But.of {h s : Addr} {H H' : Hp} (a : Same H H') : But h s H H' := fun c o _ _ e => a c o e
theorem Same.upd' {H : Hp} {p : Addr} {o : HO} (hp : H p = none) : Same H (upd H p o) := fun b u e => by rw [upd_ne (ne_of_none e hp)]; exact e
theorem LSt.ne {H : Hp} {h s : Addr} (x : LSt H h s) : h ≠ s := by
  obtain ⟨m, k, xs, h1, h2, _⟩ := x.ex
  refine ne_of h1 h2 fun z => ?_
  injection z with z
  match xs, z with
  | a :: b :: r, z => simp at z
theorem LSt.same {H H' : Hp} {h s : Addr} (x : LSt H h s) (e : Same H H') : LSt H' h s := by
  obtain ⟨m, k, xs, h1, h2, r⟩ := x.ex
  exact ⟨m, k, xs, e _ _ h1, e _ _ h2, r⟩
theorem LSt.notT {H : Hp} {h s a : Addr} {xs : List V} (x : LSt H h s) (r : Rd H a (.tup xs)) : a ≠ h ∧ a ≠ s := by
  obtain ⟨m, k, ys, h1, h2, _⟩ := x.ex
  rcases r with r | ⟨o, r⟩
  · exact ⟨ne_of r h1 (fun z => nomatch z), ne_of r h2 (fun z => nomatch z)⟩
  · exact ⟨ne_of r h1 (fun z => nomatch z), ne_of r h2 (fun z => nomatch z)⟩
theorem But.tup {K : PySem.W.Frag} {H H' : Hp} {h s a : Addr} {xs : List V} (e : But h s H H') (x : LSt H h s) (t : SqT K H a xs) : SqT K H' a xs := by
  rcases t with t | t
  · obtain ⟨n1, n2⟩ := x.notT t
    rcases t with t | ⟨o, t⟩
    · exact .inl (.inl (e _ _ n1 n2 t))
    · exact .inl (.inr ⟨o, e _ _ n1 n2 t⟩)
  · exact .inr t
theorem Same.tup {K : PySem.W.Frag} {H H' : Hp} {a : Addr} {xs : List V} (e : Same H H') (t : SqT K H a xs) : SqT K H' a xs := by
  rcases t with (t | ⟨o, t⟩) | t
  · exact .inl (.inl (e _ _ t))
  · exact .inl (.inr ⟨o, e _ _ t⟩)
  · exact .inr t


theorem up_new {X : Hp} {a p : Addr} {u o : HO} (h : X a = some u) (hp : X p = none) : upd X p o a = some u := by rw [upd_ne (ne_of_none h hp)]; exact h
theorem up_set {X : Hp} {a p : Addr} {u o : HO} (n : a ≠ p) (h : X a = some u) : upd X p o a = some u := by rw [upd_ne n]; exact h
theorem SqL.of' {K : PySem.W.Frag} {H : Hp} {a : Addr} {xs : List V} (h : H a = some (.lst xs)) : SqL K H a xs := .inl (.inl h)
theorem SqT.of' {K : PySem.W.Frag} {H : Hp} {a : Addr} {xs : List V} (h : H a = some (.tup xs)) : SqT K H a xs := .inl (.inl h)
theorem SqT.new {K : PySem.W.Frag} {H : Hp} {a p : Addr} {o : HO} {xs : List V} (h : SqT K H a xs) (hp : H p = none) : SqT K (upd H p o) a xs := Same.tup (Same.upd' hp) h
theorem SqT.put {K : PySem.W.Frag} {H : Hp} {a p : Addr} {o : HO} {xs ys : List V} (h : SqT K H a xs) (hp : H p = some (.lst ys)) : SqT K (upd H p o) a xs := by
  rcases h with (t | ⟨q, t⟩) | t
  · exact .inl (.inl (up_set (ne_of t hp (fun z => nomatch z)) t))
  · exact .inl (.inr ⟨q, up_set (ne_of t hp (fun z => nomatch z)) t⟩)
  · exact .inr t
theorem ne_of_none' {H : Hp} {a b : Addr} {o : HO} (h' : H b = none) (h : H a = some o) : a ≠ b := ne_of_none h h'
theorem up_new' {X : Hp} {a p : Addr} {u o : HO} (hp : X p = none) (h : X a = some u) : upd X p o a = some u := up_new h hp
theorem SqT.new' {K : PySem.W.Frag} {H : Hp} {a p : Addr} {o : HO} {xs : List V} (hp : H p = none) (h : SqT K H a xs) : SqT K (upd H p o) a xs := SqT.new h hp
theorem SqT.put' {K : PySem.W.Frag} {H : Hp} {a p : Addr} {xs ys zs : List V} (hp : H p = some (.lst ys)) (h : SqT K H a xs) : SqT K (upd H p (.lst zs)) a xs := SqT.put h hp
theorem SqL.new' {K : PySem.W.Frag} {H : Hp} {a p : Addr} {o : HO} {xs : List V} (hp : H p = none) (h : SqL K H a xs) : SqL K (upd H p o) a xs := (Same.upd' hp).seq h
theorem Same.at' {H H' : Hp} {a : Addr} {o : HO} (e : Same H H') (h : H a = some o) : H' a = some o := e _ _ h
theorem Same.sql' {K : PySem.W.Frag} {H H' : Hp} {a : Addr} {xs : List V} (e : Same H H') (t : SqL K H a xs) : SqL K H' a xs := e.seq t
theorem But.at' {H H' : Hp} {h s a : Addr} {o : HO} (e : But h s H H') (n1 : a ≠ h) (n2 : a ≠ s) (i : H a = some o) : H' a = some o := e _ _ n1 n2 i
theorem LSt.f1 {H : Hp} {h s p : Addr} (hp : H p = none) (x : LSt H h s) : p ≠ h := by
  obtain ⟨m, k, xs, h1, h2, r⟩ := x.ex
  exact Ne.symm (ne_of_none h1 hp)
theorem LSt.f2 {H : Hp} {h s p : Addr} (hp : H p = none) (x : LSt H h s) : p ≠ s := by
  obtain ⟨m, k, xs, h1, h2, r⟩ := x.ex
  exact Ne.symm (ne_of_none h2 hp)
theorem LSt.same' {H H' : Hp} {h s : Addr} (e : Same H H') (x : LSt H h s) : LSt H' h s := x.same e
theorem But.sm {h s : Addr} {H H' H2 : Hp} (e : Same H' H2) (x : But h s H H') : But h s H H2 := x.trans (But.of e)
theorem But.bu {h s : Addr} {H H' H2 : Hp} (e : But h s H' H2) (x : But h s H H') : But h s H H2 := x.trans e
theorem But.nw {h s : Addr} {H H' : Hp} {p : Addr} {o : HO} (hp : H' p = none) (x : But h s H H') : But h s H (upd H' p o) := x.trans (But.of (Same.upd' hp))
theorem Same.put' {H X : Hp} {p : Addr} {o : HO} (hp : H p = none) (e : Same H X) : Same H (upd X p o) := fun b u h => by rw [upd_ne (ne_of_none h hp)]; exact e b u h
theorem itD {c A B : Prop} [Decidable c] (h : c) (a : A) : if decide c = true then A else B := by rw [if_pos (decide_eq_true h)]; exact a
theorem itN {c A B : Prop} [Decidable c] (h : ¬ c) (a : B) : if decide c = true then A else B := by rw [if_neg (fun z => h (of_decide_eq_true z))]; exact a
theorem itnD {c A B : Prop} [Decidable c] (h : c) (a : B) : if (!decide c) = true then A else B := by rw [decide_eq_true h]; exact iteF a
theorem itnN {c A B : Prop} [Decidable c] (h : ¬ c) (a : A) : if (!decide c) = true then A else B := by rw [decide_eq_false h]; exact iteT a
theorem vint_inj {x y : Int} : V.int x = V.int y ↔ x = y := ⟨fun h => by injection h, fun h => by rw [h]⟩
theorem itE {x y : Int} {A B : Prop} (h : x = y) (a : A) : if decide (V.int x = V.int y) = true then A else B := itD (vint_inj.mpr h) a
theorem itEn {x y : Int} {A B : Prop} (h : x ≠ y) (a : B) : if decide (V.int x = V.int y) = true then A else B := itN (fun z => h (vint_inj.mp z)) a
theorem itnE {x y : Int} {A B : Prop} (h : x = y) (a : B) : if (!decide (V.int x = V.int y)) = true then A else B := itnD (vint_inj.mpr h) a
theorem itnEn {x y : Int} {A B : Prop} (h : x ≠ y) (a : A) : if (!decide (V.int x = V.int y)) = true then A else B := itnN (fun z => h (vint_inj.mp z)) a
theorem itS {x y : Int} {A B : Prop} (h1 : x ≤ y → A) (h2 : y < x → B) : if decide (x ≤ y) = true then A else B := by
  by_cases h : x ≤ y
  · exact itD h (h1 h)
  · exact itN h (h2 (Int.lt_of_not_ge h))
theorem itS' {x y : Int} {A B : Prop} (h1 : x < y → A) (h2 : y ≤ x → B) : if decide (x < y) = true then A else B := by
  by_cases h : x < y
  · exact itD h (h1 h)
  · exact itN h (h2 (Int.not_lt.mp h))
theorem itnS {x y : Int} {A B : Prop} (h1 : y < x → A) (h2 : x ≤ y → B) : if (!decide (x ≤ y)) = true then A else B := by
  by_cases h : x ≤ y
  · exact itnD h (h2 h)
  · exact itnN h (h1 (Int.lt_of_not_ge h))
theorem itnS' {x y : Int} {A B : Prop} (h1 : y ≤ x → A) (h2 : x < y → B) : if (!decide (x < y)) = true then A else B := by
  by_cases h : x < y
  · exact itnD h (h2 h)
  · exact itnN h (h1 (Int.not_lt.mp h))
theorem itSE {x y : Int} {A B : Prop} (h1 : x = y → A) (h2 : x ≠ y → B) : if decide (V.int x = V.int y) = true then A else B := by
  by_cases h : x = y
  · exact itE h (h1 h)
  · exact itEn h (h2 h)
theorem itnSE {x y : Int} {A B : Prop} (h1 : x ≠ y → A) (h2 : x = y → B) : if (!decide (V.int x = V.int y)) = true then A else B := by
  by_cases h : x = y
  · exact itnE h (h2 h)
  · exact itnEn h (h1 h)
theorem itNotF {A B : Prop} (a : A) : if (!false) = true then A else B := a
theorem itNotT {A B : Prop} (a : B) : if (!true) = true then A else B := a
theorem bl_as {b b' : Bool} {H : Hp} {Q : VK} (q : Q (.bl b') H) (e : b' = b) : Q (.bl b) H := by subst e; exact q
local macro_rules | `(tactic| walk_at "hf") => `(tactic| (fail_if_success (show (fun _ => none : Hp) _ = _)); first | assumption | with_reducible exact upd_same | ((with_reducible show upd _ _ _ _ = _); first | exact up_new' (by assumption) (by walk_at "hf") | exact up_set (by walk_at "ne") (by walk_at "hf")) | exact Same.at' (by assumption) (by walk_at "hf") | exact But.at' (by assumption) (by walk_at "ne") (by walk_at "ne") (by walk_at "hf"))
local macro_rules | `(tactic| walk_at "hf0") => `(tactic| (fail_if_success (show (fun _ => none : Hp) _ = _)); first | assumption | with_reducible exact upd_same | ((with_reducible show upd _ _ _ _ = _); exact up_new' (by assumption) (by walk_at "hf0")))
local macro_rules | `(tactic| walk_at "ne") => `(tactic| first | assumption | (apply Ne.symm; assumption) | exact ne_of_none' (by assumption) (by walk_at "hf0") | exact Ne.symm (ne_of_none' (by assumption) (by walk_at "hf0")) | exact LSt.f1 (by assumption) (by walk_at "lst") | exact LSt.f2 (by assumption) (by walk_at "lst"))
local macro_rules | `(tactic| walk_at "sqt") => `(tactic| (fail_if_success (show SqT _ (fun _ => none) _ _)); first | assumption | exact SqT.of' (by walk_at "hf") | ((with_reducible show SqT _ (upd _ _ _) _ _); first | exact SqT.new' (by assumption) (by walk_at "sqt") | exact SqT.put' (by walk_at "hf") (by walk_at "sqt")) | exact Same.tup (by assumption) (by walk_at "sqt") | exact But.tup (by assumption) (by walk_at "lst") (by walk_at "sqt"))
local macro_rules | `(tactic| walk_at "sql") => `(tactic| (fail_if_success (show SqL _ (fun _ => none) _ _)); first | assumption | exact SqL.of' (by walk_at "hf") | ((with_reducible show SqL _ (upd _ _ _) _ _); exact SqL.new' (by assumption) (by walk_at "sql")) | exact Same.sql' (by assumption) (by walk_at "sql"))
local macro_rules | `(tactic| walk_at "but") => `(tactic| first | assumption | exact But.refl _ _ _ | ((with_reducible show But _ _ _ (upd _ _ _)); exact But.nw (by assumption) (by walk_at "but")) | exact But.bu (by assumption) (by walk_at "but") | exact But.sm (by assumption) (by walk_at "but"))
local macro_rules | `(tactic| walk_at "sm") => `(tactic| first | assumption | exact Same.refl _ | ((with_reducible show Same _ (upd _ _ _)); first | exact Same.put' (by assumption) (by walk_at "sm") | exact Same.trans (by walk_at "sm") (Same.upd' (by assumption))) | exact Same.trans (by walk_at "sm") (by assumption))
/-- one step of a reading -/
local macro_rules | `(tactic| walk_at "rd") => `(tactic| first
  | with_reducible refine iteF ?_
  | with_reducible refine iteT ?_
  | with_reducible refine itNotF ?_
  | with_reducible refine itNotT ?_
  | refine ⟨_, rfl, ?_⟩
  | refine ⟨_, _, rfl, rfl, ?_⟩
  | refine ⟨_, _, rfl, ?_⟩
  | refine ⟨(_ : Addr), (_ : List V), (_ : Int), (_ : V), rfl, rfl, SqL.of' (by walk_at "hf"), (by first | assumption | rfl), ?_⟩
  | refine ⟨(_ : Addr), (_ : List V), (_ : Int), (_ : V), rfl, rfl, (by walk_at "sqt" : SqT _ _ _ _), (by first | assumption | rfl), ?_⟩
  | refine .inl ⟨_, rfl, ?_⟩
  | refine ⟨_, _, rfl, .inl (by walk_at "sql" : SqL _ _ _ _), ?_⟩
  | refine ⟨_, _, rfl, .inl ⟨(by walk_at "sql" : SqL _ _ _ _), fun p hp => ?_⟩⟩
  | refine ⟨_, _, rfl, .inr ⟨(by walk_at "sqt" : SqT _ _ _ _), ?_⟩⟩
  | refine fun (p : Addr) (hp : (_ : Hp) p = none) => ?_
  | refine ⟨_, _, rfl, .inr (by walk_at "sqt" : SqT _ _ _ _), ?_⟩
  | refine And.intro (by show _ ≤ sizeLine; first | decide | walk_at "sz") (fun p hp => ?_)
  | refine ⟨(_ : Addr), (_ : Addr), (_ : List V), (_ : List V), rfl, rfl, (by walk_at "hf"), (by walk_at "hf"), (by walk_at "sz"), fun p hp => ?_⟩
  | refine ⟨(_ : Addr), (_ : Addr), (_ : List V), (_ : List V), rfl, rfl, (by walk_at "hf"), (by walk_at "hf"), (by walk_at "sz"), ?_⟩
  | refine ⟨(_ : Addr), (_ : List V), (_ : Int), (_ : Nat), rfl, rfl, (by walk_at "hf"), (by rfl), ?_⟩
  | refine And.intro ⟨_, (by walk_at "sql" : SqL _ _ _ _)⟩ ?_
  | refine And.intro ⟨_, (by walk_at "sqt" : SqT _ _ _ _)⟩ ?_
  | refine And.intro (.inl ⟨rfl, _, SqL.of' (by walk_at "hf")⟩) ?_
  | refine And.intro (by walk_at "cond") ?_
  | exact .inl ⟨rfl, _, SqL.of' (by walk_at "hf")⟩
  | with_reducible refine iteT ?_
  | with_reducible refine iteF ?_
  | refine And.intro (by rfl : scal _ _ = true) ?_
  | refine And.intro (by rfl : _ = V.non) ?_
  | refine And.intro (by rfl : wipe _ _ = wipe _ _) ?_
  | refine And.intro (by rfl : (_ : List V) = []) ?_
  | refine ⟨(_ : Addr), (_ : List V), rfl, (by walk_at "sqt" : SqT _ _ _ _), (by rfl), ?_⟩)
/-- a test: known, or both ways -/
local macro_rules | `(tactic| walk_at "if") => `(tactic| first
  | with_reducible refine itD (by omega) ?_
  | with_reducible refine itN (by omega) ?_
  | with_reducible refine itnD (by omega) ?_
  | with_reducible refine itnN (by omega) ?_
  | with_reducible refine itE (by omega) ?_
  | with_reducible refine itEn (by omega) ?_
  | with_reducible refine itnE (by omega) ?_
  | with_reducible refine itnEn (by omega) ?_
  | with_reducible refine itN (by intro z; cases z) ?_
  | with_reducible refine itD (by decide) ?_
  | with_reducible refine itN (by decide) ?_
  | with_reducible refine itnD (by decide) ?_
  | with_reducible refine itnN (by decide) ?_)
local macro_rules | `(tactic| walk_at "if2") => `(tactic| first
  | with_reducible refine itS (fun z => ?_) (fun z => ?_)
  | with_reducible refine itS' (fun z => ?_) (fun z => ?_)
  | with_reducible refine itSE (fun z => ?_) (fun z => ?_)
  | with_reducible refine itnS (fun z => ?_) (fun z => ?_)
  | with_reducible refine itnS' (fun z => ?_) (fun z => ?_)
  | with_reducible refine itnSE (fun z => ?_) (fun z => ?_))
local macro_rules | `(tactic| walk_at "go") => `(tactic| repeat' (first | walk_at "rd" | walk_at "if" | walk_at "if2" | fail))
local macro_rules | `(tactic| walk_at "sz") => `(tactic| (rw [sizeLine_eq]; simp only [List.length_append, List.length_map, List.length_cons, List.length_nil]; omega))
local macro_rules | `(tactic| walk_at "cond") => `(tactic| first | assumption | (show (_ : Int) ≠ 0; first | omega | (split <;> omega)) | (show (0 : Int) < _; first | assumption | decide) | exact ⟨by decide, by decide, by decide⟩ | exact .inr ⟨by decide, by decide⟩ | exact wide_div (b := 64) (by assumption) (by omega) (by decide) (by decide) | exact ⟨by decide, by decide⟩)


def spNext : Sp := fun vs H Q _ => ∃ (h s : Addr) (n : Int), vs = [.ref h, .int n] ∧ LSt H h s ∧ 0 < n ∧ n ≤ 2000000000000000000 ∧
  ∀ (r : Int) (H' : Hp), 0 ≤ r → r < n → LSt H' h s → But h s H H' → Q (.int r) H'

section
variable {P : Program} {w : World} {K : PySem.W.Frag} {mg : Str → Option Value} {base : Heap}

theorem fdN {a b : Int} (hb : 0 < b) : 0 ≤ Int.fmod a b ∧ Int.fmod a b < b := ⟨Int.fmod_nonneg_of_pos a hb, Int.fmod_lt_of_pos a hb⟩
theorem atI_get {xs : List V} {i : Int} {v : V} (h0 : 0 ≤ i) (h : xs[i.toNat]? = some v) : atI xs i = some v := by
  have e : i = ((i.toNat : Nat) : Int) := by omega
  rw [e]; exact atI_nat h
theorem ixN_pos {n : Nat} {i : Int} (h0 : 0 ≤ i) (h1 : i < n) : ixN n i = some i.toNat := by unfold ixN; rw [if_pos h0, if_pos h1]
end
end T1

set_option Elab.async false
set_option linter.all false
set_option maxRecDepth 100000
set_option maxHeartbeats 4000000
namespace T1
open PySem PySem.Spec PyProof.Rows L2 C8
/-! ### links: tuples of four ints -/
abbrev Lk := Int × Int × Int × Int
def lv (l : Lk) : List V := [.int l.1, .int l.2.1, .int l.2.2.1, .int l.2.2.2]
def LL (K : PySem.W.Frag) (H : Hp) (vs : List V) (ls : List Lk) : Prop := vs.length = ls.length ∧ ∀ (j : Nat) (l : Lk), ls[j]? = some l → ∃ a, vs[j]? = some (.ref a) ∧ SqT K H a (lv l)
def Ls (K : PySem.W.Frag) (H : Hp) (t : Addr) (ls : List Lk) : Prop := ∃ vs, SqT K H t vs ∧ LL K H vs ls
section
variable {K : PySem.W.Frag} {H H' : Hp} {h s t : Addr} {vs : List V} {ls : List Lk}
theorem LL.but (x : LL K H vs ls) (e : But h s H H') (z : LSt H h s) : LL K H' vs ls := ⟨x.1, fun j l q => let ⟨a, e1, e2⟩ := x.2 j l q; ⟨a, e1, e.tup z e2⟩⟩
theorem LL.same (x : LL K H vs ls) (e : Same H H') : LL K H' vs ls := ⟨x.1, fun j l q => let ⟨a, e1, e2⟩ := x.2 j l q; ⟨a, e1, Same.tup e e2⟩⟩
theorem LL.put {p : Addr} {xs ys : List V} (x : LL K H vs ls) (hp : H p = some (.lst xs)) : LL K (upd H p (.lst ys)) vs ls := ⟨x.1, fun j l q => let ⟨a, e1, e2⟩ := x.2 j l q; ⟨a, e1, SqT.put e2 hp⟩⟩
theorem LL.same' (e : Same H H') (x : LL K H vs ls) : LL K H' vs ls := x.same e
theorem LL.but' (e : But h s H H') (z : LSt H h s) (x : LL K H vs ls) : LL K H' vs ls := x.but e z
theorem LL.nil : LL K H [] [] := ⟨rfl, fun j l q => by simp at q⟩
theorem LL.snoc {a : Addr} {l : Lk} (x : LL K H vs ls) (e : SqT K H a (lv l)) : LL K H (vs ++ [.ref a]) (ls ++ [l]) := by
  refine ⟨by simp [x.1], fun j m q => ?_⟩
  by_cases hj : j < ls.length
  · rw [List.getElem?_append_left hj] at q
    obtain ⟨b, e1, e2⟩ := x.2 j m q
    exact ⟨b, by rw [List.getElem?_append_left (by rw [x.1]; exact hj)]; exact e1, e2⟩
  · have hj' : ls.length ≤ j := Nat.le_of_not_lt hj
    rw [List.getElem?_append_right hj'] at q
    have e0 : j - ls.length = 0 := by
      match hz : j - ls.length, q with
      | 0, _ => rfl
      | n + 1, q => rw [hz] at *; simp at q
    rw [e0] at q
    have em : l = m := by simpa using q
    subst em
    exact ⟨a, by rw [List.getElem?_append_right (by rw [x.1]; exact hj'), x.1, e0]; rfl, e⟩
theorem Ls.but (x : Ls K H t ls) (e : But h s H H') (z : LSt H h s) : Ls K H' t ls := let ⟨vs, a, b⟩ := x; ⟨vs, e.tup z a, b.but e z⟩
theorem Ls.same (x : Ls K H t ls) (e : Same H H') : Ls K H' t ls := let ⟨vs, a, b⟩ := x; ⟨vs, Same.tup e a, b.same e⟩
theorem LSt.new {p : Addr} {o : HO} (x : LSt H h s) (hp : H p = none) : LSt (upd H p o) h s := x.same (Same.upd' hp)
theorem LSt.put {p : Addr} {o : HO} (x : LSt H h s) (n1 : p ≠ h) (n2 : p ≠ s) : LSt (upd H p o) h s := by
  obtain ⟨m, k, xs, h1, h2, r⟩ := x.ex
  exact ⟨m, k, xs, up_set (Ne.symm n1) h1, up_set (Ne.symm n2) h2, r⟩
theorem But.new {p : Addr} {o : HO} (x : But h s H H') (hp : H' p = none) : But h s H (upd H' p o) := x.trans (But.of (Same.upd' hp))
theorem LSt.fresh {p : Addr} (x : LSt H h s) (hp : H p = none) : p ≠ h ∧ p ≠ s := by
  obtain ⟨m, k, xs, h1, h2, r⟩ := x.ex
  exact ⟨Ne.symm (ne_of_none h1 hp), Ne.symm (ne_of_none h2 hp)⟩
theorem LL.get (x : LL K H vs ls) {j : Nat} {l : Lk} (q : ls[j]? = some l) : ∃ a, vs[j]? = some (.ref a) ∧ SqT K H a (lv l) := x.2 j l q
end
local macro_rules | `(tactic| walk_at "hf") => `(tactic| (fail_if_success (show (fun _ => none : Hp) _ = _)); first | assumption | with_reducible exact upd_same | ((with_reducible show upd _ _ _ _ = _); first | exact up_new' (by assumption) (by walk_at "hf") | exact up_set (by walk_at "ne") (by walk_at "hf")) | exact Same.at' (by assumption) (by walk_at "hf") | exact But.at' (by assumption) (by walk_at "ne") (by walk_at "ne") (by walk_at "hf"))
local macro_rules | `(tactic| walk_at "hf0") => `(tactic| (fail_if_success (show (fun _ => none : Hp) _ = _)); first | assumption | with_reducible exact upd_same | ((with_reducible show upd _ _ _ _ = _); exact up_new' (by assumption) (by walk_at "hf0")))
local macro_rules | `(tactic| walk_at "ne") => `(tactic| first | assumption | (apply Ne.symm; assumption) | exact ne_of_none' (by assumption) (by walk_at "hf0") | exact Ne.symm (ne_of_none' (by assumption) (by walk_at "hf0")) | exact LSt.f1 (by assumption) (by walk_at "lst") | exact LSt.f2 (by assumption) (by walk_at "lst"))
local macro_rules | `(tactic| walk_at "sqt") => `(tactic| (fail_if_success (show SqT _ (fun _ => none) _ _)); first | assumption | exact SqT.of' (by walk_at "hf") | ((with_reducible show SqT _ (upd _ _ _) _ _); first | exact SqT.new' (by assumption) (by walk_at "sqt") | exact SqT.put' (by walk_at "hf") (by walk_at "sqt")) | exact Same.tup (by assumption) (by walk_at "sqt") | exact But.tup (by assumption) (by walk_at "lst") (by walk_at "sqt"))
local macro_rules | `(tactic| walk_at "sql") => `(tactic| (fail_if_success (show SqL _ (fun _ => none) _ _)); first | assumption | exact SqL.of' (by walk_at "hf") | ((with_reducible show SqL _ (upd _ _ _) _ _); exact SqL.new' (by assumption) (by walk_at "sql")) | exact Same.sql' (by assumption) (by walk_at "sql"))
local macro_rules | `(tactic| walk_at "lst") => `(tactic| (fail_if_success (show LSt (fun _ => none) _ _)); first | assumption | ((with_reducible show LSt (upd _ _ _) _ _); first | exact LSt.new (by walk_at "lst") (by assumption) | exact LSt.put (by walk_at "lst") (by walk_at "ne") (by walk_at "ne")) | exact LSt.same' (by assumption) (by walk_at "lst"))
local macro_rules | `(tactic| walk_at "but") => `(tactic| first | assumption | exact But.refl _ _ _ | ((with_reducible show But _ _ _ (upd _ _ _)); exact But.nw (by assumption) (by walk_at "but")) | exact But.bu (by assumption) (by walk_at "but") | exact But.sm (by assumption) (by walk_at "but"))
local macro_rules | `(tactic| walk_at "ls") => `(tactic| first | assumption | exact Ls.same (by walk_at "ls") (Same.upd' (by assumption)))
local macro_rules | `(tactic| walk_at "ll") => `(tactic| first | assumption | exact LL.same (by walk_at "ll") (Same.upd' (by assumption)) | exact LL.same' (by assumption) (by walk_at "ll") | exact LL.but' (by assumption) (by walk_at "lst") (by walk_at "ll"))
local macro_rules | `(tactic| walk_at "sm") => `(tactic| first | assumption | exact Same.refl _ | ((with_reducible show Same _ (upd _ _ _)); first | exact Same.put' (by assumption) (by walk_at "sm") | exact Same.trans (by walk_at "sm") (Same.upd' (by assumption))) | exact Same.trans (by walk_at "sm") (by assumption))
/-- one step of a reading -/
local macro_rules | `(tactic| walk_at "rd") => `(tactic| first
  | with_reducible refine iteF ?_
  | with_reducible refine iteT ?_
  | with_reducible refine itNotF ?_
  | with_reducible refine itNotT ?_
  | refine ⟨_, rfl, ?_⟩
  | refine ⟨_, _, rfl, rfl, ?_⟩
  | refine ⟨_, _, rfl, ?_⟩
  | refine ⟨(_ : Addr), (_ : List V), (_ : Int), (_ : V), rfl, rfl, SqL.of' (by walk_at "hf"), (by first | assumption | rfl), ?_⟩
  | refine ⟨(_ : Addr), (_ : List V), (_ : Int), (_ : V), rfl, rfl, (by walk_at "sqt" : SqT _ _ _ _), (by first | assumption | rfl), ?_⟩
  | refine .inl ⟨_, rfl, ?_⟩
  | refine ⟨_, _, rfl, .inl (by walk_at "sql" : SqL _ _ _ _), ?_⟩
  | refine ⟨_, _, rfl, .inl ⟨(by walk_at "sql" : SqL _ _ _ _), fun p hp => ?_⟩⟩
  | refine ⟨_, _, rfl, .inr ⟨(by walk_at "sqt" : SqT _ _ _ _), ?_⟩⟩
  | refine fun (p : Addr) (hp : (_ : Hp) p = none) => ?_
  | refine ⟨_, _, rfl, .inr (by walk_at "sqt" : SqT _ _ _ _), ?_⟩
  | refine And.intro (by show _ ≤ sizeLine; first | decide | walk_at "sz") (fun p hp => ?_)
  | refine ⟨(_ : Addr), (_ : Addr), (_ : List V), (_ : List V), rfl, rfl, (by walk_at "hf"), (by walk_at "hf"), (by walk_at "sz"), fun p hp => ?_⟩
  | refine ⟨(_ : Addr), (_ : Addr), (_ : List V), (_ : List V), rfl, rfl, (by walk_at "hf"), (by walk_at "hf"), (by walk_at "sz"), ?_⟩
  | refine ⟨(_ : Addr), (_ : List V), (_ : Int), (_ : Nat), rfl, rfl, (by walk_at "hf"), (by rfl), ?_⟩
  | refine And.intro ⟨_, (by walk_at "sql" : SqL _ _ _ _)⟩ ?_
  | refine And.intro ⟨_, (by walk_at "sqt" : SqT _ _ _ _)⟩ ?_
  | refine And.intro (.inl ⟨rfl, _, SqL.of' (by walk_at "hf")⟩) ?_
  | refine And.intro (by walk_at "cond") ?_
  | exact .inl ⟨rfl, _, SqL.of' (by walk_at "hf")⟩
  | with_reducible refine iteT ?_
  | with_reducible refine iteF ?_
  | refine And.intro (by rfl : scal _ _ = true) ?_
  | refine And.intro (by rfl : _ = V.non) ?_
  | refine And.intro (by rfl : wipe _ _ = wipe _ _) ?_
  | refine And.intro (by rfl : (_ : List V) = []) ?_
  | refine ⟨(_ : Addr), (_ : List V), rfl, (by walk_at "sqt" : SqT _ _ _ _), (by rfl), ?_⟩)
/-- a test: known, or both ways -/
local macro_rules | `(tactic| walk_at "if") => `(tactic| first
  | with_reducible refine itD (by omega) ?_
  | with_reducible refine itN (by omega) ?_
  | with_reducible refine itnD (by omega) ?_
  | with_reducible refine itnN (by omega) ?_
  | with_reducible refine itE (by omega) ?_
  | with_reducible refine itEn (by omega) ?_
  | with_reducible refine itnE (by omega) ?_
  | with_reducible refine itnEn (by omega) ?_
  | with_reducible refine itN (by intro z; cases z) ?_
  | with_reducible refine itD (by decide) ?_
  | with_reducible refine itN (by decide) ?_
  | with_reducible refine itnD (by decide) ?_
  | with_reducible refine itnN (by decide) ?_)
local macro_rules | `(tactic| walk_at "if2") => `(tactic| first
  | with_reducible refine itS (fun z => ?_) (fun z => ?_)
  | with_reducible refine itS' (fun z => ?_) (fun z => ?_)
  | with_reducible refine itSE (fun z => ?_) (fun z => ?_)
  | with_reducible refine itnS (fun z => ?_) (fun z => ?_)
  | with_reducible refine itnS' (fun z => ?_) (fun z => ?_)
  | with_reducible refine itnSE (fun z => ?_) (fun z => ?_))
local macro_rules | `(tactic| walk_at "go") => `(tactic| repeat' (first | walk_at "rd" | walk_at "if" | walk_at "if2" | fail))
local macro_rules | `(tactic| walk_at "sz") => `(tactic| (rw [sizeLine_eq]; simp only [List.length_append, List.length_map, List.length_cons, List.length_nil]; omega))
local macro_rules | `(tactic| walk_at "cond") => `(tactic| first | assumption | (show (_ : Int) ≠ 0; first | omega | (split <;> omega)) | (show (0 : Int) < _; first | assumption | decide) | exact ⟨by decide, by decide, by decide⟩ | exact .inr ⟨by decide, by decide⟩ | exact wide_div (b := 64) (by assumption) (by omega) (by decide) (by decide) | exact ⟨by decide, by decide⟩)


theorem int_get {ns : List Int} {i : Nat} {y : V} (hi : (ns.map V.int)[i]? = some y) : ∃ z, ns[i]? = some z ∧ y = V.int z := by
  rw [List.getElem?_map] at hi
  cases e : ns[i]? with
  | none => rw [e] at hi; cases hi
  | some z => rw [e] at hi; exact ⟨z, rfl, (Option.some.inj hi).symm⟩

end T1

set_option Elab.async false
set_option linter.all false
set_option maxRecDepth 100000
set_option maxHeartbeats 4000000
namespace T1
open PySem PySem.Spec PyProof.Rows L2 C8
local macro_rules | `(tactic| walk_at "hf") => `(tactic| (fail_if_success (show (fun _ => none : Hp) _ = _)); first | assumption | with_reducible exact upd_same | ((with_reducible show upd _ _ _ _ = _); first | exact up_new' (by assumption) (by walk_at "hf") | exact up_set (by walk_at "ne") (by walk_at "hf")) | exact Same.at' (by assumption) (by walk_at "hf") | exact But.at' (by assumption) (by walk_at "ne") (by walk_at "ne") (by walk_at "hf"))
local macro_rules | `(tactic| walk_at "hf0") => `(tactic| (fail_if_success (show (fun _ => none : Hp) _ = _)); first | assumption | with_reducible exact upd_same | ((with_reducible show upd _ _ _ _ = _); exact up_new' (by assumption) (by walk_at "hf0")))
local macro_rules | `(tactic| walk_at "ne") => `(tactic| first | assumption | (apply Ne.symm; assumption) | exact ne_of_none' (by assumption) (by walk_at "hf0") | exact Ne.symm (ne_of_none' (by assumption) (by walk_at "hf0")) | exact LSt.f1 (by assumption) (by walk_at "lst") | exact LSt.f2 (by assumption) (by walk_at "lst"))
local macro_rules | `(tactic| walk_at "sqt") => `(tactic| (fail_if_success (show SqT _ (fun _ => none) _ _)); first | assumption | exact SqT.of' (by walk_at "hf") | ((with_reducible show SqT _ (upd _ _ _) _ _); first | exact SqT.new' (by assumption) (by walk_at "sqt") | exact SqT.put' (by walk_at "hf") (by walk_at "sqt")) | exact Same.tup (by assumption) (by walk_at "sqt") | exact But.tup (by assumption) (by walk_at "lst") (by walk_at "sqt"))
local macro_rules | `(tactic| walk_at "sql") => `(tactic| (fail_if_success (show SqL _ (fun _ => none) _ _)); first | assumption | exact SqL.of' (by walk_at "hf") | ((with_reducible show SqL _ (upd _ _ _) _ _); exact SqL.new' (by assumption) (by walk_at "sql")) | exact Same.sql' (by assumption) (by walk_at "sql"))
local macro_rules | `(tactic| walk_at "lst") => `(tactic| (fail_if_success (show LSt (fun _ => none) _ _)); first | assumption | ((with_reducible show LSt (upd _ _ _) _ _); first | exact LSt.new (by walk_at "lst") (by assumption) | exact LSt.put (by walk_at "lst") (by walk_at "ne") (by walk_at "ne")) | exact LSt.same' (by assumption) (by walk_at "lst"))
local macro_rules | `(tactic| walk_at "but") => `(tactic| first | assumption | exact But.refl _ _ _ | ((with_reducible show But _ _ _ (upd _ _ _)); exact But.nw (by assumption) (by walk_at "but")) | exact But.bu (by assumption) (by walk_at "but") | exact But.sm (by assumption) (by walk_at "but"))
local macro_rules | `(tactic| walk_at "ls") => `(tactic| first | assumption | exact Ls.same (by walk_at "ls") (Same.upd' (by assumption)))
local macro_rules | `(tactic| walk_at "ll") => `(tactic| first | assumption | exact LL.same (by walk_at "ll") (Same.upd' (by assumption)) | exact LL.same' (by assumption) (by walk_at "ll") | exact LL.but' (by assumption) (by walk_at "lst") (by walk_at "ll"))
local macro_rules | `(tactic| walk_at "sm") => `(tactic| first | assumption | exact Same.refl _ | ((with_reducible show Same _ (upd _ _ _)); first | exact Same.put' (by assumption) (by walk_at "sm") | exact Same.trans (by walk_at "sm") (Same.upd' (by assumption))) | exact Same.trans (by walk_at "sm") (by assumption))
/-- one step of a reading -/
local macro_rules | `(tactic| walk_at "rd") => `(tactic| first
  | with_reducible refine iteF ?_
  | with_reducible refine iteT ?_
  | with_reducible refine itNotF ?_
  | with_reducible refine itNotT ?_
  | refine ⟨_, rfl, ?_⟩
  | refine ⟨_, _, rfl, rfl, ?_⟩
  | refine ⟨_, _, rfl, ?_⟩
  | refine ⟨(_ : Addr), (_ : List V), (_ : Int), (_ : V), rfl, rfl, SqL.of' (by walk_at "hf"), (by first | assumption | rfl), ?_⟩
  | refine ⟨(_ : Addr), (_ : List V), (_ : Int), (_ : V), rfl, rfl, (by walk_at "sqt" : SqT _ _ _ _), (by first | assumption | rfl), ?_⟩
  | refine .inl ⟨_, rfl, ?_⟩
  | refine ⟨_, _, rfl, .inl (by walk_at "sql" : SqL _ _ _ _), ?_⟩
  | refine ⟨_, _, rfl, .inl ⟨(by walk_at "sql" : SqL _ _ _ _), fun p hp => ?_⟩⟩
  | refine ⟨_, _, rfl, .inr ⟨(by walk_at "sqt" : SqT _ _ _ _), ?_⟩⟩
  | refine fun (p : Addr) (hp : (_ : Hp) p = none) => ?_
  | refine ⟨_, _, rfl, .inr (by walk_at "sqt" : SqT _ _ _ _), ?_⟩
  | refine And.intro (by show _ ≤ sizeLine; first | decide | walk_at "sz") (fun p hp => ?_)
  | refine ⟨(_ : Addr), (_ : Addr), (_ : List V), (_ : List V), rfl, rfl, (by walk_at "hf"), (by walk_at "hf"), (by walk_at "sz"), fun p hp => ?_⟩
  | refine ⟨(_ : Addr), (_ : Addr), (_ : List V), (_ : List V), rfl, rfl, (by walk_at "hf"), (by walk_at "hf"), (by walk_at "sz"), ?_⟩
  | refine ⟨(_ : Addr), (_ : List V), (_ : Int), (_ : Nat), rfl, rfl, (by walk_at "hf"), (by rfl), ?_⟩
  | refine And.intro ⟨_, (by walk_at "sql" : SqL _ _ _ _)⟩ ?_
  | refine And.intro ⟨_, (by walk_at "sqt" : SqT _ _ _ _)⟩ ?_
  | refine And.intro (.inl ⟨rfl, _, SqL.of' (by walk_at "hf")⟩) ?_
  | refine And.intro (by walk_at "cond") ?_
  | exact .inl ⟨rfl, _, SqL.of' (by walk_at "hf")⟩
  | with_reducible refine iteT ?_
  | with_reducible refine iteF ?_
  | refine And.intro (by rfl : scal _ _ = true) ?_
  | refine And.intro (by rfl : _ = V.non) ?_
  | refine And.intro (by rfl : wipe _ _ = wipe _ _) ?_
  | refine And.intro (by rfl : (_ : List V) = []) ?_
  | refine ⟨(_ : Addr), (_ : List V), rfl, (by walk_at "sqt" : SqT _ _ _ _), (by rfl), ?_⟩)
/-- a test: known, or both ways -/
local macro_rules | `(tactic| walk_at "if") => `(tactic| first
  | with_reducible refine itD (by omega) ?_
  | with_reducible refine itN (by omega) ?_
  | with_reducible refine itnD (by omega) ?_
  | with_reducible refine itnN (by omega) ?_
  | with_reducible refine itE (by omega) ?_
  | with_reducible refine itEn (by omega) ?_
  | with_reducible refine itnE (by omega) ?_
  | with_reducible refine itnEn (by omega) ?_
  | with_reducible refine itN (by intro z; cases z) ?_
  | with_reducible refine itD (by decide) ?_
  | with_reducible refine itN (by decide) ?_
  | with_reducible refine itnD (by decide) ?_
  | with_reducible refine itnN (by decide) ?_)
local macro_rules | `(tactic| walk_at "if2") => `(tactic| first
  | with_reducible refine itS (fun z => ?_) (fun z => ?_)
  | with_reducible refine itS' (fun z => ?_) (fun z => ?_)
  | with_reducible refine itSE (fun z => ?_) (fun z => ?_)
  | with_reducible refine itnS (fun z => ?_) (fun z => ?_)
  | with_reducible refine itnS' (fun z => ?_) (fun z => ?_)
  | with_reducible refine itnSE (fun z => ?_) (fun z => ?_))
local macro_rules | `(tactic| walk_at "go") => `(tactic| repeat' (first | walk_at "rd" | walk_at "if" | walk_at "if2" | fail))
local macro_rules | `(tactic| walk_at "sz") => `(tactic| (rw [sizeLine_eq]; simp only [List.length_append, List.length_map, List.length_cons, List.length_nil]; omega))
local macro_rules | `(tactic| walk_at "cond") => `(tactic| first | assumption | (show (_ : Int) ≠ 0; first | omega | (split <;> omega)) | (show (0 : Int) < _; first | assumption | decide) | exact ⟨by decide, by decide, by decide⟩ | exact .inr ⟨by decide, by decide⟩ | exact wide_div (b := 64) (by assumption) (by omega) (by decide) (by decide) | exact ⟨by decide, by decide⟩)


/-! ### data alike -/
def okd : Nat → PyData → Prop
  | 0, d => (∃ i, d = .int i) ∨ ∃ b, d = .bool b
  | n + 1, d => ((∃ i, d = .int i) ∨ ∃ b, d = .bool b) ∨ ∃ ds, (d = .list ds ∨ d = .tuple ds) ∧ ds.length ≤ 1000 ∧ ∀ e ∈ ds, okd n e
theorem SqT.ty {K : PySem.W.Frag} {H : Hp} {a : Addr} {xs : List V} (h : SqT K H a xs) : TyX K H (.ref a) (.type "tuple") := by
  rcases h with (h | ⟨o, h⟩) | ⟨o, its, n, h, c, _⟩
  · exact .base (.tup h)
  · exact .fTuple h
  · exact .kTuple h c
theorem SqL.ty {K : PySem.W.Frag} {H : Hp} {a : Addr} {xs : List V} (h : SqL K H a xs) : TyX K H (.ref a) (.type "list") := by
  rcases h with (h | ⟨o, h⟩) | ⟨o, its, n, h, c, _⟩
  · exact .base (.lst h)
  · exact .base (.frz h)
  · exact .kList h c
mutual
theorem Dp.same {K : PySem.W.Frag} {H H' : Hp} (e : Same H H') : ∀ {v : V} {d : PyData}, Dp K H v d → Dp K H' v d
  | _, _, .non => .non
  | _, _, .bl b => .bl b
  | _, _, .int i => .int i
  | _, _, .str x => .str x
  | _, _, .lst h a => .lst (e.seq h) (DpAll.same e a)
  | _, _, .tup h a => .tup (Same.tup e h) (DpAll.same e a)
theorem DpAll.same {K : PySem.W.Frag} {H H' : Hp} (e : Same H H') : ∀ {vs : List V} {ds : List PyData}, DpAll K H vs ds → DpAll K H' vs ds
  | _, _, .nil => .nil
  | _, _, .cons a b => .cons (Dp.same e a) (DpAll.same e b)
end
theorem DpAll.len {K : PySem.W.Frag} {H : Hp} : ∀ {vs : List V} {ds : List PyData}, DpAll K H vs ds → vs.length = ds.length
  | _, _, .nil => rfl
  | _, _, .cons _ b => by simp [DpAll.len b]
theorem DpAll.get {K : PySem.W.Frag} {H : Hp} : ∀ {vs : List V} {ds : List PyData} {i : Nat} {d : PyData}, DpAll K H vs ds → ds[i]? = some d → ∃ v, vs[i]? = some v ∧ Dp K H v d
  | _, _, _, _, .nil, e => by simp at e
  | _, _, 0, d, .cons a b, e => by
    cases e
    exact ⟨_, rfl, a⟩
  | _, _, i + 1, d, .cons a b, e => by
    obtain ⟨v, h1, h2⟩ := DpAll.get (i := i) b (by simpa using e)
    exact ⟨v, by simpa using h1, h2⟩
def spAlike (K : PySem.W.Frag) (n : Nat) : Sp := fun vs H Q _ => ∃ (x y : V) (d : PyData), vs = [x, y] ∧ Dp K H x d ∧ Dp K H y d ∧ okd n d ∧ ∀ H', Same H H' → Q (.bl true) H'
/-- what isinstance asks: the type's name is known -/
theorem isi_i {K : PySem.W.Frag} {H : Hp} {x : V} {a b : String} {r : Bool} {Q : VK} (ty : TyX K H x (.type a)) (k : kitB a b = some r) (q : Q (.bl r) H) : rIsi K [x, .ty b] H Q :=
  ⟨x, .ty b, .type a, .type b, r, rfl, .ty b, ty, kit_ty k, q⟩
theorem isiT_i {K : PySem.W.Frag} {H : Hp} {x : V} {t : Addr} {a b c : String} {r : Bool} {Q : VK} (ht : H t = some (.tup [.ty b, .ty c])) (ty : TyX K H x (.type a)) (k : PySem.W.kitAny K (.type a) [.type b, .type c] = some r) (q : Q (.bl r) H) : rIsiT K [x, .ref t] H Q :=
  ⟨x, t, [.ty b, .ty c], .type a, [.type b, .type c], r, rfl, ht, .cons (.ty b) (.cons (.ty c) .nil), ty, k, q⟩
theorem kitAny2 {K : PySem.W.Frag} {a b c : String} {r s : Bool} (h1 : kitB a b = some r) (h2 : kitB a c = some s) : PySem.W.kitAny K (.type a) [.type b, .type c] = some (r || s) := by
  refine kitAny_cons (kit_ty h1) (fun e => ?_) fun e => by rw [e] <;> rfl
  subst e
  refine kitAny_cons (kit_ty h2) (fun e => ?_) fun e => by rw [e] <;> rfl
  subst e
  exact kitAny_nil
theorem kb_int_dict : kitB "int" "dict" = some false := by decide +kernel
theorem kb_int_tuple : kitB "int" "tuple" = some false := by decide +kernel
theorem kb_int_list : kitB "int" "list" = some false := by decide +kernel
theorem kb_int_str : kitB "int" "str" = some false := by decide +kernel
theorem kb_int_int : kitB "int" "int" = some true := by decide +kernel
theorem kb_int_bool : kitB "int" "bool" = some false := by decide +kernel
theorem kb_bool_dict : kitB "bool" "dict" = some false := by decide +kernel
theorem kb_bool_tuple : kitB "bool" "tuple" = some false := by decide +kernel
theorem kb_bool_list : kitB "bool" "list" = some false := by decide +kernel
theorem kb_bool_str : kitB "bool" "str" = some false := by decide +kernel
theorem kb_bool_int : kitB "bool" "int" = some true := by decide +kernel
theorem kb_bool_bool : kitB "bool" "bool" = some true := by decide +kernel
theorem kb_tuple_dict : kitB "tuple" "dict" = some false := by decide +kernel
theorem kb_tuple_tuple : kitB "tuple" "tuple" = some true := by decide +kernel
theorem kb_tuple_list : kitB "tuple" "list" = some false := by decide +kernel
theorem kb_tuple_str : kitB "tuple" "str" = some false := by decide +kernel
theorem kb_tuple_int : kitB "tuple" "int" = some false := by decide +kernel
theorem kb_tuple_bool : kitB "tuple" "bool" = some false := by decide +kernel
theorem kb_list_dict : kitB "list" "dict" = some false := by decide +kernel
theorem kb_list_tuple : kitB "list" "tuple" = some false := by decide +kernel
theorem kb_list_list : kitB "list" "list" = some true := by decide +kernel
theorem kb_list_str : kitB "list" "str" = some false := by decide +kernel
theorem kb_list_int : kitB "list" "int" = some false := by decide +kernel
theorem kb_list_bool : kitB "list" "bool" = some false := by decide +kernel
theorem ka_int {K : PySem.W.Frag} : PySem.W.kitAny K (.type "int") [.type "tuple", .type "list"] = some false := kitAny2 kb_int_tuple kb_int_list
theorem ka_bool {K : PySem.W.Frag} : PySem.W.kitAny K (.type "bool") [.type "tuple", .type "list"] = some false := kitAny2 kb_bool_tuple kb_bool_list
theorem ka_tuple {K : PySem.W.Frag} : PySem.W.kitAny K (.type "tuple") [.type "tuple", .type "list"] = some true := kitAny2 kb_tuple_tuple kb_tuple_list
theorem ka_list {K : PySem.W.Frag} : PySem.W.kitAny K (.type "list") [.type "tuple", .type "list"] = some true := kitAny2 kb_list_tuple kb_list_list
local macro_rules | `(tactic| walk_at "kb") => `(tactic| with_reducible first | exact kb_int_dict | exact kb_int_tuple | exact kb_int_list | exact kb_int_str | exact kb_int_int | exact kb_int_bool | exact kb_bool_dict | exact kb_bool_tuple | exact kb_bool_list | exact kb_bool_str | exact kb_bool_int | exact kb_bool_bool | exact kb_tuple_dict | exact kb_tuple_tuple | exact kb_tuple_list | exact kb_tuple_str | exact kb_tuple_int | exact kb_tuple_bool | exact kb_list_dict | exact kb_list_tuple | exact kb_list_list | exact kb_list_str | exact kb_list_int | exact kb_list_bool)
local macro_rules | `(tactic| walk_at "ka") => `(tactic| with_reducible first | exact ka_int | exact ka_bool | exact ka_tuple | exact ka_list)
local macro_rules | `(tactic| walk_at "tyx") => `(tactic| first | exact .base (.int _) | exact .base (.bl _) | exact SqT.ty (by walk_at "sqt") | exact SqL.ty (by walk_at "sql"))
local macro_rules | `(tactic| walk_at "isi") => `(tactic| first
  | refine ⟨_, _, _, _, _, rfl, .ty _, (by walk_at "tyx"), kit_ty (by walk_at "kb"), ?_⟩
  | refine ⟨_, _, _, _, _, _, rfl, (by walk_at "hf"), .cons (.ty _) (.cons (.ty _) .nil), (by walk_at "tyx"), (by walk_at "ka"), ?_⟩)
local macro_rules | `(tactic| walk_at "go2") => `(tactic| repeat' (first | walk_at "rd" | walk_at "if" | walk_at "isi" | fail))
end T1

set_option Elab.async false
set_option linter.all false
set_option maxRecDepth 100000
set_option maxHeartbeats 4000000
namespace T1
open PySem PySem.Spec PyProof.Rows L2 C8

def isLink (c : Int) (l : Lk) : Bool := !(decide (l.1 < 0) || decide (c ≤ l.1) || decide (l.2.1 < 0) || decide (c ≤ l.2.1) || decide (l.1 = l.2.1)) && (decide (1 ≤ l.2.2.1) && decide (l.2.2.1 ≤ 99) && (decide (0 ≤ l.2.2.2) && decide (l.2.2.2 ≤ 1000000000000000000)))
def badAt (c : Int) (l : Lk) (k : Nat) : Bool := decide (k = 24) || !isLink c l
def firstFrom (c : Int) : List Lk → Nat → Option Nat
  | [], _ => none
  | l :: r, k => if badAt c l k = true then some k else firstFrom c r (k + 1)
theorem firstFrom_none {c : Int} : ∀ {ls : List Lk} {k : Nat}, (∀ j l, ls[j]? = some l → badAt c l (k + j) = false) → firstFrom c ls k = none
  | [], k, _ => rfl
  | l :: r, k, h => by
    have h0 : badAt c l k = false := h 0 l rfl
    unfold firstFrom
    rw [if_neg (by rw [h0]; decide)]
    exact firstFrom_none fun j m e => by have := h (j + 1) m e; rw [← this]; congr 1; omega
theorem firstFrom_some {c : Int} : ∀ {ls : List Lk} {k i : Nat} {m : Lk}, (∀ j l, j < i → ls[j]? = some l → badAt c l (k + j) = false) → ls[i]? = some m → badAt c m (k + i) = true → firstFrom c ls k = some (k + i)
  | [], k, i, m, _, e, _ => by simp at e
  | l :: r, k, 0, m, _, e, hb => by
    have el : l = m := by simpa using e
    subst el
    have hb : badAt c l k = true := hb
    unfold firstFrom
    rw [if_pos hb] <;> rfl
  | l :: r, k, i + 1, m, h, e, hb => by
    have h0 : badAt c l k = false := h 0 l (Nat.succ_pos _) rfl
    unfold firstFrom
    rw [if_neg (by rw [h0]; decide)]
    have := firstFrom_some (k := k + 1) (i := i) (m := m) (fun j l' hj e' => by have := h (j + 1) l' (by omega) e'; rw [← this]; congr 1; omega) (by simpa using e) (by rw [← hb]; congr 1; omega)
    rw [this]; congr 1; omega
def firstBad (c : Int) (ls : List Lk) : Option (Str × Int) := if 1 ≤ c ∧ c ≤ 12 then (firstFrom c ls 0).map (fun k => (("bridges" : Str), (k : Int))) else some ("count", 0)
def BadV (K : PySem.W.Frag) (H : Hp) (v : V) : Option (Str × Int) → Prop
  | none => v = .non
  | some r => ∃ a, v = .ref a ∧ SqT K H a [.str r.1, .int r.2]
def ld (l : Lk) : PyData := .tuple [.int l.1, .int l.2.1, .int l.2.2.1, .int l.2.2.2]
theorem Dp.link {K : PySem.W.Frag} {H : Hp} {a : Addr} {l : Lk} (h : SqT K H a (lv l)) : Dp K H (.ref a) (ld l) := .tup h (.cons (.int _) (.cons (.int _) (.cons (.int _) (.cons (.int _) .nil))))
theorem DpAll.links {K : PySem.W.Frag} {H : Hp} : ∀ {vs : List V} {ls : List Lk}, LL K H vs ls → DpAll K H vs (ls.map ld)
  | [], [], _ => .nil
  | v :: vs, l :: ls, h => by
    obtain ⟨a, e1, e2⟩ := h.2 0 l rfl
    have ev : v = .ref a := by simpa using e1
    subst ev
    exact .cons (Dp.link e2) (DpAll.links ⟨by have := h.1; simpa using this, fun j m e => by
      obtain ⟨b, e3, e4⟩ := h.2 (j + 1) m (by simpa using e)
      exact ⟨b, by simpa using e3, e4⟩⟩)
  | [], _ :: _, h => by have := h.1; simp at this
  | _ :: _, [], h => by have := h.1; simp at this
theorem Dp.links {K : PySem.W.Frag} {H : Hp} {t : Addr} {ls : List Lk} (h : Ls K H t ls) : Dp K H (.ref t) (.tuple (ls.map ld)) := let ⟨vs, h1, h2⟩ := h; .tup h1 (DpAll.links h2)
theorem lay_links : ∀ ls : List Lk, PyData.canLayAll0 (ls.map ld) = true
  | [] => by simp [PyData.canLayAll0]
  | l :: ls => by simp [PyData.canLayAll0, PyData.canLay0, ld, lay_links ls]
theorem depth_links : ∀ ls : List Lk, PyData.depthAll (ls.map ld) ≤ 1
  | [] => by simp [PyData.depthAll]
  | l :: ls => by
    have := depth_links ls
    simp only [List.map_cons, PyData.depthAll, PyData.depth, ld]
    omega
theorem shaped_links (ls : List Lk) : SeqAt.shaped (.tuple (ls.map ld)) = true := by
  have h := depth_links ls
  have hd : PyData.depth (.tuple (ls.map ld)) ≤ 64 := by simp only [PyData.depth]; omega
  have hc : PyData.canLay0 (.tuple (ls.map ld)) = true := by simp only [PyData.canLay0]; exact lay_links ls
  unfold SeqAt.shaped
  rw [hc, decide_eq_true hd] <;> rfl
theorem eqv_links_nil (ls : List Lk) : PyData.eqv (.tuple (ls.map ld)) (.tuple []) = ls.isEmpty := by
  cases ls <;> simp [PyData.eqv, PyData.eqvAll]
end T1

set_option Elab.async false
set_option linter.all false
set_option maxRecDepth 100000
set_option maxHeartbeats 4000000
/-! rules of our own: enumerate of a tuple, static methods, the base's __init__ read off the class, isinstance of a caught error that has fields -/
namespace T1
open PySem
open AutoSeq1 (wpAny_loadPart')
/-- an iterator of the tuple at t, at its start; an enumerate over the iterator at q -/
abbrev itO (t : Addr) : Obj := { cls := .type "tuple_iterator", data := .fields #[.ref t, .int 0 0] }
abbrev enO (q : Addr) : Obj := { cls := .type "enumerate", data := .fields #[.none, .bool false, .ref q, rawInt 0, .none, .none] }
abbrev enHeap (h : Heap) (t : Addr) : Heap := (h.push (itO t)).push (enO h.objs.size)
theorem meets_enumT (t : Addr) (vs : Array Value) :
    Meets (Builtin.«enumerate.__new__» ⟨[.type "enumerate", .ref t], []⟩) (fun _ R s => s.heap.IsTuple t vs ∧ R (.ok (.ret (.ref (s.heap.push (itO t)).objs.size))) { s with heap := enHeap s.heap t }) := by
  refine .of_wp fun prog w A R ⟨hp, g, d, tk, os⟩ ⟨tup, fin⟩ => ?_
  have sub := sub_enumerate
  have tup' : Heap.IsTuple (Shared.heap ⟨hp, g, d, tk, os⟩) t vs := tup
  obtain ⟨ot, hot, _⟩ := id tup
  wp_walk using wpAny_loadPart' hot
  refine wpAny_stack_any fun _ => wpAny_pure ?_
  split
  case' h_1 k _ _ _ _ _ => cases (k == Value.type "enumerate")
  all_goals
    wp_walk using wpAny_loadPart' hot, wpAny_pyIter_tuple tup'
    exact ⟨_, rfl, fin⟩
theorem t1_call_enumT {prog : Program} {w : World} {A : Around} {E : Value → Shared → Prop} {s : Shared} {t : Addr} {vs : Array Value} {Q : Value → Shared → Prop} (tup : s.heap.IsTuple t vs)
    (k : ∀ h', IsEnum h' (s.heap.objs.size + 1) s.heap.objs.size 0 .none → h'.IsTupleIter s.heap.objs.size t 0 → True → (∀ b o, s.heap.get? b = some o → h'.get? b = some o) → Q (.ref (s.heap.objs.size + 1)) { s with heap := h' }) :
    wpAny (model prog w) A (call (.type "enumerate") [.ref t]) Q E s := by
  have sz : (s.heap.push (itO t)).objs.size = s.heap.objs.size + 1 := Heap.size_push ..
  have en : IsEnum (enHeap s.heap t) (s.heap.objs.size + 1) s.heap.objs.size 0 .none := by
    have z := Heap.get?_push_size (s.heap.push (itO t)) (o := enO s.heap.objs.size) rfl
    rwa [sz] at z
  refine callType_new F.called_enumerate (by decide) (F.typeCall_enumerate_1 _) (F.newCall_enumerate_1 _) (fun _ => F.args_object_init_2 ..) F.entry_enumerate_new (meets_enumT t vs) ⟨tup, ?_⟩
  rw [sz]
  exact ⟨⟨_, en, rfl⟩, k _ en ⟨_, Heap.get?_push_of_some _ (Heap.get?_push_size _ rfl), rfl, rfl⟩ trivial fun _ _ z => Heap.get?_push_of_some _ (Heap.get?_push_of_some _ z)⟩
end T1
namespace T1
open PySem PySem.Spec PyProof.Rows L2 C8
/-! ### enumerate of a tuple -/
/-- what a turn hands out: a pair that is new at T, of the turn's number and the tuple's item -/
def PairOut (K : PySem.W.Frag) (a : Addr) (i : Nat) (H : Hp) (v : V) (H' : Hp) : Prop :=
  ∃ T y, v = .ref T ∧ H T = none ∧ H' = upd H T (.tup [.int (i : Nat), y]) ∧ ∀ ys, SqT K H a ys → ys[i]? = some y
def IteT (K : PySem.W.Frag) (a : Addr) : It where
  go i H := ∃ ys y, SqT K H a ys ∧ ys[i]? = some y
  yld i H v H' := PairOut K a i H v H'
  stop i H := ∃ ys, SqT K H a ys ∧ ys.length = i
/-- where the two records stand, the enumerate at e over the iterator at q -/
structure EnAt (a e q : Addr) (i : Nat) (h : Heap) : Prop where
  en : ∃ u, IsEnum h e q (i : Int) u
  tu : h.IsTupleIter q a i
  eq : e ≠ q
  aq : a ≠ q
theorem EnAt.big {a e q : Addr} {i : Nat} {h : Heap} (x : EnAt a e q i h) : e < h.objs.size ∧ q < h.objs.size := by
  obtain ⟨⟨u, hu⟩, ⟨o, ho, _⟩, _, _⟩ := x
  exact ⟨Heap.lt_size hu, Heap.lt_size ho⟩
theorem two {α : Type} {x y b : α} (h : b ∈ [x, y]) : b = x ∨ b = y := by simpa using h
theorem turn_enumT {P : Program} {w : World} {K : PySem.W.Frag} {es : List Expr} {n : Nat} {tp : Pos} (a e q : Addr) : Turn P w K (.Tuple es n tp) (IteT K a) [e, q] e (EnAt a e q) where
  mem := List.mem_cons_self
  obj := fun i h x b hb => by
    obtain ⟨⟨u, hu⟩, ⟨o, ho, _, hd⟩, _, _⟩ := x
    rcases two hb with rfl | rfl
    · exact ⟨_, hu, fun _ z => nomatch z⟩
    · exact ⟨o, ho, fun _ z => by rw [hd] at z; cases z⟩
  keep := fun i h h' x k => by
    obtain ⟨⟨u, hu⟩, ht, n1, n2⟩ := x
    exact ⟨⟨u, k e List.mem_cons_self _ hu⟩, ht.at fun o z => k q (List.mem_cons_of_mem _ List.mem_cons_self) o z, n1, n2⟩
  item := by
    rintro X rfl rfl rfl hc i pins s σ H E I ff x ⟨ys, y, hys, hy⟩
    obtain ⟨be, bq⟩ := x.big
    obtain ⟨⟨u, hu⟩, ht, n1, n2⟩ := x
    obtain ⟨vs, rv, tup, _⟩ := I.tuple hys
    obtain ⟨v, hv, ry⟩ := rv.get hy
    have nea : a ≠ e := by
      rintro rfl
      obtain ⟨o, ho, _, _, hd⟩ := tup
      rw [hu] at ho
      cases ho
      cases hd
    have hlt : i < vs.toArray.size := by
      have := (List.getElem?_eq_some_iff.mp hv).1
      simpa using this
    have DT := PySem.Draws.tuple (prog := X.prog) (w := X.w) (A := X.A.in1) (I.ok.hd hc) q a n2 vs.toArray
    refine wpAny_pyNext_enum_itemD DT hu ⟨ht, tup⟩ hlt n1 (fun z => (two z).elim n1 (Ne.symm nea)) fun v' h1 tk hv' out st at1 _ keep1 => ?_
    obtain rfl : v' = v := by
      have z : vs.toArray[i]? = some v := by simpa using hv
      exact Option.some.inj (hv'.symm.trans z)
    refine ⟨_, rfl, wpAny_letOwnedTupleGo_enum (s := { s with heap := h1, toks := tk + 1 }) out fun h2 hu2 sb => ?_⟩
    -- the new pair's address
    generalize hT : s.heap.objs.size = T at *
    have freshT : H T = none := I.hok.fresh (Nat.le_of_eq hT)
    have at2 := (sb.2 T (Nat.ne_of_gt be)).trans at1
    have okT : ObjOk X.prog X.w (upd H T (.tup [.int (i : Nat), y])) h2 T (.tup [.int (i : Nat), y]) := ⟨by show 2 ≤ sizeLine; decide, _, .cons ⟨tk, rfl⟩ (.cons ry .nil), _, at2, rfl, _, rfl⟩
    have J : Inv X pins σ (upd H T (.tup [.int (i : Nat), y])) { s with heap := h2, toks := tk + 1 } := by
      refine I.turnedNew (ch := [e, q]) (fun b o nb ho => ?_) ff (Nat.le_of_eq hT) okT
      have b1 : b ≠ e := fun z => nb (by rw [z]; exact List.mem_cons_self)
      have b2 : b ≠ q := fun z => nb (by rw [z]; exact List.mem_cons_of_mem _ List.mem_cons_self)
      exact (sb.2 b b1).trans (keep1 b o b1 b2 ho)
    refine ⟨.ref T, _, J, rfl, ⟨T, y, rfl, freshT, rfl, fun zs hz => by rw [I.tuple_inj hz hys]; exact hy⟩, ⟨⟨v', ?_⟩, st.1.at fun o z => (sb.2 q (Ne.symm n1)).trans z, n1, n2⟩, fun b hb => ?_⟩
    · rw [show ((i + 1 : Nat) : Int) = (i : Int) + 1 from rfl]
      exact hu2
    · have bT : b ≠ T := by
        rcases two hb with rfl | rfl
        · exact Nat.ne_of_lt be
        · exact Nat.ne_of_lt bq
      rw [upd_ne bT]
      exact (ff b hb).1
  done := by
    rintro X rfl rfl rfl hc i pins s σ H E I ff x ⟨ys, hys, hi⟩
    obtain ⟨⟨u, hu⟩, ht, n1, n2⟩ := x
    obtain ⟨vs, rv, tup, _⟩ := I.tuple hys
    obtain ⟨g0, g1, _, g3, g4, g5⟩ := ff q (List.mem_cons_of_mem _ List.mem_cons_self)
    obtain rfl : i = vs.toArray.size := by
      have := rv.length
      simp; omega
    have DT := PySem.Draws.tuple (prog := X.prog) (w := X.w) (A := X.A.in1) (I.ok.hd hc) q a n2 vs.toArray
    exact wpAny_pyNext_enum_endD DT hu ⟨ht, tup⟩ fun h1 eb => ⟨rfl, I.turned (t' := s.toks) (fun b o nb z => eb b o nb z) g0 g1 g3 g4 g5⟩
  self := fun _ _ _ _ _ x hq => by
    obtain ⟨⟨u, hu⟩, _⟩ := x
    exact wpAny_pyIter_enum hu hq
def iEnumT (K : PySem.W.Frag) (ta : TA) : TI := fun σ H R => ta σ H fun vs H1 => ∃ a ys, vs = [.ref a] ∧ SqT K H1 a ys ∧ R (IteT K a) H1
theorem pi_enumT {X : Cx} {x : Expr} {ta : TA} {p1 p2 p3 : Pos} {es : List Expr} {n : Nat} (hg : Gl X "enumerate") (hm : X.mg "enumerate" = none) (ha : PA X [x] ta) (st : starEach [x] X.env = [(false, eval x X.env)] := by rfl) :
    PI X (.Tuple es n p3) (.Call (.Name "enumerate" p1) [x] [] p2) (iEnumT X.K ta) where
  run := fun pins s σ H R I h => by
    refine Call_ (ld_blt I hg hm boot_enumerate (PyProof.Rows.callWith_type1 (thn (ha.run p2 pins s σ H _ I h) ?_) st rfl))
    rintro us s1 ⟨vs, H1, I1, rvs, a, ys, rfl, hys, q⟩
    obtain _ | ⟨ra, _ | _⟩ := rvs
    cases ra
    obtain ⟨_, _, tup, _⟩ := I1.tuple hys
    obtain ⟨o, ho, _⟩ := id tup
    generalize hz : s1.heap.objs.size = z
    refine t1_call_enumT tup fun h' he ht _ keep => wpAny_pyIter_enum he ?_
    rw [hz] at he ht
    rw [hz]
    have far : ∀ b ∈ [z + 1, z], s1.heap.objs.size ≤ b := fun b hb => by rcases two hb with rfl | rfl <;> omega
    refine ⟨z + 1, [z + 1, z], _, _, H1, rfl, I1.kept (t' := s1.toks) keep, turn_enumT a (z + 1) z, ⟨⟨.none, he⟩, ht, Nat.succ_ne_self z, Nat.ne_of_lt (by rw [← hz]; exact Heap.lt_size ho)⟩, fun b hb => ?_, q⟩
    exact I1.fpOk (far b hb) (I1.hok.fresh (far b hb))
/-- for i, x in enumerate(t): Pv by the turn; the pair of a turn is new at T -/
theorem for_enumT {K : PySem.W.Frag} {a : Addr} {ys : List V} {g : TG} {tb : TS} {D : Ends} {σ : L2.St} {H : Hp} (Pv : Nat → L2.St → Hp → Prop) (h0 : Pv 0 σ H) (hl : ∀ i σ H, Pv i σ H → SqT K H a ys)
    (hs : ∀ i y T σ H, ys[i]? = some y → H T = none → Pv i σ H → g (.ref T) σ (upd H T (.tup [.int (i : Nat), y])) (tb { nx := Pv (i + 1), rt := D.rt, bk := D.nx, ct := Pv (i + 1) }))
    (hd : ∀ σ H, Pv ys.length σ H → D.nx σ H) :
    ∃ W : Nat → Nat → L2.St → Hp → Prop, (∃ m, W 0 m σ H) ∧ ∀ j m τ G, W j m τ G →
      ((IteT K a).stop j G ∧ D.nx τ G) ∨ ((IteT K a).go j G ∧ ∃ N : L2.St → Hp → Prop, (∀ τ' G', N τ' G' → ∃ m', m' < m ∧ W (j + 1) m' τ' G') ∧ ∀ v G', (IteT K a).yld j G v G' → g v τ G' fun τ2 G2 => tb { nx := N, rt := D.rt, bk := D.nx, ct := N } τ2 G2) := by
  refine ⟨fun j m τ G => j + m = ys.length ∧ Pv j τ G, ⟨ys.length, Nat.zero_add _, h0⟩, fun j m τ G ⟨hm, pv⟩ => ?_⟩
  have tup := hl _ _ _ pv
  match m, hm with
  | 0, hm =>
    obtain rfl : j = ys.length := by omega
    exact .inl ⟨⟨ys, tup, rfl⟩, hd _ _ pv⟩
  | m + 1, hm =>
    have hlt : j < ys.length := by omega
    refine .inr ⟨⟨ys, ys[j], tup, List.getElem?_eq_getElem hlt⟩, Pv (j + 1), fun _ _ z => ⟨m, Nat.lt_succ_self m, by omega, z⟩, ?_⟩
    rintro v G' ⟨T, y, rfl, hT, rfl, hy⟩
    exact hs j y T τ G (hy ys tup) hT pv
/-! ### methods that are handed out unbound -/
/-- the call of a method, as the model unfolds it -/
abbrev MCall (X : Cx) (o : Expr) (m : Str) (args : List Expr) (p1 p2 : Pos) (pl : Sem Bool) : Prop :=
  eval (.Call (.Attribute o m p1) args [] p2) X.env =
    (eval o X.env >>= fun ov => standAt p1.atName >>= fun _ => holding [ov] (getMethod ov m pl) >>= fun r => callWith p2 r.1 r.2 (backTo p2 (starEach args X.env)) (backToKw p2 (keywordEach [] X.env)))
/-- m of what G tells is f, nothing bound to it -/
def Hands (X : Cx) (m : Str) (pl : Sem Bool) (G : V → Hp → Prop) (f : Value) : Prop :=
  ∀ (pins : List (Addr × Obj)) (σ : L2.St) (H : Hp) (s : Shared) (x : V) (u : Value) (Q : Value × List Value → Shared → Prop), Inv X pins σ H s → RelV x u → G x H → Q (f, []) { s with toks := s.toks + 1 } → wpAny (model X.prog X.w) X.A (getMethod u m pl) Q X.xe s
/-- o.m(..), m a def that is not bound -/
def tPlain (G : V → Hp → Prop) (sp : Sp) (E : XK) (ta : TE) (t : TA) : TE := fun σ H Q => ta σ H fun x H1 => G x H1 ∧ t σ H1 fun vs H2 => sp (vs ++ []) H2 Q E
section
variable {X : Cx} {CX : CXT} {k : Nat} {C CB p g : Addr} {mc : Value} {m : Str} {fd : FuncData} {ps : List Str} {sp : Sp} {E : XK} {o x : Expr} {xs : List Expr} {p1 p2 p3 : Pos} {ta : TE} {t : TA} {pl : Sem Bool} {G : V → Hp → Prop}
theorem pe_plain (ho : PE X o ta) (hh : Hands X m pl G (.ref g)) (kp : PySem.W.keepIn X.K (.ref g) = true) (F : FnOk X.prog X.w X.K X.mg X.base CX k g fd ps sp) (hr : Room k X.A) (hb : Binds X.K fd ps []) (hx : Passes CX X E) (ha : PA X (x :: xs) t)
    (s1 : starEach (x :: xs) X.env = (false, eval x X.env) :: starEach xs X.env := by rfl) (s2 : (backTo p2 (starEach xs X.env)).any (·.1) = false := by rfl) (hc : MCall X o m (x :: xs) p1 p2 pl := by rfl) :
    PE X (.Call (.Attribute o m p1) (x :: xs) [] p2) (tPlain G sp E ta t) where
  run := fun pins s σ H Q I h => by
    refine PySem.W.methodCall_KW (pl := pl) (thn (ho.run pins s σ H _ I h) ?_) hc
    rintro u z ⟨y, H1, I1, ry, gy, q⟩
    refine hh pins σ H1 z y u _ I1 ry gy (PySem.W.callWith_K (first := []) (h₀ := X.base) I1.ok.mod.kin kp (thn (ha.run p2 pins _ σ H1 _ (I1.tok _) q) ?_) s1 s2)
    rintro us z' ⟨vs, H2, I2, rv, q2⟩
    exact ⟨I2.kIn, run_fn F hr hb .nil hx I2 rv q2⟩
/-- what is asked of a static method of the class at C, read off an object -/
structure SInst (K : PySem.W.Frag) (C : Addr) (m : Str) (p g : Addr) : Prop where
  plain : PySem.W.plainGet K C Str.empty = true
  isC : PySem.W.isClsIn K C = true
  find : PySem.W.findIn K (.ref C) m = some (some (.ref p))
  ty : PySem.W.typeIn K (.ref p) = some (.type "staticmethod")
  sp : PySem.W.specialIn K (.ref p) "__get__" = some (some (.builtin "staticmethod.__get__"))
  tk : PySem.W.takesIn K (.ref p) = some false
  cn : PySem.W.copiedNames.contains m = false
  fn : ∃ l, PySem.W.recIn K p "staticmethod" = some (.ref g :: l)
theorem hands_inst (c : SInst X.K C m p g) : Hands X m pl (fun x H => ∃ a dx fs, x = .ref a ∧ H a = some (.ins C dx fs) ∧ fs.lookup m = none) (.ref g) := by
  rintro pins σ H s x u Q I ru ⟨a, dx, fs, rfl, ha, nm⟩ q
  cases ru
  obtain ⟨mA, O, hr, _⟩ := ins_get I.hok ha
  obtain ⟨od, J, look⟩ := O.look
  obtain ⟨l, hl⟩ := c.fn
  have pg := PySem.W.plainGet_of (show PySem.W.plainGet X.K C m = true from c.plain)
  have own : PySem.W.lookIn m od = some none := by
    rw [look m]
    exact congrArg some (RelO.none_of (by rw [← nm]; exact hr m))
  refine PySem.W.method_usual (r := some (.ref p)) I.kIn J pg.1 pg.2 c.find (by rw [Option.all_some, c.ty]; decide +kernel) ?_
  exact PySem.W.get_bind I.kIn J pg.1 (ClX.find_cm c.isC c.find c.sp c.tk c.cn own) pg.2 (wpAny_call (PySem.W.sm_get (s := { s with toks := s.toks + 1 }) I.kIn hl (PySem.W.handed_on rfl q)))
/-- .. read off the class -/
structure SCls (K : PySem.W.Frag) (C : Addr) (mc : Value) (m : Str) (p g : Addr) : Prop where
  reads : PySem.W.readsIn K C mc = true
  sga : PySem.W.specialIn K (.ref C) "__getattribute__" = some (some (.builtin "type.__getattribute__"))
  find : PySem.W.findCls K (.ref C) mc m = some (.get (.builtin "staticmethod.__get__") (.ref p) .none (.ref C))
  fn : ∃ l, PySem.W.recIn K p "staticmethod" = some (.ref g :: l)
theorem hands_cls (c : SCls X.K C mc m p g) : Hands X m pl (fun x _ => x = .ref C) (.ref g) := by
  rintro pins σ H s x u Q I ru rfl q
  cases ru
  obtain ⟨l, hl⟩ := c.fn
  exact PySem.W.method_cls I.kIn c.sga (PySem.W.cls_bind I.kIn c.reads c.find (wpAny_call (PySem.W.sm_get (s := { s with toks := s.toks + 1 }) I.kIn hl (PySem.W.handed_on rfl q))))
/-- B.__init__(self, ..), B an own error class that has none of its own -/
theorem pe_beinit {B : Str} (hg : Gl X B) (hm : X.mg B = some (.ref CB)) (rd : PySem.W.readsIn X.K CB mc = true) (sga : PySem.W.specialIn X.K (.ref CB) "__getattribute__" = some (some (.builtin "type.__getattribute__")))
    (at_ : PySem.W.findCls X.K (.ref CB) mc "__init__" = some (.val (.builtin "ValueError.__init__"))) (ha : PA X (x :: xs) t)
    (s1 : starEach (x :: xs) X.env = (false, eval x X.env) :: starEach xs X.env := by rfl) (s2 : (backTo p2 (starEach xs X.env)).any (·.1) = false := by rfl) (hc : MCall X (.Name B p3) "__init__" (x :: xs) p1 p2 pl := by rfl) (hd : (B == ("__debug__" : Str)) = false := by decide) :
    PE X (.Call (.Attribute (.Name B p3) "__init__" p1) (x :: xs) [] p2) (tVeI X.K t) where
  run := fun pins s σ H Q I h => by
    refine PySem.W.methodCall_KW (pl := pl) (ld_glob I hg hm (PySem.W.method_cls I.kIn sga (PySem.W.cls_value I.kIn rd at_ rfl (PyProof.Rows.callWith_method1 (thn (ha.run p2 pins _ σ H _ (I.tok _) h) ?_) s1 s2))) hd) hc
    rintro us z ⟨vs, H1, I1, rvs, a, C', ws, rfl, few, T, ea, q⟩
    obtain _ | ⟨ra, rest⟩ := rvs
    cases ra
    exact oinit_ok T I1 ea (by rw [sizeLine_eq, ← Paired.length rest]; omega) fun z' J => ⟨.non, H1, J, rfl, q⟩
end
end T1

set_option Elab.async false
set_option linter.all false
set_option maxRecDepth 100000
set_option maxHeartbeats 4000000
namespace T1
open PySem PySem.Spec PyProof.Rows L2 C8
open PySem.W in
/-- e.__class__ of an error that has a dict of its own -/
theorem exc_class {prog : Program} {w : World} {A : Around} {E : Value → Shared → Prop} {s : Shared} {K : Frag} {e D : Addr} {ob od : Obj} {Q : Option Value → Shared → Prop} (T : ExcC K D) (X : K.In s.heap) (I : InstAt s.heap e ob D (some od))
    (fin : Q (some (.ref D)) { s with toks := s.toks + 1 }) : wpAny (model prog w) A (getAttr? (.ref e) "__class__") Q E s := by
  have isC : (clsIn K D).isSome = true := by
    obtain ⟨c, hc, _⟩ := any_some T.hd
    rw [hc] <;> rfl
  obtain ⟨hp, gn, dr, tk, os⟩ := s
  have lt := I.type (M := model prog w)
  have lg := looks_findIn (M := model prog w) X T.hg
  have lk := looks_findIn (M := model prog w) X T.hk
  have lf := looks_find (M := model prog w) X I (findObj_data isC T.ha T.hn T.ht)
  have isB : Looks (model prog w) hp (isInstance (.ref e) (.type "BaseException")) true := lt.andThen (looks_subIn X T.hs)
  have other : (onTheHeap (Value.ref D) && Value.builtin "BaseException.__getattribute__" == Value.builtin "object.__getattribute__") = false := by
    rw [show (Value.builtin "BaseException.__getattribute__" == Value.builtin "object.__getattribute__") = false from by decide +kernel, Bool.and_false]
  unfold getAttr? getAttrBy? getAttrBy
  refine wpAny_bind (wpAny_mkText (wpAny_bind (wpAny_attempt (wpAny_holding (wpAny_bind (lt.at (wpAny_bind (lg.at ?_))))))))
  dsimp only
  rw [other, if_neg Bool.false_ne_true]
  unfold getAttrByItsOwn hookBefore
  rw [if_pos (show onTheHeap (Value.ref D) = true from rfl)]
  refine wpAny_bind (lk.at (wpAny_bind (wpAny_attempt (wpAny_holding ?_))))
  unfold callGetattribute
  rw [if_neg (show ¬ (false && onTheHeap (Value.builtin "BaseException.__getattribute__")) = true from Bool.false_ne_true)]
  unfold boundAndCalled
  rw [PySem.F.excAttr_ValueError.ga.bind (.ref e)]
  refine wpAny_bind (wpAny_pure (wpAny_call (codeAny_call_builtin PySem.F.excAttr_ValueError.ga.plain PySem.F.entry_bexc_ga
    (@check_slot (model prog w) _ _ ⟨hp, gn, dr, tk + 1, os⟩ "BaseException.__getattribute__" "BaseException" "__getattribute__" (.ref e) [.str "__class__" tk] [] _ (by decide +kernel) (by decide +kernel) isB (PySem.F.args_bexc_ga _ _) ?_))))
  unfold Builtin.«object.__getattribute__»
  refine wpAny_bind (wpAny_of_eq (a := ((Value.ref e : Value), [Value.str "__class__" tk])) (by first | rfl | (simp only [slotArgs]; rfl)) (wpAny_bind (wpAny_pure (wpAny_bind (lt.at (wpAny_bind (lf.at ?_)))))))
  refine wpAny_bind (wpAny_holding (wpAny_call (class_get (s := ⟨hp, gn, dr, tk + 1, os⟩) (ox := ob) (od := some od) X I T.hm (wpAny_pure ?_))))
  show wpAny _ _ (handedOut (.ref D)) _ _ _
  rw [handedOut_of (v := .ref D) rfl]
  first
    | exact wpAny_pure (wpAny_pure fin)
    | exact wpAny_pure fin
    | exact wpAny_pure (wpAny_bind (wpAny_pure (wpAny_pure fin)))
/-- isinstance(e, c), e the error that the suite holds, its dict at dd -/
theorem call_isD {X : Cx} {a D dd : Addr} {oe : Obj} {pn : List (Addr × Obj)} (T : ExcC X.K D) (hz : Zc (.ref D) (some dd) oe) (hf : ∃ vs, oe.data = .fields vs) :
    CallR (X.suite a ((a, oe) :: pn)) (.builtin "isinstance") (fun xs H Q => ∃ (c : V) (cv : Value) (b : Bool) (fs : List (Str × V)), xs = [.ref a, c] ∧ H dd = some (.xd fs) ∧ (∀ u, RelV c u → u = cv) ∧ PySem.W.kitOne X.K (.ref D) cv = some b ∧ Q (.bl b) H) := by
  rintro pins s σ H _ us Q I r ⟨c, cv, b, fs, rfl, hdd, hc, kit, fin⟩
  obtain _ | ⟨ra, _ | ⟨rc, _ | _⟩⟩ := r
  cases ra
  obtain rfl := hc _ rc
  have at_ := (I.pin (a, oe) (List.mem_append_left _ List.mem_cons_self)).1
  obtain ⟨mA, ns, _⟩ := (I.hok dd _ hdd : ObjOk _ _ _ _ dd (.xd fs))
  obtain ⟨od, hod, _⟩ := lookIn_ns ns
  obtain ⟨vs, hv⟩ := hf
  have J : PySem.W.InstAt s.heap a oe D (some od) := ⟨at_, hz.1, by unfold PySem.W.notCls; rw [hv] <;> rfl, by rw [hz.2]; exact hod⟩
  have old := PySem.W.handS_kitx_exc (x := a) (ox := oe) T.hg T.hk T.hs T.hd T.ha T.hn T.ht T.hm
  have Z : PySem.W.KitX X.K (.ref a) (.ref D) (fun h => ∃ od, PySem.W.InstAt h a oe D (some od)) := {
    ty := fun _ _ _ ⟨_, z⟩ => z.type
    it := fun M h x ⟨_, z⟩ => by
      obtain ⟨cd, hcd, _⟩ := PySem.W.any_some T.hd
      unfold PySem.W.clsIn at hcd
      split at hcd
      · rename_i ho
        exact fun _ _ _ _ keep q => wpAny_bind (wpAny_loadPart (keep _ _ (x _ _ ho)) (wpAny_pure q))
      · cases hcd
    ne := fun h tp dt its n sl x htp => by
      refine Bool.eq_false_iff.mpr fun q => ?_
      obtain rfl : D = tp := Value.ref.inj (beq_iff_eq.mp q)
      obtain ⟨cd, hcd, _⟩ := PySem.W.any_some T.hd
      unfold PySem.W.clsIn at hcd
      split at hcd
      · rename_i ho
        cases (x _ _ ho).symm.trans htp
      · cases hcd
    ca := fun x ⟨_, z⟩ q => exc_class T x z q }
  exact PySem.W.kia_one Z I.kIn ⟨od, J⟩ kit (fun z => nomatch z) fun tk => ⟨.bl b, H, I.kept (t' := tk) fun _ _ z => z, rfl, fin⟩
end T1

set_option Elab.async false
set_option linter.all false
set_option maxRecDepth 100000
set_option maxHeartbeats 4000000
namespace T1
open PySem PySem.Spec PyProof.Rows L2 C8
local macro_rules | `(tactic| walk_at "hf") => `(tactic| (fail_if_success (show (fun _ => none : Hp) _ = _)); first | assumption | with_reducible exact upd_same | ((with_reducible show upd _ _ _ _ = _); first | exact up_new' (by assumption) (by walk_at "hf") | exact up_set (by walk_at "ne") (by walk_at "hf")) | exact Same.at' (by assumption) (by walk_at "hf") | exact But.at' (by assumption) (by walk_at "ne") (by walk_at "ne") (by walk_at "hf"))
local macro_rules | `(tactic| walk_at "hf0") => `(tactic| (fail_if_success (show (fun _ => none : Hp) _ = _)); first | assumption | with_reducible exact upd_same | ((with_reducible show upd _ _ _ _ = _); exact up_new' (by assumption) (by walk_at "hf0")))
local macro_rules | `(tactic| walk_at "ne") => `(tactic| first | assumption | (apply Ne.symm; assumption) | exact ne_of_none' (by assumption) (by walk_at "hf0") | exact Ne.symm (ne_of_none' (by assumption) (by walk_at "hf0")) | exact LSt.f1 (by assumption) (by walk_at "lst") | exact LSt.f2 (by assumption) (by walk_at "lst"))
local macro_rules | `(tactic| walk_at "sqt") => `(tactic| (fail_if_success (show SqT _ (fun _ => none) _ _)); first | assumption | exact SqT.of' (by walk_at "hf") | ((with_reducible show SqT _ (upd _ _ _) _ _); first | exact SqT.new' (by assumption) (by walk_at "sqt") | exact SqT.put' (by walk_at "hf") (by walk_at "sqt")) | exact Same.tup (by assumption) (by walk_at "sqt") | exact But.tup (by assumption) (by walk_at "lst") (by walk_at "sqt"))
local macro_rules | `(tactic| walk_at "sql") => `(tactic| (fail_if_success (show SqL _ (fun _ => none) _ _)); first | assumption | exact SqL.of' (by walk_at "hf") | ((with_reducible show SqL _ (upd _ _ _) _ _); exact SqL.new' (by assumption) (by walk_at "sql")) | exact Same.sql' (by assumption) (by walk_at "sql"))
local macro_rules | `(tactic| walk_at "lst") => `(tactic| (fail_if_success (show LSt (fun _ => none) _ _)); first | assumption | ((with_reducible show LSt (upd _ _ _) _ _); first | exact LSt.new (by walk_at "lst") (by assumption) | exact LSt.put (by walk_at "lst") (by walk_at "ne") (by walk_at "ne")) | exact LSt.same' (by assumption) (by walk_at "lst"))
local macro_rules | `(tactic| walk_at "but") => `(tactic| first | assumption | exact But.refl _ _ _ | ((with_reducible show But _ _ _ (upd _ _ _)); exact But.nw (by assumption) (by walk_at "but")) | exact But.bu (by assumption) (by walk_at "but") | exact But.sm (by assumption) (by walk_at "but"))
local macro_rules | `(tactic| walk_at "ls") => `(tactic| first | assumption | exact Ls.same (by walk_at "ls") (Same.upd' (by assumption)))
local macro_rules | `(tactic| walk_at "ll") => `(tactic| first | assumption | exact LL.same (by walk_at "ll") (Same.upd' (by assumption)) | exact LL.same' (by assumption) (by walk_at "ll") | exact LL.but' (by assumption) (by walk_at "lst") (by walk_at "ll"))
local macro_rules | `(tactic| walk_at "sm") => `(tactic| first | assumption | exact Same.refl _ | ((with_reducible show Same _ (upd _ _ _)); first | exact Same.put' (by assumption) (by walk_at "sm") | exact Same.trans (by walk_at "sm") (Same.upd' (by assumption))) | exact Same.trans (by walk_at "sm") (by assumption))
/-- one step of a reading -/
local macro_rules | `(tactic| walk_at "rd") => `(tactic| first
  | with_reducible refine iteF ?_
  | with_reducible refine iteT ?_
  | with_reducible refine itNotF ?_
  | with_reducible refine itNotT ?_
  | refine ⟨_, rfl, ?_⟩
  | refine ⟨_, _, rfl, rfl, ?_⟩
  | refine ⟨_, _, rfl, ?_⟩
  | refine ⟨(_ : Addr), (_ : List V), (_ : Int), (_ : V), rfl, rfl, SqL.of' (by walk_at "hf"), (by first | assumption | rfl), ?_⟩
  | refine ⟨(_ : Addr), (_ : List V), (_ : Int), (_ : V), rfl, rfl, (by walk_at "sqt" : SqT _ _ _ _), (by first | assumption | rfl), ?_⟩
  | refine .inl ⟨_, rfl, ?_⟩
  | refine ⟨_, _, rfl, .inl (by walk_at "sql" : SqL _ _ _ _), ?_⟩
  | refine ⟨_, _, rfl, .inl ⟨(by walk_at "sql" : SqL _ _ _ _), fun p hp => ?_⟩⟩
  | refine ⟨_, _, rfl, .inr ⟨(by walk_at "sqt" : SqT _ _ _ _), ?_⟩⟩
  | refine fun (p : Addr) (hp : (_ : Hp) p = none) => ?_
  | refine ⟨_, _, rfl, .inr (by walk_at "sqt" : SqT _ _ _ _), ?_⟩
  | refine And.intro (by show _ ≤ sizeLine; first | decide | walk_at "sz") (fun p hp => ?_)
  | refine ⟨(_ : Addr), (_ : Addr), (_ : List V), (_ : List V), rfl, rfl, (by walk_at "hf"), (by walk_at "hf"), (by walk_at "sz"), fun p hp => ?_⟩
  | refine ⟨(_ : Addr), (_ : Addr), (_ : List V), (_ : List V), rfl, rfl, (by walk_at "hf"), (by walk_at "hf"), (by walk_at "sz"), ?_⟩
  | refine ⟨(_ : Addr), (_ : List V), (_ : Int), (_ : Nat), rfl, rfl, (by walk_at "hf"), (by rfl), ?_⟩
  | refine And.intro ⟨_, (by walk_at "sql" : SqL _ _ _ _)⟩ ?_
  | refine And.intro ⟨_, (by walk_at "sqt" : SqT _ _ _ _)⟩ ?_
  | refine And.intro (.inl ⟨rfl, _, SqL.of' (by walk_at "hf")⟩) ?_
  | refine And.intro (by walk_at "cond") ?_
  | exact .inl ⟨rfl, _, SqL.of' (by walk_at "hf")⟩
  | with_reducible refine iteT ?_
  | with_reducible refine iteF ?_
  | refine And.intro (by rfl : scal _ _ = true) ?_
  | refine And.intro (by rfl : _ = V.non) ?_
  | refine And.intro (by rfl : wipe _ _ = wipe _ _) ?_
  | refine And.intro (by rfl : (_ : List V) = []) ?_
  | refine ⟨(_ : Addr), (_ : List V), rfl, (by walk_at "sqt" : SqT _ _ _ _), (by rfl), ?_⟩)
/-- a test: known, or both ways -/
local macro_rules | `(tactic| walk_at "if") => `(tactic| first
  | with_reducible refine itD (by omega) ?_
  | with_reducible refine itN (by omega) ?_
  | with_reducible refine itnD (by omega) ?_
  | with_reducible refine itnN (by omega) ?_
  | with_reducible refine itE (by omega) ?_
  | with_reducible refine itEn (by omega) ?_
  | with_reducible refine itnE (by omega) ?_
  | with_reducible refine itnEn (by omega) ?_
  | with_reducible refine itN (by intro z; cases z) ?_
  | with_reducible refine itD (by decide) ?_
  | with_reducible refine itN (by decide) ?_
  | with_reducible refine itnD (by decide) ?_
  | with_reducible refine itnN (by decide) ?_)
local macro_rules | `(tactic| walk_at "if2") => `(tactic| first
  | with_reducible refine itS (fun z => ?_) (fun z => ?_)
  | with_reducible refine itS' (fun z => ?_) (fun z => ?_)
  | with_reducible refine itSE (fun z => ?_) (fun z => ?_)
  | with_reducible refine itnS (fun z => ?_) (fun z => ?_)
  | with_reducible refine itnS' (fun z => ?_) (fun z => ?_)
  | with_reducible refine itnSE (fun z => ?_) (fun z => ?_))
local macro_rules | `(tactic| walk_at "go") => `(tactic| repeat' (first | walk_at "rd" | walk_at "if" | walk_at "if2" | fail))
local macro_rules | `(tactic| walk_at "sz") => `(tactic| (rw [sizeLine_eq]; simp only [List.length_append, List.length_map, List.length_cons, List.length_nil]; omega))
local macro_rules | `(tactic| walk_at "cond") => `(tactic| first | assumption | (show (_ : Int) ≠ 0; first | omega | (split <;> omega)) | (show (0 : Int) < _; first | assumption | decide) | exact ⟨by decide, by decide, by decide⟩ | exact .inr ⟨by decide, by decide⟩ | exact wide_div (b := 64) (by assumption) (by omega) (by decide) (by decide) | exact ⟨by decide, by decide⟩)


abbrev sITi : Stmt := L2.inClass (top 3) 0
abbrev sTi : Stmt := L2.inClass (top 8) 3
abbrev sPc : Stmt := L2.inClass (top 8) 4
abbrev sBr : Stmt := L2.inClass (top 8) 5
abbrev sLi : Stmt := L2.inClass (top 8) 6
abbrev sIsB : Stmt := L2.inClass (top 8) 8
def CRead' (K : PySem.W.Frag) (C : Addr) : Prop := ClX.CRead K C (.type "type")
def CVal' (K : PySem.W.Frag) (C : Addr) (f : Str) (v : V) (u : Value) : Prop := ClX.CVal K C (.type "type") f v u
/-- what the top has written of the program: BridgeError at CB, InvalidTown at CT with its __init__ at fT, Town at C -/
structure Prog (K : PySem.W.Frag) (mg : Str → Option Value) (CB CT fT C : Addr) (mB : Value) : Prop where
  gB : mg "BridgeError" = some (.ref CB)
  rdB : PySem.W.readsIn K CB mB = true
  sgB : PySem.W.specialIn K (.ref CB) "__getattribute__" = some (some (.builtin "type.__getattribute__"))
  inB : PySem.W.findCls K (.ref CB) mB "__init__" = some (.val (.builtin "ValueError.__init__"))
  gT : mg "InvalidTown" = some (.ref CT)
  ox : OexC K CT
  iT : PySem.W.findIn K (.ref CT) "__init__" = some (some (.ref fT))
  tT : PySem.W.typeIn K (.ref fT) = some (.type "function")
  nP : PySem.W.findIn K (.ref CT) "part" = some none
  nI : PySem.W.findIn K (.ref CT) "index" = some none
  mxl : ∃ u, mg "MAX_LENGTH" = some (.int 99 u)
  gC : mg "Town" = some (.ref C)
  cr : CRead' K C
  mlf : ∃ u, CVal' K C "MAX_LIFE" (.int 1000000000000000000) u
/-- the fields that InvalidTown(p, i) has -/
def itF (p : Str) (i : Int) : List (Str × V) := [("index", .int i), ("part", .str p)]
def spITi (K : PySem.W.Frag) (CT : Addr) : Sp := fun vs H Q _ => ∃ (a : Addr) (p : Str) (i : Int), vs = [.ref a, .str p, .int i] ∧ H a = some (exo a CT none) ∧ p.length ≤ 100 ∧ 0 ≤ i ∧ i ≤ 1000 ∧
  ∀ dx H', H dx = none → dx ≠ a → H' a = some (exo a CT (some dx)) → H' dx = some (exd dx (itF p i)) → (∀ b o, b ≠ a → H b = some o → H' b = some o) → Q .non H'
section
variable {P : Program} {w : World} {K : PySem.W.Frag} {mg : Str → Option Value} {base : Heap} {CB CT fT C : Addr} {mB : Value}
theorem scITi : FnScope ["self", "part", "index"] ["self", "part", "index"] (L2.defScope sITi) := ⟨rfl, rfl, rfl, by decide +kernel, rfl, by decide +kernel, by decide +kernel⟩
theorem ok_ITi {fd : FuncData} (F : L2.Fun K "__init__" "InvalidTown.__init__" sITi fT fd) (T : Prog K mg CB CT fT C mB) : FnOk P w K mg base L2.CX0 1 fT fd ["self", "part", "index"] (spITi K CT) := by
  refine F.ok scITi (fun vs H Q E h => ?_) (fun cdv A outer s H vs Q E hr h => ?_)
  · obtain ⟨a, p, i, rfl, _⟩ := h; rfl
  · obtain ⟨a, p, i, rfl, ha, pl, i0, i1, q⟩ := h
    refine ⟨_, pss_cons (ps_expr (pe_beinit (by rfl) T.gB T.rdB T.sgB T.inB (pa_cons (pv 0) (pa_cons (pe_joined (PJ.cons pe_str (PJ.cons (pe_fmt (pv 1)) (PJ.cons pe_str (PJ.cons (pe_fmt (pv 2)) PJ.nil))))) pa_nil))))
      (pss_cons (ps_ost (pv 0) (pv 1)) (pss_one (ps_ost (pv 0) (pv 2)))), ?_⟩
    have L0 : (Str.empty : Str).length = 0 := rfl
    have L1 : ("invalid town: " : Str).length = 14 := by decide +kernel
    have L2' : (", index " : Str).length = 8 := by decide +kernel
    have L3 : (Str.ofString (toString i)).length ≤ 4 := PyProof.Rows.toString_length_le i0 (by decide) (by omega)
    have lg : i.natAbs.log2 < 1920 := Nat.lt_of_lt_of_le (PySem.Flt.log2_lt_of (k := 10) (by decide) (by omega)) (by decide)
    walk_at "go"
    refine ⟨by rw [sizeLine_eq, Str.length_append, L0, L1]; omega, _, rfl, .inl ⟨p, rfl, by rw [sizeLine_eq]; omega, _, rfl, by rw [sizeLine_eq, Str.length_append, Str.length_append, L0, L1]; omega, _, rfl,
      by rw [sizeLine_eq, Str.length_append, Str.length_append, Str.length_append, L0, L1, L2']; omega, _, rfl, .inr ⟨i, rfl, lg, _, rfl, by rw [sizeLine_eq, Str.length_append, Str.length_append, Str.length_append, Str.length_append, L0, L1, L2']; omega, ?_⟩⟩⟩
    refine ⟨a, CT, _, rfl, by show 1 ≤ 1000; decide, T.ox, ha, ?_⟩
    refine ⟨_, rfl, _, rfl, a, CT, rfl, T.ox, T.nP, .inl ⟨ha, fun dx hdx nda => ?_⟩⟩
    refine ⟨_, rfl, _, rfl, a, CT, rfl, T.ox, T.nI, .inr ⟨dx, _, upd_same, up_set nda upd_same, by show 1 ≤ 900; decide, ?_⟩⟩
    exact q dx _ hdx nda (up_set (Ne.symm nda) upd_same) upd_same fun b o nb e => up_set (ne_of_none e hdx) (up_set nb (up_new e hdx))
def spIsB (K : PySem.W.Frag) : Sp := fun vs H Q _ => ∃ (a : Addr) (c : Int) (l : Lk), vs = [.int c, .ref a] ∧ SqT K H a (lv l) ∧ Q (.bl (isLink c l)) H
theorem scIsB : FnScope ["count", "bridge", "one", "other", "length", "life"] ["count", "bridge"] (L2.defScope sIsB) := ⟨rfl, rfl, rfl, by decide +kernel, rfl, by decide +kernel, by decide +kernel⟩
theorem ok_isB {fd : FuncData} {g : Addr} (F : L2.Fun K "is_bridge" "Town.is_bridge" sIsB g fd) (T0 : Prog K mg CB CT fT C mB) (T : BT mg) : FnOk P w K mg base L2.CX0 1 g fd ["count", "bridge"] (spIsB K) := by
  refine F.ok scIsB (fun vs H Q E h => ?_) (fun cdv A outer s H vs Q E hr h => ?_)
  · obtain ⟨a, c, l, rfl, _⟩ := h; rfl
  · obtain ⟨a, c, ⟨x, y, z, v⟩, rfl, ha, q⟩ := h
    obtain ⟨ul, hul⟩ := T0.mxl
    obtain ⟨uf, huf⟩ := T0.mlf
    refine ⟨_, (pss_cons (ps_if (pt_cmpR op_ne (pe_callB call_len_seq (by rfl) T.len PySem.boot_len (pa_cons (pv 1) pa_nil)) pe_int (nomark _)) (pss_one (ps_ret pe_bl)) pss_nil)
 (pss_cons (ps_asg (pv 1) (pg_tup rfl (pgs_cons (pg_name (i := 2) scIsB.nd rfl (Or.inl rfl)) (pgs_cons (pg_name (i := 3) scIsB.nd rfl (Or.inl rfl)) (pgs_cons (pg_name (i := 4) scIsB.nd rfl (Or.inl rfl)) (pgs_cons (pg_name (i := 5) scIsB.nd rfl (Or.inl rfl)) pgs_nil))))))
 (pss_cons (ps_if (PW.pt (pw_or (pt_not (pt_chain op_le op_lt pe_int (pv 2) (pv 0))) (pw_or (pt_not (pt_chain op_le op_lt pe_int (pv 3) (pv 0))) (pw_or1 (pt_cmpR op_eq (pv 2) (pv 3) (nomark _)))))) (pss_one (ps_ret pe_bl)) pss_nil)
 (pss_one (ps_ret (pe_and (pe_chain op_le op_le pe_int (pv 4) (pe_glob (v := .int 99) (by rfl) hul ⟨_, rfl⟩)) (pe_one (pe_chain op_le op_le pe_int (pv 5) (ClX.pe_cval (pe_gc (v := .ref C) (by rfl) ⟨_, T0.gC, rfl⟩)))))))))), ?_⟩
    have ha : SqT K H a [.int x, .int y, .int z, .int v] := ha
    walk_at "go"
    all_goals (first | (refine ⟨C, .type "type", .int 1000000000000000000, uf, rfl, T0.cr, huf, ?_⟩; walk_at "go") | skip)
    all_goals
      refine bl_as q ?_
      rw [Bool.eq_iff_iff]
      simp only [isLink, Bool.and_eq_true, Bool.or_eq_true, Bool.not_eq_true', Bool.or_eq_false_iff, decide_eq_true_eq, decide_eq_false_iff_not, Bool.false_eq_true, iff_false, reduceCtorEq]
      omega
/-! ### Town -/
def tF (c : Int) (t : Addr) : List (Str × V) := putF "_bridges" (.ref t) (putF "_count" (.int c) [])
theorem bc_ : ¬ (("_bridges" : Str) = "_count") := by decide +kernel
theorem tF_count (c : Int) (t : Addr) : (tF c t).lookup ("_count" : Str) = some (.int c) := by
  unfold tF
  rw [lookup_putF, if_neg (Ne.symm bc_), lookup_putF, if_pos rfl]
theorem tF_bridges (c : Int) (t : Addr) : (tF c t).lookup ("_bridges" : Str) = some (.ref t) := by
  unfold tF
  rw [lookup_putF, if_pos rfl]
structure PTown (K : PySem.W.Frag) (mg : Str → Option Value) (C pS gS : Addr) : Prop where
  cl : Cls K C
  nC : NoAttr K C "_count"
  nB : NoAttr K C "_bridges"
  mp : ∃ u, Con K C "MAX_PLACES" (.int 12) u
  mb : ∃ u, Con K C "MAX_BRIDGES" (.int 24) u
  st : SInst K C "is_bridge" pS gS
  kS : PySem.W.keepIn K (.ref gS) = true
def spTi (K : PySem.W.Frag) (C CT : Addr) : Sp := fun vs H Q E => ∃ (x dx t : Addr) (c : Int) (ls : List Lk), vs = [.ref x, .int c, .ref t] ∧ H x = some (.ins C dx []) ∧ Ls K H t ls ∧ ls.length ≤ 1000 ∧
  (∀ r, firstBad c ls = some r → ∀ d H', Same H H' → H d = none → H' d = some (.xd (itF r.1 r.2)) → E (.ref CT) (some d) H') ∧
  (firstBad c ls = none → ∀ H', (∀ b o, b ≠ x → H b = some o → H' b = some o) → H' x = some (.ins C dx (tF c t)) → Q .non H')
theorem SqT.ins {K : PySem.W.Frag} {H : Hp} {a x C dx : Addr} {fs gs : List (Str × V)} {xs : List V} (h : SqT K H a xs) (hx : H x = some (.ins C dx fs)) : SqT K (upd H x (.ins C dx gs)) a xs := by
  rcases h with (t | ⟨q, t⟩) | t
  · exact .inl (.inl (up_set (ne_of t hx (fun z => nomatch z)) t))
  · exact .inl (.inr ⟨q, up_set (ne_of t hx (fun z => nomatch z)) t⟩)
  · exact .inr t
theorem raise_it {H1 : Hp} {p : Str} {i : Int} {Wk : XK} (pl : p.length ≤ 100) (i0 : 0 ≤ i) (i1 : i ≤ 1000) (k : ∀ d H', Same H1 H' → H1 d = none → H' d = some (.xd (itF p i)) → Wk (.ref CT) (some d) H') :
    ([V.str p, V.int i] : List V).length ≤ 1000 ∧ ∀ a, H1 a = none → spITi K CT (.ref a :: ([.str p, .int i] ++ [])) (upd H1 a (exo a CT none))
      (fun v H2 => v = .non ∧ ∃ (d : Addr) (fs : List (Str × V)), H2 a = some (exo a CT (some d)) ∧ H2 d = some (exd d fs) ∧ H1 d = none ∧ Wk (.ref CT) (some d) (upd (L2.del H2 a) d (.xd fs))) (fun _ _ _ => False) := by
  refine ⟨by show 2 ≤ 1000; decide, fun a ha => ⟨a, p, i, rfl, upd_same, pl, i0, i1, fun dx H' hdx nda e1 e2 old => ?_⟩⟩
  rw [upd_ne nda] at hdx
  refine ⟨rfl, dx, itF p i, e1, e2, hdx, k dx _ (fun b o e => ?_) hdx upd_same⟩
  have nba : b ≠ a := ne_of_none e ha
  rw [upd_ne (ne_of_none e hdx), L2.del_ne nba]
  exact old b o nba (up_set nba e)
theorem scTi : FnScope ["self", "count", "bridges", "index", "bridge"] ["self", "count", "bridges"] (L2.defScope sTi) := ⟨rfl, rfl, rfl, by decide +kernel, rfl, by decide +kernel, by decide +kernel⟩
theorem ok_Ti {f pS gS : Addr} {fd fdS fdT : FuncData} (F : L2.Fun K "__init__" "Town.__init__" sTi f fd) (T0 : Prog K mg CB CT fT C mB) (TT : PTown K mg C pS gS) (T : BT mg)
    (FS : FnOk P w K mg base L2.CX0 1 gS fdS ["count", "bridge"] (spIsB K)) (bS : Binds K fdS ["count", "bridge"] [])
    (FT : FnOk P w K mg base L2.CX0 1 fT fdT ["self", "part", "index"] (spITi K CT)) (bT : Binds K fdT ["self", "part", "index"] []) :
    FnOk P w K mg base (L2.CX P w) 3 f fd ["self", "count", "bridges"] (spTi K C CT) := by
  refine F.okX scTi (fun vs H Q E h => ?_) (fun cdv A outer s H vs Q E hr h => ?_)
  · obtain ⟨x, dx, t, c, ls, rfl, _⟩ := h; rfl
  · obtain ⟨x, dx, t, c, ls, rfl, hx, ⟨vs, ht, ll⟩, hlen, kE, kQ⟩ := h
    have hr1 : Room 1 _ := hr.mono (by decide : 1 ≤ 2)
    refine ⟨_, (pss_cons (ps_if (pt_not (pt_chain op_le op_le pe_int (pv 1) (pe_con (pv 0) rfl))) (pss_one (ps_raise rfl (takes_of rfl rfl rfl rfl) (pmk_oex T0.ox T0.iT T0.tT FT hr bT .nil L2.pass0 (by rfl) T0.gT (pa_cons pe_str (pa_cons pe_int pa_nil))))) pss_nil)
 (pss_cons (ps_for (passes_of rfl) rfl (pi_enumT (by rfl) T.enumerate (pa_cons (pv 2) pa_nil)) (pg_tup rfl (pgs_cons (pg_name (i := 3) scTi.nd rfl (Or.inl rfl)) (pgs_cons (pg_name (i := 4) scTi.nd rfl (Or.inl rfl)) pgs_nil))) (pss_one (ps_if (PW.pt (pw_or (pt_cmpR op_eq (pv 3) (pe_con (pv 0) rfl) (nomark _)) (pw_or1 (pt_not (pt_val (pe_plain (pv 0) (hands_inst TT.st) TT.kS FS hr1 bS L2.pass0 (pa_cons (pv 1) (pa_cons (pv 4) pa_nil)))))))) (pss_one (ps_raise rfl (takes_of rfl rfl rfl rfl) (pmk_oex T0.ox T0.iT T0.tT FT hr bT .nil L2.pass0 (by rfl) T0.gT (pa_cons pe_str (pa_cons (pv 3) pa_nil))))) pss_nil)))
 (pss_cons (ps_fld (pv 0) (pv 1) rfl)
 (pss_one (ps_fld (pv 0) (pe_callTy call_tuple_of (by rfl) T.tuple (by decide +kernel) (pa_cons (pv 2) pa_nil)) rfl))))), ?_⟩
    obtain ⟨u12, hmp⟩ := TT.mp
    obtain ⟨u24, hmb⟩ := TT.mb
    have hv := ll.1
    have out0 : ¬ (1 ≤ c ∧ c ≤ 12) → ∀ d H', Same H H' → H d = none → H' d = some (.xd (itF "count" 0)) → E (.ref CT) (some d) H' := fun hc d H' sm hd e => by
      refine kE ("count", 0) ?_ d H' sm hd e
      unfold firstBad
      rw [if_neg hc]
    walk_at "go"
    · refine ⟨x, C, dx, [], .int 12, u12, rfl, hx, TT.cl, hmp, rfl, ?_⟩
      walk_at "go"
      · exact raise_it (by decide +kernel) (by decide) (by decide) (out0 (by omega))
      · have hc : 1 ≤ c ∧ c ≤ 12 := by omega
        refine ⟨t, vs, rfl, ht, for_enumT (fun i σ H' => Same H H' ∧ (∃ v3 v4, σ = [some (.ref x), some (.int c), some (.ref t), v3, v4]) ∧ ∀ j l, j < i → ls[j]? = some l → badAt c l j = false)
          ⟨Same.refl H, ⟨none, none, rfl⟩, fun j l hj _ => absurd hj (Nat.not_lt_zero _)⟩ (fun i σ H' ⟨sm, _⟩ => Same.tup sm ht) ?_ ?_⟩
        · rintro i y T9 σ H' hy hT9 ⟨sm, ⟨v3, v4, rfl⟩, hb⟩
          have hi' : i < ls.length := by have := (List.getElem?_eq_some_iff.mp hy).1; omega
          obtain ⟨l, hl⟩ : ∃ l, ls[i]? = some l := ⟨_, List.getElem?_eq_getElem hi'⟩
          obtain ⟨a, ha, hta⟩ := ll.2 i l hl
          rw [hy] at ha
          cases ha
          have hx' : upd H' T9 (.tup [.int (i : Nat), .ref a]) x = some (.ins C dx []) := up_new (sm _ _ hx) hT9
          have hta' : SqT K (upd H' T9 (.tup [.int (i : Nat), .ref a])) a (lv l) := SqT.new (Same.tup sm hta) hT9
          have sm' : Same H (upd H' T9 (.tup [.int (i : Nat), .ref a])) := sm.trans (Same.upd' hT9)
          have out : badAt c l i = true → ∀ d H2, Same (upd H' T9 (.tup [.int (i : Nat), .ref a])) H2 → upd H' T9 (.tup [.int (i : Nat), .ref a]) d = none → H2 d = some (.xd (itF "bridges" i)) → E (.ref CT) (some d) H2 := fun hbad d H2 sm2 hd e => by
            refine kE ("bridges", (i : Int)) ?_ d H2 (sm'.trans sm2) (sm'.free hd) e
            unfold firstBad
            rw [if_pos hc, firstFrom_some (k := 0) (i := i) (m := l) (fun j l' hj e => by rw [Nat.zero_add]; exact hb j l' hj e) hl (by rw [Nat.zero_add]; exact hbad), Nat.zero_add] <;> rfl
          walk_at "go"
          refine ⟨x, C, dx, [], .int 24, u24, rfl, hx', TT.cl, hmb, rfl, ?_⟩
          walk_at "go"
          · exact raise_it (by decide +kernel) (by omega) (by omega) (out (by unfold badAt; rw [decide_eq_true (show i = 24 by omega)]; rfl))
          · refine ⟨⟨x, dx, [], rfl, hx', rfl⟩, ?_⟩
            walk_at "go"
            refine ⟨a, c, l, rfl, hta', ?_⟩
            have i24 : decide (i = 24) = false := decide_eq_false (by omega)
            cases hk : isLink c l
            · walk_at "go"
              exact raise_it (by decide +kernel) (by omega) (by omega) (out (by unfold badAt; rw [hk, i24]; rfl))
            · walk_at "go"
              refine ⟨⟨_, _, rfl⟩, fun j l' hj e => ?_⟩
              by_cases hji : j = i
              · subst hji
                rw [hl] at e
                cases e
                unfold badAt
                rw [hk, i24]; rfl
              · exact hb j l' (by omega) e
        · rintro σ H' ⟨sm, ⟨v3, v4, rfl⟩, hb⟩
          have hx1 := sm _ _ hx
          have ht1 : SqT K (upd H' x (.ins C dx (putF "_count" (.int c) []))) t vs := SqT.ins (Same.tup sm ht) hx1
          refine ⟨_, rfl, _, rfl, x, C, dx, [], rfl, hx1, TT.cl, TT.nC, by decide, ?_⟩
          refine ⟨_, rfl, _, _, rfl, .inr ⟨ht1, _, rfl, x, C, dx, _, rfl, upd_same, TT.cl, TT.nB, by show 1 < 1000; decide, ?_⟩⟩
          refine kQ ?_ _ (fun b o nb e => up_set nb (up_set nb (sm _ _ e))) upd_same
          unfold firstBad
          rw [if_pos hc, firstFrom_none (fun j l e => by rw [Nat.zero_add]; exact hb j l (by have := (List.getElem?_eq_some_iff.mp e).1; omega) e)] <;> rfl
    · exact raise_it (by decide +kernel) (by decide) (by decide) (out0 (by omega))
end
end T1

set_option Elab.async false
set_option linter.all false
set_option maxRecDepth 100000
set_option maxHeartbeats 4000000
namespace T1
open PySem PySem.Spec PyProof.Rows L2 C8
local macro_rules | `(tactic| walk_at "hf") => `(tactic| (fail_if_success (show (fun _ => none : Hp) _ = _)); first | assumption | with_reducible exact upd_same | ((with_reducible show upd _ _ _ _ = _); first | exact up_new' (by assumption) (by walk_at "hf") | exact up_set (by walk_at "ne") (by walk_at "hf")) | exact Same.at' (by assumption) (by walk_at "hf") | exact But.at' (by assumption) (by walk_at "ne") (by walk_at "ne") (by walk_at "hf"))
local macro_rules | `(tactic| walk_at "hf0") => `(tactic| (fail_if_success (show (fun _ => none : Hp) _ = _)); first | assumption | with_reducible exact upd_same | ((with_reducible show upd _ _ _ _ = _); exact up_new' (by assumption) (by walk_at "hf0")))
local macro_rules | `(tactic| walk_at "ne") => `(tactic| first | assumption | (apply Ne.symm; assumption) | exact ne_of_none' (by assumption) (by walk_at "hf0") | exact Ne.symm (ne_of_none' (by assumption) (by walk_at "hf0")) | exact LSt.f1 (by assumption) (by walk_at "lst") | exact LSt.f2 (by assumption) (by walk_at "lst"))
local macro_rules | `(tactic| walk_at "sqt") => `(tactic| (fail_if_success (show SqT _ (fun _ => none) _ _)); first | assumption | exact SqT.of' (by walk_at "hf") | ((with_reducible show SqT _ (upd _ _ _) _ _); first | exact SqT.new' (by assumption) (by walk_at "sqt") | exact SqT.put' (by walk_at "hf") (by walk_at "sqt")) | exact Same.tup (by assumption) (by walk_at "sqt") | exact But.tup (by assumption) (by walk_at "lst") (by walk_at "sqt"))
local macro_rules | `(tactic| walk_at "sql") => `(tactic| (fail_if_success (show SqL _ (fun _ => none) _ _)); first | assumption | exact SqL.of' (by walk_at "hf") | ((with_reducible show SqL _ (upd _ _ _) _ _); exact SqL.new' (by assumption) (by walk_at "sql")) | exact Same.sql' (by assumption) (by walk_at "sql"))
local macro_rules | `(tactic| walk_at "lst") => `(tactic| (fail_if_success (show LSt (fun _ => none) _ _)); first | assumption | ((with_reducible show LSt (upd _ _ _) _ _); first | exact LSt.new (by walk_at "lst") (by assumption) | exact LSt.put (by walk_at "lst") (by walk_at "ne") (by walk_at "ne")) | exact LSt.same' (by assumption) (by walk_at "lst"))
local macro_rules | `(tactic| walk_at "but") => `(tactic| first | assumption | exact But.refl _ _ _ | ((with_reducible show But _ _ _ (upd _ _ _)); exact But.nw (by assumption) (by walk_at "but")) | exact But.bu (by assumption) (by walk_at "but") | exact But.sm (by assumption) (by walk_at "but"))
local macro_rules | `(tactic| walk_at "ls") => `(tactic| first | assumption | exact Ls.same (by walk_at "ls") (Same.upd' (by assumption)))
local macro_rules | `(tactic| walk_at "ll") => `(tactic| first | assumption | exact LL.same (by walk_at "ll") (Same.upd' (by assumption)) | exact LL.same' (by assumption) (by walk_at "ll") | exact LL.but' (by assumption) (by walk_at "lst") (by walk_at "ll"))
local macro_rules | `(tactic| walk_at "sm") => `(tactic| first | assumption | exact Same.refl _ | ((with_reducible show Same _ (upd _ _ _)); first | exact Same.put' (by assumption) (by walk_at "sm") | exact Same.trans (by walk_at "sm") (Same.upd' (by assumption))) | exact Same.trans (by walk_at "sm") (by assumption))
/-- one step of a reading -/
local macro_rules | `(tactic| walk_at "rd") => `(tactic| first
  | with_reducible refine iteF ?_
  | with_reducible refine iteT ?_
  | with_reducible refine itNotF ?_
  | with_reducible refine itNotT ?_
  | refine ⟨_, rfl, ?_⟩
  | refine ⟨_, _, rfl, rfl, ?_⟩
  | refine ⟨_, _, rfl, ?_⟩
  | refine ⟨(_ : Addr), (_ : List V), (_ : Int), (_ : V), rfl, rfl, SqL.of' (by walk_at "hf"), (by first | assumption | rfl), ?_⟩
  | refine ⟨(_ : Addr), (_ : List V), (_ : Int), (_ : V), rfl, rfl, (by walk_at "sqt" : SqT _ _ _ _), (by first | assumption | rfl), ?_⟩
  | refine .inl ⟨_, rfl, ?_⟩
  | refine ⟨_, _, rfl, .inl (by walk_at "sql" : SqL _ _ _ _), ?_⟩
  | refine ⟨_, _, rfl, .inl ⟨(by walk_at "sql" : SqL _ _ _ _), fun p hp => ?_⟩⟩
  | refine ⟨_, _, rfl, .inr ⟨(by walk_at "sqt" : SqT _ _ _ _), ?_⟩⟩
  | refine fun (p : Addr) (hp : (_ : Hp) p = none) => ?_
  | refine ⟨_, _, rfl, .inr (by walk_at "sqt" : SqT _ _ _ _), ?_⟩
  | refine And.intro (by show _ ≤ sizeLine; first | decide | walk_at "sz") (fun p hp => ?_)
  | refine ⟨(_ : Addr), (_ : Addr), (_ : List V), (_ : List V), rfl, rfl, (by walk_at "hf"), (by walk_at "hf"), (by walk_at "sz"), fun p hp => ?_⟩
  | refine ⟨(_ : Addr), (_ : Addr), (_ : List V), (_ : List V), rfl, rfl, (by walk_at "hf"), (by walk_at "hf"), (by walk_at "sz"), ?_⟩
  | refine ⟨(_ : Addr), (_ : List V), (_ : Int), (_ : Nat), rfl, rfl, (by walk_at "hf"), (by rfl), ?_⟩
  | refine And.intro ⟨_, (by walk_at "sql" : SqL _ _ _ _)⟩ ?_
  | refine And.intro ⟨_, (by walk_at "sqt" : SqT _ _ _ _)⟩ ?_
  | refine And.intro (.inl ⟨rfl, _, SqL.of' (by walk_at "hf")⟩) ?_
  | refine And.intro (by walk_at "cond") ?_
  | exact .inl ⟨rfl, _, SqL.of' (by walk_at "hf")⟩
  | with_reducible refine iteT ?_
  | with_reducible refine iteF ?_
  | refine And.intro (by rfl : scal _ _ = true) ?_
  | refine And.intro (by rfl : _ = V.non) ?_
  | refine And.intro (by rfl : wipe _ _ = wipe _ _) ?_
  | refine And.intro (by rfl : (_ : List V) = []) ?_
  | refine ⟨(_ : Addr), (_ : List V), rfl, (by walk_at "sqt" : SqT _ _ _ _), (by rfl), ?_⟩)
/-- a test: known, or both ways -/
local macro_rules | `(tactic| walk_at "if") => `(tactic| first
  | with_reducible refine itD (by omega) ?_
  | with_reducible refine itN (by omega) ?_
  | with_reducible refine itnD (by omega) ?_
  | with_reducible refine itnN (by omega) ?_
  | with_reducible refine itE (by omega) ?_
  | with_reducible refine itEn (by omega) ?_
  | with_reducible refine itnE (by omega) ?_
  | with_reducible refine itnEn (by omega) ?_
  | with_reducible refine itN (by intro z; cases z) ?_
  | with_reducible refine itD (by decide) ?_
  | with_reducible refine itN (by decide) ?_
  | with_reducible refine itnD (by decide) ?_
  | with_reducible refine itnN (by decide) ?_)
local macro_rules | `(tactic| walk_at "if2") => `(tactic| first
  | with_reducible refine itS (fun z => ?_) (fun z => ?_)
  | with_reducible refine itS' (fun z => ?_) (fun z => ?_)
  | with_reducible refine itSE (fun z => ?_) (fun z => ?_)
  | with_reducible refine itnS (fun z => ?_) (fun z => ?_)
  | with_reducible refine itnS' (fun z => ?_) (fun z => ?_)
  | with_reducible refine itnSE (fun z => ?_) (fun z => ?_))
local macro_rules | `(tactic| walk_at "go") => `(tactic| repeat' (first | walk_at "rd" | walk_at "if" | walk_at "if2" | fail))
local macro_rules | `(tactic| walk_at "sz") => `(tactic| (rw [sizeLine_eq]; simp only [List.length_append, List.length_map, List.length_cons, List.length_nil]; omega))
local macro_rules | `(tactic| walk_at "cond") => `(tactic| first | assumption | (show (_ : Int) ≠ 0; first | omega | (split <;> omega)) | (show (0 : Int) < _; first | assumption | decide) | exact ⟨by decide, by decide, by decide⟩ | exact .inr ⟨by decide, by decide⟩ | exact wide_div (b := 64) (by assumption) (by omega) (by decide) (by decide) | exact ⟨by decide, by decide⟩)


/-! ### the properties of a made town -/
def spGet (C : Addr) (f : Str) : Sp := fun vs H Q _ => ∃ (x dx : Addr) (fs : List (Str × V)) (v : V), vs = [.ref x] ∧ H x = some (.ins C dx fs) ∧ fs.lookup f = some v ∧ Q v H
def spLives (K : PySem.W.Frag) (C : Addr) : Sp := fun vs H Q _ => ∃ (x dx t : Addr) (c : Int) (ls : List Lk), vs = [.ref x] ∧ H x = some (.ins C dx (tF c t)) ∧ Ls K H t ls ∧ ls.length ≤ 1000 ∧
  ∀ p H', Same H H' → SqT K H' p (ls.map fun l => V.int l.2.2.2) → Q (.ref p) H'
section
variable {P : Program} {w : World} {K : PySem.W.Frag} {mg : Str → Option Value} {base : Heap} {C pS gS : Addr}
theorem scPc : FnScope ["self"] ["self"] (L2.defScope sPc) := ⟨rfl, rfl, rfl, by decide +kernel, rfl, by decide +kernel, by decide +kernel⟩
theorem ok_Pc {g : Addr} {fd : FuncData} (F : L2.Fun K "place_count" "Town.place_count" sPc g fd) (TT : PTown K mg C pS gS) : FnOk P w K mg base L2.CX0 1 g fd ["self"] (spGet C "_count") := by
  refine F.ok scPc (fun vs H Q E h => ?_) (fun cdv A outer s H vs Q E hr h => ?_)
  · obtain ⟨x, dx, fs, v, rfl, _⟩ := h; rfl
  · obtain ⟨x, dx, fs, v, rfl, hx, hv, q⟩ := h
    exact ⟨_, pss_one (ps_ret (pe_fld (pv 0) rfl)), _, rfl, x, C, dx, fs, v, rfl, hx, TT.cl, TT.nC, hv, q⟩
theorem scBr : FnScope ["self"] ["self"] (L2.defScope sBr) := ⟨rfl, rfl, rfl, by decide +kernel, rfl, by decide +kernel, by decide +kernel⟩
theorem ok_Br {g : Addr} {fd : FuncData} (F : L2.Fun K "bridges" "Town.bridges" sBr g fd) (TT : PTown K mg C pS gS) : FnOk P w K mg base L2.CX0 1 g fd ["self"] (spGet C "_bridges") := by
  refine F.ok scBr (fun vs H Q E h => ?_) (fun cdv A outer s H vs Q E hr h => ?_)
  · obtain ⟨x, dx, fs, v, rfl, _⟩ := h; rfl
  · obtain ⟨x, dx, fs, v, rfl, hx, hv, q⟩ := h
    exact ⟨_, pss_one (ps_ret (pe_fld (pv 0) rfl)), _, rfl, x, C, dx, fs, v, rfl, hx, TT.cl, TT.nB, hv, q⟩
end
end T1

set_option Elab.async false
set_option linter.all false
set_option maxRecDepth 100000
set_option maxHeartbeats 4000000
namespace Fm
open PySem PySem.Spec PyProof.Rows L2

/-- a value as a tree: tuples are values, what can change is a number -/
inductive Tr where
  | non | bl (b : Bool) | int (i : Int) | str (x : Str) | tup (ts : List Tr) | ref (n : Nat) | raw (v : V)
/-- what can change -/
inductive O where
  | lst (ts : List Tr)
  | ins (C : Addr) (fs : List (Str × Tr))
  | tab (P : Addr) (q : Str)
  /-- a drawing state: a list [script, k, m, r], with what the script holds -/
  | scr (ns : List Int) (k m r : Int)
  /-- a dict -/
  | dic (ps : List (L2.Key × Tr))
abbrev Mem := List O
abbrev Loc := List (Option Tr)

/-- what never changes -/
def Imm (o : HO) : Prop := (∃ a u, o = .frz a u) ∨ ∃ φ, o = .ext φ
theorem imm_code {c : Addr} {q : Str} : Imm (LamX.CodeO c q) := .inr ⟨_, rfl⟩
theorem Imm.ne {o : HO} (h : Imm o) : (∀ ys, o ≠ .lst ys) ∧ (∀ C dx gs, o ≠ .ins C dx gs) ∧ (∀ ps, o ≠ .dK ps) ∧ (∀ ps, o ≠ .tbl ps) ∧ ∀ a, o ≠ .own a := by
  rcases h with ⟨a, u, rfl⟩ | ⟨φ, rfl⟩ <;> exact ⟨fun _ z => (nomatch z), fun _ _ _ z => (nomatch z), fun _ z => (nomatch z), fun _ z => (nomatch z), fun _ z => (nomatch z)⟩
/-- a list that is only read -/
def Fz (K : PySem.W.Frag) (H : Hp) (a : Addr) (xs : List V) : Prop := (∃ o, H a = some (.frz o (.lst xs))) ∨
  ∃ (o : Obj) (its : Array Value) (n : Nat), K.lookup a = some o ∧ o.cls = .type "list" ∧ o.dict = none ∧ o.data = .seq its n ∧ its.size ≤ sizeLine ∧ Vals xs its.toList
theorem Fz.sql {K : PySem.W.Frag} {H : Hp} {a : Addr} {xs : List V} (h : Fz K H a xs) : SqL K H a xs := h.imp .inr id
section
variable (K : PySem.W.Frag) (H : Hp) (ρ : List Addr)
mutual
def RT : Tr → V → Prop
  | .non, v => v = .non
  | .bl b, v => v = .bl b
  | .int i, v => v = .int i
  | .str x, v => v = .str x
  | .raw w, v => v = w
  | .ref n, v => ∃ a, ρ[n]? = some a ∧ v = .ref a
  | .tup ts, v => ∃ a xs, v = .ref a ∧ SqT K H a xs ∧ RTs ts xs
def RTs : List Tr → List V → Prop
  | [], xs => xs = []
  | t :: ts, xs => ∃ x ys, xs = x :: ys ∧ RT t x ∧ RTs ts ys
end
def RFs : List (Str × Tr) → List (Str × V) → Prop
  | [], gs => gs = []
  | p :: fs, gs => ∃ x hs, gs = (p.1, x) :: hs ∧ RT K H ρ p.2 x ∧ RFs fs hs
def RKs : List (L2.Key × Tr) → List (L2.Key × V) → Prop
  | [], gs => gs = []
  | p :: fs, gs => ∃ x hs, gs = (p.1, x) :: hs ∧ RT K H ρ p.2 x ∧ RKs fs hs
def RO : O → Addr → Prop
  | .lst ts, a => ∃ xs, H a = some (.lst xs) ∧ RTs K H ρ ts xs
  | .ins C fs, a => ∃ dx gs, H a = some (.ins C dx gs) ∧ H dx = some (.own a) ∧ RFs K H ρ fs gs
  | .tab P q, a => a = P ∧ LamX.TabS H P q
  | .scr ns k m r, a => ∃ s, H a = some (.lst [.ref s, .int k, .int m, .int r]) ∧ Fz K H s (ns.map V.int)
  | .dic ps, a => ∃ kvs, H a = some (.dK kvs) ∧ RKs K H ρ ps kvs
structure RM (M : Mem) : Prop where
  len : ρ.length = M.length
  at_ : ∀ (n : Nat) (o : O), M[n]? = some o → ∃ a, ρ[n]? = some a ∧ RO K H ρ o a
  nd : ρ.Nodup
def RL1 : Option Tr → Option V → Prop
  | none, _ => True
  | some t, v => ∃ x, v = some x ∧ RT K H ρ t x
def RL : Loc → L2.St → Prop
  | [], σ => σ = []
  | t :: L, σ => ∃ v τ, σ = v :: τ ∧ RL1 K H ρ t v ∧ RL L τ
end
/-- the heap has grown: the tuples stay, and what no number names -/
structure Grow (K : PySem.W.Frag) (H : Hp) (ρ : List Addr) (H' : Hp) (ρ' : List Addr) : Prop where
  ext : ∃ t, ρ' = ρ ++ t
  tup : ∀ a xs, SqT K H a xs → SqT K H' a xs
  oth : ∀ a o, H a = some o → a ∉ ρ → (∀ ps, o ≠ .tbl ps) → H' a = some o
  new : ∀ a, a ∈ ρ' → a ∉ ρ → ∀ o, H a = some o → ∃ ps, o = .tbl ps
  cod : ∀ c o, Imm o → H c = some o → H' c = some o
/-- less: more numbers, the tuples stay -/
structure Gw (K : PySem.W.Frag) (H : Hp) (ρ : List Addr) (H' : Hp) (ρ' : List Addr) : Prop where
  ext : ∃ t, ρ' = ρ ++ t
  tup : ∀ a xs, SqT K H a xs → SqT K H' a xs
  cod : ∀ c o, Imm o → H c = some o → H' c = some o
section
variable {K : PySem.W.Frag} {H H' H2 : Hp} {ρ ρ' ρ2 : List Addr}
theorem Grow.gw (g : Grow K H ρ H' ρ') : Gw K H ρ H' ρ' := ⟨g.ext, g.tup, g.cod⟩
theorem Grow.refl : Grow K H ρ H ρ := ⟨⟨[], by simp⟩, fun _ _ h => h, fun _ _ h _ _ => h, fun _ h n => absurd h n, fun _ _ _ h => h⟩
theorem Grow.trans (a : Grow K H ρ H' ρ') (b : Grow K H' ρ' H2 ρ2) : Grow K H ρ H2 ρ2 := by
  obtain ⟨t, e⟩ := a.ext
  obtain ⟨u, f⟩ := b.ext
  have key : ∀ x o, H x = some o → x ∉ ρ → (∀ ps, o ≠ .tbl ps) → x ∉ ρ' := fun x o h n nt z => by
    obtain ⟨ps, e⟩ := a.new x z n o h
    exact nt ps e
  refine ⟨⟨t ++ u, by rw [f, e, List.append_assoc]⟩, fun x xs h => b.tup _ _ (a.tup _ _ h), fun x o h n nt => b.oth _ _ (a.oth _ _ h n nt) (key x o h n nt) nt, fun x h n o ho => ?_, fun c o i h => b.cod c o i (a.cod c o i h)⟩
  by_cases hx : x ∈ ρ'
  · exact a.new x hx n o ho
  · refine Classical.byContradiction fun nt => ?_
    have nt' : ∀ ps, o ≠ .tbl ps := fun ps e => nt ⟨ps, e⟩
    obtain ⟨ps, e⟩ := b.new x h hx o (a.oth x o ho n nt')
    exact nt' ps e
theorem ext_get (e : ∃ t, ρ' = ρ ++ t) {n : Nat} {a : Addr} (h : ρ[n]? = some a) : ρ'[n]? = some a := by
  obtain ⟨t, rfl⟩ := e
  rw [List.getElem?_append_left]
  · exact h
  · exact (List.getElem?_eq_some_iff.mp h).1
mutual
theorem RT.mono0 (g : Gw K H ρ H' ρ') : ∀ {t : Tr} {v : V}, RT K H ρ t v → RT K H' ρ' t v
  | .non, _, h => h
  | .bl _, _, h => h
  | .int _, _, h => h
  | .str _, _, h => h
  | .raw _, _, h => h
  | .ref n, _, h => by
    unfold RT at h ⊢
    obtain ⟨a, h1, h2⟩ := h
    exact ⟨a, ext_get g.ext h1, h2⟩
  | .tup ts, _, h => by
    unfold RT at h ⊢
    obtain ⟨a, xs, h1, h2, h3⟩ := h
    exact ⟨a, xs, h1, g.tup _ _ h2, RTs.mono0 g h3⟩
theorem RTs.mono0 (g : Gw K H ρ H' ρ') : ∀ {ts : List Tr} {vs : List V}, RTs K H ρ ts vs → RTs K H' ρ' ts vs
  | [], _, h => by
    unfold RTs at h ⊢
    exact h
  | t :: ts, _, h => by
    unfold RTs at h ⊢
    obtain ⟨x, ys, h1, h2, h3⟩ := h
    exact ⟨x, ys, h1, RT.mono0 g h2, RTs.mono0 g h3⟩
end
theorem RFs.mono0 (g : Gw K H ρ H' ρ') : ∀ {ts : List (Str × Tr)} {vs : List (Str × V)}, RFs K H ρ ts vs → RFs K H' ρ' ts vs
  | [], _, h => h
  | t :: ts, _, h => by
    obtain ⟨x, ys, h1, h2, h3⟩ := h
    exact ⟨x, ys, h1, RT.mono0 g h2, RFs.mono0 g h3⟩
theorem RKs.mono0 (g : Gw K H ρ H' ρ') : ∀ {ts : List (L2.Key × Tr)} {vs : List (L2.Key × V)}, RKs K H ρ ts vs → RKs K H' ρ' ts vs
  | [], _, h => h
  | t :: ts, _, h => by
    obtain ⟨x, ys, h1, h2, h3⟩ := h
    exact ⟨x, ys, h1, RT.mono0 g h2, RKs.mono0 g h3⟩
theorem Fz.mono0 (g : Gw K H ρ H' ρ') {a : Addr} {xs : List V} (h : Fz K H a xs) : Fz K H' a xs := h.imp (fun ⟨o, e⟩ => ⟨o, g.cod _ _ (.inl ⟨_, _, rfl⟩) e⟩) id
theorem RL.mono0 (g : Gw K H ρ H' ρ') : ∀ {L : Loc} {σ : L2.St}, RL K H ρ L σ → RL K H' ρ' L σ
  | [], _, h => h
  | none :: L, _, h => by
    obtain ⟨v, τ, h1, h2, h3⟩ := h
    exact ⟨v, τ, h1, trivial, RL.mono0 g h3⟩
  | some t :: L, _, h => by
    obtain ⟨v, τ, h1, ⟨x, h4, h5⟩, h3⟩ := h
    exact ⟨v, τ, h1, ⟨x, h4, RT.mono0 g h5⟩, RL.mono0 g h3⟩
theorem RT.mono (g : Grow K H ρ H' ρ') {t : Tr} {v : V} (h : RT K H ρ t v) : RT K H' ρ' t v := RT.mono0 g.gw h
theorem RTs.mono (g : Grow K H ρ H' ρ') {t : List Tr} {v : List V} (h : RTs K H ρ t v) : RTs K H' ρ' t v := RTs.mono0 g.gw h
theorem RFs.mono (g : Grow K H ρ H' ρ') {t : List (Str × Tr)} {v : List (Str × V)} (h : RFs K H ρ t v) : RFs K H' ρ' t v := RFs.mono0 g.gw h
theorem RL.mono (g : Grow K H ρ H' ρ') {L : Loc} {σ : L2.St} (h : RL K H ρ L σ) : RL K H' ρ' L σ := RL.mono0 g.gw h
theorem RL.get : ∀ {L : Loc} {σ : L2.St} {i : Nat} {t : Tr}, RL K H ρ L σ → L[i]? = some (some t) → ∃ x, σ[i]? = some (some x) ∧ RT K H ρ t x
  | [], _, _, _, _, e => by simp at e
  | u :: L, _, 0, t, h, e => by
    obtain ⟨v, τ, rfl, h2, h3⟩ := h
    have e' : u = some t := by simpa using e
    subst e'
    obtain ⟨x, rfl, h4⟩ := h2
    exact ⟨x, rfl, h4⟩
  | u :: L, _, i + 1, t, h, e => by
    obtain ⟨v, τ, rfl, h2, h3⟩ := h
    obtain ⟨x, h4, h5⟩ := RL.get (i := i) h3 (by simpa using e)
    exact ⟨x, by simpa using h4, h5⟩
theorem RL.set {t : Tr} {x : V} (r : RT K H ρ t x) : ∀ {L : Loc} {σ : L2.St} (i : Nat), RL K H ρ L σ → RL K H ρ (L.set i (some t)) (σ.set i (some x))
  | [], _, _, h => by
    have h : _ = ([] : L2.St) := h
    subst h
    exact rfl
  | u :: L, _, 0, h => by
    obtain ⟨v, τ, rfl, h2, h3⟩ := h
    exact ⟨_, _, rfl, ⟨x, rfl, r⟩, h3⟩
  | u :: L, _, i + 1, h => by
    obtain ⟨v, τ, rfl, h2, h3⟩ := h
    exact ⟨_, _, rfl, h2, RL.set r i h3⟩
theorem RTs.len : ∀ {ts : List Tr} {xs : List V}, RTs K H ρ ts xs → xs.length = ts.length
  | [], _, h => by
    unfold RTs at h
    rw [h] <;> rfl
  | t :: ts, _, h => by
    unfold RTs at h
    obtain ⟨x, ys, rfl, _, h3⟩ := h
    simp [RTs.len h3]
theorem RTs.get : ∀ {ts : List Tr} {xs : List V} {i : Nat} {t : Tr}, RTs K H ρ ts xs → ts[i]? = some t → ∃ x, xs[i]? = some x ∧ RT K H ρ t x
  | [], _, _, _, _, e => by simp at e
  | u :: ts, _, 0, t, h, e => by
    unfold RTs at h
    obtain ⟨x, ys, rfl, h2, h3⟩ := h
    have e' : u = t := by simpa using e
    subst e'
    exact ⟨x, rfl, h2⟩
  | u :: ts, _, i + 1, t, h, e => by
    unfold RTs at h
    obtain ⟨x, ys, rfl, h2, h3⟩ := h
    obtain ⟨y, h4, h5⟩ := RTs.get (i := i) h3 (by simpa using e)
    exact ⟨y, by simpa using h4, h5⟩
theorem RTs.nil : RTs K H ρ [] [] := by unfold RTs; rfl
theorem RTs.cons {t : Tr} {x : V} {ts : List Tr} {xs : List V} (a : RT K H ρ t x) (b : RTs K H ρ ts xs) : RTs K H ρ (t :: ts) (x :: xs) := by
  unfold RTs; exact ⟨x, xs, rfl, a, b⟩
theorem RTs.app : ∀ {ts us : List Tr} {xs ys : List V}, RTs K H ρ ts xs → RTs K H ρ us ys → RTs K H ρ (ts ++ us) (xs ++ ys)
  | [], _, _, _, h, k => by
    unfold RTs at h
    subst h
    exact k
  | t :: ts, _, _, _, h, k => by
    unfold RTs at h
    obtain ⟨x, zs, rfl, h2, h3⟩ := h
    exact RTs.cons h2 (RTs.app h3 k)
theorem RTs.set {t : Tr} {x : V} (r : RT K H ρ t x) : ∀ {ts : List Tr} {xs : List V} (i : Nat), RTs K H ρ ts xs → RTs K H ρ (ts.set i t) (xs.set i x)
  | [], _, _, h => by
    unfold RTs at h
    subst h
    exact RTs.nil
  | u :: L, _, 0, h => by
    unfold RTs at h
    obtain ⟨v, τ, rfl, h2, h3⟩ := h
    exact RTs.cons r h3
  | u :: L, _, i + 1, h => by
    unfold RTs at h
    obtain ⟨v, τ, rfl, h2, h3⟩ := h
    exact RTs.cons h2 (RTs.set r i h3)
theorem RTs.take : ∀ {ts : List Tr} {xs : List V} (n : Nat), RTs K H ρ ts xs → RTs K H ρ (ts.take n) (xs.take n)
  | _, _, 0, _ => RTs.nil
  | [], _, n + 1, h => by
    unfold RTs at h
    subst h
    exact RTs.nil
  | t :: ts, _, n + 1, h => by
    unfold RTs at h
    obtain ⟨x, zs, rfl, h2, h3⟩ := h
    exact RTs.cons h2 (RTs.take n h3)
theorem RTs.drop : ∀ {ts : List Tr} {xs : List V} (n : Nat), RTs K H ρ ts xs → RTs K H ρ (ts.drop n) (xs.drop n)
  | _, _, 0, h => h
  | [], _, n + 1, h => by
    unfold RTs at h
    subst h
    exact RTs.nil
  | t :: ts, _, n + 1, h => by
    unfold RTs at h
    obtain ⟨x, zs, rfl, h2, h3⟩ := h
    exact RTs.drop n h3
theorem RO.mono0 (g : Gw K H ρ H' ρ') {o : O} {a : Addr} (k : H' a = H a) (kd : ∀ d, H d = some (.own a) → H' d = some (.own a)) (h : RO K H ρ o a) : RO K H' ρ' o a := by
  cases o with
  | lst ts =>
    obtain ⟨xs, h1, h2⟩ := h
    exact ⟨xs, by rw [k]; exact h1, RTs.mono0 g h2⟩
  | ins C fs =>
    obtain ⟨dx, gs, h1, h3, h2⟩ := h
    exact ⟨dx, gs, by rw [k]; exact h1, kd _ h3, RFs.mono0 g h2⟩
  | tab P q =>
    obtain ⟨rfl, ps, h1, h2, h3⟩ := h
    refine ⟨rfl, ps, by rw [k]; exact h1, h2, fun pos cv hc => ?_⟩
    obtain ⟨c, e1, e2⟩ := h3 pos cv hc
    exact ⟨c, e1, g.cod c _ imm_code e2⟩
  | scr ns k' m r =>
    obtain ⟨s, h1, h2⟩ := h
    exact ⟨s, by rw [k]; exact h1, h2.mono0 g⟩
  | dic ps =>
    obtain ⟨kvs, h1, h2⟩ := h
    exact ⟨kvs, by rw [k]; exact h1, RKs.mono0 g h2⟩
theorem RO.mono (g : Grow K H ρ H' ρ') {o : O} {a : Addr} (k : H' a = H a) (kd : ∀ d, H d = some (.own a) → H' d = some (.own a)) (h : RO K H ρ o a) : RO K H' ρ' o a := RO.mono0 g.gw k kd h
theorem RM.obj {M : Mem} (r : RM K H ρ M) {n : Nat} {a : Addr} (h : ρ[n]? = some a) : ∃ o, M[n]? = some o ∧ RO K H ρ o a := by
  have hn : n < M.length := by rw [← r.len]; exact (List.getElem?_eq_some_iff.mp h).1
  obtain ⟨b, h1, h2⟩ := r.at_ n M[n] (List.getElem?_eq_getElem hn)
  rw [h] at h1
  cases h1
  exact ⟨_, List.getElem?_eq_getElem hn, h2⟩
theorem RM.trk {M : Mem} (r : RM K H ρ M) {a : Addr} (h : a ∈ ρ) : (∃ xs, H a = some (.lst xs)) ∨ (∃ C dx gs, H a = some (.ins C dx gs)) ∨ (∃ ps, H a = some (.tbl ps)) ∨ ∃ ps, H a = some (.dK ps) := by
  obtain ⟨n, hn⟩ := List.getElem?_of_mem h
  obtain ⟨o, _, h2⟩ := r.obj hn
  cases o with
  | lst ts =>
    obtain ⟨xs, h1, _⟩ := h2
    exact .inl ⟨xs, h1⟩
  | ins C fs =>
    obtain ⟨dx, gs, h1, _⟩ := h2
    exact .inr (.inl ⟨C, dx, gs, h1⟩)
  | tab P q =>
    obtain ⟨rfl, ps, h1, _⟩ := h2
    exact .inr (.inr (.inl ⟨ps, h1⟩))
  | scr ns k m r =>
    obtain ⟨s, h1, _⟩ := h2
    exact .inl ⟨_, h1⟩
  | dic ps =>
    obtain ⟨kvs, h1, _⟩ := h2
    exact .inr (.inr (.inr ⟨kvs, h1⟩))
theorem RM.fresh {M : Mem} (r : RM K H ρ M) {a : Addr} (h : H a = none) : a ∉ ρ := fun z => by
  rcases r.trk z with ⟨xs, e⟩ | ⟨C, dx, gs, e⟩ | ⟨ps, e⟩ | ⟨ps, e⟩ <;> rw [h] at e <;> cases e
/-- a tuple stays where no tuple is written -/
theorem sqt_upd {a b : Addr} {o : HO} {xs : List V} (h : SqT K H a xs) (n : H b = none ∨ (∃ ys, H b = some (.lst ys)) ∨ (∃ C dx gs, H b = some (.ins C dx gs)) ∨ ∃ ps, H b = some (.dK ps)) : SqT K (upd H b o) a xs := by
  have key : ∀ u, H a = some u → (∀ ys, u ≠ .lst ys) → (∀ C dx gs, u ≠ .ins C dx gs) → (∀ ps, u ≠ .dK ps) → upd H b o a = some u := fun u hu n1 n2 n3 => by
    refine (upd_ne fun e => ?_).trans hu
    subst e
    rcases n with n | ⟨ys, n⟩ | ⟨C, dx, gs, n⟩ | ⟨ps, n⟩ <;> rw [hu] at n
    · cases n
    · exact n1 _ (Option.some.inj n)
    · exact n2 _ _ _ (Option.some.inj n)
    · exact n3 _ (Option.some.inj n)
  rcases h with (h | ⟨q, h⟩) | h
  · exact .inl (.inl (key _ h (fun _ z => nomatch z) (fun _ _ _ z => nomatch z) (fun _ z => nomatch z)))
  · exact .inl (.inr ⟨q, key _ h (fun _ z => nomatch z) (fun _ _ _ z => nomatch z) (fun _ z => nomatch z)⟩)
  · exact .inr h
theorem cod_upd {b : Addr} {o : HO} (n : H b = none ∨ (∃ ys, H b = some (.lst ys)) ∨ (∃ C dx gs, H b = some (.ins C dx gs)) ∨ ∃ ps, H b = some (.dK ps)) (c : Addr) (u : HO) (i : Imm u) (h : H c = some u) : upd H b o c = some u := by
  refine (upd_ne fun e => ?_).trans h
  subst e
  obtain ⟨i1, i2, i3, _⟩ := i.ne
  rcases n with n | ⟨ys, n⟩ | ⟨C, dx, gs, n⟩ | ⟨ps, n⟩ <;> rw [h] at n
  · cases n
  · exact i1 _ (Option.some.inj n)
  · exact i2 _ _ _ (Option.some.inj n)
  · exact i3 _ (Option.some.inj n)
/-- a new thing that no number names -/
theorem Grow.laid {p : Addr} {o : HO} (hp : H p = none) : Grow K H ρ (upd H p o) ρ :=
  ⟨⟨[], by simp⟩, fun _ _ h => sqt_upd h (.inl hp), fun a u h _ _ => by rw [upd_ne (ne_of_none h hp)]; exact h, fun _ h n => absurd h n, fun c q i h => cod_upd (.inl hp) c q i h⟩
theorem RM.grown {M : Mem} (r : RM K H ρ M) (g : Grow K H ρ H' ρ) (k : ∀ a, a ∈ ρ → H' a = H a) (kd : ∀ d a, H d = some (.own a) → H' d = some (.own a)) : RM K H' ρ M :=
  ⟨r.len, fun n o h => let ⟨a, h1, h2⟩ := r.at_ n o h; ⟨a, h1, h2.mono g (k a (List.mem_of_getElem? h1)) fun d q => kd d a q⟩, r.nd⟩
theorem RM.laid {M : Mem} {p : Addr} {o : HO} (r : RM K H ρ M) (hp : H p = none) : RM K (upd H p o) ρ M :=
  r.grown (Grow.laid hp) (fun a ha => upd_ne fun e => r.fresh hp (e ▸ ha)) fun d a q => by rw [upd_ne (ne_of_none q hp)]; exact q
/-- a new list -/
theorem Grow.list {M : Mem} (r : RM K H ρ M) {p : Addr} {o : HO} (hp : H p = none) : Grow K H ρ (upd H p o) (ρ ++ [p]) :=
  ⟨⟨[p], rfl⟩, fun _ _ h => sqt_upd h (.inl hp), fun a u h _ _ => by rw [upd_ne (ne_of_none h hp)]; exact h, fun a h n o ho => by
    rcases List.mem_append.mp h with h | h
    · exact absurd h n
    · rw [List.mem_singleton.mp h, hp] at ho
      (cases ho), fun c q i h => cod_upd (.inl hp) c q i h⟩
theorem RM.list {M : Mem} (r : RM K H ρ M) {p : Addr} {ts : List Tr} {xs : List V} (hp : H p = none) (h : RTs K H ρ ts xs) : RM K (upd H p (.lst xs)) (ρ ++ [p]) (M ++ [.lst ts]) := by
  have g := Grow.list (o := .lst xs) r hp
  have lt := r.len
  refine ⟨by simp [lt], fun n o e => ?_, ?_⟩
  · by_cases hn : n < M.length
    · rw [List.getElem?_append_left hn] at e
      obtain ⟨a, h1, h2⟩ := r.at_ n o e
      refine ⟨a, by rw [List.getElem?_append_left (by rw [lt]; exact hn)]; exact h1, h2.mono g (upd_ne fun e => r.fresh hp (e ▸ List.mem_of_getElem? h1)) fun d q => by rw [upd_ne (ne_of_none q hp)]; exact q⟩
    · rw [List.getElem?_append_right (by omega)] at e
      match hz : n - M.length, e with
      | 0, e =>
        cases e
        exact ⟨p, by rw [List.getElem?_append_right (by omega), lt, hz]; rfl, xs, upd_same, RTs.mono g h⟩
      | k + 1, e => simp at e
  · rw [List.nodup_append]
    exact ⟨r.nd, by simp, fun a ha b hb => by rw [List.mem_singleton.mp hb]; exact fun e => r.fresh hp (e ▸ ha)⟩
theorem RM.ref {M : Mem} (r : RM K H ρ M) {p : Addr} : (ρ ++ [p])[M.length]? = some p := by rw [← r.len]; simp
/-- a list is written -/
theorem Grow.wr {M : Mem} (r : RM K H ρ M) {p : Addr} {xs ys : List V} (hp : H p = some (.lst xs)) (hm : p ∈ ρ) : Grow K H ρ (upd H p (.lst ys)) ρ :=
  ⟨⟨[], by simp⟩, fun _ _ h => sqt_upd h (.inr (.inl ⟨xs, hp⟩)), fun a u h n _ => by rw [upd_ne (show a ≠ p from fun e => n (by rw [e]; exact hm))]; exact h, fun _ h n => absurd h n, fun c q i h => cod_upd (.inr (.inl ⟨xs, hp⟩)) c q i h⟩
theorem nodup_ix {l : List Addr} (nd : l.Nodup) {i j : Nat} {a : Addr} (h1 : l[i]? = some a) (h2 : l[j]? = some a) : i = j := by
  obtain ⟨a1, b1⟩ := List.getElem?_eq_some_iff.mp h1
  obtain ⟨a2, b2⟩ := List.getElem?_eq_some_iff.mp h2
  have nd := List.pairwise_iff_getElem.mp nd
  rcases Nat.lt_trichotomy i j with h | h | h
  · exact absurd (b1.trans b2.symm) (nd i j a1 a2 h)
  · exact h
  · exact absurd (b2.trans b1.symm) (nd j i a2 a1 h)
theorem RM.wr {M : Mem} (r : RM K H ρ M) {p : Addr} {n : Nat} {xs ys : List V} {us : List Tr} (hp : H p = some (.lst xs)) (hn : ρ[n]? = some p) (h : RTs K H ρ us ys) : RM K (upd H p (.lst ys)) ρ (M.set n (.lst us)) := by
  have g := Grow.wr (ys := ys) r hp (List.mem_of_getElem? hn)
  refine ⟨by simp [r.len], fun m o e => ?_, r.nd⟩
  by_cases hm : n = m
  · subst hm
    have hl : n < M.length := by rw [← r.len]; exact (List.getElem?_eq_some_iff.mp hn).1
    rw [List.getElem?_set_self hl] at e
    cases e
    exact ⟨p, hn, ys, upd_same, RTs.mono g h⟩
  · rw [List.getElem?_set_ne hm] at e
    obtain ⟨a, h1, h2⟩ := r.at_ m o e
    exact ⟨a, h1, h2.mono g (upd_ne fun e => hm (nodup_ix r.nd hn (e ▸ h1))) fun d q => by rw [upd_ne (ne_of q hp (fun z => nomatch z))]; exact q⟩
/-- an object's attribute is written -/
theorem Grow.wi {M : Mem} (r : RM K H ρ M) {p C dx : Addr} {gs hs : List (Str × V)} (hp : H p = some (.ins C dx gs)) (hm : p ∈ ρ) : Grow K H ρ (upd H p (.ins C dx hs)) ρ :=
  ⟨⟨[], by simp⟩, fun _ _ h => sqt_upd h (.inr (.inr (.inl ⟨C, dx, gs, hp⟩))), fun a u h n _ => by rw [upd_ne (show a ≠ p from fun e => n (by rw [e]; exact hm))]; exact h, fun _ h n => absurd h n, fun c q i h => cod_upd (.inr (.inr (.inl ⟨C, dx, gs, hp⟩))) c q i h⟩
theorem RM.wi {M : Mem} (r : RM K H ρ M) {p C dx : Addr} {n : Nat} {gs hs : List (Str × V)} {us : List (Str × Tr)} (hp : H p = some (.ins C dx gs)) (hd : H dx = some (.own p)) (hn : ρ[n]? = some p) (h : RFs K H ρ us hs) : RM K (upd H p (.ins C dx hs)) ρ (M.set n (.ins C us)) := by
  have g := Grow.wi (hs := hs) r hp (List.mem_of_getElem? hn)
  refine ⟨by simp [r.len], fun m o e => ?_, r.nd⟩
  by_cases hm : n = m
  · subst hm
    have hl : n < M.length := by rw [← r.len]; exact (List.getElem?_eq_some_iff.mp hn).1
    rw [List.getElem?_set_self hl] at e
    cases e
    exact ⟨p, hn, dx, hs, upd_same, by rw [upd_ne (ne_of hd hp (fun z => nomatch z))]; exact hd, RFs.mono g h⟩
  · rw [List.getElem?_set_ne hm] at e
    obtain ⟨a, h1, h2⟩ := r.at_ m o e
    exact ⟨a, h1, h2.mono g (upd_ne fun e => hm (nodup_ix r.nd hn (e ▸ h1))) fun d q => by rw [upd_ne (ne_of q hp (fun z => nomatch z))]; exact q⟩
end
end Fm

set_option Elab.async false
set_option linter.all false
set_option maxRecDepth 100000
set_option maxHeartbeats 4000000
namespace Fm
open PySem PySem.Spec PyProof.Rows L2
abbrev PF := Tr → Mem → Prop
abbrev PFs := List Tr → Mem → Prop
abbrev PB := Bool → Mem → Prop
abbrev FE := Loc → Mem → PF → Prop
abbrev FA := Loc → Mem → PFs → Prop
abbrev FT := Loc → Mem → PB → Prop
abbrev F2 := Tr → Tr → Mem → PF → Prop
abbrev F1 := Tr → Mem → PF → Prop
abbrev FC := List Tr → Mem → PF → Prop
section
variable (K : PySem.W.Frag) (H : Hp) (ρ : List Addr)
/-- what is known behind: whatever stands for the tree's outcome is wanted -/
def Out (P : PF) (Q : VK) : Prop := ∀ v x H' ρ' M', Grow K H ρ H' ρ' → RM K H' ρ' M' → RT K H' ρ' v x → P v M' → Q x H'
def OutS (P : PFs) (Q : List V → Hp → Prop) : Prop := ∀ vs xs H' ρ' M', Grow K H ρ H' ρ' → RM K H' ρ' M' → RTs K H' ρ' vs xs → P vs M' → Q xs H'
def OutB (P : PB) (Q : Bool → Hp → Prop) : Prop := ∀ b H' ρ' M', Grow K H ρ H' ρ' → RM K H' ρ' M' → P b M' → Q b H'
def OutO (P : Option Int → Mem → Prop) (Q : Option Int → Hp → Prop) : Prop := ∀ b H' ρ' M', Grow K H ρ H' ρ' → RM K H' ρ' M' → P b M' → Q b H'
end
section
variable {K : PySem.W.Frag} {H H' : Hp} {ρ ρ' : List Addr}
theorem Out.step {P : PF} {Q : VK} (g : Grow K H ρ H' ρ') (o : Out K H ρ P Q) : Out K H' ρ' P Q := fun v x H2 ρ2 M2 g2 m r p => o v x H2 ρ2 M2 (g.trans g2) m r p
theorem OutS.step {P : PFs} {Q : List V → Hp → Prop} (g : Grow K H ρ H' ρ') (o : OutS K H ρ P Q) : OutS K H' ρ' P Q := fun v x H2 ρ2 M2 g2 m r p => o v x H2 ρ2 M2 (g.trans g2) m r p
theorem OutB.step {P : PB} {Q : Bool → Hp → Prop} (g : Grow K H ρ H' ρ') (o : OutB K H ρ P Q) : OutB K H' ρ' P Q := fun b H2 ρ2 M2 g2 m p => o b H2 ρ2 M2 (g.trans g2) m p
theorem OutO.step {P : Option Int → Mem → Prop} {Q : Option Int → Hp → Prop} (g : Grow K H ρ H' ρ') (o : OutO K H ρ P Q) : OutO K H' ρ' P Q := fun b H2 ρ2 M2 g2 m p => o b H2 ρ2 M2 (g.trans g2) m p
end
/-- where a def was entered: the heap, the numbers' addresses -/
abbrev Bs := Hp × List Addr
/-- the slots, and that all has grown since the entry -/
structure RX (K : PySem.W.Frag) (B : Bs) (H : Hp) (ρ : List Addr) (L : Loc) (σ : L2.St) : Prop where
  rl : RL K H ρ L σ
  gr : Grow K B.1 B.2 H ρ
theorem RX.mono {K : PySem.W.Frag} {B : Bs} {H H' : Hp} {ρ ρ' : List Addr} {L : Loc} {σ : L2.St} (x : RX K B H ρ L σ) (g : Grow K H ρ H' ρ') : RX K B H' ρ' L σ := ⟨x.rl.mono g, x.gr.trans g⟩
theorem RX.get {K : PySem.W.Frag} {B : Bs} {H : Hp} {ρ : List Addr} {L : Loc} {σ : L2.St} {i : Nat} {t : Tr} (x : RX K B H ρ L σ) (e : L[i]? = some (some t)) : ∃ v, σ[i]? = some (some v) ∧ RT K H ρ t v := x.rl.get e
structure SimE (K : PySem.W.Frag) (B : Bs) (te : TE) (fe : FE) : Prop where
  run : ∀ {σ H ρ L M P Q}, RX K B H ρ L σ → RM K H ρ M → fe L M P → Out K H ρ P Q → te σ H Q
structure SimA (K : PySem.W.Frag) (B : Bs) (ta : TA) (fa : FA) : Prop where
  run : ∀ {σ H ρ L M P Q}, RX K B H ρ L σ → RM K H ρ M → fa L M P → OutS K H ρ P Q → ta σ H Q
structure SimT (K : PySem.W.Frag) (B : Bs) (tt : TT) (ft : FT) : Prop where
  run : ∀ {σ H ρ L M P Q}, RX K B H ρ L σ → RM K H ρ M → ft L M P → OutB K H ρ P Q → tt σ H Q
structure SimO (K : PySem.W.Frag) (B : Bs) (tt : TO) (ft : Loc → Mem → (Option Int → Mem → Prop) → Prop) : Prop where
  run : ∀ {σ H ρ L M P Q}, RX K B H ρ L σ → RM K H ρ M → ft L M P → OutO K H ρ P Q → tt σ H Q
/-- by values -/
structure Sim2 (K : PySem.W.Frag) (r : R2) (fr : F2) : Prop where
  run : ∀ {H ρ M x y xv yv P Q}, RM K H ρ M → RT K H ρ x xv → RT K H ρ y yv → fr x y M P → Out K H ρ P Q → r xv yv H Q
structure Sim1 (K : PySem.W.Frag) (r : V → Hp → VK → Prop) (fr : F1) : Prop where
  run : ∀ {H ρ M x xv P Q}, RM K H ρ M → RT K H ρ x xv → fr x M P → Out K H ρ P Q → r xv H Q
structure SimC (K : PySem.W.Frag) (r : List V → Hp → VK → Prop) (fr : FC) : Prop where
  run : ∀ {H ρ M xs xvs P Q}, RM K H ρ M → RTs K H ρ xs xvs → fr xs M P → Out K H ρ P Q → r xvs H Q
structure SimM (K : PySem.W.Frag) (r : V → List V → Hp → VK → Prop) (fr : Tr → FC) : Prop where
  run : ∀ {H ρ M x xv xs xvs P Q}, RM K H ρ M → RT K H ρ x xv → RTs K H ρ xs xvs → fr x xs M P → Out K H ρ P Q → r xv xvs H Q
/-! ### expressions -/
def fVar (i : Nat) : FE := fun L M P => ∃ t, L[i]? = some (some t) ∧ P t M
def fC (t : Tr) : FE := fun _ M P => P t M
def fOp (fr : F2) (fa fb : FE) : FE := fun L M P => fa L M fun x M1 => fb L M1 fun y M2 => fr x y M2 P
def fUn (fr : F1) (fa : FE) : FE := fun L M P => fa L M fun x M1 => fr x M1 P
def fNil : FA := fun _ M P => P [] M
def fCons (fa : FE) (fr : FA) : FA := fun L M P => fa L M fun x M1 => fr L M1 fun xs M2 => P (x :: xs) M2
def fTup (fa : FA) : FE := fun L M P => fa L M fun xs M1 => xs.length ≤ sizeLine ∧ P (.tup xs) M1
def fLst (fa : FA) : FE := fun L M P => fa L M fun xs M1 => xs.length ≤ sizeLine ∧ P (.ref M1.length) (M1 ++ [.lst xs])
def fCB (fr : FC) (fa : FA) : FE := fun L M P => fa L M fun xs M1 => fr xs M1 P
def fIf (ft : FT) (fa fb : FE) : FE := fun L M P => ft L M fun c M1 => if c = true then fa L M1 P else fb L M1 P
def fTest (fe : FE) : FT := fun L M P => fe L M fun x M1 => ∃ k, x = .bl k ∧ P k M1
def fNot (ft : FT) : FT := fun L M P => ft L M fun c M1 => P (!c) M1
def fAnd (ft fu : FT) : FT := fun L M P => ft L M fun c M1 => if c = true then fu L M1 P else P false M1
def fOr (ft fu : FT) : FT := fun L M P => ft L M fun c M1 => if c = true then P true M1 else fu L M1 P
def fAndV (fa fb : FE) : FE := fun L M P => fa L M fun x M1 => ∃ c, x = .bl c ∧ if c = true then fb L M1 P else P (.bl false) M1
def fOrV (fa fb : FE) : FE := fun L M P => fa L M fun x M1 => ∃ c, x = .bl c ∧ if c = true then P (.bl true) M1 else fb L M1 P
def fNotV (fa : FE) : FE := fun L M P => fa L M fun x M1 => ∃ c, x = .bl c ∧ P (.bl (!c)) M1
def fChain (r r' : F2) (fa fb fc : FE) : FE := fun L M P => fa L M fun x M1 => fb L M1 fun y M2 => r x y M2 fun z M3 => ∃ k, z = .bl k ∧ (if k = true then fc L M3 fun w M4 => r' y w M4 P else P (.bl false) M3)
def fNoPart : Loc → Mem → (Option Int → Mem → Prop) → Prop := fun _ M P => P none M
def fPart (fe : FE) : Loc → Mem → (Option Int → Mem → Prop) → Prop := fun L M P => fe L M fun x M1 => ∃ i, x = .int i ∧ P (some i) M1
section
variable {K : PySem.W.Frag} {B : Bs} {te ta tb tc : TE} {fe fa fb fc : FE} {as : TA} {fs : FA} {t u : TT} {ft fu : FT} {r r' : R2} {fr fr' : F2}
theorem sim_var {i : Nat} : SimE K B (tVar i) (fVar i) := ⟨fun hl hm ⟨_, h, p⟩ o => let ⟨x, h1, h2⟩ := hl.get h; ⟨x, h1, o _ _ _ _ _ Grow.refl hm h2 p⟩⟩
theorem sim_raw {v : V} : SimE K B (tC v) (fC (.raw v)) := ⟨fun _ hm p o => o _ _ _ _ _ Grow.refl hm (by unfold RT; rfl) p⟩
theorem sim_int {i : Int} : SimE K B (tC (.int i)) (fC (.int i)) := ⟨fun _ hm p o => o _ _ _ _ _ Grow.refl hm (by unfold RT; rfl) p⟩
theorem sim_str {z : Str} : SimE K B (tC (.str z)) (fC (.str z)) := ⟨fun _ hm p o => o _ _ _ _ _ Grow.refl hm (by unfold RT; rfl) p⟩
theorem sim_bl {b : Bool} : SimE K B (tC (.bl b)) (fC (.bl b)) := ⟨fun _ hm p o => o _ _ _ _ _ Grow.refl hm (by unfold RT; rfl) p⟩
theorem sim_non : SimE K B (tC .non) (fC .non) := ⟨fun _ hm p o => o _ _ _ _ _ Grow.refl hm (by unfold RT; rfl) p⟩
theorem sim_op (s : Sim2 K r fr) (a : SimE K B ta fa) (b : SimE K B tb fb) : SimE K B (tOp r ta tb) (fOp fr fa fb) :=
  ⟨fun hl hm h o => a.run hl hm h fun x xv H1 ρ1 M1 g1 m1 rx h1 => b.run (hl.mono g1) m1 h1 fun y yv H2 ρ2 M2 g2 m2 ry h2 => s.run m2 (rx.mono g2) ry h2 (o.step (g1.trans g2))⟩
theorem sim_un {r : V → Hp → VK → Prop} {fr : F1} (s : Sim1 K r fr) (a : SimE K B ta fa) : SimE K B (tUn r ta) (fUn fr fa) :=
  ⟨fun hl hm h o => a.run hl hm h fun x xv H1 ρ1 M1 g1 m1 rx h1 => s.run m1 rx h1 (o.step g1)⟩
theorem sim_nil : SimA K B tNil fNil := ⟨fun _ hm p o => o _ _ _ _ _ Grow.refl hm RTs.nil p⟩
theorem sim_cons (a : SimE K B ta fa) (s : SimA K B as fs) : SimA K B (tCons ta as) (fCons fa fs) :=
  ⟨fun hl hm h o => a.run hl hm h fun x xv H1 ρ1 M1 g1 m1 rx h1 => s.run (hl.mono g1) m1 h1 fun y yv H2 ρ2 M2 g2 m2 ry h2 => o _ _ _ _ _ (g1.trans g2) m2 (RTs.cons (rx.mono g2) ry) h2⟩
theorem sim_tup (s : SimA K B as fs) : SimE K B (tTup as) (fTup fs) :=
  ⟨fun hl hm h o => s.run hl hm h fun ys yv H2 ρ2 M2 g2 m2 ry ⟨z, h2⟩ => ⟨by rw [ry.len]; exact z, fun p hp => o _ _ _ _ _ (g2.trans (Grow.laid hp)) (m2.laid hp) (by unfold RT; exact ⟨p, yv, rfl, .inl (.inl upd_same), ry.mono (Grow.laid hp)⟩) h2⟩⟩
theorem sim_lst (s : SimA K B as fs) : SimE K B (tLst as) (fLst fs) :=
  ⟨fun hl hm h o => s.run hl hm h fun ys yv H2 ρ2 M2 g2 m2 ry ⟨z, h2⟩ => ⟨by rw [ry.len]; exact z, fun p hp => o _ _ _ _ _ (g2.trans (Grow.list m2 hp)) (m2.list hp ry) (by unfold RT; exact ⟨p, m2.ref, rfl⟩) h2⟩⟩
theorem sim_CB {r : List V → Hp → VK → Prop} {fr : FC} (c : SimC K r fr) (s : SimA K B as fs) : SimE K B (tCB r as) (fCB fr fs) :=
  ⟨fun hl hm h o => s.run hl hm h fun ys yv H2 ρ2 M2 g2 m2 ry h2 => c.run m2 ry h2 (o.step g2)⟩
theorem sim_if (s : SimT K B t ft) (a : SimE K B ta fa) (b : SimE K B tb fb) : SimE K B (tIf t ta tb) (fIf ft fa fb) :=
  ⟨fun hl hm h o => s.run hl hm h fun c H1 ρ1 M1 g1 m1 h1 => by
    cases c with
    | true => rw [if_pos rfl] at h1 ⊢; exact a.run (hl.mono g1) m1 h1 (o.step g1)
    | false => rw [if_neg (by decide)] at h1 ⊢; exact b.run (hl.mono g1) m1 h1 (o.step g1)⟩
theorem RT.bl_inv {H : Hp} {ρ : List Addr} {k : Bool} {x : V} (h : RT K H ρ (.bl k) x) : x = .bl k := by unfold RT at h; exact h
theorem RT.int_inv {H : Hp} {ρ : List Addr} {k : Int} {x : V} (h : RT K H ρ (.int k) x) : x = .int k := by unfold RT at h; exact h
theorem RT.str_inv {H : Hp} {ρ : List Addr} {k : Str} {x : V} (h : RT K H ρ (.str k) x) : x = .str k := by unfold RT at h; exact h
theorem RT.non_inv {H : Hp} {ρ : List Addr} {x : V} (h : RT K H ρ .non x) : x = .non := by unfold RT at h; exact h
theorem RT.raw_inv {H : Hp} {ρ : List Addr} {w x : V} (h : RT K H ρ (.raw w) x) : x = w := by unfold RT at h; exact h
theorem RT.int_ {H : Hp} {ρ : List Addr} {k : Int} : RT K H ρ (.int k) (.int k) := by unfold RT; rfl
theorem RT.bl_ {H : Hp} {ρ : List Addr} {k : Bool} : RT K H ρ (.bl k) (.bl k) := by unfold RT; rfl
theorem RT.str_ {H : Hp} {ρ : List Addr} {k : Str} : RT K H ρ (.str k) (.str k) := by unfold RT; rfl
theorem RT.non_ {H : Hp} {ρ : List Addr} : RT K H ρ .non .non := by unfold RT; rfl
theorem RT.tup_inv {H : Hp} {ρ : List Addr} {ts : List Tr} {x : V} (h : RT K H ρ (.tup ts) x) : ∃ a xs, x = .ref a ∧ SqT K H a xs ∧ RTs K H ρ ts xs := by unfold RT at h; exact h
theorem RT.ref_inv {H : Hp} {ρ : List Addr} {n : Nat} {x : V} (h : RT K H ρ (.ref n) x) : ∃ a, ρ[n]? = some a ∧ x = .ref a := by unfold RT at h; exact h
theorem sim_test (a : SimE K B te fe) : SimT K B (tTest te) (fTest fe) := ⟨fun hl hm h o => a.run hl hm h fun x xv H1 ρ1 M1 g1 m1 rx ⟨k, e, h1⟩ => by subst e; exact ⟨k, rx.bl_inv, o _ _ _ _ g1 m1 h1⟩⟩
theorem sim_B (a : SimE K B te fe) : SimT K B (tB te) (fTest fe) := ⟨fun hl hm h o => a.run hl hm h fun x xv H1 ρ1 M1 g1 m1 rx ⟨k, e, h1⟩ => by subst e; exact ⟨k, rx.bl_inv, o _ _ _ _ g1 m1 h1⟩⟩
theorem sim_not (a : SimT K B t ft) : SimT K B (tNot t) (fNot ft) := ⟨fun hl hm h o => a.run hl hm h fun b H1 ρ1 M1 g1 m1 h1 => o _ _ _ _ g1 m1 h1⟩
theorem sim_and (a : SimT K B t ft) (b : SimT K B u fu) : SimT K B (tAnd t u) (fAnd ft fu) := ⟨fun hl hm h o => a.run hl hm h fun c H1 ρ1 M1 g1 m1 h1 => by
  cases c with
  | true => rw [if_pos rfl] at h1 ⊢; exact b.run (hl.mono g1) m1 h1 (o.step g1)
  | false => rw [if_neg (by decide)] at h1 ⊢; exact o _ _ _ _ g1 m1 h1⟩
theorem sim_or (a : SimT K B t ft) (b : SimT K B u fu) : SimT K B (tOr t u) (fOr ft fu) := ⟨fun hl hm h o => a.run hl hm h fun c H1 ρ1 M1 g1 m1 h1 => by
  cases c with
  | true => rw [if_pos rfl] at h1 ⊢; exact o _ _ _ _ g1 m1 h1
  | false => rw [if_neg (by decide)] at h1 ⊢; exact b.run (hl.mono g1) m1 h1 (o.step g1)⟩
theorem sim_andV (a : SimE K B ta fa) (b : SimE K B tb fb) : SimE K B (tAndV ta tb) (fAndV fa fb) := ⟨fun hl hm h o => a.run hl hm h fun x xv H1 ρ1 M1 g1 m1 rx ⟨c, e, h1⟩ => by
  subst e
  refine ⟨c, rx.bl_inv, ?_⟩
  cases c with
  | true => rw [if_pos rfl] at h1 ⊢; exact b.run (hl.mono g1) m1 h1 (o.step g1)
  | false => rw [if_neg (by decide)] at h1 ⊢; exact o _ _ _ _ _ g1 m1 RT.bl_ h1⟩
theorem sim_orV (a : SimE K B ta fa) (b : SimE K B tb fb) : SimE K B (tOrV ta tb) (fOrV fa fb) := ⟨fun hl hm h o => a.run hl hm h fun x xv H1 ρ1 M1 g1 m1 rx ⟨c, e, h1⟩ => by
  subst e
  refine ⟨c, rx.bl_inv, ?_⟩
  cases c with
  | true => rw [if_pos rfl] at h1 ⊢; exact o _ _ _ _ _ g1 m1 RT.bl_ h1
  | false => rw [if_neg (by decide)] at h1 ⊢; exact b.run (hl.mono g1) m1 h1 (o.step g1)⟩
theorem sim_notV (a : SimE K B ta fa) : SimE K B (tNotV ta) (fNotV fa) := ⟨fun hl hm h o => a.run hl hm h fun x xv H1 ρ1 M1 g1 m1 rx ⟨c, e, h1⟩ => by
  subst e
  exact ⟨c, rx.bl_inv, o _ _ _ _ _ g1 m1 RT.bl_ h1⟩⟩
theorem sim_chain (s : Sim2 K r fr) (s' : Sim2 K r' fr') (a : SimE K B ta fa) (b : SimE K B tb fb) (c : SimE K B tc fc) : SimE K B (tChain r r' ta tb tc) (fChain fr fr' fa fb fc) :=
  ⟨fun hl hm h o => a.run hl hm h fun x xv H1 ρ1 M1 g1 m1 rx h1 => b.run (hl.mono g1) m1 h1 fun y yv H2 ρ2 M2 g2 m2 ry h2 => s.run m2 (rx.mono g2) ry h2 fun z zv H3 ρ3 M3 g3 m3 rz ⟨k, e, h3⟩ => by
    subst e
    refine ⟨k, rz.bl_inv, ?_⟩
    have g := (g1.trans g2).trans g3
    cases k with
    | true => rw [if_pos rfl] at h3 ⊢; exact c.run (hl.mono g) m3 h3 fun w wv H4 ρ4 M4 g4 m4 rw_ h4 => s'.run m4 (ry.mono (g3.trans g4)) rw_ h4 (o.step (g.trans g4))
    | false => rw [if_neg (by decide)] at h3 ⊢; exact o _ _ _ _ _ g m3 RT.bl_ h3⟩
theorem sim_nopart : SimO K B tNoPart fNoPart := ⟨fun _ hm p o => o _ _ _ _ Grow.refl hm p⟩
theorem sim_part (a : SimE K B te fe) : SimO K B (tPart te) (fPart fe) := ⟨fun hl hm h o => a.run hl hm h fun x xv H1 ρ1 M1 g1 m1 rx ⟨i, e, h1⟩ => by subst e; exact ⟨i, rx.int_inv, o _ _ _ _ g1 m1 h1⟩⟩
end
/-! ### operators -/
def fI (C : Int → Int → Prop) (g : Int → Int → Tr) : F2 := fun x y M P => ∃ i j, x = .int i ∧ y = .int j ∧ C i j ∧ P (g i j) M
def fI0 (g : Int → Int → Tr) : F2 := fun x y M P => ∃ i j, x = .int i ∧ y = .int j ∧ P (g i j) M
def fU (g : Int → Tr) : F1 := fun x M P => ∃ i, x = .int i ∧ P (g i) M
/-- == of plain values -/
def eqS : Tr → Tr → Option Bool
  | .non, .non => some true | .non, .int _ => some false | .int _, .non => some false | .non, .bl _ => some false | .bl _, .non => some false | .non, .str _ => some false | .str _, .non => some false
  | .int i, .int j => some (decide (i = j)) | .bl a, .bl b => some (decide (a = b)) | .str a, .str b => some (decide (a = b))
  | .int _, .str _ => some false | .str _, .int _ => some false | .bl _, .str _ => some false | .str _, .bl _ => some false
  | _, _ => none
def fEq : F2 := fun x y M P => ∃ b, eqS x y = some b ∧ P (.bl b) M
def fNe : F2 := fun x y M P => ∃ b, eqS x y = some b ∧ P (.bl (!b)) M
def isN : Tr → Bool
  | .non => true
  | _ => false
def noRaw : Tr → Bool
  | .raw _ => false
  | _ => true
def fIsN : F2 := fun x y M P => y = .non ∧ noRaw x = true ∧ P (.bl (isN x)) M
def fNotN : F2 := fun x y M P => y = .non ∧ noRaw x = true ∧ P (.bl (!isN x)) M
/-- the list at a number, the tuple -/
def lstAt (M : Mem) : Tr → Option (List Tr)
  | .ref n => match M[n]? with
    | some (.lst ts) => some ts
    | _ => none
  | _ => none
def seqAt (M : Mem) : Tr → Option (List Tr)
  | .tup ts => some ts
  | t => lstAt M t
def tupOf : Tr → Option (List Tr)
  | .tup ts => some ts
  | _ => none
def fIxL : F2 := fun x y M P => ∃ ts i v, lstAt M x = some ts ∧ y = .int i ∧ atI ts i = some v ∧ P v M
def fIxT : F2 := fun x y M P => ∃ ts i v, tupOf x = some ts ∧ y = .int i ∧ atI ts i = some v ∧ P v M
def fIxS : F2 := fun x y M P => ∃ z i c, x = .str z ∧ y = .int i ∧ z.length ≤ sizeLine ∧ atI z.cps.toList i = some c ∧ P (.str ⟨#[c]⟩) M
section
variable {K : PySem.W.Frag} {B : Bs} {H : Hp} {ρ : List Addr} {M : Mem}
theorem s_Ii {C : Int → Int → Prop} {g : Int → Int → Int} : Sim2 K (rI C fun i j => .int (g i j)) (fI C fun i j => .int (g i j)) :=
  ⟨fun hm rx ry ⟨i, j, e1, e2, c, p⟩ o => by subst e1; subst e2; exact ⟨i, j, rx.int_inv, ry.int_inv, c, o _ _ _ _ _ Grow.refl hm RT.int_ p⟩⟩
theorem s_I0i {g : Int → Int → Int} : Sim2 K (rI0 fun i j => .int (g i j)) (fI0 fun i j => .int (g i j)) :=
  ⟨fun hm rx ry ⟨i, j, e1, e2, p⟩ o => by subst e1; subst e2; exact ⟨i, j, rx.int_inv, ry.int_inv, o _ _ _ _ _ Grow.refl hm RT.int_ p⟩⟩
theorem s_I0b {g : Int → Int → Bool} : Sim2 K (rI0 fun i j => .bl (g i j)) (fI0 fun i j => .bl (g i j)) :=
  ⟨fun hm rx ry ⟨i, j, e1, e2, p⟩ o => by subst e1; subst e2; exact ⟨i, j, rx.int_inv, ry.int_inv, o _ _ _ _ _ Grow.refl hm RT.bl_ p⟩⟩
theorem s_Ui {g : Int → Int} : Sim1 K (rU fun i => .int (g i)) (fU fun i => .int (g i)) :=
  ⟨fun hm rx ⟨i, e1, p⟩ o => by subst e1; exact ⟨i, rx.int_inv, o _ _ _ _ _ Grow.refl hm RT.int_ p⟩⟩
theorem eqS_ok {x y : Tr} {xv yv : V} {b : Bool} (rx : RT K H ρ x xv) (ry : RT K H ρ y yv) (e : eqS x y = some b) : scal xv yv = true ∧ decide (xv = yv) = b := by
  unfold eqS at e
  split at e <;> (try (cases e; done)) <;> unfold RT at rx ry <;> subst rx <;> subst ry <;> (have e := Option.some.inj e; subst e; refine ⟨rfl, ?_⟩) <;> first
    | decide
    | exact decide_eq_false (fun z => nomatch z)
    | (rw [decide_eq_decide]; exact ⟨fun z => by injection z, fun z => by rw [z]⟩)
theorem s_eq : Sim2 K rEq fEq := ⟨fun hm rx ry ⟨b, e, p⟩ o => by
  obtain ⟨h1, h2⟩ := eqS_ok rx ry e
  exact ⟨h1, by rw [h2]; exact o _ _ _ _ _ Grow.refl hm RT.bl_ p⟩⟩
theorem s_ne : Sim2 K rNe fNe := ⟨fun hm rx ry ⟨b, e, p⟩ o => by
  obtain ⟨h1, h2⟩ := eqS_ok rx ry e
  exact ⟨h1, by rw [h2]; exact o _ _ _ _ _ Grow.refl hm RT.bl_ p⟩⟩
theorem isN_ok {x : Tr} {xv : V} (rx : RT K H ρ x xv) (n : noRaw x = true) : decide (xv = .non) = isN x := by
  cases x with
  | non => unfold RT at rx; rw [rx]; rfl
  | bl b => unfold RT at rx; rw [rx]; exact decide_eq_false (fun z => nomatch z)
  | int b => unfold RT at rx; rw [rx]; exact decide_eq_false (fun z => nomatch z)
  | str b => unfold RT at rx; rw [rx]; exact decide_eq_false (fun z => nomatch z)
  | tup ts => obtain ⟨a, xs, e, _⟩ := rx.tup_inv; rw [e]; exact decide_eq_false (fun z => nomatch z)
  | ref k => obtain ⟨a, _, e⟩ := rx.ref_inv; rw [e]; exact decide_eq_false (fun z => nomatch z)
  | raw v => cases n
theorem s_isN : Sim2 K (fun x y H Q => y = V.non ∧ Q (V.bl (decide (x = V.non))) H) fIsN := ⟨fun hm rx ry ⟨e, n, p⟩ o => by
  subst e
  exact ⟨ry.non_inv, by rw [isN_ok rx n]; exact o _ _ _ _ _ Grow.refl hm RT.bl_ p⟩⟩
theorem s_notN : Sim2 K (fun x y H Q => y = V.non ∧ Q (V.bl (!decide (x = V.non))) H) fNotN := ⟨fun hm rx ry ⟨e, n, p⟩ o => by
  subst e
  exact ⟨ry.non_inv, by rw [isN_ok rx n]; exact o _ _ _ _ _ Grow.refl hm RT.bl_ p⟩⟩
theorem lstAt_ok {x : Tr} {xv : V} {ts : List Tr} (hm : RM K H ρ M) (rx : RT K H ρ x xv) (e : lstAt M x = some ts) : ∃ n a xs, x = .ref n ∧ ρ[n]? = some a ∧ M[n]? = some (.lst ts) ∧ xv = .ref a ∧ H a = some (.lst xs) ∧ RTs K H ρ ts xs := by
  cases x with
  | ref n =>
    simp only [lstAt] at e
    split at e
    · rename_i us hu
      cases e
      obtain ⟨a, h1, xs, h2, h3⟩ := hm.at_ n _ hu
      obtain ⟨b, h4, h5⟩ := rx.ref_inv
      rw [h1] at h4
      cases h4
      exact ⟨n, a, xs, rfl, h1, hu, h5, h2, h3⟩
    · cases e
  | _ => cases e
theorem tupOf_ok {x : Tr} {xv : V} {ts : List Tr} (rx : RT K H ρ x xv) (e : tupOf x = some ts) : ∃ a xs, xv = .ref a ∧ SqT K H a xs ∧ RTs K H ρ ts xs := by
  cases x with
  | tup us => cases e; exact rx.tup_inv
  | _ => cases e
theorem seqAt_ok {x : Tr} {xv : V} {ts : List Tr} (hm : RM K H ρ M) (rx : RT K H ρ x xv) (e : seqAt M x = some ts) : ∃ a xs, xv = .ref a ∧ (SqL K H a xs ∨ SqT K H a xs) ∧ RTs K H ρ ts xs := by
  cases x with
  | tup us =>
    have e : some us = some ts := e
    cases e
    obtain ⟨a, xs, h1, h2, h3⟩ := rx.tup_inv
    exact ⟨a, xs, h1, .inr h2, h3⟩
  | _ =>
    obtain ⟨n, a, xs, _, _, _, h1, h2, h3⟩ := lstAt_ok (ts := ts) hm rx e
    exact ⟨a, xs, h1, .inl (.inl (.inl h2)), h3⟩
theorem RTs.atI {ts : List Tr} {xs : List V} {i : Int} {t : Tr} (r : RTs K H ρ ts xs) (e : L2.atI ts i = some t) : ∃ x, L2.atI xs i = some x ∧ RT K H ρ t x := by
  unfold L2.atI at e ⊢
  rw [r.len]
  cases h : ixN ts.length i with
  | none => rw [h] at e; cases e
  | some j =>
    rw [h] at e
    exact r.get e
theorem s_ixL : Sim2 K (rIxL K) fIxL := ⟨fun hm rx ry ⟨ts, i, v, e1, e2, e3, p⟩ o => by
  subst e2
  obtain ⟨n, a, xs, _, _, _, h1, h2, h3⟩ := lstAt_ok hm rx e1
  obtain ⟨x, h4, h5⟩ := h3.atI e3
  exact ⟨a, xs, i, x, h1, ry.int_inv, .inl (.inl h2), h4, o _ _ _ _ _ Grow.refl hm h5 p⟩⟩
theorem s_ixT : Sim2 K (rIxT K) fIxT := ⟨fun hm rx ry ⟨ts, i, v, e1, e2, e3, p⟩ o => by
  subst e2
  obtain ⟨a, xs, h1, h2, h3⟩ := tupOf_ok rx e1
  obtain ⟨x, h4, h5⟩ := h3.atI e3
  exact ⟨a, xs, i, x, h1, ry.int_inv, h2, h4, o _ _ _ _ _ Grow.refl hm h5 p⟩⟩
theorem s_ixS : Sim2 K rIxS fIxS := ⟨fun hm rx ry ⟨z, i, c, e1, e2, e3, e4, p⟩ o => by
  subst e1; subst e2
  exact ⟨z, i, c, rx.str_inv, ry.int_inv, e3, e4, o _ _ _ _ _ Grow.refl hm RT.str_ p⟩⟩
end
end Fm

set_option Elab.async false
set_option linter.all false
set_option maxRecDepth 100000
set_option maxHeartbeats 4000000
namespace Fm
open PySem PySem.Spec PyProof.Rows L2
/-! ### sequences -/
def cutT (xs : List Tr) (lo hi : Option Int) : List Tr := (xs.drop (HT.sIx xs.length 0 lo)).take (HT.sIx xs.length xs.length hi - HT.sIx xs.length 0 lo)
abbrev FSl := Tr → Option Int → Option Int → Mem → PF → Prop
def fCat : F2 := fun x y M P => ∃ xs ys, lstAt M x = some xs ∧ lstAt M y = some ys ∧ xs.length + ys.length ≤ sizeLine ∧ P (.ref M.length) (M ++ [.lst (xs ++ ys)])
def fCatA : F2 := fun x y M P => ∃ xs ys, tupOf x = some xs ∧ tupOf y = some ys ∧ xs.length + ys.length ≤ sizeLine ∧ P (.tup (xs ++ ys)) M
def fRep : F2 := fun x y M P => ∃ xs k, lstAt M x = some xs ∧ y = .int k ∧ -(2 ^ 63) ≤ k ∧ k < 2 ^ 63 ∧ xs.length * k.toNat ≤ sizeLine ∧ P (.ref M.length) (M ++ [.lst (List.replicate k.toNat xs).flatten])
def fRepT : F2 := fun x y M P => ∃ xs k, tupOf x = some xs ∧ y = .int k ∧ xs ≠ [] ∧ 2 ≤ k ∧ k ≤ 1000 ∧ xs.length ≤ 1000 ∧ P (.tup (List.replicate k.toNat xs).flatten) M
def fSlL : FSl := fun x lo hi M P => ∃ xs, lstAt M x = some xs ∧ P (.ref M.length) (M ++ [.lst (cutT xs lo hi)])
def fSlA : FSl := fun x lo hi M P => ∃ xs, tupOf x = some xs ∧ P (.tup (cutT xs lo hi)) M
def fSlS : FSl := fun x lo hi M P => ∃ z, x = .str z ∧ z.length ≤ sizeLine ∧ P (.str (cutS z lo hi)) M
def fSl (r : FSl) (fe : FE) (fl fh : Loc → Mem → (Option Int → Mem → Prop) → Prop) : FE := fun L M P => fe L M fun x M1 => fl L M1 fun lo M2 => fh L M2 fun hi M3 => r x lo hi M3 P
structure SimSl (K : PySem.W.Frag) (r : V → Option Int → Option Int → Hp → VK → Prop) (fr : FSl) : Prop where
  run : ∀ {H ρ M x xv lo hi P Q}, RM K H ρ M → RT K H ρ x xv → fr x lo hi M P → Out K H ρ P Q → r xv lo hi H Q
def fLen : FC := fun xs M P => ∃ x ts, xs = [x] ∧ seqAt M x = some ts ∧ P (.int ts.length) M
def fLenS : FC := fun xs M P => ∃ z, xs = [.str z] ∧ z.length ≤ sizeLine ∧ P (.int z.length) M
def fList : FC := fun xs M P => ∃ x ts, xs = [x] ∧ seqAt M x = some ts ∧ P (.ref M.length) (M ++ [.lst ts])
def fTuple : FC := fun xs M P => ∃ x ts, xs = [x] ∧ seqAt M x = some ts ∧ P (.tup ts) M
def fInt1 : FC := fun xs M P => (∃ i, xs = [.int i] ∧ P (.int i) M) ∨ ∃ k, xs = [.bl k] ∧ P (.int (if k then 1 else 0)) M
def fIntS : FC := fun xs M P => ∃ a n, xs = [.str a] ∧ PySem.intText? a = some n ∧ a.length ≤ 640 ∧ P (.int n) M
def fStrI : FC := fun xs M P => ∃ i : Int, xs = [.int i] ∧ i.natAbs.log2 < 1920 ∧ P (.str (toString i)) M
def fMax2 : FC := fun xs M P => ∃ i j, xs = [.int i, .int j] ∧ P (.int (if j > i then j else i)) M
def fMin2 : FC := fun xs M P => ∃ i j, xs = [.int i, .int j] ∧ P (.int (if j < i then j else i)) M
def refAt (M : Mem) : Tr → Option (Nat × List Tr)
  | .ref n => match M[n]? with
    | some (.lst ts) => some (n, ts)
    | _ => none
  | _ => none
def fAppend : Tr → FC := fun x xs M P => ∃ n ts y, refAt M x = some (n, ts) ∧ xs = [y] ∧ ts.length < sizeLine ∧ P .non (M.set n (.lst (ts ++ [y])))
def fExtend : Tr → FC := fun x xs M P => ∃ n ts y us, refAt M x = some (n, ts) ∧ xs = [y] ∧ lstAt M y = some us ∧ ts.length + us.length ≤ sizeLine ∧ P .non (M.set n (.lst (ts ++ us)))
def flatT : Tr → Bool
  | .non => true | .bl _ => true | .int _ => true | .str _ => true
  | _ => false
def eqvT : Tr → Tr → Bool
  | .non, .non => true
  | .bl a, .bl b => a == b
  | .bl a, .int b => (if a then 1 else 0) == b
  | .int a, .bl b => a == (if b then 1 else 0)
  | .int a, .int b => a == b
  | .str a, .str b => a == b
  | _, _ => false
def fIn (neg : Bool) : F2 := fun x y M P => ∃ ts, seqAt M y = some ts ∧ flatT x = true ∧ ts.all flatT = true ∧ P (.bl (if neg then !(ts.any fun y => eqvT y x) else ts.any fun y => eqvT y x)) M
section
variable {K : PySem.W.Frag} {B : Bs} {H : Hp} {ρ : List Addr} {M : Mem} {te : TE} {fe : FE} {tl th : TO} {fl fh : Loc → Mem → (Option Int → Mem → Prop) → Prop}
theorem refAt_ok {x : Tr} {xv : V} {n : Nat} {ts : List Tr} (hm : RM K H ρ M) (rx : RT K H ρ x xv) (e : refAt M x = some (n, ts)) : ∃ a xs, x = .ref n ∧ ρ[n]? = some a ∧ M[n]? = some (.lst ts) ∧ xv = .ref a ∧ H a = some (.lst xs) ∧ RTs K H ρ ts xs := by
  cases x with
  | ref m =>
    simp only [refAt] at e
    split at e
    · rename_i us hu
      cases e
      obtain ⟨a, h1, xs, h2, h3⟩ := hm.at_ n _ hu
      obtain ⟨b, h4, h5⟩ := rx.ref_inv
      rw [h1] at h4
      cases h4
      exact ⟨a, xs, rfl, h1, hu, h5, h2, h3⟩
    · cases e
  | _ => cases e
theorem RTs.one {t : Tr} {xs : List V} (h : RTs K H ρ [t] xs) : ∃ x, xs = [x] ∧ RT K H ρ t x := by
  unfold RTs at h
  obtain ⟨x, ys, rfl, h1, h2⟩ := h
  unfold RTs at h2
  subst h2
  exact ⟨x, rfl, h1⟩
theorem RTs.two {t u : Tr} {xs : List V} (h : RTs K H ρ [t, u] xs) : ∃ x y, xs = [x, y] ∧ RT K H ρ t x ∧ RT K H ρ u y := by
  unfold RTs at h
  obtain ⟨x, ys, rfl, h1, h2⟩ := h
  obtain ⟨y, rfl, h3⟩ := h2.one
  exact ⟨x, y, rfl, h1, h3⟩
theorem RTs.rep {ts : List Tr} {xs : List V} (h : RTs K H ρ ts xs) : ∀ n : Nat, RTs K H ρ (List.replicate n ts).flatten (List.replicate n xs).flatten
  | 0 => RTs.nil
  | n + 1 => by rw [List.replicate_succ, List.replicate_succ, List.flatten_cons, List.flatten_cons]; exact h.app (RTs.rep h n)
theorem RTs.cut {ts : List Tr} {xs : List V} (h : RTs K H ρ ts xs) (lo hi : Option Int) : RTs K H ρ (cutT ts lo hi) (cutV xs lo hi) := by
  unfold cutT cutV
  rw [h.len]
  exact (h.drop _).take _
theorem out_list {P : PF} {Q : VK} {ts : List Tr} {xs : List V} (hm : RM K H ρ M) (h : RTs K H ρ ts xs) (o : Out K H ρ P Q) (p : P (.ref M.length) (M ++ [.lst ts])) : ∀ l, H l = none → Q (.ref l) (upd H l (.lst xs)) :=
  fun l hl => o _ _ _ _ _ (Grow.list hm hl) (hm.list hl h) (by unfold RT; exact ⟨l, hm.ref, rfl⟩) p
theorem out_tup {P : PF} {Q : VK} {ts : List Tr} {xs : List V} (hm : RM K H ρ M) (h : RTs K H ρ ts xs) (o : Out K H ρ P Q) (p : P (.tup ts) M) : ∀ l, H l = none → Q (.ref l) (upd H l (.tup xs)) :=
  fun l hl => o _ _ _ _ _ (Grow.laid hl) (hm.laid hl) (by unfold RT; exact ⟨l, xs, rfl, .inl (.inl upd_same), h.mono (Grow.laid hl)⟩) p
theorem out_old {P : PF} {Q : VK} {ts : List Tr} {xs : List V} {a : Addr} (hm : RM K H ρ M) (h : RTs K H ρ ts xs) (ha : SqT K H a xs) (o : Out K H ρ P Q) (p : P (.tup ts) M) : Q (.ref a) H :=
  o _ _ _ _ _ Grow.refl hm (by unfold RT; exact ⟨a, xs, rfl, ha, h⟩) p
theorem s_cat : Sim2 K rCat fCat := ⟨fun hm rx ry ⟨xs, ys, e1, e2, z, p⟩ o => by
  obtain ⟨n, a, us, _, _, _, h1, h2, h3⟩ := lstAt_ok hm rx e1
  obtain ⟨m, b, ws, _, _, _, k1, k2, k3⟩ := lstAt_ok hm ry e2
  exact ⟨a, b, us, ws, h1, k1, h2, k2, by rw [h3.len, k3.len]; exact z, out_list hm (h3.app k3) o p⟩⟩
theorem s_rep : Sim2 K rRep fRep := ⟨fun hm rx ry ⟨xs, k, e1, e2, k0, k1, z, p⟩ o => by
  subst e2
  obtain ⟨n, a, us, _, _, _, h1, h2, h3⟩ := lstAt_ok hm rx e1
  exact ⟨a, k, us, h1, ry.int_inv, h2, k0, k1, by rw [h3.len]; exact z, out_list hm (h3.rep _) o p⟩⟩
theorem s_catA : Sim2 K (rCatA K) fCatA := ⟨fun hm rx ry ⟨xs, ys, e1, e2, z, p⟩ o => by
  obtain ⟨a, us, h1, h2, h3⟩ := tupOf_ok rx e1
  obtain ⟨b, ws, k1, k2, k3⟩ := tupOf_ok ry e2
  refine ⟨a, b, us, ws, h1, k1, h2, k2, by rw [h3.len, k3.len]; exact z, fun e => ?_, fun _ e => ?_, fun _ _ l hl => out_tup hm (h3.app k3) o p l hl⟩
  · exact out_old hm (h3.app k3) (by rw [e]; exact k2) o p
  · exact out_old hm (h3.app k3) (by rw [e, List.append_nil]; exact h2) o p⟩
theorem s_repT : Sim2 K (rRepT K) fRepT := ⟨fun hm rx ry ⟨xs, k, e1, e2, n0, k0, k1, z, p⟩ o => by
  subst e2
  obtain ⟨a, us, h1, h2, h3⟩ := tupOf_ok rx e1
  have n1 : us ≠ [] := fun e => n0 (List.length_eq_zero_iff.mp (by rw [← h3.len, e]; rfl))
  exact ⟨a, k, us, h1, ry.int_inv, h2, n1, k0, k1, by rw [h3.len]; exact z, out_tup hm (h3.rep _) o p⟩⟩
theorem s_slL : SimSl K (rSlL K) fSlL := ⟨fun hm rx ⟨xs, e1, p⟩ o => by
  obtain ⟨n, a, us, _, _, _, h1, h2, h3⟩ := lstAt_ok hm rx e1
  exact ⟨a, us, h1, .inl (.inl h2), out_list hm (h3.cut _ _) o p⟩⟩
theorem s_slA : SimSl K (rSlA K) fSlA := ⟨fun hm rx ⟨xs, e1, p⟩ o => by
  obtain ⟨a, us, h1, h2, h3⟩ := tupOf_ok rx e1
  refine ⟨a, us, h1, h2, fun h => ?_, fun _ l hl => out_tup hm (h3.cut _ _) o p l hl⟩
  refine out_old hm (h3.cut _ _) ?_ o p
  unfold cutV
  rw [h.1, h.2, List.drop_zero, Nat.sub_zero, List.take_length]
  exact h2⟩
theorem s_slS : SimSl K rSlS fSlS := ⟨fun hm rx ⟨z, e1, hz, p⟩ o => by
  subst e1
  exact ⟨z, rx.str_inv, hz, o _ _ _ _ _ Grow.refl hm RT.str_ p⟩⟩
theorem sim_sl {r : V → Option Int → Option Int → Hp → VK → Prop} {fr : FSl} (s : SimSl K r fr) (a : SimE K B te fe) (b : SimO K B tl fl) (c : SimO K B th fh) : SimE K B (tSl r te tl th) (fSl fr fe fl fh) :=
  ⟨fun hl hm h o => a.run hl hm h fun x xv H1 ρ1 M1 g1 m1 rx h1 => b.run (hl.mono g1) m1 h1 fun lo H2 ρ2 M2 g2 m2 h2 => c.run (hl.mono (g1.trans g2)) m2 h2 fun hi H3 ρ3 M3 g3 m3 h3 => s.run m3 (rx.mono (g2.trans g3)) h3 (o.step ((g1.trans g2).trans g3))⟩
theorem c_len : SimC K (fun xs H Q => ∃ p ys, xs = [V.ref p] ∧ (SqL K H p ys ∨ SqT K H p ys) ∧ Q (V.int ys.length) H) fLen := ⟨fun hm rx ⟨x, ts, e1, e2, p⟩ o => by
  subst e1
  obtain ⟨xv, rfl, r⟩ := rx.one
  obtain ⟨a, us, rfl, h2, h3⟩ := seqAt_ok hm r e2
  exact ⟨a, us, rfl, h2, by rw [h3.len]; exact o _ _ _ _ _ Grow.refl hm RT.int_ p⟩⟩
theorem c_lenS : SimC K (fun xs H Q => ∃ z : Str, xs = [V.str z] ∧ z.length ≤ sizeLine ∧ Q (V.int z.length) H) fLenS := ⟨fun hm rx ⟨z, e1, e2, p⟩ o => by
  subst e1
  obtain ⟨xv, rfl, r⟩ := rx.one
  exact ⟨z, by rw [r.str_inv], e2, o _ _ _ _ _ Grow.refl hm RT.int_ p⟩⟩
theorem c_list : SimC K (fun xs H Q => ∃ p ys, xs = [V.ref p] ∧ (SqL K H p ys ∨ SqT K H p ys) ∧ ∀ l, H l = none → Q (V.ref l) (upd H l (.lst ys))) fList := ⟨fun hm rx ⟨x, ts, e1, e2, p⟩ o => by
  subst e1
  obtain ⟨xv, rfl, r⟩ := rx.one
  obtain ⟨a, us, rfl, h2, h3⟩ := seqAt_ok hm r e2
  exact ⟨a, us, rfl, h2, out_list hm h3 o p⟩⟩
theorem c_tuple : SimC K (fun xs H Q => ∃ p ys, xs = [V.ref p] ∧ ((SqL K H p ys ∧ ∀ l, H l = none → Q (V.ref l) (upd H l (.tup ys))) ∨ (SqT K H p ys ∧ Q (V.ref p) H))) fTuple := ⟨fun hm rx ⟨x, ts, e1, e2, p⟩ o => by
  subst e1
  obtain ⟨xv, rfl, r⟩ := rx.one
  obtain ⟨a, us, rfl, h2, h3⟩ := seqAt_ok hm r e2
  rcases h2 with h2 | h2
  · exact ⟨a, us, rfl, .inl ⟨h2, out_tup hm h3 o p⟩⟩
  · exact ⟨a, us, rfl, .inr ⟨h2, out_old hm h3 h2 o p⟩⟩⟩
theorem c_int1 : SimC K (fun xs H Q => (∃ i, xs = [V.int i] ∧ Q (V.int i) H) ∨ ∃ k : Bool, xs = [V.bl k] ∧ Q (V.int (if k then 1 else 0)) H) fInt1 := ⟨fun hm rx h o => by
  rcases h with ⟨i, rfl, p⟩ | ⟨i, rfl, p⟩
  · obtain ⟨xv, rfl, r⟩ := rx.one
    exact .inl ⟨i, by rw [r.int_inv], o _ _ _ _ _ Grow.refl hm RT.int_ p⟩
  · obtain ⟨xv, rfl, r⟩ := rx.one
    exact .inr ⟨i, by rw [r.bl_inv], o _ _ _ _ _ Grow.refl hm RT.int_ p⟩⟩
theorem c_intS : SimC K (fun xs H Q => ∃ (a : Str) (n : Int), xs = [V.str a] ∧ PySem.intText? a = some n ∧ a.length ≤ 640 ∧ Q (V.int n) H) fIntS := ⟨fun hm rx ⟨a, n, e1, e2, z, p⟩ o => by
  subst e1
  obtain ⟨xv, rfl, r⟩ := rx.one
  exact ⟨a, n, by rw [r.str_inv], e2, z, o _ _ _ _ _ Grow.refl hm RT.int_ p⟩⟩
theorem c_strI : SimC K (fun xs H Q => ∃ i : Int, xs = [V.int i] ∧ i.natAbs.log2 < 1920 ∧ Q (V.str (toString i)) H) fStrI := ⟨fun hm rx ⟨i, e1, z, p⟩ o => by
  subst e1
  obtain ⟨xv, rfl, r⟩ := rx.one
  exact ⟨i, by rw [r.int_inv], z, o _ _ _ _ _ Grow.refl hm RT.str_ p⟩⟩
theorem c_max2 : SimC K (fun xs H Q => ∃ i j, xs = [V.int i, V.int j] ∧ Q (V.int (if j > i then j else i)) H) fMax2 := ⟨fun hm rx ⟨i, j, e1, p⟩ o => by
  subst e1
  obtain ⟨x, y, rfl, r1, r2⟩ := rx.two
  exact ⟨i, j, by rw [r1.int_inv, r2.int_inv], o _ _ _ _ _ Grow.refl hm RT.int_ p⟩⟩
theorem c_min2 : SimC K (fun xs H Q => ∃ i j, xs = [V.int i, V.int j] ∧ Q (V.int (if j < i then j else i)) H) fMin2 := ⟨fun hm rx ⟨i, j, e1, p⟩ o => by
  subst e1
  obtain ⟨x, y, rfl, r1, r2⟩ := rx.two
  exact ⟨i, j, by rw [r1.int_inv, r2.int_inv], o _ _ _ _ _ Grow.refl hm RT.int_ p⟩⟩
theorem m_append : SimM K rAppend fAppend := ⟨fun hm rx ry ⟨n, ts, y, e1, e2, z, p⟩ o => by
  subst e2
  obtain ⟨a, us, rfl, h1, h2, rfl, h3, h4⟩ := refAt_ok hm rx e1
  obtain ⟨yv, rfl, r⟩ := ry.one
  exact ⟨a, us, yv, rfl, rfl, h3, by rw [h4.len]; exact z, o _ _ _ _ _ (Grow.wr hm h3 (List.mem_of_getElem? h1)) (hm.wr h3 h1 (h4.app (RTs.cons r RTs.nil))) RT.non_ p⟩⟩
theorem m_extend : SimM K rExtend fExtend := ⟨fun hm rx ry ⟨n, ts, y, ws, e1, e2, e3, z, p⟩ o => by
  subst e2
  obtain ⟨a, us, rfl, h1, h2, rfl, h3, h4⟩ := refAt_ok hm rx e1
  obtain ⟨yv, rfl, r⟩ := ry.one
  obtain ⟨m, b, vs, _, _, _, rfl, k2, k3⟩ := lstAt_ok hm r e3
  exact ⟨a, b, us, vs, rfl, rfl, h3, k2, by rw [h4.len, k3.len]; exact z, o _ _ _ _ _ (Grow.wr hm h3 (List.mem_of_getElem? h1)) (hm.wr h3 h1 (h4.app k3)) RT.non_ p⟩⟩
theorem flat_ok {t : Tr} {v : V} (r : RT K H ρ t v) (f : flatT t = true) : flatV v = true := by
  cases t <;> first | (cases f; done) | (unfold RT at r; rw [r]; rfl)
theorem flats_ok : ∀ {ts : List Tr} {vs : List V}, RTs K H ρ ts vs → ts.all flatT = true → vs.all flatV = true
  | [], _, r, _ => by unfold RTs at r; rw [r]; rfl
  | t :: ts, _, r, f => by
    unfold RTs at r
    obtain ⟨x, ys, rfl, h1, h2⟩ := r
    rw [List.all_cons, Bool.and_eq_true] at f ⊢
    exact ⟨flat_ok h1 f.1, flats_ok h2 f.2⟩
theorem eqvT_ok {t u : Tr} {v w : V} (r : RT K H ρ t v) (s : RT K H ρ u w) (f : flatT t = true) (g : flatT u = true) : eqV v w = eqvT t u := by
  cases t <;> (try (cases f; done)) <;> cases u <;> (try (cases g; done)) <;> (unfold RT at r s; rw [r, s]; rfl)
theorem any_ok {u : Tr} {w : V} (s : RT K H ρ u w) (g : flatT u = true) : ∀ {ts : List Tr} {vs : List V}, RTs K H ρ ts vs → ts.all flatT = true → inV w vs = ts.any fun y => eqvT y u
  | [], _, r, _ => by unfold RTs at r; rw [r]; rfl
  | t :: ts, _, r, f => by
    unfold RTs at r
    obtain ⟨x, ys, rfl, h1, h2⟩ := r
    rw [List.all_cons, Bool.and_eq_true] at f
    have ih := any_ok s g h2 f.2
    unfold inV at ih ⊢
    rw [List.any_cons, List.any_cons, eqvT_ok h1 s f.1 g, ih]
theorem s_in {neg : Bool} : Sim2 K (rIn K neg) (fIn neg) := ⟨fun hm rx ry ⟨ts, e1, f1, f2, p⟩ o => by
  obtain ⟨a, us, rfl, h2, h3⟩ := seqAt_ok hm ry e1
  exact ⟨a, us, rfl, h2, flat_ok rx f1, flats_ok h3 f2, by rw [any_ok rx f1 h3 f2]; exact o _ _ _ _ _ Grow.refl hm RT.bl_ p⟩⟩
end
/-! ### methods of built-in things -/
def fBM (fr : Tr → FC) (fo : FE) (fa : FA) : FE := fun L M P => fo L M fun x M1 => (lstAt M1 x).isSome = true ∧ fa L M1 fun xs M2 => fr x xs M2 P
def isStr : Tr → Bool
  | .str _ => true
  | _ => false
def fMS (fr : Tr → FC) (fo : FE) (fa : FA) : FE := fun L M P => fo L M fun x M1 => isStr x = true ∧ fa L M1 fun xs M2 => fr x xs M2 P
section
variable {K : PySem.W.Frag} {B : Bs} {to : TE} {fo : FE} {ta : TA} {fa : FA} {te : TE} {fe : FE} {r : V → List V → Hp → VK → Prop} {fr : Tr → FC}
theorem sim_BML (s : SimM K r fr) (a : SimE K B to fo) (b : SimA K B ta fa) : SimE K B (tBM K "list" r to ta) (fBM fr fo fa) :=
  ⟨fun hl hm h o => a.run hl hm h fun x xv H1 ρ1 M1 g1 m1 rx ⟨e, h1⟩ => by
    obtain ⟨ts, ht⟩ := Option.isSome_iff_exists.mp e
    obtain ⟨n, a, us, _, _, _, rfl, h2, h3⟩ := lstAt_ok m1 rx ht
    exact ⟨.inl ⟨rfl, _, .inl (.inl h2)⟩, b.run (hl.mono g1) m1 h1 fun xs xvs H2 ρ2 M2 g2 m2 rxs h2 => s.run m2 (rx.mono g2) rxs h2 (o.step (g1.trans g2))⟩⟩
theorem sim_M1 (s : SimM K r fr) (a : SimE K B to fo) (b : SimE K B te fe) : SimE K B (tM1 r to te) (fMS fr fo (fCons fe fNil)) :=
  ⟨fun hl hm h o => a.run hl hm h fun x xv H1 ρ1 M1 g1 m1 rx ⟨e, h1⟩ => by
    cases x with
    | str z => exact ⟨⟨z, rx.str_inv⟩, b.run (hl.mono g1) m1 h1 fun y yv H2 ρ2 M2 g2 m2 ry h2 => s.run m2 (rx.mono g2) (RTs.cons ry RTs.nil) h2 (o.step (g1.trans g2))⟩
    | _ => cases e⟩
theorem sim_M0 (s : SimM K r fr) (a : SimE K B to fo) : SimE K B (tM0 r to) (fMS fr fo fNil) :=
  ⟨fun hl hm h o => a.run hl hm h fun x xv H1 ρ1 M1 g1 m1 rx ⟨e, h1⟩ => by
    cases x with
    | str z => exact ⟨⟨z, rx.str_inv⟩, s.run m1 rx RTs.nil h1 (o.step g1)⟩
    | _ => cases e⟩
end
end Fm

set_option Elab.async false
set_option linter.all false
set_option maxRecDepth 100000
set_option maxHeartbeats 4000000
namespace Fm
open PySem PySem.Spec PyProof.Rows L2
/-! ### forgetting: what lies behind place n -/
mutual
def Tr.bel (n : Nat) : Tr → Bool
  | .ref k => decide (k < n)
  | .tup ts => Tr.bels n ts
  | _ => true
def Tr.bels (n : Nat) : List Tr → Bool
  | [] => true
  | t :: ts => Tr.bel n t && Tr.bels n ts
end
def belF (n : Nat) : List (Str × Tr) → Bool
  | [] => true
  | p :: fs => Tr.bel n p.2 && belF n fs
def belK (n : Nat) : List (L2.Key × Tr) → Bool
  | [] => true
  | p :: fs => Tr.bel n p.2 && belK n fs
def O.bel (n : Nat) : O → Bool
  | .lst ts => Tr.bels n ts
  | .ins _ fs => belF n fs
  | .tab _ _ => decide (1 ≤ n)
  | .scr _ _ _ _ => true
  | .dic ps => belK n ps
def belM (n : Nat) : Mem → Bool
  | [] => true
  | o :: M => O.bel n o && belM n M
def belL (n : Nat) : Loc → Bool
  | [] => true
  | none :: L => belL n L
  | some t :: L => Tr.bel n t && belL n L
/-- fewer slots are known -/
def LocLe : Loc → Loc → Prop
  | [], L => L = []
  | none :: L', L => ∃ u L1, L = u :: L1 ∧ LocLe L' L1
  | some t :: L', L => ∃ L1, L = some t :: L1 ∧ LocLe L' L1
theorem LocLe.refl : ∀ L : Loc, LocLe L L
  | [] => rfl
  | none :: L => ⟨none, L, rfl, LocLe.refl L⟩
  | some t :: L => ⟨L, rfl, LocLe.refl L⟩
section
variable {K : PySem.W.Frag} {B : Bs} {H H' : Hp} {ρ ρ' : List Addr} {n : Nat}
mutual
theorem RT.cut : ∀ {t : Tr} {v : V}, RT K H ρ t v → Tr.bel n t = true → RT K H (ρ.take n) t v
  | .non, _, h, _ => h
  | .bl _, _, h, _ => h
  | .int _, _, h, _ => h
  | .str _, _, h, _ => h
  | .raw _, _, h, _ => h
  | .ref k, _, h, b => by
    unfold RT at h ⊢
    obtain ⟨a, h1, h2⟩ := h
    unfold Tr.bel at b
    exact ⟨a, by rw [List.getElem?_take, if_pos (of_decide_eq_true b)]; exact h1, h2⟩
  | .tup ts, _, h, b => by
    unfold RT at h ⊢
    obtain ⟨a, xs, h1, h2, h3⟩ := h
    unfold Tr.bel at b
    exact ⟨a, xs, h1, h2, RTs.cutN h3 b⟩
theorem RTs.cutN : ∀ {ts : List Tr} {vs : List V}, RTs K H ρ ts vs → Tr.bels n ts = true → RTs K H (ρ.take n) ts vs
  | [], _, h, _ => by
    unfold RTs at h ⊢
    exact h
  | t :: ts, _, h, b => by
    unfold RTs at h ⊢
    obtain ⟨x, ys, h1, h2, h3⟩ := h
    unfold Tr.bels at b
    rw [Bool.and_eq_true] at b
    exact ⟨x, ys, h1, RT.cut h2 b.1, RTs.cutN h3 b.2⟩
end
theorem RFs.cut : ∀ {ts : List (Str × Tr)} {vs : List (Str × V)}, RFs K H ρ ts vs → belF n ts = true → RFs K H (ρ.take n) ts vs
  | [], _, h, _ => h
  | t :: ts, _, h, b => by
    obtain ⟨x, ys, h1, h2, h3⟩ := h
    unfold belF at b
    rw [Bool.and_eq_true] at b
    exact ⟨x, ys, h1, RT.cut h2 b.1, RFs.cut h3 b.2⟩
theorem RKs.cut : ∀ {ts : List (L2.Key × Tr)} {vs : List (L2.Key × V)}, RKs K H ρ ts vs → belK n ts = true → RKs K H (ρ.take n) ts vs
  | [], _, h, _ => h
  | t :: ts, _, h, b => by
    obtain ⟨x, ys, h1, h2, h3⟩ := h
    unfold belK at b
    rw [Bool.and_eq_true] at b
    exact ⟨x, ys, h1, RT.cut h2 b.1, RKs.cut h3 b.2⟩
theorem RL.cut : ∀ {L : Loc} {σ : L2.St}, RL K H ρ L σ → belL n L = true → RL K H (ρ.take n) L σ
  | [], _, h, _ => h
  | none :: L, _, h, b => by
    obtain ⟨v, τ, h1, h2, h3⟩ := h
    unfold belL at b
    exact ⟨v, τ, h1, trivial, RL.cut h3 b⟩
  | some t :: L, _, h, b => by
    obtain ⟨v, τ, h1, ⟨x, h4, h5⟩, h3⟩ := h
    unfold belL at b
    rw [Bool.and_eq_true] at b
    exact ⟨v, τ, h1, ⟨x, h4, RT.cut h5 b.1⟩, RL.cut h3 b.2⟩
theorem RL.le : ∀ {L' L : Loc} {σ : L2.St}, LocLe L' L → RL K H ρ L σ → RL K H ρ L' σ
  | [], _, _, e, h => by
    have e : _ = ([] : Loc) := e
    subst e
    exact h
  | none :: L', _, _, e, h => by
    obtain ⟨u, L1, rfl, e⟩ := e
    obtain ⟨v, τ, h1, h2, h3⟩ := h
    exact ⟨v, τ, h1, trivial, RL.le e h3⟩
  | some t :: L', _, _, e, h => by
    obtain ⟨L1, rfl, e⟩ := e
    obtain ⟨v, τ, h1, h2, h3⟩ := h
    exact ⟨v, τ, h1, h2, RL.le e h3⟩
theorem belM_get : ∀ {M : Mem} {k : Nat} {o : O}, belM n M = true → M[k]? = some o → O.bel n o = true
  | [], _, _, _, e => by simp at e
  | u :: M, 0, o, b, e => by
    have e' : u = o := by simpa using e
    subst e'
    unfold belM at b
    rw [Bool.and_eq_true] at b
    exact b.1
  | u :: M, k + 1, o, b, e => by
    unfold belM at b
    rw [Bool.and_eq_true] at b
    exact belM_get b.2 (by simpa using e)
theorem RM.cut {M : Mem} (r : RM K H ρ M) (b : belM n (M.take n) = true) : RM K H (ρ.take n) (M.take n) := by
  refine ⟨by rw [List.length_take, List.length_take, r.len], fun k o e => ?_, r.nd.sublist (List.take_sublist _ _)⟩
  have eb := belM_get b e
  rw [List.getElem?_take] at e
  split at e
  · rename_i hk
    obtain ⟨a, h1, h2⟩ := r.at_ k o e
    refine ⟨a, by rw [List.getElem?_take, if_pos hk]; exact h1, ?_⟩
    cases o with
    | lst ts =>
      obtain ⟨xs, h3, h4⟩ := h2
      exact ⟨xs, h3, RTs.cutN h4 eb⟩
    | ins C fs =>
      obtain ⟨dx, gs, h3, h5, h4⟩ := h2
      exact ⟨dx, gs, h3, h5, RFs.cut h4 eb⟩
    | tab P q => exact h2
    | scr ns k m r => exact h2
    | dic ps =>
      obtain ⟨kvs, h3, h4⟩ := h2
      exact ⟨kvs, h3, RKs.cut h4 eb⟩
  · cases e
theorem Grow.cut (g : Grow K H ρ H' ρ') (h : ρ.length ≤ n) : Grow K H ρ H' (ρ'.take n) := by
  obtain ⟨t, e⟩ := g.ext
  refine ⟨⟨t.take (n - ρ.length), ?_⟩, g.tup, g.oth, fun a ha hn => g.new a (List.mem_of_mem_take ha) hn, g.cod⟩
  rw [e, List.take_append, List.take_of_length_le h]
end
/-- the wish J holds of what is left when something is forgotten, not what stands before place k -/
def Forget (k : Nat) (J : Loc → Mem → Prop) : Loc → Mem → Prop := fun L M => ∃ n L', k ≤ n ∧ LocLe L' L ∧ belL n L' = true ∧ belM n (M.take n) = true ∧ J L' (M.take n)
theorem Tr.bel_mono {n m : Nat} (h : n ≤ m) : ∀ {t : Tr}, Tr.bel n t = true → Tr.bel m t = true := by
  intro t
  refine Tr.rec (motive_1 := fun t => Tr.bel n t = true → Tr.bel m t = true) (motive_2 := fun ts => Tr.bels n ts = true → Tr.bels m ts = true) ?_ ?_ ?_ ?_ ?_ ?_ ?_ ?_ ?_ t
  · intro _; rfl
  · intro _ _; rfl
  · intro _ _; rfl
  · intro _ _; rfl
  · intro ts ih b
    unfold Tr.bel at b ⊢
    exact ih b
  · intro k b
    unfold Tr.bel at b ⊢
    exact decide_eq_true (Nat.lt_of_lt_of_le (of_decide_eq_true b) h)
  · intro _ _; rfl
  · intro _; rfl
  · intro t ts h1 h2 b
    unfold Tr.bels at b ⊢
    rw [Bool.and_eq_true] at b ⊢
    exact ⟨h1 b.1, h2 b.2⟩
theorem RT.bel_len {K : PySem.W.Frag} {H : Hp} {ρ : List Addr} : ∀ {t : Tr} {v : V}, RT K H ρ t v → Tr.bel ρ.length t = true := by
  intro t
  refine Tr.rec (motive_1 := fun t => ∀ {v : V}, RT K H ρ t v → Tr.bel ρ.length t = true) (motive_2 := fun ts => ∀ {vs : List V}, RTs K H ρ ts vs → Tr.bels ρ.length ts = true) ?_ ?_ ?_ ?_ ?_ ?_ ?_ ?_ ?_ t
  · intro _ _; rfl
  · intro _ _ _; rfl
  · intro _ _ _; rfl
  · intro _ _ _; rfl
  · intro ts ih v h
    unfold RT at h
    obtain ⟨a, xs, _, _, h3⟩ := h
    unfold Tr.bel
    exact ih h3
  · intro k v h
    unfold RT at h
    obtain ⟨a, h1, _⟩ := h
    unfold Tr.bel
    exact decide_eq_true (List.getElem?_eq_some_iff.mp h1).1
  · intro _ _ _; rfl
  · intro _ _; rfl
  · intro t ts h1 h2 vs h
    unfold RTs at h
    obtain ⟨x, ys, _, h3, h4⟩ := h
    unfold Tr.bels
    rw [Bool.and_eq_true]
    exact ⟨h1 h3, h2 h4⟩
/-! ### calls -/
abbrev PXF := Addr → List (Str × Tr) → Mem → Prop
abbrev FSp := List Tr → Mem → PF → PXF → Prop
/-- the exception's own fields -/
def XR (K : PySem.W.Frag) (H : Hp) (ρ : List Addr) (fs : List (Str × Tr)) (d : Option Addr) : Prop := (fs = [] ∧ d = none) ∨ ∃ dd gs, d = some dd ∧ H dd = some (.xd gs) ∧ RFs K H ρ fs gs
def OutX (K : PySem.W.Frag) (H : Hp) (ρ : List Addr) (P : PXF) (E : XK) : Prop := ∀ C fs d H' ρ' M', Grow K H ρ H' ρ' → RM K H' ρ' M' → XR K H' ρ' fs d → P C fs M' → E (.ref C) d H'
theorem OutX.step {K : PySem.W.Frag} {H H' : Hp} {ρ ρ' : List Addr} {P : PXF} {E : XK} (g : Grow K H ρ H' ρ') (o : OutX K H ρ P E) : OutX K H' ρ' P E := fun C fs d H2 ρ2 M2 g2 m x p => o C fs d H2 ρ2 M2 (g.trans g2) m x p
structure SimSp (K : PySem.W.Frag) (sp : Sp) (fsp : FSp) : Prop where
  run : ∀ {H ρ M ts vs P PX Q E}, RTs K H ρ ts vs → RM K H ρ M → fsp ts M P PX → Out K H ρ P Q → OutX K H ρ PX E → sp vs H Q E
/-- a promise said of trees -/
def spF (K : PySem.W.Frag) (fsp : FSp) : Sp := fun vs H Q E => ∃ ts ρ M P PX, RTs K H ρ ts vs ∧ RM K H ρ M ∧ fsp ts M P PX ∧ Out K H ρ P Q ∧ OutX K H ρ PX E
theorem simSpF {K : PySem.W.Frag} {fsp : FSp} : SimSp K (spF K fsp) fsp := ⟨fun r m h o x => ⟨_, _, _, _, _, r, m, h, o, x⟩⟩
def noX : PXF := fun _ _ _ => False
theorem outX_no {K : PySem.W.Frag} {H : Hp} {ρ : List Addr} {E : XK} : OutX K H ρ noX E := fun _ _ _ _ _ _ _ _ _ p => p.elim
def fCall (fsp : FSp) (PX : PXF) (fa : FA) : FE := fun L M P => fa L M fun ts M1 => fsp ts M1 P PX
section
variable {K : PySem.W.Frag} {B : Bs} {ta : TA} {fa : FA} {sp : Sp} {fsp : FSp} {E : XK}
/-- a call that raises nothing -/
theorem sim_call (s : SimSp K sp fsp) (a : SimA K B ta fa) : SimE K B (tCall sp [] E ta) (fCall fsp noX fa) :=
  ⟨fun hl hm h o => a.run hl hm h fun ts xs H1 ρ1 M1 g1 m1 rx h1 => s.run (by rw [List.append_nil]; exact rx) m1 h1 (o.step g1) outX_no⟩
/-- a call out of which an exception may leave -/
theorem sim_callX {PX : PXF} (hE : OutX K B.1 B.2 PX E) (s : SimSp K sp fsp) (a : SimA K B ta fa) : SimE K B (tCall sp [] E ta) (fCall fsp PX fa) :=
  ⟨fun hl hm h o => a.run hl hm h fun ts xs H1 ρ1 M1 g1 m1 rx h1 => s.run (by rw [List.append_nil]; exact rx) m1 h1 (o.step g1) (hE.step (hl.gr.trans g1))⟩
end
/-! ### statements -/
structure FEnds where
  nx : Loc → Mem → Prop
  rt : PF
  bk : Loc → Mem → Prop := fun _ _ => False
  ct : Loc → Mem → Prop := fun _ _ => False
abbrev FS := FEnds → Loc → Mem → Prop
abbrev FG := Tr → Loc → Mem → (Loc → Mem → Prop) → Prop
def OutL (K : PySem.W.Frag) (B : Bs) (H : Hp) (ρ : List Addr) (P : Loc → Mem → Prop) (Q : L2.St → Hp → Prop) : Prop := ∀ L σ H' ρ' M', Grow K H ρ H' ρ' → RX K B H' ρ' L σ → RM K H' ρ' M' → P L M' → Q σ H'
theorem OutL.step {K : PySem.W.Frag} {B : Bs} {H H' : Hp} {ρ ρ' : List Addr} {P : Loc → Mem → Prop} {Q : L2.St → Hp → Prop} (g : Grow K H ρ H' ρ') (o : OutL K B H ρ P Q) : OutL K B H' ρ' P Q := fun L σ H2 ρ2 M2 g2 l m p => o L σ H2 ρ2 M2 (g.trans g2) l m p
structure EndR (K : PySem.W.Frag) (B : Bs) (H : Hp) (ρ : List Addr) (D' : FEnds) (D : Ends) : Prop where
  nx : OutL K B H ρ D'.nx D.nx
  rt : Out K H ρ D'.rt D.rt
  bk : OutL K B H ρ D'.bk D.bk
  ct : OutL K B H ρ D'.ct D.ct
theorem EndR.step {K : PySem.W.Frag} {B : Bs} {H H' : Hp} {ρ ρ' : List Addr} {D' : FEnds} {D : Ends} (g : Grow K H ρ H' ρ') (o : EndR K B H ρ D' D) : EndR K B H' ρ' D' D := ⟨o.nx.step g, o.rt.step g, o.bk.step g, o.ct.step g⟩
structure SimS (K : PySem.W.Frag) (B : Bs) (ts : TS) (fs : FS) : Prop where
  run : ∀ {σ H ρ L M D' D}, RX K B H ρ L σ → RM K H ρ M → fs D' L M → EndR K B H ρ D' D → ts D σ H
structure SimG (K : PySem.W.Frag) (B : Bs) (g : TG) (fg : FG) : Prop where
  run : ∀ {σ H ρ L M x xv P Q}, RX K B H ρ L σ → RM K H ρ M → RT K H ρ x xv → fg x L M P → OutL K B H ρ P Q → g xv σ H Q
structure SimGs (K : PySem.W.Frag) (B : Bs) (g : TGs) (fg : List Tr → Loc → Mem → (Loc → Mem → Prop) → Prop) : Prop where
  run : ∀ {σ H ρ L M xs xvs P Q}, RX K B H ρ L σ → RM K H ρ M → RTs K H ρ xs xvs → fg xs L M P → OutL K B H ρ P Q → g xvs σ H Q
def fName (i : Nat) : FG := fun t L M P => P (L.set i (some t)) M
def fGNil : List Tr → Loc → Mem → (Loc → Mem → Prop) → Prop := fun ts L M P => ts = [] ∧ P L M
def fGCons (f : FG) (fs : List Tr → Loc → Mem → (Loc → Mem → Prop) → Prop) : List Tr → Loc → Mem → (Loc → Mem → Prop) → Prop := fun ts L M P => ∃ t us, ts = t :: us ∧ f t L M fun L1 M1 => fs us L1 M1 P
def fGTup (n : Nat) (fs : List Tr → Loc → Mem → (Loc → Mem → Prop) → Prop) : FG := fun t L M P => ∃ ts, tupOf t = some ts ∧ ts.length = n ∧ fs ts L M P
def fSetL : Tr → Tr → Tr → Mem → (Mem → Prop) → Prop := fun o i v M P => ∃ n ts k j, refAt M o = some (n, ts) ∧ i = .int k ∧ ixN ts.length k = some j ∧ P (M.set n (.lst (ts.set j v)))
def fGSub (fo fi : FE) (fset : Tr → Tr → Tr → Mem → (Mem → Prop) → Prop) : FG := fun v L M P => fo L M fun o M1 => fi L M1 fun i M2 => fset o i v M2 fun M3 => P L M3
structure SimSet (K : PySem.W.Frag) (t : TSet) (f : Tr → Tr → Tr → Mem → (Mem → Prop) → Prop) : Prop where
  run : ∀ {H ρ M o i v ov iv vv P Q}, RM K H ρ M → RT K H ρ o ov → RT K H ρ i iv → RT K H ρ v vv → f o i v M P → (∀ H' ρ' M', Grow K H ρ H' ρ' → RM K H' ρ' M' → P M' → Q H') → t ov iv vv H Q
def fNext : FS := fun D L M => D.nx L M
def fSeq (f g : FS) : FS := fun D L M => f { D with nx := g D } L M
def fCut (f g : FS) : FS := fun D L M => ∃ J, f { D with nx := J } L M ∧ ∀ L' M', J L' M' → g D L' M'
def fBreak : FS := fun D L M => D.bk L M
def fCont : FS := fun D L M => D.ct L M
def fDrop (fe : FE) : FS := fun D L M => fe L M fun _ M1 => D.nx L M1
def fRet (fe : FE) : FS := fun D L M => fe L M D.rt
def fRetN : FS := fun D _ M => D.rt .non M
def fIfS (ft : FT) (f g : FS) : FS := fun D L M => ft L M fun b M1 => if b = true then f D L M1 else g D L M1
def fNever : FS := fun _ _ _ => False
def fAsg (fe : FE) (fg : FG) : FS := fun D L M => fe L M fun x M1 => fg x L M1 D.nx
def fPar (i j : Nat) (fa : FA) : FS := fun D L M => fa L M fun vs M1 => ∃ v w, vs = [v, w] ∧ D.nx ((L.set i (some v)).set j (some w)) M1
def fAug (i : Nat) (fe : FE) (f2 : F2) : FS := fun D L M => ∃ x, L[i]? = some (some x) ∧ fe L M fun y M1 => f2 x y M1 fun z M2 => D.nx (L.set i (some z)) M2
section
variable {K : PySem.W.Frag} {B : Bs} {te to ti : TE} {fe fo fi : FE} {g : TG} {fg : FG} {gs : TGs} {fgs : List Tr → Loc → Mem → (Loc → Mem → Prop) → Prop} {t u : TS} {f f' : FS} {tt : TT} {ft : FT} {ta : TA} {fa : FA}
theorem RX.set {H : Hp} {ρ : List Addr} {L : Loc} {σ : L2.St} {t : Tr} {v : V} (x : RX K B H ρ L σ) (r : RT K H ρ t v) (i : Nat) : RX K B H ρ (L.set i (some t)) (σ.set i (some v)) := ⟨x.rl.set r i, x.gr⟩
theorem sim_name {i : Nat} : SimG K B (gName i) (fName i) := ⟨fun hl hm rx p o => o _ _ _ _ _ Grow.refl (hl.set rx i) hm p⟩
theorem sim_gnil : SimGs K B gNil fGNil := ⟨fun hl hm rx ⟨e, p⟩ o => by
  subst e
  unfold RTs at rx
  exact ⟨rx, o _ _ _ _ _ Grow.refl hl hm p⟩⟩
theorem sim_gcons (a : SimG K B g fg) (b : SimGs K B gs fgs) : SimGs K B (gCons g gs) (fGCons fg fgs) := ⟨fun hl hm rx ⟨t, us, e, p⟩ o => by
  subst e
  unfold RTs at rx
  obtain ⟨x, ys, rfl, r1, r2⟩ := rx
  exact ⟨x, ys, rfl, a.run hl hm r1 p fun L1 σ1 H1 ρ1 M1 g1 l1 m1 p1 => b.run l1 m1 (r2.mono g1) p1 (o.step g1)⟩⟩
theorem sim_gtup {n : Nat} (b : SimGs K B gs fgs) : SimG K B (gTup K n gs) (fGTup n fgs) := ⟨fun hl hm rx ⟨ts, e, en, p⟩ o => by
  obtain ⟨a, xs, h1, h2, h3⟩ := tupOf_ok rx e
  exact ⟨a, xs, h1, h2, by rw [h3.len]; exact en, b.run hl hm h3 p o⟩⟩
theorem set_list : SimSet K rSetL fSetL := ⟨fun hm ro ri rv ⟨n, ts, k, j, e1, e2, e3, p⟩ o => by
  subst e2
  obtain ⟨a, us, rfl, h1, h2, rfl, h3, h4⟩ := refAt_ok hm ro e1
  exact ⟨a, us, k, j, rfl, ri.int_inv, h3, by rw [h4.len]; exact e3, o _ _ _ (Grow.wr hm h3 (List.mem_of_getElem? h1)) (hm.wr h3 h1 (h4.set rv j)) p⟩⟩
theorem sim_gsub {s : TSet} {fs : Tr → Tr → Tr → Mem → (Mem → Prop) → Prop} (z : SimSet K s fs) (a : SimE K B to fo) (b : SimE K B ti fi) : SimG K B (gSub to ti s) (fGSub fo fi fs) :=
  ⟨fun hl hm rx h o => a.run hl hm h fun x xv H1 ρ1 M1 g1 m1 r1 h1 => b.run (hl.mono g1) m1 h1 fun y yv H2 ρ2 M2 g2 m2 r2 h2 => z.run m2 (r1.mono g2) r2 (rx.mono (g1.trans g2)) h2 fun H3 ρ3 M3 g3 m3 p => o _ _ _ _ _ ((g1.trans g2).trans g3) (hl.mono ((g1.trans g2).trans g3)) m3 p⟩
theorem sim_next : SimS K B tNext fNext := ⟨fun hl hm p e => e.nx _ _ _ _ _ Grow.refl hl hm p⟩
theorem sim_seq (a : SimS K B t f) (b : SimS K B u f') : SimS K B (tSeq t u) (fSeq f f') :=
  ⟨fun hl hm p e => a.run hl hm p ⟨fun L σ H1 ρ1 M1 g1 l1 m1 p1 => b.run l1 m1 p1 (e.step g1), e.rt, e.bk, e.ct⟩⟩
theorem sim_cut (a : SimS K B t f) (b : SimS K B u f') : SimS K B (C8.tCut t u) (fCut f f') :=
  ⟨fun {σ H ρ L M D' D} hl hm ⟨J, p, q⟩ e => ⟨u D, a.run hl hm p ⟨fun L σ H1 ρ1 M1 g1 l1 m1 p1 => b.run l1 m1 (q _ _ p1) (e.step g1), e.rt, e.bk, e.ct⟩, fun _ _ h => h⟩⟩
theorem sim_break : SimS K B tBreak fBreak := ⟨fun hl hm p e => e.bk _ _ _ _ _ Grow.refl hl hm p⟩
theorem sim_cont : SimS K B tCont fCont := ⟨fun hl hm p e => e.ct _ _ _ _ _ Grow.refl hl hm p⟩
theorem sim_drop (a : SimE K B te fe) : SimS K B (tDrop te) (fDrop fe) := ⟨fun hl hm p e => a.run hl hm p fun _ _ H1 ρ1 M1 g1 m1 _ p1 => e.nx _ _ _ _ _ g1 (hl.mono g1) m1 p1⟩
theorem sim_ret (a : SimE K B te fe) : SimS K B (tRet te) (fRet fe) := ⟨fun hl hm p e => a.run hl hm p e.rt⟩
theorem sim_retN : SimS K B tRetN fRetN := ⟨fun hl hm p e => e.rt _ _ _ _ _ Grow.refl hm RT.non_ p⟩
theorem sim_ifS (c : SimT K B tt ft) (a : SimS K B t f) (b : SimS K B u f') : SimS K B (tIfS tt t u) (fIfS ft f f') := ⟨fun hl hm p e => c.run hl hm p fun k H1 ρ1 M1 g1 m1 h1 => by
  cases k with
  | true => rw [if_pos rfl] at h1 ⊢; exact a.run (hl.mono g1) m1 h1 (e.step g1)
  | false => rw [if_neg (by decide)] at h1 ⊢; exact b.run (hl.mono g1) m1 h1 (e.step g1)⟩
theorem sim_never : SimS K B tNever fNever := ⟨fun _ _ p _ => p⟩
theorem sim_asg (a : SimE K B te fe) (b : SimG K B g fg) : SimS K B (tAsg te g) (fAsg fe fg) :=
  ⟨fun hl hm p e => a.run hl hm p fun x xv H1 ρ1 M1 g1 m1 r1 p1 => b.run (hl.mono g1) m1 r1 p1 (e.nx.step g1)⟩
theorem sim_par {i j : Nat} (a : SimA K B ta fa) : SimS K B (tPar i j ta) (fPar i j fa) := ⟨fun hl hm p e => a.run hl hm p fun xs xvs H1 ρ1 M1 g1 m1 r1 ⟨v, w, e1, p1⟩ => by
  subst e1
  obtain ⟨x, y, rfl, r2, r3⟩ := r1.two
  exact ⟨x, y, rfl, e.nx _ _ _ _ _ g1 (((hl.mono g1).set r2 i).set r3 j) m1 p1⟩⟩
theorem sim_aug {i : Nat} {ip : TIp} {f2 : F2} (s : Sim2 K ip f2) (a : SimE K B te fe) : SimS K B (tAug i te ip) (fAug i fe f2) := ⟨fun hl hm ⟨x, e1, p⟩ e => by
  obtain ⟨v, h1, h2⟩ := hl.get e1
  exact ⟨v, h1, a.run hl hm p fun y yv H1 ρ1 M1 g1 m1 r1 p1 => s.run m1 (h2.mono g1) r1 p1 fun z zv H2 ρ2 M2 g2 m2 r2 p2 => e.nx _ _ _ _ _ (g1.trans g2) ((hl.mono (g1.trans g2)).set r2 i) m2 p2⟩⟩
end
end Fm

set_option Elab.async false
set_option linter.all false
set_option maxRecDepth 100000
set_option maxHeartbeats 4000000
namespace Fm
open PySem PySem.Spec PyProof.Rows L2
/-! ### what a for walks -/
structure FIt where
  items : List Tr
  ok : Mem → Prop
abbrev FI := Loc → Mem → (FIt → Mem → Prop) → Prop
structure ItSim (K : PySem.W.Frag) (it : FIt) (J : It) (S : Hp → List Addr → Prop) : Prop where
  st : ∀ {H ρ H' ρ'}, Grow K H ρ H' ρ' → S H ρ → S H' ρ'
  stop : ∀ {H ρ M}, S H ρ → RM K H ρ M → it.ok M → J.stop it.items.length H
  go : ∀ {H ρ M} {i : Nat} {t : Tr}, S H ρ → RM K H ρ M → it.ok M → it.items[i]? = some t → J.go i H
  yld : ∀ {H ρ M} {i : Nat} {t : Tr} {x H'}, S H ρ → RM K H ρ M → it.ok M → it.items[i]? = some t → J.yld i H x H' → Grow K H ρ H' ρ ∧ RM K H' ρ M ∧ RT K H' ρ t x
structure SimI (K : PySem.W.Frag) (B : Bs) (wi : TI) (fi : FI) : Prop where
  run : ∀ {σ H ρ L M R R'}, RX K B H ρ L σ → RM K H ρ M → fi L M R → (∀ it J S H' ρ' M', Grow K H ρ H' ρ' → RM K H' ρ' M' → ItSim K it J S → S H' ρ' → R it M' → R' J H') → wi σ H R'
def fIL (fe : FE) : FI := fun L M R => fe L M fun x M1 => ∃ ts, lstAt M1 x = some ts ∧ R ⟨ts, fun M => lstAt M x = some ts⟩ M1
def fIT (fe : FE) : FI := fun L M R => fe L M fun x M1 => ∃ ts, tupOf x = some ts ∧ R ⟨ts, fun _ => True⟩ M1
def rngT (lo : Int) (n : Nat) : List Tr := (List.range n).map fun (k : Nat) => Tr.int (lo + (k : Int))
def fIR1 (fa : FA) : FI := fun L M R => fa L M fun vs M1 => ∃ j : Int, vs = [.int j] ∧ -(2 ^ 62) ≤ j ∧ j < 2 ^ 62 ∧ R ⟨rngT 0 j.toNat, fun _ => True⟩ M1
def fIR2 (fa : FA) : FI := fun L M R => fa L M fun vs M1 => ∃ i j : Int, vs = [.int i, .int j] ∧ (-(2 ^ 62) ≤ i ∧ i < 2 ^ 62 ∧ -(2 ^ 62) ≤ j ∧ j < 2 ^ 62) ∧ R ⟨rngT i (j - i).toNat, fun _ => True⟩ M1
def chrsT (x : Str) : List Tr := x.cps.toList.map fun (c : Nat) => Tr.str ⟨#[c]⟩
def fIS (fe : FE) : FI := fun L M R => fe L M fun x M1 => ∃ z, x = .str z ∧ R ⟨chrsT z, fun _ => True⟩ M1
def enumT (k : Nat) : List Tr → List Tr
  | [] => []
  | t :: ts => .tup [.int (k : Int), t] :: enumT (k + 1) ts
theorem enumT_get : ∀ {ts : List Tr} {k i : Nat} {t : Tr}, (enumT k ts)[i]? = some t → ∃ u, ts[i]? = some u ∧ t = .tup [.int ((k + i : Nat) : Int), u]
  | [], _, _, _, e => by simp [enumT] at e
  | u :: ts, k, 0, t, e => by
    simp only [enumT, List.getElem?_cons_zero] at e
    cases e
    exact ⟨u, rfl, rfl⟩
  | u :: ts, k, i + 1, t, e => by
    simp only [enumT, List.getElem?_cons_succ] at e
    obtain ⟨v, h1, h2⟩ := enumT_get e
    refine ⟨v, by simpa using h1, ?_⟩
    rw [h2]
    congr 4
    omega
theorem enumT_len : ∀ (ts : List Tr) (k : Nat), (enumT k ts).length = ts.length
  | [], _ => rfl
  | t :: ts, k => by simp [enumT, enumT_len ts]
def zipT : List Tr → List Tr → List Tr
  | a :: r, b :: s => .tup [a, b] :: zipT r s
  | _, _ => []
theorem zipT_len : ∀ (xs ys : List Tr), (zipT xs ys).length = min xs.length ys.length
  | [], _ => by simp [zipT]
  | _ :: _, [] => by simp [zipT]
  | a :: r, b :: s => by simp [zipT, zipT_len r s, Nat.succ_min_succ]
theorem zipT_get : ∀ {xs ys : List Tr} {i : Nat} {t : Tr}, (zipT xs ys)[i]? = some t → ∃ a b, xs[i]? = some a ∧ ys[i]? = some b ∧ t = .tup [a, b]
  | [], _, _, _, e => by simp [zipT] at e
  | _ :: _, [], _, _, e => by simp [zipT] at e
  | a :: r, b :: s, 0, t, e => by
    simp only [zipT, List.getElem?_cons_zero] at e
    cases e
    exact ⟨a, b, rfl, rfl, rfl⟩
  | a :: r, b :: s, i + 1, t, e => by
    simp only [zipT, List.getElem?_cons_succ] at e
    obtain ⟨u, v, h1, h2, h3⟩ := zipT_get e
    exact ⟨u, v, by simpa using h1, by simpa using h2, h3⟩
def fIEn (fa : FA) : FI := fun L M R => fa L M fun vs M1 => ∃ x ts, vs = [x] ∧ lstAt M1 x = some ts ∧ R ⟨enumT 0 ts, fun M => lstAt M x = some ts⟩ M1
def fIZ (fa : FA) : FI := fun L M R => fa L M fun vs M1 => ∃ x y ts us, vs = [x, y] ∧ lstAt M1 x = some ts ∧ lstAt M1 y = some us ∧ R ⟨zipT ts us, fun M => lstAt M x = some ts ∧ lstAt M y = some us⟩ M1
section
variable {K : PySem.W.Frag} {B : Bs} {te : TE} {fe : FE} {ta : TA} {fa : FA}
theorem lst_again {H H' : Hp} {ρ ρ' : List Addr} {M M' : Mem} {x : Tr} {a : Addr} {ts : List Tr} (g : ∃ n, x = .ref n ∧ ρ[n]? = some a) (hm : RM K H ρ M) (e : lstAt M x = some ts) : ∃ xs, H a = some (.lst xs) ∧ RTs K H ρ ts xs := by
  obtain ⟨n, rfl, hn⟩ := g
  obtain ⟨k, b, xs, h0, h1, _, h2, h3, h4⟩ := lstAt_ok hm (xv := .ref a) (by unfold RT; exact ⟨a, hn, rfl⟩) e
  cases h2
  exact ⟨xs, h3, h4⟩
theorem i_list (a : SimE K B te fe) : SimI K B (iList K te) (fIL fe) := ⟨fun hl hm h k => a.run hl hm h fun x xv H1 ρ1 M1 g1 m1 rx ⟨ts, e, r⟩ => by
  obtain ⟨n, b, xs, rfl, hn, _, rfl, h3, h4⟩ := lstAt_ok m1 rx e
  refine ⟨b, rfl, ⟨xs, .inl (.inl h3)⟩, k _ _ (fun H ρ => ∃ m, Tr.ref n = .ref m ∧ ρ[m]? = some b) H1 ρ1 M1 g1 m1 ⟨fun g ⟨m, e, z⟩ => ⟨m, e, ext_get g.ext z⟩, fun s hm e => ?_, fun s hm e ei => ?_, fun s hm e ei y => ?_⟩ ⟨n, rfl, hn⟩ r⟩
  · obtain ⟨xs, h1, h2⟩ := lst_again (ρ' := []) (M' := []) (H' := fun _ => none) s hm e
    exact ⟨xs, .inl (.inl h1), by rw [h2.len]; exact Nat.le_refl _⟩
  · obtain ⟨xs, h1, h2⟩ := lst_again (ρ' := []) (M' := []) (H' := fun _ => none) s hm e
    obtain ⟨x, h3, _⟩ := h2.get ei
    exact ⟨xs, x, .inl (.inl h1), h3⟩
  · obtain ⟨xs, h1, h2⟩ := lst_again (ρ' := []) (M' := []) (H' := fun _ => none) s hm e
    obtain ⟨x, h3, h4⟩ := h2.get ei
    obtain ⟨rfl, y⟩ := y
    have := y xs (.inl (.inl h1))
    rw [h3] at this
    cases this
    exact ⟨Grow.refl, hm, h4⟩⟩
theorem i_tup (a : SimE K B te fe) : SimI K B (iTup K te) (fIT fe) := ⟨fun hl hm h k => a.run hl hm h fun x xv H1 ρ1 M1 g1 m1 rx ⟨ts, e, r⟩ => by
  obtain ⟨b, xs, rfl, h3, h4⟩ := tupOf_ok rx e
  refine ⟨b, rfl, ⟨xs, h3⟩, k _ _ (fun H ρ => SqT K H b xs ∧ RTs K H ρ ts xs) H1 ρ1 M1 g1 m1 ⟨fun g ⟨s1, s2⟩ => ⟨g.tup _ _ s1, s2.mono g⟩, fun s hm e => ?_, fun s hm e ei => ?_, fun s hm e ei y => ?_⟩ ⟨h3, h4⟩ r⟩
  · exact ⟨xs, s.1, by rw [s.2.len]; exact Nat.le_refl _⟩
  · obtain ⟨x, h3, _⟩ := s.2.get ei
    exact ⟨xs, x, s.1, h3⟩
  · obtain ⟨x, h3, h4⟩ := s.2.get ei
    obtain ⟨rfl, y⟩ := y
    have := y xs s.1
    rw [h3] at this
    cases this
    exact ⟨Grow.refl, hm, h4⟩⟩
theorem rngT_get {lo : Int} {n i : Nat} {t : Tr} (e : (rngT lo n)[i]? = some t) : i < n ∧ t = .int (lo + (i : Int)) := by
  unfold rngT at e
  by_cases h : i < n
  · rw [List.getElem?_map, List.getElem?_range h] at e
    cases e
    exact ⟨h, rfl⟩
  · rw [List.getElem?_eq_none (by rw [List.length_map, List.length_range]; omega)] at e
    cases e
theorem rngT_len (lo : Int) (n : Nat) : (rngT lo n).length = n := by unfold rngT; rw [List.length_map, List.length_range]
theorem itr_sim {lo : Int} {n : Nat} : ItSim K ⟨rngT lo n, fun _ => True⟩ (Itr lo n) (fun _ _ => True) :=
  ⟨fun _ s => s, fun _ _ _ => by show n ≤ (rngT lo n).length; rw [rngT_len]; exact Nat.le_refl _, fun _ _ _ e => (rngT_get e).1, fun _ hm _ e y => by
    obtain ⟨rfl, rfl⟩ := y
    rw [(rngT_get e).2]
    exact ⟨Grow.refl, hm, RT.int_⟩⟩
theorem i_rng1 (a : SimA K B ta fa) : SimI K B (iRng1 ta) (fIR1 fa) := ⟨fun hl hm h k => a.run hl hm h fun xs xvs H1 ρ1 M1 g1 m1 rx ⟨j, e, q1, q2, r⟩ => by
  subst e
  obtain ⟨xv, rfl, r1⟩ := rx.one
  exact ⟨j, by rw [r1.int_inv], q1, q2, k _ _ _ H1 ρ1 M1 g1 m1 itr_sim trivial r⟩⟩
theorem i_rng2 (a : SimA K B ta fa) : SimI K B (iRng2 ta) (fIR2 fa) := ⟨fun hl hm h k => a.run hl hm h fun xs xvs H1 ρ1 M1 g1 m1 rx ⟨i, j, e, q, r⟩ => by
  subst e
  obtain ⟨x, y, rfl, r1, r2⟩ := rx.two
  exact ⟨i, j, by rw [r1.int_inv, r2.int_inv], q, k _ _ _ H1 ρ1 M1 g1 m1 itr_sim trivial r⟩⟩
theorem i_str (a : SimE K B te fe) : SimI K B (iStr te) (fIS fe) := ⟨fun hl hm h k => a.run hl hm h fun x xv H1 ρ1 M1 g1 m1 rx ⟨z, e, r⟩ => by
  subst e
  refine ⟨z, rx.str_inv, k _ _ (fun _ _ => True) H1 ρ1 M1 g1 m1 ⟨fun _ s => s, fun _ _ _ => ?_, fun {H ρ M i t} _ _ _ e => ?_, fun {H ρ M i t x H'} _ hm _ e y => ?_⟩ trivial r⟩
  · show z.cps.size ≤ (chrsT z).length
    unfold chrsT
    rw [List.length_map, Array.length_toList]
    exact Nat.le_refl _
  · show i < z.cps.size
    have h := (List.getElem?_eq_some_iff.mp e).1
    have h2 : (chrsT z).length = z.cps.size := by unfold chrsT; rw [List.length_map, Array.length_toList]
    have h : i < (chrsT z).length := h
    omega
  · obtain ⟨rfl, c, h1, rfl⟩ := y
    have e : (chrsT z)[i]? = some t := e
    unfold chrsT at e
    rw [List.getElem?_map, Array.getElem?_toList, h1] at e
    cases e
    exact ⟨Grow.refl, hm, RT.str_⟩⟩

theorem pair_new {H : Hp} {ρ : List Addr} {M : Mem} {p : Addr} {a b : Tr} {x y : V} (hm : RM K H ρ M) (hp : H p = none) (r1 : RT K H ρ a x) (r2 : RT K H ρ b y) : Grow K H ρ (upd H p (.tup [x, y])) ρ ∧ RM K (upd H p (.tup [x, y])) ρ M ∧ RT K (upd H p (.tup [x, y])) ρ (.tup [a, b]) (.ref p) :=
  ⟨Grow.laid hp, hm.laid hp, by unfold RT; exact ⟨p, _, rfl, .inl (.inl upd_same), RTs.cons (r1.mono (Grow.laid hp)) (RTs.cons (r2.mono (Grow.laid hp)) RTs.nil)⟩⟩
theorem i_enum (a : SimA K B ta fa) : SimI K B (iEnum K ta) (fIEn fa) := ⟨fun hl hm h k => a.run hl hm h fun xs xvs H1 ρ1 M1 g1 m1 rx ⟨x, ts, e, e1, r⟩ => by
  subst e
  obtain ⟨xv, rfl, r1⟩ := rx.one
  obtain ⟨n, b, us, rfl, hn, _, rfl, h3, h4⟩ := lstAt_ok m1 r1 e1
  refine ⟨b, us, rfl, .inl (.inl h3), k _ _ (fun H ρ => ∃ m, Tr.ref n = .ref m ∧ ρ[m]? = some b) H1 ρ1 M1 g1 m1 ⟨fun g ⟨m, e, z⟩ => ⟨m, e, ext_get g.ext z⟩, fun s hm e => ?_, fun s hm e ei => ?_, fun s hm e ei y => ?_⟩ ⟨n, rfl, hn⟩ r⟩
  · obtain ⟨xs, h1, h2⟩ := lst_again (ρ' := []) (M' := []) (H' := fun _ => none) s hm e
    exact ⟨xs, .inl (.inl h1), by rw [h2.len]; show _ ≤ (enumT 0 ts).length; rw [enumT_len]; exact Nat.le_refl _⟩
  · obtain ⟨xs, h1, h2⟩ := lst_again (ρ' := []) (M' := []) (H' := fun _ => none) s hm e
    obtain ⟨u, hu, _⟩ := enumT_get ei
    obtain ⟨x, h3, _⟩ := h2.get hu
    exact ⟨xs, x, .inl (.inl h1), h3⟩
  · obtain ⟨xs, h1, h2⟩ := lst_again (ρ' := []) (M' := []) (H' := fun _ => none) s hm e
    obtain ⟨u, hu, e2⟩ := enumT_get ei
    obtain ⟨x, h3, h5⟩ := h2.get hu
    obtain ⟨p, w, rfl, hp, rfl, y⟩ := y
    have := y xs (.inl (.inl h1))
    rw [h3] at this
    cases this
    rw [e2, Nat.zero_add]
    exact pair_new hm hp RT.int_ h5⟩
theorem i_zip (a : SimA K B ta fa) : SimI K B (iZip K ta) (fIZ fa) := ⟨fun hl hm h k => a.run hl hm h fun xs xvs H1 ρ1 M1 g1 m1 rx ⟨x, y, ts, us, e, e1, e2, r⟩ => by
  subst e
  obtain ⟨xv, yv, rfl, r1, r2⟩ := rx.two
  obtain ⟨n, b, xs, rfl, hn, _, rfl, h3, h4⟩ := lstAt_ok m1 r1 e1
  obtain ⟨n', b', ys, rfl, hn', _, rfl, h3', h4'⟩ := lstAt_ok m1 r2 e2
  refine ⟨b, b', xs, ys, rfl, .inl (.inl h3), .inl (.inl h3'), k _ _ (fun H ρ => (∃ m, Tr.ref n = .ref m ∧ ρ[m]? = some b) ∧ ∃ m, Tr.ref n' = .ref m ∧ ρ[m]? = some b') H1 ρ1 M1 g1 m1
    ⟨fun g ⟨⟨m, e, z⟩, ⟨m', e', z'⟩⟩ => ⟨⟨m, e, ext_get g.ext z⟩, ⟨m', e', ext_get g.ext z'⟩⟩, fun s hm e => ?_, fun s hm e ei => ?_, fun s hm e ei y => ?_⟩ ⟨⟨n, rfl, hn⟩, ⟨n', rfl, hn'⟩⟩ r⟩
  · obtain ⟨xs, h1, h2⟩ := lst_again (ρ' := []) (M' := []) (H' := fun _ => none) s.1 hm e.1
    obtain ⟨ys, h1', h2'⟩ := lst_again (ρ' := []) (M' := []) (H' := fun _ => none) s.2 hm e.2
    refine ⟨xs, ys, .inl (.inl h1), .inl (.inl h1'), ?_⟩
    rw [h2.len, h2'.len]
    show _ ≤ (zipT ts us).length ∨ _ ≤ (zipT ts us).length
    rw [zipT_len]
    omega
  · obtain ⟨xs, h1, h2⟩ := lst_again (ρ' := []) (M' := []) (H' := fun _ => none) s.1 hm e.1
    obtain ⟨ys, h1', h2'⟩ := lst_again (ρ' := []) (M' := []) (H' := fun _ => none) s.2 hm e.2
    obtain ⟨u, v, hu, hv, _⟩ := zipT_get ei
    obtain ⟨x, h3, _⟩ := h2.get hu
    obtain ⟨y, h3', _⟩ := h2'.get hv
    exact ⟨xs, ys, x, y, .inl (.inl h1), .inl (.inl h1'), h3, h3'⟩
  · obtain ⟨xs, h1, h2⟩ := lst_again (ρ' := []) (M' := []) (H' := fun _ => none) s.1 hm e.1
    obtain ⟨ys, h1', h2'⟩ := lst_again (ρ' := []) (M' := []) (H' := fun _ => none) s.2 hm e.2
    obtain ⟨u, v, hu, hv, e3⟩ := zipT_get ei
    obtain ⟨x, h3, h5⟩ := h2.get hu
    obtain ⟨x', h3', h5'⟩ := h2'.get hv
    obtain ⟨p, w, w', rfl, hp, rfl, z, z'⟩ := y
    have q1 := z xs (.inl (.inl h1))
    have q2 := z' ys (.inl (.inl h1'))
    rw [h3] at q1
    rw [h3'] at q2
    cases q1
    cases q2
    rw [e3]
    exact pair_new hm hp h5 h5'⟩
end
/-! ### for, while, comprehensions -/
theorem forget_at {K : PySem.W.Frag} {B : Bs} {H : Hp} {ρ : List Addr} {L : Loc} {σ : L2.St} {M : Mem} {k : Nat} {J : Loc → Mem → Prop} (hl : RX K B H ρ L σ) (hm : RM K H ρ M) (f : Forget k J L M) (hB : B.2.length ≤ k) :
    ∃ ρ' L' M', RX K B H ρ' L' σ ∧ RM K H ρ' M' ∧ J L' M' ∧ ∀ {H0 : Hp} {ρ0 : List Addr}, ρ0.length ≤ k → Grow K H0 ρ0 H ρ → Grow K H0 ρ0 H ρ' := by
  obtain ⟨n, L', hn, le, bl, bm, j⟩ := f
  exact ⟨ρ.take n, L', M.take n, ⟨(hl.rl.le le).cut bl, hl.gr.cut (Nat.le_trans hB hn)⟩, hm.cut bm, j, fun h g => g.cut (Nat.le_trans h hn)⟩
def fFor (fi : FI) (fg : FG) (fb : FS) : FS := fun D L M => fi L M fun it M1 => ∃ I : Nat → Loc → Mem → Prop, I 0 L M1 ∧ (∀ i L2 M2, i ≤ it.items.length → I i L2 M2 → it.ok M2) ∧
  (∀ (i : Nat) (t : Tr) L2 M2, it.items[i]? = some t → I i L2 M2 → fg t L2 M2 fun L3 M3 => fb { D with nx := Forget M1.length (I (i + 1)), ct := Forget M1.length (I (i + 1)), bk := D.nx } L3 M3) ∧ (∀ L2 M2, I it.items.length L2 M2 → D.nx L2 M2)
def fWhile (ft : FT) (fb : FS) : FS := fun D L M => ∃ W : Nat → Loc → Mem → Prop, (∃ m, W m L M) ∧ ∀ m L1 M1, W m L1 M1 → ft L1 M1 fun b M2 =>
  if b = true then fb { D with nx := Forget M.length (fun L' M' => ∃ m', m' < m ∧ W m' L' M'), ct := Forget M.length (fun L' M' => ∃ m', m' < m ∧ W m' L' M'), bk := D.nx } L1 M2 else D.nx L1 M2
section
variable {K : PySem.W.Frag} {B : Bs} {wi : TI} {fi : FI} {g : TG} {fg : FG} {tb : TS} {fb : FS} {tt : TT} {ft : FT} {te : TE} {fe : FE}
theorem base_len {H : Hp} {ρ : List Addr} {L : Loc} {σ : L2.St} {M : Mem} (hl : RX K B H ρ L σ) (hm : RM K H ρ M) : B.2.length ≤ M.length := by
  obtain ⟨t, e⟩ := hl.gr.ext
  rw [← hm.len, e, List.length_append]
  exact Nat.le_add_right _ _
theorem sim_for (hi : SimI K B wi fi) (hg : SimG K B g fg) (hb : SimS K B tb fb) : SimS K B (tFor wi g tb) (fFor fi fg fb) := ⟨fun {σ H ρ L M D' D} hl hm h e => hi.run hl hm h fun it J S H1 ρ1 M1 g1 m1 is s1 ⟨I, i0, iok, ist, ien⟩ => by
  have hB := base_len (hl.mono g1) m1
  have hk : ρ1.length ≤ M1.length := Nat.le_of_eq m1.len
  refine ⟨fun i m σ H => m = it.items.length - i ∧ i ≤ it.items.length ∧ ∃ ρ L M, Grow K H1 ρ1 H ρ ∧ RX K B H ρ L σ ∧ RM K H ρ M ∧ I i L M, ⟨it.items.length, by omega, Nat.zero_le _, ρ1, L, M1, Grow.refl, hl.mono g1, m1, i0⟩, ?_⟩
  rintro i m σ2 H2 ⟨rfl, hi', ρ2, L2, M2, g2, l2, m2, iv⟩
  have s2 := is.st g2 s1
  have ok2 := iok i L2 M2 hi' iv
  by_cases hlt : i < it.items.length
  · obtain ⟨t, et⟩ : ∃ t, it.items[i]? = some t := ⟨_, List.getElem?_eq_getElem hlt⟩
    refine .inr ⟨is.go s2 m2 ok2 et, fun σ H => ∃ ρ L M, Grow K H1 ρ1 H ρ ∧ RX K B H ρ L σ ∧ RM K H ρ M ∧ I (i + 1) L M, fun σ' H' z => ⟨it.items.length - (i + 1), by omega, rfl, hlt, z⟩, fun x H3 y => ?_⟩
    obtain ⟨g3, m3, rx⟩ := is.yld s2 m2 ok2 et y
    refine hg.run (l2.mono g3) m3 rx (ist i t L2 M2 et iv) fun L4 σ4 H4 ρ4 M4 g4 l4 m4 p4 => hb.run l4 m4 p4 ?_
    have g24 := (g2.trans g3).trans g4
    have nx : OutL K B H4 ρ4 (Forget M1.length (I (i + 1))) (fun σ H => ∃ ρ L M, Grow K H1 ρ1 H ρ ∧ RX K B H ρ L σ ∧ RM K H ρ M ∧ I (i + 1) L M) := fun L5 σ5 H5 ρ5 M5 g5 l5 m5 p5 => by
      obtain ⟨ρ6, L6, M6, l6, m6, j6, up⟩ := forget_at l5 m5 p5 hB
      exact ⟨ρ6, L6, M6, up hk (g24.trans g5), l6, m6, j6⟩
    exact ⟨nx, e.rt.step (g1.trans g24), e.nx.step (g1.trans g24), nx⟩
  · have e1 : i = it.items.length := by omega
    subst e1
    exact .inl ⟨is.stop s2 m2 ok2, e.nx _ _ _ _ _ (g1.trans g2) l2 m2 (ien L2 M2 iv)⟩⟩
theorem sim_while (hc : SimT K B tt ft) (hb : SimS K B tb fb) : SimS K B (tWhile tt tb) (fWhile ft fb) := ⟨fun {σ H ρ L M D' D} hl hm ⟨W, ⟨m0, w0⟩, st⟩ e => by
  have hB := base_len hl hm
  have hk : ρ.length ≤ M.length := Nat.le_of_eq hm.len
  refine ⟨fun m σ1 H1 => ∃ ρ1 L1 M1, Grow K H ρ H1 ρ1 ∧ RX K B H1 ρ1 L1 σ1 ∧ RM K H1 ρ1 M1 ∧ W m L1 M1, ⟨m0, ρ, L, M, Grow.refl, hl, hm, w0⟩, ?_⟩
  rintro m σ1 H1 ⟨ρ1, L1, M1, g1, l1, m1, w1⟩
  refine hc.run l1 m1 (st m L1 M1 w1) fun b H2 ρ2 M2 g2 m2 p2 => ?_
  cases b with
  | false =>
    rw [if_neg (by decide)] at p2
    exact e.nx _ _ _ _ _ (g1.trans g2) (l1.mono g2) m2 p2
  | true =>
    rw [if_pos rfl] at p2
    refine ⟨fun σ3 H3 => ∃ m', m' < m ∧ ∃ ρ1 L1 M1, Grow K H ρ H3 ρ1 ∧ RX K B H3 ρ1 L1 σ3 ∧ RM K H3 ρ1 M1 ∧ W m' L1 M1, fun _ _ z => z, hb.run (l1.mono g2) m2 p2 ?_⟩
    have nx : OutL K B H2 ρ2 (Forget M.length (fun L' M' => ∃ m', m' < m ∧ W m' L' M')) (fun σ3 H3 => ∃ m', m' < m ∧ ∃ ρ1 L1 M1, Grow K H ρ H3 ρ1 ∧ RX K B H3 ρ1 L1 σ3 ∧ RM K H3 ρ1 M1 ∧ W m' L1 M1) := fun L5 σ5 H5 ρ5 M5 g5 l5 m5 p5 => by
      obtain ⟨ρ6, L6, M6, l6, m6, ⟨m', hm', j6⟩, up⟩ := forget_at l5 m5 p5 hB
      exact ⟨m', hm', ρ6, L6, M6, up hk ((g1.trans g2).trans g5), l6, m6, j6⟩
    exact ⟨nx, e.rt.step (g1.trans g2), e.nx.step (g1.trans g2), nx⟩⟩
end
end Fm

set_option Elab.async false
set_option linter.all false
set_option maxRecDepth 100000
set_option maxHeartbeats 4000000
namespace Fm
open PySem PySem.Spec PyProof.Rows L2
/-! ### list comprehensions -/
def wipeF (L : Loc) : List Nat → Loc
  | [] => L
  | v :: vs => (wipeF L vs).set v none
def ForgetA (k : Nat) (J : List Tr → Mem → Prop) : List Tr → Mem → Prop := fun acc M => ∃ n, k ≤ n ∧ Tr.bels n acc = true ∧ belM n (M.take n) = true ∧ J acc (M.take n)
def fLc (fi : FI) (fg : FG) (ft : FT) (fe : FE) (vs : List Nat) : FE := fun L M P => fi L M fun it M1 => ∃ I : Nat → List Tr → Mem → Prop, I 0 [] M1 ∧ (∀ i acc M2, i ≤ it.items.length → I i acc M2 → it.ok M2) ∧
  (∀ (i : Nat) (t : Tr) acc M2, it.items[i]? = some t → I i acc M2 → fg t (wipeF L vs) M2 fun L3 M3 => ft L3 M3 fun b M4 => if b = true then fe L3 M4 fun y M5 => acc.length < sizeLine ∧ ForgetA M1.length (I (i + 1)) (acc ++ [y]) M5 else ForgetA M1.length (I (i + 1)) acc M4) ∧
  (∀ acc M2, I it.items.length acc M2 → P (.ref M2.length) (M2 ++ [.lst acc]))
structure SimGw (K : PySem.W.Frag) (B : Bs) (vs : List Nat) (g : TG) (fg : FG) : Prop where
  run : ∀ {σ H ρ L M x xv P Q}, RX K B H ρ L σ → RM K H ρ M → RT K H ρ x xv → fg x L M P → (∀ L' σ' H' ρ' M', Grow K H ρ H' ρ' → RX K B H' ρ' L' σ' → RM K H' ρ' M' → wipe σ' vs = wipe σ vs → P L' M' → Q σ' H') → g xv σ H Q
structure SimGsw (K : PySem.W.Frag) (B : Bs) (vs : List Nat) (g : TGs) (fg : List Tr → Loc → Mem → (Loc → Mem → Prop) → Prop) : Prop where
  run : ∀ {σ H ρ L M xs xvs P Q}, RX K B H ρ L σ → RM K H ρ M → RTs K H ρ xs xvs → fg xs L M P → (∀ L' σ' H' ρ' M', Grow K H ρ H' ρ' → RX K B H' ρ' L' σ' → RM K H' ρ' M' → wipe σ' vs = wipe σ vs → P L' M' → Q σ' H') → g xvs σ H Q
theorem wipe_at (σ : L2.St) (j : Nat) : ∀ vs : List Nat, (wipe σ vs)[j]? = if j ∈ vs then σ[j]?.map (fun _ => none) else σ[j]?
  | [] => by simp [wipe]
  | v :: vs => by
    unfold wipe
    have ih := wipe_at σ j vs
    by_cases h : v = j
    · subst h
      rw [if_pos List.mem_cons_self, List.getElem?_set, if_pos rfl, wipe_length]
      by_cases hl : v < σ.length
      · rw [if_pos hl, List.getElem?_eq_getElem hl]; rfl
      · rw [if_neg hl, List.getElem?_eq_none (by omega)]; rfl
    · rw [List.getElem?_set_ne h, ih]
      by_cases hj : j ∈ vs
      · rw [if_pos hj, if_pos (List.mem_cons_of_mem _ hj)]
      · rw [if_neg hj, if_neg (fun z => by
          rcases List.mem_cons.mp z with z | z
          · exact h z.symm
          · exact hj z)]
theorem wipe_set {σ : L2.St} {vs : List Nat} {i : Nat} {x : Option V} (h : i ∈ vs) : wipe (σ.set i x) vs = wipe σ vs := by
  refine List.ext_getElem? fun j => ?_
  rw [wipe_at, wipe_at]
  by_cases hj : j ∈ vs
  · rw [if_pos hj, if_pos hj, List.getElem?_set]
    split
    · split
      · rename_i h1 h2
        subst h1
        rw [List.getElem?_eq_getElem h2]; rfl
      · rename_i h1 h2
        subst h1
        rw [List.getElem?_eq_none (by omega)]
    · rfl
  · rw [if_neg hj, if_neg hj, List.getElem?_set_ne (show i ≠ j from fun z => hj (by rw [← z]; exact h))]
theorem wipe_idem {σ : L2.St} {vs : List Nat} : wipe (wipe σ vs) vs = wipe σ vs := by
  refine List.ext_getElem? fun j => ?_
  rw [wipe_at, wipe_at]
  by_cases hj : j ∈ vs
  · rw [if_pos hj, if_pos hj]
    cases σ[j]? <;> rfl
  · rw [if_neg hj, if_neg hj]
section
variable {K : PySem.W.Frag} {B : Bs} {H H1 H' : Hp} {ρ ρ1 ρ' : List Addr}
theorem RL.setNone : ∀ {L : Loc} {σ : L2.St} (i : Nat) (x : Option V), RL K H ρ L σ → RL K H ρ (L.set i none) (σ.set i x)
  | [], _, _, _, h => by
    have h : _ = ([] : L2.St) := h
    subst h
    exact rfl
  | u :: L, _, 0, x, h => by
    obtain ⟨v, τ, rfl, h2, h3⟩ := h
    exact ⟨_, _, rfl, trivial, h3⟩
  | u :: L, _, i + 1, x, h => by
    obtain ⟨v, τ, rfl, h2, h3⟩ := h
    exact ⟨_, _, rfl, h2, RL.setNone i x h3⟩
theorem RL.wipe {L : Loc} {σ : L2.St} (h : RL K H ρ L σ) : ∀ vs : List Nat, RL K H ρ (wipeF L vs) (L2.wipe σ vs)
  | [] => h
  | v :: vs => RL.setNone v none (RL.wipe h vs)
theorem RX.wipe {L : Loc} {σ : L2.St} (h : RX K B H ρ L σ) (vs : List Nat) : RX K B H ρ (wipeF L vs) (L2.wipe σ vs) := ⟨h.rl.wipe vs, h.gr⟩
theorem sim_namew {vs : List Nat} {i : Nat} (hi : i ∈ vs) : SimGw K B vs (gName i) (fName i) := ⟨fun hl hm rx p o => o _ _ _ _ _ Grow.refl (hl.set rx i) hm (wipe_set hi) p⟩
theorem sim_gnilw {vs : List Nat} : SimGsw K B vs gNil fGNil := ⟨fun hl hm rx ⟨e, p⟩ o => by
  subst e
  unfold RTs at rx
  exact ⟨rx, o _ _ _ _ _ Grow.refl hl hm rfl p⟩⟩
theorem sim_gconsw {vs : List Nat} {g : TG} {fg : FG} {gs : TGs} {fgs : List Tr → Loc → Mem → (Loc → Mem → Prop) → Prop} (a : SimGw K B vs g fg) (b : SimGsw K B vs gs fgs) : SimGsw K B vs (gCons g gs) (fGCons fg fgs) := ⟨fun hl hm rx ⟨t, us, e, p⟩ o => by
  subst e
  unfold RTs at rx
  obtain ⟨x, ys, rfl, r1, r2⟩ := rx
  exact ⟨x, ys, rfl, a.run hl hm r1 p fun L1 σ1 H1 ρ1 M1 g1 l1 m1 w1 p1 => b.run l1 m1 (r2.mono g1) p1 fun L2 σ2 H2 ρ2 M2 g2 l2 m2 w2 p2 => o _ _ _ _ _ (g1.trans g2) l2 m2 (w2.trans w1) p2⟩⟩
theorem sim_gtupw {vs : List Nat} {n : Nat} {gs : TGs} {fgs : List Tr → Loc → Mem → (Loc → Mem → Prop) → Prop} (b : SimGsw K B vs gs fgs) : SimGw K B vs (gTup K n gs) (fGTup n fgs) := ⟨fun hl hm rx ⟨ts, e, en, p⟩ o => by
  obtain ⟨a, xs, h1, h2, h3⟩ := tupOf_ok rx e
  exact ⟨a, xs, h1, h2, by rw [h3.len]; exact en, b.run hl hm h3 p o⟩⟩
theorem notin_grow {D : Addr} {xs : List V} (g : Grow K H ρ H' ρ') (hD : H D = some (.lst xs)) (n : D ∉ ρ) : D ∉ ρ' := fun z => by
  obtain ⟨ps, e⟩ := g.new D z n _ hD
  cases e
theorem oth_lst {D : Addr} {xs : List V} (g : Grow K H ρ H' ρ') (hD : H D = some (.lst xs)) (n : D ∉ ρ) : H' D = some (.lst xs) := g.oth _ _ hD n (fun _ z => nomatch z)
theorem Grow.updD {D : Addr} {xs ys : List V} (g : Grow K H1 ρ1 H ρ) (h1 : H1 D = none) (hD : H D = some (.lst xs)) : Grow K H1 ρ1 (upd H D (.lst ys)) ρ :=
  ⟨g.ext, fun _ _ h => sqt_upd (g.tup _ _ h) (.inr (.inl ⟨xs, hD⟩)), fun a o h n nt => by rw [upd_ne (ne_of_none h h1)]; exact g.oth a o h n nt, g.new, fun c q i h => cod_upd (.inr (.inl ⟨xs, hD⟩)) c q i (g.cod c q i h)⟩
theorem RM.updD {M : Mem} {D : Addr} {xs ys : List V} (r : RM K H ρ M) (hD : H D = some (.lst xs)) (n : D ∉ ρ) : RM K (upd H D (.lst ys)) ρ M := by
  have g : Gw K H ρ (upd H D (.lst ys)) ρ := ⟨⟨[], by simp⟩, fun _ _ h => sqt_upd h (.inr (.inl ⟨xs, hD⟩)), fun c q i h => cod_upd (.inr (.inl ⟨xs, hD⟩)) c q i h⟩
  exact ⟨r.len, fun k o e => let ⟨a, h1, h2⟩ := r.at_ k o e; ⟨a, h1, h2.mono0 g (upd_ne fun z => n (z ▸ List.mem_of_getElem? h1)) fun d q => by rw [upd_ne (ne_of q hD (fun z => nomatch z))]; exact q⟩, r.nd⟩
theorem RTs.updD {D : Addr} {xs ys : List V} {ts : List Tr} {vs : List V} (h : RTs K H ρ ts vs) (hD : H D = some (.lst xs)) : RTs K (upd H D (.lst ys)) ρ ts vs :=
  RTs.mono0 ⟨⟨[], by simp⟩, fun _ _ h => sqt_upd h (.inr (.inl ⟨xs, hD⟩)), fun c q i h => cod_upd (.inr (.inl ⟨xs, hD⟩)) c q i h⟩ h
theorem RM.addD {M : Mem} {D : Addr} {xs : List V} {ts : List Tr} (r : RM K H ρ M) (hD : H D = some (.lst xs)) (n : D ∉ ρ) (h : RTs K H ρ ts xs) : RM K H (ρ ++ [D]) (M ++ [.lst ts]) := by
  have g : Gw K H ρ H (ρ ++ [D]) := ⟨⟨[D], rfl⟩, fun _ _ h => h, fun _ _ _ h => h⟩
  have lt := r.len
  refine ⟨by simp [lt], fun k o e => ?_, ?_⟩
  · by_cases hn : k < M.length
    · rw [List.getElem?_append_left hn] at e
      obtain ⟨a, h1, h2⟩ := r.at_ k o e
      exact ⟨a, by rw [List.getElem?_append_left (by rw [lt]; exact hn)]; exact h1, h2.mono0 g rfl fun d q => q⟩
    · rw [List.getElem?_append_right (by omega)] at e
      match hz : k - M.length, e with
      | 0, e =>
        cases e
        exact ⟨D, by rw [List.getElem?_append_right (by omega), lt, hz]; rfl, xs, hD, RTs.mono0 g h⟩
      | j + 1, e => simp at e
  · rw [List.nodup_append]
    exact ⟨r.nd, by simp, fun a ha b hb => by rw [List.mem_singleton.mp hb]; exact fun e => n (e ▸ ha)⟩
variable {wi : TI} {fi : FI} {g : TG} {fg : FG} {tt : TT} {ft : FT} {te : TE} {fe : FE} {vs : List Nat}
theorem sim_lc (hi : SimI K B wi fi) (hg : SimGw K B vs g fg) (ht : SimT K B tt ft) (he : SimE K B te fe) : SimE K B (tLc wi g tt te vs) (fLc fi fg ft fe vs) := ⟨fun {σ H ρ L M P Q} hl hm h o => hi.run hl hm h fun it J S H1 ρ1 M1 g1 m1 is s1 ⟨I, i0, iok, ist, ien⟩ => by
  intro D hD
  have hB := base_len (hl.mono g1) m1
  have hk : ρ1.length ≤ M1.length := Nat.le_of_eq m1.len
  let W : Nat → Nat → Hp → Prop := fun i m H2 => m = it.items.length - i ∧ i ≤ it.items.length ∧ ∃ acc xs ρ2 M2, H2 D = some (.lst xs) ∧ D ∉ ρ2 ∧ Grow K H1 ρ1 H2 ρ2 ∧ RM K H2 ρ2 M2 ∧ RTs K H2 ρ2 acc xs ∧ I i acc M2
  refine ⟨W, ⟨it.items.length, by omega, Nat.zero_le _, [], [], ρ1, M1, upd_same, m1.fresh hD, Grow.laid hD, m1.laid hD, RTs.nil, i0⟩, ?_⟩
  rintro i m H2 ⟨rfl, hi', acc, xs, ρ2, M2, hD2, nD2, g2, m2, ra, iv⟩
  have s2 := is.st g2 s1
  have ok2 := iok i acc M2 hi' iv
  by_cases hlt : i < it.items.length
  · obtain ⟨t, et⟩ : ∃ t, it.items[i]? = some t := ⟨_, List.getElem?_eq_getElem hlt⟩
    refine .inr ⟨is.go s2 m2 ok2 et, W (i + 1) (it.items.length - (i + 1)), fun H' z => ⟨it.items.length - (i + 1), by omega, z⟩, fun x H3 y => ?_⟩
    obtain ⟨g3, m3, rx⟩ := is.yld s2 m2 ok2 et y
    refine hg.run ((hl.mono (g1.trans (g2.trans g3))).wipe vs) m3 rx (ist i t acc M2 et iv) fun L4 σ4 H4 ρ4 M4 g4 l4 m4 w4 p4 => ⟨w4.trans wipe_idem, ht.run l4 m4 p4 fun b H5 ρ5 M5 g5 m5 p5 => ?_⟩
    have g25 := (g3.trans g4).trans g5
    have hD5 := oth_lst g25 hD2 nD2
    have nD5 := notin_grow g25 hD2 nD2
    have ra5 := ra.mono g25
    cases b with
    | false =>
      rw [if_neg (by decide)] at p5 ⊢
      obtain ⟨n, hn, ba, bm, j⟩ := p5
      exact ⟨rfl, hlt, acc, xs, ρ5.take n, M5.take n, hD5, fun z => nD5 (List.mem_of_mem_take z), (g2.trans g25).cut (Nat.le_trans hk hn), m5.cut bm, RTs.cutN ra5 ba, j⟩
    | true =>
      rw [if_pos rfl] at p5 ⊢
      refine he.run (l4.mono g5) m5 p5 fun v xv H6 ρ6 M6 g6 m6 ry ⟨z, n, hn, ba, bm, j⟩ => ?_
      have hD6 := oth_lst g6 hD5 nD5
      have nD6 := notin_grow g6 hD5 nD5
      have ra6 := (ra5.mono g6).app (RTs.cons ry RTs.nil)
      refine ⟨xs, hD6, by rw [ra.len]; exact z, rfl, hlt, acc ++ [v], xs ++ [xv], ρ6.take n, M6.take n, upd_same, fun z => nD6 (List.mem_of_mem_take z), (((g2.trans g25).trans g6).cut (Nat.le_trans hk hn)).updD hD hD6, (m6.cut bm).updD hD6 (fun z => nD6 (List.mem_of_mem_take z)), (RTs.cutN ra6 ba).updD hD6, j⟩
  · have e1 : i = it.items.length := by omega
    subst e1
    refine .inl ⟨is.stop s2 m2 ok2, o (.ref M2.length) (.ref D) H2 (ρ2 ++ [D]) (M2 ++ [.lst acc]) (g1.trans ?_) (m2.addD hD2 nD2 ra) (by unfold RT; exact ⟨D, m2.ref, rfl⟩) (ien acc M2 iv)⟩
    obtain ⟨t, e⟩ := g2.ext
    exact ⟨⟨t ++ [D], by rw [e, List.append_assoc]⟩, g2.tup, g2.oth, fun a ha hn o ho => by
      rcases List.mem_append.mp ha with ha | ha
      · exact g2.new a ha hn o ho
      · rw [List.mem_singleton.mp ha, hD] at ho
        (cases ho), g2.cod⟩⟩
theorem sim_yes : SimT K B tYes (fun _ M P => P true M) := ⟨fun _ hm p o => o _ _ _ _ Grow.refl hm p⟩
end
/-! ### a def's body -/
def startL (N : List Str) (ts : List Tr) : Loc := ts.map some ++ List.replicate (N.length - ts.length) none
/-- what is handed back; what lies behind place n is forgotten -/
def Keep (k : Nat) (P : PF) : PF := fun v M => ∃ n, k ≤ n ∧ Tr.bel n v = true ∧ belM n (M.take n) = true ∧ P v (M.take n)
def KeepX (k : Nat) (P : PXF) : PXF := fun C fs M => ∃ n, k ≤ n ∧ belF n fs = true ∧ belM n (M.take n) = true ∧ P C fs (M.take n)
section
variable {K : PySem.W.Frag} {H : Hp} {ρ : List Addr}
theorem RL.nones : ∀ (n : Nat) (xs : List (Option V)), xs.length = n → RL K H ρ (List.replicate n none) xs
  | 0, [], _ => rfl
  | n + 1, x :: xs, h => ⟨x, xs, rfl, trivial, RL.nones n xs (by simpa using h)⟩
theorem RL.start : ∀ {ts : List Tr} {vs : List V} {L : Loc} {τ : L2.St}, RTs K H ρ ts vs → RL K H ρ L τ → RL K H ρ (ts.map some ++ L) (vs.map some ++ τ)
  | [], _, _, _, h, k => by
    unfold RTs at h
    subst h
    exact k
  | t :: ts, _, _, _, h, k => by
    unfold RTs at h
    obtain ⟨x, ys, rfl, h1, h2⟩ := h
    exact ⟨some x, _, rfl, ⟨x, rfl, h1⟩, RL.start h2 k⟩
theorem out_keep {P : PF} {Q : VK} (o : Out K H ρ P Q) : Out K H ρ (Keep ρ.length P) Q := fun v x H' ρ' M' g m r ⟨n, hn, b, bm, p⟩ => o v x H' (ρ'.take n) (M'.take n) (g.cut hn) (m.cut bm) (r.cut b) p
theorem XR.cut {fs : List (Str × Tr)} {d : Option Addr} {n : Nat} (x : XR K H ρ fs d) (b : belF n fs = true) : XR K H (ρ.take n) fs d := by
  rcases x with x | ⟨dd, gs, h1, h2, h3⟩
  · exact .inl x
  · exact .inr ⟨dd, gs, h1, h2, h3.cut b⟩
theorem outX_keep {P : PXF} {E : XK} (o : OutX K H ρ P E) : OutX K H ρ (KeepX ρ.length P) E := fun C fs d H' ρ' M' g m r ⟨n, hn, b, bm, p⟩ => o C fs d H' (ρ'.take n) (M'.take n) (g.cut hn) (m.cut bm) (r.cut b) p
/-- a def's body, said of trees: the wish of its caller, from the promise -/
theorem run_body {N : List Str} {t : TS} {fs : PXF → FS} {fsp : FSp} {vs : List V} {Q : VK} {E : XK} (h : spF K fsp vs H Q E)
    (sim : ∀ (B : Bs) (PX : PXF), OutX K B.1 B.2 PX E → SimS K B t (fs PX))
    (sp : ∀ ts M P PX, fsp ts M P PX → fs (KeepX M.length PX) { nx := fun _ M' => Keep M.length P .non M', rt := Keep M.length P } (startL N ts) M) :
    t { nx := fun _ H' => Q .non H', rt := Q } (L2.start N vs) H := by
  obtain ⟨ts, ρ, M, P, PX, r, m, h, o, ox⟩ := h
  have s := sim (H, ρ) (KeepX M.length PX) (by rw [← m.len]; exact outX_keep ox)
  have hl : RX K (H, ρ) H ρ (startL N ts) (L2.start N vs) := ⟨by
    unfold startL L2.start
    rw [← r.len]
    exact RL.start r (RL.nones _ _ (by simp)), Grow.refl⟩
  have o' : Out K H ρ (Keep M.length P) Q := by rw [← m.len]; exact out_keep o
  exact s.run hl m (sp ts M P PX h) ⟨fun L σ H' ρ' M' g _ m' p => o' .non .non H' ρ' M' g m' RT.non_ p, o', fun _ _ _ _ _ _ _ _ p => p.elim, fun _ _ _ _ _ _ _ _ p => p.elim⟩
end
end Fm

set_option Elab.async false
set_option linter.all false
set_option maxRecDepth 100000
set_option maxHeartbeats 4000000
namespace Fm
open PySem PySem.Spec PyProof.Rows L2
/-! ### texts -/
def fAddS : F2 := fun x y M P => ∃ i j, x = .str i ∧ y = .str j ∧ i.length + j.length ≤ sizeLine ∧ P (.str (i ++ j)) M
def fLeS : F2 := fun x y M P => ∃ i j : Str, x = .str i ∧ y = .str j ∧ P (.bl (!decide (j.cps.toList < i.cps.toList))) M
def fLtS : F2 := fun x y M P => ∃ i j : Str, x = .str i ∧ y = .str j ∧ P (.bl (decide (i.cps.toList < j.cps.toList))) M
def fM0b (g : Str → Bool) : Tr → FC := fun x xs M P => ∃ a, x = .str a ∧ xs = [] ∧ P (.bl (g a)) M
def fM1b (g : Str → Str → Bool) : Tr → FC := fun x xs M P => ∃ a b, x = .str a ∧ xs = [.str b] ∧ P (.bl (g a b)) M
def fSplit : Tr → FC := fun x xs M P => ∃ a b, x = .str a ∧ xs = [.str b] ∧ (b.length == 0) = false ∧ a.length + 2 ≤ sizeLine ∧ P (.ref M.length) (M ++ [.lst ((Txt.split a b).map Tr.str)])
def fJoin : Tr → FC := fun x xs M P => ∃ a y, ∃ ys : List Str, x = .str a ∧ xs = [y] ∧ seqAt M y = some (ys.map Tr.str) ∧ (ys.map (·.length)).sum + ys.length * a.length ≤ 16777216 ∧ P (.str (Txt.join a ys)) M
def fmtS : Tr → Str
  | .str y => y
  | .int i => toString i
  | _ => Str.empty
def fmtOk : Tr → Prop
  | .str y => y.length ≤ sizeLine
  | .int i => i.natAbs.log2 < 1920
  | _ => False
theorem fmtS_i (i : Int) : fmtS (.int i) = toString i := rfl
theorem fmtS_s (i : Str) : fmtS (.str i) = i := rfl
theorem fmtOk_i (i : Int) : fmtOk (.int i) = (i.natAbs.log2 < 1920) := rfl
theorem fmtOk_s (i : Str) : fmtOk (.str i) = (i.length ≤ sizeLine) := rfl
def fFmt (fe : FE) : FE := fun L M P => fe L M fun x M1 => fmtOk x ∧ P (.str (fmtS x)) M1
def fJs : List FE → Str → Loc → Mem → (Str → Mem → Prop) → Prop
  | [], acc, _, M, P => P acc M
  | f :: fs, acc, L, M, P => f L M fun x M1 => ∃ y : Str, x = .str y ∧ (acc ++ y).length ≤ sizeLine ∧ fJs fs (acc ++ y) L M1 P
def fJoined (fs : List FE) : FE := fun L M P => fJs fs Str.empty L M fun out M1 => P (.str out) M1
def fBM0S (fr : Tr → FC) (fo : FE) : FE := fun L M P => fo L M fun x M1 => isStr x = true ∧ fr x [] M1 P
def fBMS (fr : Tr → FC) (fo : FE) (fa : FA) : FE := fun L M P => fo L M fun x M1 => isStr x = true ∧ fa L M1 fun xs M2 => fr x xs M2 P
section
variable {K : PySem.W.Frag} {B : Bs} {H : Hp} {ρ : List Addr} {to te : TE} {fo fe : FE} {ta : TA} {fa : FA} {r : V → List V → Hp → VK → Prop} {fr : Tr → FC}
theorem s_addS : Sim2 K (fun x y H Q => ∃ i j : Str, x = V.str i ∧ y = V.str j ∧ i.length + j.length ≤ sizeLine ∧ Q (V.str (i ++ j)) H) fAddS := ⟨fun hm rx ry ⟨i, j, e1, e2, z, p⟩ o => by
  subst e1; subst e2
  exact ⟨i, j, rx.str_inv, ry.str_inv, z, o _ _ _ _ _ Grow.refl hm RT.str_ p⟩⟩
theorem s_leS : Sim2 K (fun x y H Q => ∃ i j : Str, x = V.str i ∧ y = V.str j ∧ Q (V.bl (!decide (j.cps.toList < i.cps.toList))) H) fLeS := ⟨fun hm rx ry ⟨i, j, e1, e2, p⟩ o => by
  subst e1; subst e2
  exact ⟨i, j, rx.str_inv, ry.str_inv, o _ _ _ _ _ Grow.refl hm RT.bl_ p⟩⟩
theorem s_ltS : Sim2 K (fun x y H Q => ∃ i j : Str, x = V.str i ∧ y = V.str j ∧ Q (V.bl (decide (i.cps.toList < j.cps.toList))) H) fLtS := ⟨fun hm rx ry ⟨i, j, e1, e2, p⟩ o => by
  subst e1; subst e2
  exact ⟨i, j, rx.str_inv, ry.str_inv, o _ _ _ _ _ Grow.refl hm RT.bl_ p⟩⟩
theorem m_0b {g : Str → Bool} : SimM K (fun x xs H Q => ∃ a, x = V.str a ∧ xs = [] ∧ True ∧ Q (V.bl (g a)) H) (fM0b g) := ⟨fun hm rx rxs ⟨a, e1, e2, p⟩ o => by
  subst e1; subst e2
  unfold RTs at rxs
  exact ⟨a, rx.str_inv, rxs, trivial, o _ _ _ _ _ Grow.refl hm RT.bl_ p⟩⟩
theorem m_1b {g : Str → Str → Bool} : SimM K (fun x xs H Q => ∃ a b, x = V.str a ∧ xs = [V.str b] ∧ Q (V.bl (g a b)) H) (fM1b g) := ⟨fun hm rx rxs ⟨a, b, e1, e2, p⟩ o => by
  subst e1; subst e2
  obtain ⟨y, rfl, ry⟩ := rxs.one
  exact ⟨a, b, rx.str_inv, by rw [ry.str_inv], o _ _ _ _ _ Grow.refl hm RT.bl_ p⟩⟩
theorem RTs.strs : ∀ ys : List Str, RTs K H ρ (ys.map Tr.str) (ys.map V.str)
  | [] => RTs.nil
  | y :: ys => RTs.cons RT.str_ (RTs.strs ys)
theorem RTs.strs_inv : ∀ {ys : List Str} {vs : List V}, RTs K H ρ (ys.map Tr.str) vs → vs = ys.map V.str
  | [], _, h => by unfold RTs at h; exact h
  | y :: ys, _, h => by
    unfold RTs at h
    obtain ⟨x, zs, rfl, h1, h2⟩ := h
    rw [h1.str_inv, RTs.strs_inv (ys := ys) h2]
    rfl
theorem m_split : SimM K (fun x xs H Q => ∃ a b, x = V.str a ∧ xs = [V.str b] ∧ (b.length == 0) = false ∧ a.length + 2 ≤ sizeLine ∧ rNewStrs (Txt.split a b) H Q) fSplit := ⟨fun hm rx rxs ⟨a, b, e1, e2, h1, h2, p⟩ o => by
  subst e1; subst e2
  obtain ⟨y, rfl, ry⟩ := rxs.one
  exact ⟨a, b, rx.str_inv, by rw [ry.str_inv], h1, h2, out_list hm (RTs.strs _) o p⟩⟩
theorem m_join : SimM K (fun x xs H Q => ∃ a p, ∃ ys : List Str, x = V.str a ∧ xs = [V.ref p] ∧ (SqL K H p (ys.map V.str) ∨ SqT K H p (ys.map V.str)) ∧ (ys.map (·.length)).sum + ys.length * a.length ≤ 16777216 ∧ Q (V.str (Txt.join a ys)) H) fJoin := ⟨fun hm rx rxs ⟨a, y, ys, e1, e2, e3, z, p⟩ o => by
  subst e1; subst e2
  obtain ⟨yv, rfl, ry⟩ := rxs.one
  obtain ⟨b, us, rfl, h2, h3⟩ := seqAt_ok hm ry e3
  rw [h3.strs_inv] at h2
  exact ⟨a, b, ys, rx.str_inv, rfl, h2, z, o _ _ _ _ _ Grow.refl hm RT.str_ p⟩⟩
theorem sim_BM0S (s : SimM K r fr) (a : SimE K B to fo) : SimE K B (tBM0 K "str" r to) (fBM0S fr fo) :=
  ⟨fun hl hm h o => a.run hl hm h fun x xv H1 ρ1 M1 g1 m1 rx ⟨e, h1⟩ => by
    cases x with
    | str z => exact ⟨by rw [rx.str_inv]; rfl, s.run m1 rx RTs.nil h1 (o.step g1)⟩
    | _ => cases e⟩
theorem sim_BMS (s : SimM K r fr) (a : SimE K B to fo) (b : SimA K B ta fa) : SimE K B (tBM K "str" r to ta) (fBMS fr fo fa) :=
  ⟨fun hl hm h o => a.run hl hm h fun x xv H1 ρ1 M1 g1 m1 rx ⟨e, h1⟩ => by
    cases x with
    | str z => exact ⟨by rw [rx.str_inv]; rfl, b.run (hl.mono g1) m1 h1 fun xs xvs H2 ρ2 M2 g2 m2 rxs h2 => s.run m2 (rx.mono g2) rxs h2 (o.step (g1.trans g2))⟩
    | _ => cases e⟩
theorem sim_fmt (a : SimE K B te fe) : SimE K B (tFmt te) (fFmt fe) := ⟨fun hl hm h o => a.run hl hm h fun x xv H1 ρ1 M1 g1 m1 rx ⟨z, p⟩ => by
  cases x with
  | str y => exact .inl ⟨y, rx.str_inv, z, o _ _ _ _ _ g1 m1 RT.str_ p⟩
  | int i => exact .inr ⟨i, rx.int_inv, z, o _ _ _ _ _ g1 m1 RT.str_ p⟩
  | _ => exact z.elim⟩
/-- the parts of a joined text -/
inductive SimJ (K : PySem.W.Frag) (B : Bs) : List TE → List FE → Prop where
  | nil : SimJ K B [] []
  | cons {te : TE} {fe : FE} {ts : List TE} {fs : List FE} (a : SimE K B te fe) (b : SimJ K B ts fs) : SimJ K B (te :: ts) (fe :: fs)
theorem js_run {ts : List TE} {fs : List FE} (s : SimJ K B ts fs) : ∀ {acc : Str} {σ : L2.St} {H : Hp} {ρ : List Addr} {L : Loc} {M : Mem} {P : Str → Mem → Prop} {Q : Str → Hp → Prop}, RX K B H ρ L σ → RM K H ρ M → fJs fs acc L M P →
    (∀ out H' ρ' M', Grow K H ρ H' ρ' → RM K H' ρ' M' → P out M' → Q out H') → tJs ts acc σ H Q := by
  induction s with
  | nil => intro acc σ H ρ L M P Q hl hm p o; exact o _ _ _ _ Grow.refl hm p
  | cons a b ih =>
    intro acc σ H ρ L M P Q hl hm p o
    refine a.run hl hm p fun x xv H1 ρ1 M1 g1 m1 rx ⟨y, e, z, p1⟩ => ?_
    subst e
    exact ⟨y, rx.str_inv, z, ih (hl.mono g1) m1 p1 fun out H' ρ' M' g m p => o out H' ρ' M' (g1.trans g) m p⟩
theorem sim_joined {ts : List TE} {fs : List FE} (s : SimJ K B ts fs) : SimE K B (fun σ H Q => tJs ts Str.empty σ H fun out H1 => Q (V.str out) H1) (fJoined fs) :=
  ⟨fun hl hm p o => js_run s hl hm p fun out H' ρ' M' g m p => o _ _ _ _ _ g m RT.str_ p⟩
end
end Fm
namespace Fm
open PySem PySem.Spec PyProof.Rows L2
theorem nox_K {CX : CXT} {P : Program} {w : World} {K : PySem.W.Frag} {mg : Str → Option Value} {base : Heap} {N : List Str} {qual : Str} {scope : Scope} {f : Addr} {cd : Value} {A : Around} {outer : List Env} {s : Shared} {H : Hp} {E : XK} : (cxOf CX P w K mg base N qual scope f cd A outer s H E).nox.K = K := rfl
theorem cx_K {CX : CXT} {P : Program} {w : World} {K : PySem.W.Frag} {mg : Str → Option Value} {base : Heap} {N : List Str} {qual : Str} {scope : Scope} {f : Addr} {cd : Value} {A : Around} {outer : List Env} {s : Shared} {H : Hp} {E : XK} : (cxOf CX P w K mg base N qual scope f cd A outer s H E).K = K := rfl
section
variable {K : PySem.W.Frag} {H : Hp} {ρ : List Addr} {M : Mem}
theorem keepX_of {PX : PXF} {E : XK} (m : RM K H ρ M) (ox : OutX K H ρ PX E) : OutX K (H, ρ).1 (H, ρ).2 (KeepX M.length PX) E := by rw [← m.len]; exact outX_keep ox
theorem run_in {N : List Str} {t : TS} {f : FS} {ts : List Tr} {vs : List V} {P : PF} {Q : VK} (r : RTs K H ρ ts vs) (m : RM K H ρ M) (o : Out K H ρ P Q) (sim : SimS K (H, ρ) t f)
    (sp : f { nx := fun _ M' => Keep M.length P .non M', rt := Keep M.length P } (startL N ts) M) : t { nx := fun _ H' => Q .non H', rt := Q } (L2.start N vs) H := by
  have hl : RX K (H, ρ) H ρ (startL N ts) (L2.start N vs) := ⟨by
    unfold startL L2.start
    rw [← r.len]
    exact RL.start r (RL.nones _ _ (by simp)), Grow.refl⟩
  have o' : Out K H ρ (Keep M.length P) Q := by rw [← m.len]; exact out_keep o
  exact sim.run hl m sp ⟨fun L σ H' ρ' M' g _ m' p => o' .non .non H' ρ' M' g m' RT.non_ p, o', fun _ _ _ _ _ _ _ _ p => p.elim, fun _ _ _ _ _ _ _ _ p => p.elim⟩
/-- nothing is left behind: what the def has made is forgotten -/
theorem keep_all {P : PF} {v : Tr} {M' : Mem} {k : Nat} (hk : k ≤ M'.length) (b : Tr.bel k v = true) (bm : belM k (M'.take k) = true) (p : P v (M'.take k)) : Keep k P v M' := ⟨k, Nat.le_refl _, b, bm, p⟩
end
mutual
theorem RT.belT {K : PySem.W.Frag} {H : Hp} {ρ : List Addr} : ∀ {t : Tr} {v : V}, RT K H ρ t v → Tr.bel ρ.length t = true
  | .non, _, _ => rfl
  | .bl _, _, _ => rfl
  | .int _, _, _ => rfl
  | .str _, _, _ => rfl
  | .raw _, _, _ => rfl
  | .ref k, _, h => by
    unfold RT at h
    obtain ⟨a, h1, _⟩ := h
    unfold Tr.bel
    exact decide_eq_true (List.getElem?_eq_some_iff.mp h1).1
  | .tup ts, _, h => by
    unfold RT at h
    obtain ⟨a, xs, _, _, h3⟩ := h
    unfold Tr.bel
    exact RTs.belT h3
theorem RTs.belT {K : PySem.W.Frag} {H : Hp} {ρ : List Addr} : ∀ {ts : List Tr} {vs : List V}, RTs K H ρ ts vs → Tr.bels ρ.length ts = true
  | [], _, _ => rfl
  | t :: ts, _, h => by
    unfold RTs at h
    obtain ⟨x, ys, _, h3, h4⟩ := h
    unfold Tr.bels
    rw [Bool.and_eq_true]
    exact ⟨RT.belT h3, RTs.belT h4⟩
end
theorem RFs.belT {K : PySem.W.Frag} {H : Hp} {ρ : List Addr} : ∀ {fs : List (Str × Tr)} {gs : List (Str × V)}, RFs K H ρ fs gs → belF ρ.length fs = true
  | [], _, _ => rfl
  | t :: ts, _, h => by
    obtain ⟨x, ys, _, h3, h4⟩ := h
    unfold belF
    rw [Bool.and_eq_true]
    exact ⟨RT.belT h3, RFs.belT h4⟩
theorem RKs.belT {K : PySem.W.Frag} {H : Hp} {ρ : List Addr} : ∀ {fs : List (L2.Key × Tr)} {gs : List (L2.Key × V)}, RKs K H ρ fs gs → belK ρ.length fs = true
  | [], _, _ => rfl
  | t :: ts, _, h => by
    obtain ⟨x, ys, _, h3, h4⟩ := h
    unfold belK
    rw [Bool.and_eq_true]
    exact ⟨RT.belT h3, RKs.belT h4⟩
theorem belM_of {n : Nat} : ∀ {M : Mem}, (∀ (k : Nat) (o : O), M[k]? = some o → O.bel n o = true) → belM n M = true
  | [], _ => rfl
  | o :: M, h => by
    unfold belM
    rw [Bool.and_eq_true]
    exact ⟨h 0 o rfl, belM_of fun k u e => h (k + 1) u (by simpa using e)⟩
/-- a memory that is held has no number beyond itself -/
theorem RM.belM {K : PySem.W.Frag} {H : Hp} {ρ : List Addr} {M : Mem} (r : RM K H ρ M) : Fm.belM M.length M = true := belM_of fun k o e => by
  obtain ⟨a, _, h⟩ := r.at_ k o e
  rw [← r.len]
  cases o with
  | lst ts =>
    obtain ⟨xs, _, h2⟩ := h
    exact RTs.belT h2
  | ins C fs =>
    obtain ⟨dx, gs, _, _, h2⟩ := h
    exact RFs.belT h2
  | tab P q =>
    have e1 := (List.getElem?_eq_some_iff.mp e).1
    have e2 := r.len
    exact decide_eq_true (by omega)
  | scr ns k m r => rfl
  | dic ps =>
    obtain ⟨kvs, _, h2⟩ := h
    exact RKs.belT h2
end Fm
namespace Fm
open PySem PySem.Spec PyProof.Rows L2
theorem keep_app {K : PySem.W.Frag} {H : Hp} {ρ : List Addr} {M g : Mem} {P : PF} {v : Tr} (m : RM K H ρ M) (b : Tr.bel M.length v = true) (p : P v M) : Keep M.length P v (M ++ g) :=
  ⟨M.length, Nat.le_refl _, b, by rw [List.take_left]; exact m.belM, by rw [List.take_left]; exact p⟩
theorem keep_same {K : PySem.W.Frag} {H : Hp} {ρ : List Addr} {M : Mem} {P : PF} {v : Tr} (m : RM K H ρ M) (b : Tr.bel M.length v = true) (p : P v M) : Keep M.length P v M :=
  ⟨M.length, Nat.le_refl _, b, by rw [List.take_length]; exact m.belM, by rw [List.take_length]; exact p⟩
/-- all is kept -/
theorem keep_whole {M M' : Mem} {P : PF} {v : Tr} (h : M.length ≤ M'.length) (b : Tr.bel M'.length v = true) (bm : belM M'.length M' = true) (p : P v M') : Keep M.length P v M' :=
  ⟨M'.length, h, b, by rw [List.take_length]; exact bm, by rw [List.take_length]; exact p⟩
theorem belM_app {n : Nat} : ∀ {M g : Mem}, belM n (M ++ g) = (belM n M && belM n g)
  | [], g => by simp [belM]
  | o :: M, g => by simp [belM, belM_app (M := M), Bool.and_assoc]
theorem Tr.bels_mono {n m : Nat} (h : n ≤ m) : ∀ {ts : List Tr}, Tr.bels n ts = true → Tr.bels m ts = true
  | [], _ => rfl
  | t :: ts, b => by
    unfold Tr.bels at b ⊢
    rw [Bool.and_eq_true] at b ⊢
    exact ⟨Tr.bel_mono h b.1, Tr.bels_mono h b.2⟩
theorem belF_mono {n m : Nat} (h : n ≤ m) : ∀ {ts : List (Str × Tr)}, belF n ts = true → belF m ts = true
  | [], _ => rfl
  | t :: ts, b => by
    unfold belF at b ⊢
    rw [Bool.and_eq_true] at b ⊢
    exact ⟨Tr.bel_mono h b.1, belF_mono h b.2⟩
theorem belK_mono {n m : Nat} (h : n ≤ m) : ∀ {ts : List (L2.Key × Tr)}, belK n ts = true → belK m ts = true
  | [], _ => rfl
  | t :: ts, b => by
    unfold belK at b ⊢
    rw [Bool.and_eq_true] at b ⊢
    exact ⟨Tr.bel_mono h b.1, belK_mono h b.2⟩
theorem belM_mono {n m : Nat} (h : n ≤ m) : ∀ {M : Mem}, belM n M = true → belM m M = true
  | [], _ => rfl
  | .lst ts :: M, b => by
    unfold belM at b ⊢
    rw [Bool.and_eq_true] at b ⊢
    exact ⟨Tr.bels_mono h b.1, belM_mono h b.2⟩
  | .ins C fs :: M, b => by
    unfold belM at b ⊢
    rw [Bool.and_eq_true] at b ⊢
    exact ⟨belF_mono h b.1, belM_mono h b.2⟩
  | .tab P q :: M, b => by
    unfold belM at b ⊢
    rw [Bool.and_eq_true] at b ⊢
    exact ⟨decide_eq_true (Nat.le_trans (of_decide_eq_true b.1) h), belM_mono h b.2⟩
  | .scr ns k q r :: M, b => by
    unfold belM at b ⊢
    rw [Bool.and_eq_true] at b ⊢
    exact ⟨rfl, belM_mono h b.2⟩
  | .dic ps :: M, b => by
    unfold belM at b ⊢
    rw [Bool.and_eq_true] at b ⊢
    exact ⟨belK_mono h b.1, belM_mono h b.2⟩
theorem bels_strs {n : Nat} : ∀ ys : List Str, Tr.bels n (ys.map Tr.str) = true
  | [] => rfl
  | y :: ys => by
    rw [List.map_cons]
    unfold Tr.bels
    rw [Bool.and_eq_true]
    exact ⟨rfl, bels_strs ys⟩
theorem bels_ints {n : Nat} : ∀ ys : List Int, Tr.bels n (ys.map Tr.int) = true
  | [] => rfl
  | y :: ys => by
    rw [List.map_cons]
    unfold Tr.bels
    rw [Bool.and_eq_true]
    exact ⟨rfl, bels_ints ys⟩
theorem lstAt_of {M : Mem} {n : Nat} {ts : List Tr} (h : M[n]? = some (.lst ts)) : lstAt M (.ref n) = some ts := by simp only [lstAt, h]
theorem seqAt_of {M : Mem} {n : Nat} {ts : List Tr} (h : M[n]? = some (.lst ts)) : seqAt M (.ref n) = some ts := lstAt_of h
theorem refAt_of {M : Mem} {n : Nat} {ts : List Tr} (h : M[n]? = some (.lst ts)) : refAt M (.ref n) = some (n, ts) := by simp only [refAt, h]
/-- what stands behind M -/
theorem at_0 {M g : Mem} {o : O} : (M ++ o :: g)[M.length]? = some o := by rw [List.getElem?_append_right (Nat.le_refl _), Nat.sub_self]; rfl
theorem at_k {M g : Mem} {k : Nat} : (M ++ g)[M.length + k]? = g[k]? := by rw [List.getElem?_append_right (Nat.le_add_right _ _), Nat.add_sub_cancel_left]
theorem set_k {M g : Mem} {k : Nat} {o : O} : (M ++ g).set (M.length + k) o = M ++ g.set k o := by rw [List.set_append_right _ _ (Nat.le_add_right _ _), Nat.add_sub_cancel_left]
theorem set_0 {M g : Mem} {o u : O} : (M ++ u :: g).set M.length o = M ++ o :: g := by rw [List.set_append_right _ _ (Nat.le_refl _), Nat.sub_self]; rfl
end Fm
namespace Fm
open PySem PySem.Spec PyProof.Rows L2
def lstO : Option O → Option (List Tr)
  | some (.lst ts) => some ts
  | _ => none
theorem lstO_lst (ts : List Tr) : lstO (some (.lst ts)) = some ts := rfl
theorem lstAt_ref (M : Mem) (n : Nat) : lstAt M (.ref n) = lstO (M[n]?) := by
  simp only [lstAt]
  cases M[n]? with
  | none => rfl
  | some o => cases o <;> rfl
theorem seqAt_ref (M : Mem) (n : Nat) : seqAt M (.ref n) = lstO (M[n]?) := lstAt_ref M n
theorem seqAt_tup (M : Mem) (ts : List Tr) : seqAt M (.tup ts) = some ts := rfl
theorem refAt_ref (M : Mem) (n : Nat) : refAt M (.ref n) = (lstO (M[n]?)).map fun ts => (n, ts) := by
  simp only [refAt]
  cases M[n]? with
  | none => rfl
  | some o => cases o <;> rfl
theorem app_assoc2 (M : Mem) (a b : List O) : (M ++ a) ++ b = M ++ (a ++ b) := List.append_assoc ..
theorem len_app1 (M : Mem) (g : List O) : List.length (M ++ g) = List.length M + List.length g := List.length_append
theorem at_kk {M g : Mem} {k : Nat} : (M ++ g)[List.length M + k]? = g[k]? := at_k
theorem at_00 {M g : Mem} : (M ++ g)[List.length M]? = g[0]? := by
  have := at_k (M := M) (g := g) (k := 0)
  simpa using this
theorem set_00 {M g : Mem} {o : O} : (M ++ g).set (List.length M) o = M ++ g.set 0 o := by
  have := set_k (M := M) (g := g) (k := 0) (o := o)
  simpa using this
theorem at_left {M g : Mem} {n : Nat} {o : O} (h : M[n]? = some o) : (M ++ g)[n]? = some o := by
  rw [List.getElem?_append_left (List.getElem?_eq_some_iff.mp h).1]; exact h
theorem int_cast_inj {a b : Nat} : ((a : Int) = (b : Int)) = (a = b) := propext Int.ofNat_inj
end Fm
namespace Fm
open PySem PySem.Spec PyProof.Rows L2
theorem asg_len (env : Env) : ∀ ts : List Expr, (assignEach ts env).length = ts.length
  | [] => by simp [assignEach]
  | t :: ts => by cases t <;> simp [assignEach, asg_len env ts]
theorem belM_ext {M g : Mem} (hM : belM M.length M = true) (hg : belM (M.length + g.length) g = true) : belM (List.length M + List.length g) (M ++ g) = true := by
  rw [belM_app, Bool.and_eq_true]
  exact ⟨belM_mono (Nat.le_add_right _ _) hM, hg⟩
/-- nothing is forgotten -/
theorem forget_not {k : Nat} {J : Loc → Mem → Prop} {L : Loc} {M g : Mem} (hk : k ≤ List.length M + List.length g) (j : J L (M ++ g)) (bl : belL (List.length M + List.length g) L = true) (hM : belM M.length M = true) (hg : belM (M.length + g.length) g = true) : Forget k J L (M ++ g) :=
  ⟨List.length M + List.length g, L, hk, LocLe.refl L, bl, by rw [List.take_of_length_le (by rw [List.length_append]; exact Nat.le_refl _)]; exact belM_ext hM hg, by rw [List.take_of_length_le (by rw [List.length_append]; exact Nat.le_refl _)]; exact j⟩
/-- what lies behind M ++ g is forgotten -/
theorem forget_to {k : Nat} {J : Loc → Mem → Prop} {L L' : Loc} {M g h : Mem} (hk : k ≤ List.length M + List.length g) (le : LocLe L' L) (j : J L' (M ++ g)) (bl : belL (List.length M + List.length g) L' = true) (hM : belM M.length M = true) (hg : belM (M.length + g.length) g = true) : Forget k J L (M ++ (g ++ h)) :=
  ⟨List.length M + List.length g, L', hk, le, bl, by rw [← List.append_assoc, ← List.length_append, List.take_left, List.length_append]; exact belM_ext hM hg, by rw [← List.append_assoc, ← List.length_append, List.take_left]; exact j⟩
theorem zip_strs {ws ps : List Str} {i : Nat} {t : Tr} (e : (zipT (ws.map Tr.str) (ps.map Tr.str))[i]? = some t) : ∃ w p, ws[i]? = some w ∧ ps[i]? = some p ∧ t = .tup [.str w, .str p] := by
  obtain ⟨a, b, h1, h2, rfl⟩ := zipT_get e
  rw [List.getElem?_map] at h1 h2
  cases e1 : ws[i]? with
  | none => rw [e1] at h1; cases h1
  | some w =>
    cases e2 : ps[i]? with
    | none => rw [e2] at h2; cases h2
    | some p =>
      rw [e1] at h1
      rw [e2] at h2
      cases h1
      cases h2
      exact ⟨w, p, rfl, rfl, rfl⟩
theorem drop_at {α : Type} {l : List α} {i : Nat} {x : α} (h : l[i]? = some x) : l.drop i = x :: l.drop (i + 1) := by
  obtain ⟨h1, h2⟩ := List.getElem?_eq_some_iff.mp h
  rw [List.drop_eq_getElem_cons h1, h2]
end Fm
namespace Fm
open PySem PySem.Spec PyProof.Rows L2
theorem tupOf_tup (ts : List Tr) : tupOf (.tup ts) = some ts := rfl
theorem eqS_ii (i j : Int) : eqS (.int i) (.int j) = some (decide (i = j)) := rfl
theorem eqS_ss (i j : Str) : eqS (.str i) (.str j) = some (decide (i = j)) := rfl
theorem eqS_bb (i j : Bool) : eqS (.bl i) (.bl j) = some (decide (i = j)) := rfl
theorem eqS_ni (i : Int) : eqS .non (.int i) = some false := rfl
theorem eqS_in (i : Int) : eqS (.int i) .non = some false := rfl
theorem eqS_nn : eqS .non .non = some true := rfl
theorem isStr_s (z : Str) : isStr (.str z) = true := rfl
theorem isN_n : isN .non = true := rfl
theorem isN_i (i : Int) : isN (.int i) = false := rfl
theorem isN_b (i : Bool) : isN (.bl i) = false := rfl
theorem isN_s (i : Str) : isN (.str i) = false := rfl
theorem isN_t (i : List Tr) : isN (.tup i) = false := rfl
theorem isN_r (i : Nat) : isN (.ref i) = false := rfl
theorem noRaw_n : noRaw .non = true := rfl
theorem noRaw_i (i : Int) : noRaw (.int i) = true := rfl
theorem noRaw_b (i : Bool) : noRaw (.bl i) = true := rfl
theorem noRaw_s (i : Str) : noRaw (.str i) = true := rfl
theorem noRaw_t (i : List Tr) : noRaw (.tup i) = true := rfl
theorem noRaw_r (i : Nat) : noRaw (.ref i) = true := rfl
end Fm

set_option Elab.async false
set_option linter.all false
set_option maxRecDepth 100000
set_option maxHeartbeats 4000000
namespace Fm
open PySem PySem.Spec PyProof.Rows L2
/-! ### objects -/
def insAt (M : Mem) : Tr → Option (Nat × Addr × List (Str × Tr))
  | .ref n => match M[n]? with
    | some (.ins C fs) => some (n, C, fs)
    | _ => none
  | _ => none
def insO : Option O → Option (Addr × List (Str × Tr))
  | some (.ins C fs) => some (C, fs)
  | _ => none
theorem insO_ins (C : Addr) (fs : List (Str × Tr)) : insO (some (.ins C fs)) = some (C, fs) := rfl
theorem insAt_ref (M : Mem) (n : Nat) : insAt M (.ref n) = (insO (M[n]?)).map fun p => (n, p.1, p.2) := by
  simp only [insAt]
  cases M[n]? with
  | none => rfl
  | some o => cases o <;> rfl
def putT (f : Str) (v : Tr) : List (Str × Tr) → List (Str × Tr)
  | [] => [(f, v)]
  | (g, x) :: r => if g = f then (g, v) :: r else (g, x) :: putT f v r
def fFld (K : PySem.W.Frag) (fe : FE) (f : Str) : FE := fun L M P => fe L M fun x M1 => ∃ n C fs v, insAt M1 x = some (n, C, fs) ∧ Cls K C ∧ NoAttr K C f ∧ fs.lookup f = some v ∧ P v M1
def fCon (K : PySem.W.Frag) (fe : FE) (f : Str) : FE := fun L M P => fe L M fun x M1 => ∃ n C fs v i u, insAt M1 x = some (n, C, fs) ∧ Cls K C ∧ Con K C f (.int i) u ∧ fs.lookup f = none ∧ v = Tr.int i ∧ P v M1
def fSetFld (K : PySem.W.Frag) (fa fv : FE) (f : Str) : FS := fun D L M => fv L M fun y M1 => fa L M1 fun x M2 => ∃ n C fs, insAt M2 x = some (n, C, fs) ∧ Cls K C ∧ NoAttr K C f ∧ fs.length < 1000 ∧ D.nx L (M2.set n (.ins C (putT f y fs)))
def fMake (C : Addr) (fsp : FSp) (PX : PXF) (fa : FA) : FE := fun L M P => fa L M fun ts M1 => fsp (.ref M1.length :: ts) (M1 ++ [.ins C []]) (fun v M2 => v = .non ∧ P (.ref M1.length) M2) PX
def fProp (C : Addr) (fsp : FSp) (PX : PXF) (fe : FE) : FE := fun L M P => fe L M fun x M1 => ∃ n fs, insAt M1 x = some (n, C, fs) ∧ fsp [x] M1 P PX
def fMeth (C : Addr) (m : Str) (fsp : FSp) (PX : PXF) (fe : FE) (fa : FA) : FE := fun L M P => fe L M fun x M1 => ∃ n fs, insAt M1 x = some (n, C, fs) ∧ fs.lookup m = none ∧ fa L M1 fun ts M2 => fsp (x :: ts) M2 P PX
def fCMeth (C : Addr) (fsp : FSp) (PX : PXF) (fe : FE) (fa : FA) : FE := fun L M P => fe L M fun x M1 => x = .raw (.ref C) ∧ fa L M1 fun ts M2 => fsp (.raw (.ref C) :: ts) M2 P PX
section
variable {K : PySem.W.Frag} {B : Bs} {H H' : Hp} {ρ : List Addr} {M : Mem}
theorem insAt_ok {x : Tr} {xv : V} {n : Nat} {C : Addr} {fs : List (Str × Tr)} (hm : RM K H ρ M) (rx : RT K H ρ x xv) (e : insAt M x = some (n, C, fs)) : ∃ a dx gs, x = .ref n ∧ ρ[n]? = some a ∧ M[n]? = some (.ins C fs) ∧ xv = .ref a ∧ H a = some (.ins C dx gs) ∧ H dx = some (.own a) ∧ RFs K H ρ fs gs := by
  cases x with
  | ref m =>
    simp only [insAt] at e
    split at e
    · rename_i C' us hu
      cases e
      obtain ⟨a, h1, dx, gs, h2, h3, h4⟩ := hm.at_ n _ hu
      obtain ⟨b, h5, h6⟩ := rx.ref_inv
      rw [h1] at h5
      cases h5
      exact ⟨a, dx, gs, rfl, h1, hu, h6, h2, h3, h4⟩
    · cases e
  | _ => cases e
theorem RFs.look : ∀ {fs : List (Str × Tr)} {gs : List (Str × V)} {f : Str} {t : Tr}, RFs K H ρ fs gs → fs.lookup f = some t → ∃ v, gs.lookup f = some v ∧ RT K H ρ t v
  | [], _, _, _, _, e => by cases e
  | p :: fs, _, f, t, h, e => by
    obtain ⟨x, hs, rfl, h1, h2⟩ := h
    rw [List.lookup_cons] at e ⊢
    cases hf : (f == p.1) with
    | true =>
      simp only [hf] at e ⊢
      cases e
      exact ⟨x, rfl, h1⟩
    | false =>
      simp only [hf] at e ⊢
      exact RFs.look h2 e
theorem RFs.lookN : ∀ {fs : List (Str × Tr)} {gs : List (Str × V)} {f : Str}, RFs K H ρ fs gs → fs.lookup f = none → gs.lookup f = none
  | [], _, _, h, _ => by
    have h : _ = ([] : List (Str × V)) := h
    subst h
    rfl
  | p :: fs, _, f, h, e => by
    obtain ⟨x, hs, rfl, h1, h2⟩ := h
    rw [List.lookup_cons] at e ⊢
    cases hf : (f == p.1) with
    | true =>
      simp only [hf] at e
      cases e
    | false =>
      simp only [hf] at e ⊢
      exact RFs.lookN h2 e
theorem RFs.put {f : Str} {t : Tr} {v : V} (r : RT K H ρ t v) : ∀ {fs : List (Str × Tr)} {gs : List (Str × V)}, RFs K H ρ fs gs → RFs K H ρ (putT f t fs) (putF f v gs)
  | [], _, h => by
    have h : _ = ([] : List (Str × V)) := h
    subst h
    exact ⟨v, [], rfl, r, rfl⟩
  | p :: fs, _, h => by
    obtain ⟨x, hs, rfl, h1, h2⟩ := h
    obtain ⟨g, u⟩ := p
    unfold putT putF
    by_cases hf : g = f
    · rw [if_pos hf, if_pos hf]
      exact ⟨v, hs, rfl, r, h2⟩
    · rw [if_neg hf, if_neg hf]
      exact ⟨x, _, rfl, h1, RFs.put r h2⟩
theorem RFs.len : ∀ {fs : List (Str × Tr)} {gs : List (Str × V)}, RFs K H ρ fs gs → gs.length = fs.length
  | [], _, h => by
    have h : _ = ([] : List (Str × V)) := h
    subst h
    rfl
  | p :: fs, _, h => by
    obtain ⟨x, hs, rfl, h1, h2⟩ := h
    simp [RFs.len h2]
variable {te ta tv : TE} {fe fa fv : FE} {as : TA} {fs : FA} {sp : Sp} {fsp : FSp} {E : XK} {PX : PXF} {C : Addr}
theorem sim_fld {f : Str} (a : SimE K B te fe) : SimE K B (tFld K te f) (fFld K fe f) := ⟨fun hl hm h o => a.run hl hm h fun x xv H1 ρ1 M1 g1 m1 rx ⟨n, C, fs, v, e, c, na, lk, p⟩ => by
  obtain ⟨b, dx, gs, rfl, h1, h2, rfl, h3, h4, h5⟩ := insAt_ok m1 rx e
  obtain ⟨w, k1, k2⟩ := h5.look lk
  exact ⟨b, C, dx, gs, w, rfl, h3, c, na, k1, o _ _ _ _ _ g1 m1 k2 p⟩⟩
theorem sim_con {f : Str} (a : SimE K B te fe) : SimE K B (tCon K te f) (fCon K fe f) := ⟨fun hl hm h o => a.run hl hm h fun x xv H1 ρ1 M1 g1 m1 rx ⟨n, C, fs, v, i, u, e, c, co, lk, ev, p⟩ => by
  subst ev
  obtain ⟨b, dx, gs, rfl, h1, h2, rfl, h3, h4, h5⟩ := insAt_ok m1 rx e
  exact ⟨b, C, dx, gs, .int i, u, rfl, h3, c, co, h5.lookN lk, o _ _ _ _ _ g1 m1 RT.int_ p⟩⟩
theorem sim_setFld {f : Str} (a : SimE K B ta fa) (b : SimE K B tv fv) : SimS K B (sFld K ta tv f) (fSetFld K fa fv f) := ⟨fun hl hm h e => b.run hl hm h fun y yv H1 ρ1 M1 g1 m1 ry h1 => a.run (hl.mono g1) m1 h1 fun x xv H2 ρ2 M2 g2 m2 rx ⟨n, C, fs, ei, c, na, z, p⟩ => by
  obtain ⟨b, dx, gs, rfl, h1, h2, rfl, h3, h4, h5⟩ := insAt_ok m2 rx ei
  have g3 := Grow.wi (hs := putF f yv gs) m2 h3 (List.mem_of_getElem? h1)
  exact ⟨b, C, dx, gs, rfl, h3, c, na, by rw [h5.len]; exact z, e.nx _ _ _ _ _ ((g1.trans g2).trans g3) (hl.mono ((g1.trans g2).trans g3)) (m2.wi h3 h4 h1 (RFs.put (ry.mono g2) h5)) p⟩⟩
theorem RM.ins {x dx : Addr} (r : RM K H ρ M) (hx : H x = none) (hd : H dx = none) (n : dx ≠ x) : Grow K H ρ (upd (upd H dx (.own x)) x (.ins C dx [])) (ρ ++ [x]) ∧ RM K (upd (upd H dx (.own x)) x (.ins C dx [])) (ρ ++ [x]) (M ++ [.ins C []]) := by
  have g1 : Grow K H ρ (upd H dx (.own x)) ρ := Grow.laid hd
  have m1 : RM K (upd H dx (.own x)) ρ M := r.laid hd
  have hx1 : upd H dx (.own x) x = none := by rw [upd_ne (Ne.symm n)]; exact hx
  have g2 := Grow.list (o := .ins C dx []) m1 hx1
  have lt := r.len
  refine ⟨g1.trans g2, by simp [lt], fun k o e => ?_, ?_⟩
  · by_cases hn : k < M.length
    · rw [List.getElem?_append_left hn] at e
      obtain ⟨a, h1, h2⟩ := m1.at_ k o e
      refine ⟨a, by rw [List.getElem?_append_left (by rw [lt]; exact hn)]; exact h1, h2.mono g2 (upd_ne fun e => m1.fresh hx1 (e ▸ List.mem_of_getElem? h1)) fun d q => by rw [upd_ne (ne_of_none q hx1)]; exact q⟩
    · rw [List.getElem?_append_right (by omega)] at e
      match hz : k - M.length, e with
      | 0, e =>
        cases e
        refine ⟨x, by rw [List.getElem?_append_right (by omega), lt, hz]; rfl, dx, [], upd_same, ?_, rfl⟩
        rw [upd_ne n, upd_same]
      | j + 1, e => simp at e
  · rw [List.nodup_append]
    exact ⟨r.nd, by simp, fun a ha b hb => by rw [List.mem_singleton.mp hb]; exact fun e => r.fresh hx (e ▸ ha)⟩
theorem sim_makeX (hE : OutX K B.1 B.2 PX E) (s : SimSp K sp fsp) (a : SimA K B as fs) : SimE K B (tMake C sp [] E as) (fMake C fsp PX fs) :=
  ⟨fun hl hm h o => a.run hl hm h fun ts xs H1 ρ1 M1 g1 m1 rx h1 => fun x dx hx hd n => by
    obtain ⟨g2, m2⟩ := m1.ins (C := C) hx hd n
    have rself : RT K (upd (upd H1 dx (.own x)) x (.ins C dx [])) (ρ1 ++ [x]) (.ref M1.length) (.ref x) := by unfold RT; exact ⟨x, m1.ref, rfl⟩
    refine s.run (P := fun v M2 => v = .non ∧ _) (RTs.cons rself (by rw [List.append_nil]; exact rx.mono g2)) m2 h1 (fun v xv H3 ρ3 M3 g3 m3 rv ⟨ev, p⟩ => ?_) (hE.step ((hl.gr.trans g1).trans g2))
    subst ev
    exact ⟨rv.non_inv, o _ _ _ _ _ ((g1.trans g2).trans g3) m3 (rself.mono g3) p⟩⟩
theorem sim_make (s : SimSp K sp fsp) (a : SimA K B as fs) : SimE K B (tMake C sp [] E as) (fMake C fsp noX fs) := sim_makeX outX_no s a
theorem sim_prop (s : SimSp K sp fsp) (a : SimE K B te fe) : SimE K B (tProp C sp [] E te) (fProp C fsp noX fe) := ⟨fun hl hm h o => a.run hl hm h fun x xv H1 ρ1 M1 g1 m1 rx ⟨n, fs, e, p⟩ => by
  obtain ⟨b, dx, gs, rfl, h1, h2, rfl, h3, h4, h5⟩ := insAt_ok m1 rx e
  exact ⟨b, dx, gs, rfl, h3, s.run (RTs.cons rx RTs.nil) m1 p (o.step g1) outX_no⟩⟩
theorem sim_methX {m : Str} (hE : OutX K B.1 B.2 PX E) (s : SimSp K sp fsp) (a : SimE K B te fe) (b : SimA K B as fs) : SimE K B (tMeth C m sp [] E te as) (fMeth C m fsp PX fe fs) := ⟨fun hl hm h o => a.run hl hm h fun x xv H1 ρ1 M1 g1 m1 rx ⟨n, fs, e, lk, p⟩ => by
  obtain ⟨b', dx, gs, rfl, h1, h2, rfl, h3, h4, h5⟩ := insAt_ok m1 rx e
  exact ⟨b', dx, gs, rfl, h3, h5.lookN lk, b.run (hl.mono g1) m1 p fun ts xs H2 ρ2 M2 g2 m2 rts p2 => s.run (RTs.cons (rx.mono g2) (by rw [List.append_nil]; exact rts)) m2 p2 (o.step (g1.trans g2)) (hE.step ((hl.gr.trans g1).trans g2))⟩⟩
theorem sim_meth {m : Str} (s : SimSp K sp fsp) (a : SimE K B te fe) (b : SimA K B as fs) : SimE K B (tMeth C m sp [] E te as) (fMeth C m fsp noX fe fs) := sim_methX outX_no s a b
theorem sim_cmethX (hE : OutX K B.1 B.2 PX E) (s : SimSp K sp fsp) (a : SimE K B te fe) (b : SimA K B as fs) : SimE K B (ClX.tCMeth C sp E te as) (fCMeth C fsp PX fe fs) := ⟨fun hl hm h o => a.run hl hm h fun x xv H1 ρ1 M1 g1 m1 rx ⟨e, p⟩ => by
  subst e
  exact ⟨rx.raw_inv, b.run (hl.mono g1) m1 p fun ts xs H2 ρ2 M2 g2 m2 rts p2 => s.run (RTs.cons (by unfold RT; rfl) rts) m2 p2 (o.step (g1.trans g2)) (hE.step ((hl.gr.trans g1).trans g2))⟩⟩
theorem sim_cmeth (s : SimSp K sp fsp) (a : SimE K B te fe) (b : SimA K B as fs) : SimE K B (ClX.tCMeth C sp E te as) (fCMeth C fsp noX fe fs) := sim_cmethX outX_no s a b
end
/-! ### isinstance -/
def tyN (M : Mem) : Tr → Option String
  | .non => some "NoneType"
  | .bl _ => some "bool"
  | .int _ => some "int"
  | .str _ => some "str"
  | .tup _ => some "tuple"
  | t => match lstAt M t with
    | some _ => some "list"
    | none => none
def fIsi : FC := fun xs M P => ∃ x b a r, xs = [x, .raw (.ty b)] ∧ tyN M x = some a ∧ kitB a b = some r ∧ P (.bl r) M
def fIsiT (b c : String) (fe : FE) : FE := fun L M P => fe L M fun x M1 => ∃ a r s, tyN M1 x = some a ∧ kitB a b = some r ∧ kitB a c = some s ∧ P (.bl (r || s)) M1
section
variable {K : PySem.W.Frag} {B : Bs} {H : Hp} {ρ : List Addr} {M : Mem} {te : TE} {fe : FE}
theorem sq_ty {a : Addr} {xs : List V} (h : SqT K H a xs) : TyX K H (.ref a) (.type "tuple") := by
  rcases h with (h | ⟨o, h⟩) | ⟨o, its, n, h, c, _⟩
  · exact .base (.tup h)
  · exact .fTuple h
  · exact .kTuple h c
theorem ty_ok {x : Tr} {xv : V} {a : String} (hm : RM K H ρ M) (rx : RT K H ρ x xv) (e : tyN M x = some a) : TyX K H xv (.type a) := by
  cases x with
  | non => cases e; rw [rx.non_inv]; exact .base .non
  | bl b => cases e; rw [rx.bl_inv]; exact .base (.bl b)
  | int b => cases e; rw [rx.int_inv]; exact .base (.int b)
  | str b => cases e; rw [rx.str_inv]; exact .base (.str b)
  | tup ts =>
    cases e
    obtain ⟨p, xs, rfl, h2, _⟩ := rx.tup_inv
    exact sq_ty h2
  | ref n =>
    simp only [tyN] at e
    split at e
    · rename_i ts hts
      cases e
      obtain ⟨n, p, xs, _, _, _, rfl, h3, _⟩ := lstAt_ok hm rx hts
      exact .base (.lst h3)
    · cases e
  | raw v => simp [tyN, lstAt] at e
theorem kitA2 {a b c : String} {r s : Bool} (h1 : kitB a b = some r) (h2 : kitB a c = some s) : PySem.W.kitAny K (.type a) [.type b, .type c] = some (r || s) := by
  refine kitAny_cons (kit_ty h1) (fun e => ?_) fun e => by rw [e] <;> rfl
  subst e
  refine kitAny_cons (kit_ty h2) (fun e => ?_) fun e => by rw [e] <;> rfl
  subst e
  exact kitAny_nil
theorem c_isi : SimC K (rIsi K) fIsi := ⟨fun hm rx ⟨x, b, a, r, e, ty, k, p⟩ o => by
  subst e
  obtain ⟨xv, cv, rfl, r1, r2⟩ := rx.two
  rw [r2.raw_inv]
  exact ⟨xv, .ty b, .type a, .type b, r, rfl, .ty b, ty_ok hm r1 ty, kit_ty k, o _ _ _ _ _ Grow.refl hm RT.bl_ p⟩⟩
theorem sim_isiT {b c : String} (s : SimE K B te fe) : SimE K B (tCB (rIsiT K) (tCons te (tCons (tTup (tCons (tC (.ty b)) (tCons (tC (.ty c)) tNil))) tNil))) (fIsiT b c fe) := ⟨fun hl hm h o => s.run hl hm h fun x xv H1 ρ1 M1 g1 m1 rx ⟨a, r, s, ty, k1, k2, p⟩ => by
  refine ⟨by show 2 ≤ sizeLine; rw [sizeLine_eq]; decide, fun q hq => ?_⟩
  have g2 := Grow.laid (K := K) (ρ := ρ1) (o := .tup [.ty b, .ty c]) hq
  exact ⟨xv, q, [.ty b, .ty c], .type a, [.type b, .type c], r || s, rfl, upd_same, .cons (.ty b) (.cons (.ty c) .nil), ty_ok (m1.laid hq) (rx.mono g2) ty, kitA2 k1 k2, o _ _ _ _ _ (g1.trans g2) (m1.laid hq) RT.bl_ p⟩⟩
end
/-! ### == of data -/
mutual
inductive Da (M : Mem) : Tr → PyData → Prop
  | non : Da M .non .none
  | bl (b : Bool) : Da M (.bl b) (.bool b)
  | int (i : Int) : Da M (.int i) (.int i)
  | str (x : Str) : Da M (.str x) (.str x)
  | lst {t : Tr} {ts : List Tr} {ds : List PyData} : lstAt M t = some ts → DaAll M ts ds → Da M t (.list ds)
  | tup {ts : List Tr} {ds : List PyData} : DaAll M ts ds → Da M (.tup ts) (.tuple ds)
inductive DaAll (M : Mem) : List Tr → List PyData → Prop
  | nil : DaAll M [] []
  | cons {v : Tr} {vs : List Tr} {d : PyData} {ds : List PyData} : Da M v d → DaAll M vs ds → DaAll M (v :: vs) (d :: ds)
end
section
variable {K : PySem.W.Frag} {B : Bs} {H : Hp} {ρ : List Addr} {M : Mem}
mutual
theorem Da.dp (hm : RM K H ρ M) : ∀ {t : Tr} {d : PyData} {v : V}, Da M t d → RT K H ρ t v → Dp K H v d
  | _, _, _, .non, r => by rw [r.non_inv]; exact .non
  | _, _, _, .bl b, r => by rw [r.bl_inv]; exact .bl b
  | _, _, _, .int i, r => by rw [r.int_inv]; exact .int i
  | _, _, _, .str x, r => by rw [r.str_inv]; exact .str x
  | _, _, _, .lst e a, r => by
    obtain ⟨n, p, xs, _, _, _, rfl, h3, h4⟩ := lstAt_ok hm r e
    exact .lst (.inl (.inl h3)) (DaAll.dp hm a h4)
  | _, _, _, .tup a, r => by
    obtain ⟨p, xs, rfl, h2, h3⟩ := r.tup_inv
    exact .tup h2 (DaAll.dp hm a h3)
theorem DaAll.dp (hm : RM K H ρ M) : ∀ {ts : List Tr} {ds : List PyData} {vs : List V}, DaAll M ts ds → RTs K H ρ ts vs → DpAll K H vs ds
  | _, _, _, .nil, r => by unfold RTs at r; rw [r]; exact .nil
  | _, _, _, .cons a b, r => by
    unfold RTs at r
    obtain ⟨x, ys, rfl, h1, h2⟩ := r
    exact .cons (Da.dp hm a h1) (DaAll.dp hm b h2)
end
def fEqD : F2 := fun x y M P => ∃ d e, Da M x d ∧ Da M y e ∧ SeqAt.shaped d = true ∧ SeqAt.shaped e = true ∧ P (.bl (PyData.eqv d e)) M
def fNeD : F2 := fun x y M P => ∃ d e, Da M x d ∧ Da M y e ∧ SeqAt.shaped d = true ∧ SeqAt.shaped e = true ∧ P (.bl (!PyData.eqv d e)) M
theorem s_eqD : Sim2 K (rEqD K) fEqD := ⟨fun hm rx ry ⟨d, e, h1, h2, s1, s2, p⟩ o => ⟨d, e, h1.dp hm rx, h2.dp hm ry, s1, s2, o _ _ _ _ _ Grow.refl hm RT.bl_ p⟩⟩
theorem s_neD : Sim2 K (rNeD K) fNeD := ⟨fun hm rx ry ⟨d, e, h1, h2, s1, s2, p⟩ o => ⟨d, e, h1.dp hm rx, h2.dp hm ry, s1, s2, o _ _ _ _ _ Grow.refl hm RT.bl_ p⟩⟩
end
end Fm

set_option Elab.async false
set_option linter.all false
set_option maxRecDepth 100000
set_option maxHeartbeats 4000000
namespace Fm
open PySem PySem.Spec PyProof.Rows L2
/-! ### comprehensions whose elements leave nothing behind -/
section
variable {L : Loc} {M : Mem} {P : PF} {fg : FG} {ft : FT} {fe : FE} {vs : List Nat}
/-- one turn: what the element is (none: passed by) -/
def LcStep (F : Tr → Option Tr) (fg : FG) (ft : FT) (fe : FE) (vs : List Nat) (L : Loc) (M : Mem) (t : Tr) : Prop :=
  ∀ (R : Tr → Mem → Prop) (N : Mem → Prop), (∀ y, F t = some y → R y M ∧ ∀ g, R y (M ++ g)) → (F t = none → N M ∧ ∀ g, N (M ++ g)) →
    fg t (wipeF L vs) M fun L3 M3 => ft L3 M3 fun b M4 => if b = true then fe L3 M4 fun y M5 => R y M5 else N M4
theorem bels_all {n : Nat} : ∀ {ts : List Tr}, (∀ t ∈ ts, Tr.bel n t = true) → Tr.bels n ts = true
  | [], _ => rfl
  | t :: ts, h => by
    unfold Tr.bels
    rw [Bool.and_eq_true]
    exact ⟨h t List.mem_cons_self, bels_all fun u hu => h u (List.mem_cons_of_mem _ hu)⟩
theorem lc_core {it : FIt} (F : Tr → Option Tr) (hok : it.ok M) (hM : belM M.length M = true) (hn : it.items.length ≤ sizeLine) (hF : ∀ t ∈ it.items, ∀ y, F t = some y → Tr.bel M.length y = true)
    (step : ∀ t ∈ it.items, LcStep F fg ft fe vs L M t) (fin : P (.ref M.length) (M ++ [.lst (it.items.filterMap F)])) :
    ∃ I : Nat → List Tr → Mem → Prop, I 0 [] M ∧ (∀ i acc M2, i ≤ it.items.length → I i acc M2 → it.ok M2) ∧
  (∀ (i : Nat) (t : Tr) acc M2, it.items[i]? = some t → I i acc M2 → fg t (wipeF L vs) M2 fun L3 M3 => ft L3 M3 fun b M4 => if b = true then fe L3 M4 fun y M5 => acc.length < sizeLine ∧ ForgetA M.length (I (i + 1)) (acc ++ [y]) M5 else ForgetA M.length (I (i + 1)) acc M4) ∧
  (∀ acc M2, I it.items.length acc M2 → P (.ref M2.length) (M2 ++ [.lst acc])) := by
  have hb : ∀ i, Tr.bels M.length ((it.items.take i).filterMap F) = true := fun i => bels_all fun u hu => by
    obtain ⟨t, ht, e⟩ := List.mem_filterMap.mp hu
    exact hF t (List.mem_of_mem_take ht) u e
  refine ⟨fun i acc M2 => M2 = M ∧ acc = (it.items.take i).filterMap F, ⟨rfl, rfl⟩, fun i acc M2 _ ⟨e, _⟩ => e ▸ hok, ?_, ?_⟩
  · rintro i t acc M2 ht ⟨rfl, rfl⟩
    have hi := (List.getElem?_eq_some_iff.mp ht).1
    have snoc : (it.items.take (i + 1)).filterMap F = (it.items.take i).filterMap F ++ (F t).toList := by
      rw [List.take_succ, ht, List.filterMap_append]
      congr 1
    have hl : ((it.items.take i).filterMap F).length < sizeLine := by
      have h1 := List.length_filterMap_le F (it.items.take i)
      rw [List.length_take] at h1
      omega
    have hb1 := hb (i + 1)
    refine step t (List.mem_of_getElem? ht) _ _ (fun y hy => ?_) fun hy => ?_
    · have key : ∀ g, ForgetA M2.length (fun acc M3 => M3 = M2 ∧ acc = (it.items.take (i + 1)).filterMap F) ((it.items.take i).filterMap F ++ [y]) (M2 ++ g) := fun g =>
        ⟨M2.length, Nat.le_refl _, by rw [snoc, hy] at hb1; exact hb1, by rw [List.take_left]; exact hM, by rw [List.take_left], by rw [snoc, hy]; rfl⟩
      exact ⟨⟨hl, by have := key []; rwa [List.append_nil] at this⟩, fun g => ⟨hl, key g⟩⟩
    · have key : ∀ g, ForgetA M2.length (fun acc M3 => M3 = M2 ∧ acc = (it.items.take (i + 1)).filterMap F) ((it.items.take i).filterMap F) (M2 ++ g) := fun g =>
        ⟨M2.length, Nat.le_refl _, hb i, by rw [List.take_left]; exact hM, by rw [List.take_left], by rw [snoc, hy]; simp⟩
      exact ⟨by have := key []; rwa [List.append_nil] at this, key⟩
  · rintro acc M2 ⟨rfl, rfl⟩
    rw [List.take_length]
    exact fin
theorem lc_T {i : Nat} {ts : List Tr} (F : Tr → Option Tr) (hv : L[i]? = some (some (.tup ts))) (hM : belM M.length M = true) (hn : ts.length ≤ sizeLine) (hF : ∀ t ∈ ts, ∀ y, F t = some y → Tr.bel M.length y = true)
    (step : ∀ t ∈ ts, LcStep F fg ft fe vs L M t) (fin : P (.ref M.length) (M ++ [.lst (ts.filterMap F)])) : fLc (fIT (fVar i)) fg ft fe vs L M P :=
  ⟨.tup ts, hv, ts, rfl, lc_core F trivial hM hn hF step fin⟩
theorem lc_S {i : Nat} {z : Str} (F : Tr → Option Tr) (hv : L[i]? = some (some (.str z))) (hM : belM M.length M = true) (hn : z.length ≤ sizeLine) (hF : ∀ t ∈ chrsT z, ∀ y, F t = some y → Tr.bel M.length y = true)
    (step : ∀ t ∈ chrsT z, LcStep F fg ft fe vs L M t) (fin : P (.ref M.length) (M ++ [.lst ((chrsT z).filterMap F)])) : fLc (fIS (fVar i)) fg ft fe vs L M P :=
  ⟨.str z, hv, z, rfl, lc_core (it := ⟨chrsT z, fun _ => True⟩) F trivial hM (by show (chrsT z).length ≤ _; unfold chrsT; rw [List.length_map]; exact hn) hF step fin⟩
theorem lc_L {i : Nat} {x : Tr} {ts : List Tr} (F : Tr → Option Tr) (hv : L[i]? = some (some x)) (hx : lstAt M x = some ts) (hM : belM M.length M = true) (hn : ts.length ≤ sizeLine) (hF : ∀ t ∈ ts, ∀ y, F t = some y → Tr.bel M.length y = true)
    (step : ∀ t ∈ ts, LcStep F fg ft fe vs L M t) (fin : P (.ref M.length) (M ++ [.lst (ts.filterMap F)])) : fLc (fIL (fVar i)) fg ft fe vs L M P :=
  ⟨x, hv, ts, hx, lc_core (it := ⟨ts, fun M => lstAt M x = some ts⟩) F hx hM hn hF step fin⟩
end
end Fm

set_option Elab.async false
set_option linter.all false
set_option maxRecDepth 100000
set_option maxHeartbeats 4000000
namespace Fm
open PySem PySem.Spec PyProof.Rows L2
/-! ### a cut that forgets; xs[::-1] -/
def fCutF (f g : FS) : FS := fun D L M => ∃ J : Loc → Mem → Prop, f { D with nx := Forget M.length J } L M ∧ ∀ L' M', J L' M' → g D L' M'
def fRevL (fe : FE) : FE := fun L M P => fe L M fun x M1 => ∃ ts, lstAt M1 x = some ts ∧ P (.ref M1.length) (M1 ++ [.lst ts.reverse])
section
variable {K : PySem.W.Frag} {B : Bs} {H : Hp} {ρ : List Addr} {t u : TS} {f f' : FS} {te : TE} {fe : FE}
theorem sim_cutF (a : SimS K B t f) (b : SimS K B u f') : SimS K B (C8.tCut t u) (fCutF f f') :=
  ⟨fun {σ H ρ L M D' D} hl hm ⟨J, p, q⟩ e => ⟨u D, a.run hl hm p ⟨fun L1 σ1 H1 ρ1 M1 g1 l1 m1 p1 => by
    have hB := base_len hl hm
    obtain ⟨ρ6, L6, M6, l6, m6, j6, up⟩ := forget_at l1 m1 p1 hB
    have g6 : Grow K H ρ H1 ρ6 := up (Nat.le_of_eq hm.len) g1
    exact b.run l6 m6 (q _ _ j6) (e.step g6), e.rt, e.bk, e.ct⟩, fun _ _ h => h⟩⟩
theorem RTs.rev : ∀ {ts : List Tr} {xs : List V}, RTs K H ρ ts xs → RTs K H ρ ts.reverse xs.reverse
  | [], _, h => by
    unfold RTs at h
    subst h
    exact RTs.nil
  | t :: ts, _, h => by
    unfold RTs at h
    obtain ⟨x, ys, rfl, h1, h2⟩ := h
    rw [List.reverse_cons, List.reverse_cons]
    exact (RTs.rev h2).app (RTs.cons h1 RTs.nil)
theorem sim_revL (a : SimE K B te fe) : SimE K B (tRevL K te) (fRevL fe) := ⟨fun hl hm h o => a.run hl hm h fun x xv H1 ρ1 M1 g1 m1 rx ⟨ts, e, p⟩ => by
  obtain ⟨n, b, us, _, _, _, h1, h2, h3⟩ := lstAt_ok m1 rx e
  exact ⟨b, us, h1, .inl (.inl h2), out_list m1 h3.rev (o.step g1) p⟩⟩
end
end Fm

set_option Elab.async false
set_option linter.all false
set_option maxRecDepth 100000
set_option maxHeartbeats 4000000
namespace T1
open PySem PySem.Spec PyProof.Rows L2 C8 Fm
local macro_rules | `(tactic| walk_at "hf") => `(tactic| (fail_if_success (show (fun _ => none : Hp) _ = _)); first | assumption | with_reducible exact upd_same | ((with_reducible show upd _ _ _ _ = _); first | exact up_new' (by assumption) (by walk_at "hf") | exact up_set (by walk_at "ne") (by walk_at "hf")) | exact Same.at' (by assumption) (by walk_at "hf") | exact But.at' (by assumption) (by walk_at "ne") (by walk_at "ne") (by walk_at "hf"))
local macro_rules | `(tactic| walk_at "hf0") => `(tactic| (fail_if_success (show (fun _ => none : Hp) _ = _)); first | assumption | with_reducible exact upd_same | ((with_reducible show upd _ _ _ _ = _); exact up_new' (by assumption) (by walk_at "hf0")))
local macro_rules | `(tactic| walk_at "ne") => `(tactic| first | assumption | (apply Ne.symm; assumption) | exact ne_of_none' (by assumption) (by walk_at "hf0") | exact Ne.symm (ne_of_none' (by assumption) (by walk_at "hf0")) | exact LSt.f1 (by assumption) (by walk_at "lst") | exact LSt.f2 (by assumption) (by walk_at "lst"))
local macro_rules | `(tactic| walk_at "sqt") => `(tactic| (fail_if_success (show SqT _ (fun _ => none) _ _)); first | assumption | exact SqT.of' (by walk_at "hf") | ((with_reducible show SqT _ (upd _ _ _) _ _); first | exact SqT.new' (by assumption) (by walk_at "sqt") | exact SqT.put' (by walk_at "hf") (by walk_at "sqt")) | exact Same.tup (by assumption) (by walk_at "sqt") | exact But.tup (by assumption) (by walk_at "lst") (by walk_at "sqt"))
local macro_rules | `(tactic| walk_at "sql") => `(tactic| (fail_if_success (show SqL _ (fun _ => none) _ _)); first | assumption | exact SqL.of' (by walk_at "hf") | ((with_reducible show SqL _ (upd _ _ _) _ _); exact SqL.new' (by assumption) (by walk_at "sql")) | exact Same.sql' (by assumption) (by walk_at "sql"))
local macro_rules | `(tactic| walk_at "lst") => `(tactic| (fail_if_success (show LSt (fun _ => none) _ _)); first | assumption | ((with_reducible show LSt (upd _ _ _) _ _); first | exact LSt.new (by walk_at "lst") (by assumption) | exact LSt.put (by walk_at "lst") (by walk_at "ne") (by walk_at "ne")) | exact LSt.same' (by assumption) (by walk_at "lst"))
local macro_rules | `(tactic| walk_at "but") => `(tactic| first | assumption | exact But.refl _ _ _ | ((with_reducible show But _ _ _ (upd _ _ _)); exact But.nw (by assumption) (by walk_at "but")) | exact But.bu (by assumption) (by walk_at "but") | exact But.sm (by assumption) (by walk_at "but"))
local macro_rules | `(tactic| walk_at "ls") => `(tactic| first | assumption | exact Ls.same (by walk_at "ls") (Same.upd' (by assumption)))
local macro_rules | `(tactic| walk_at "ll") => `(tactic| first | assumption | exact LL.same (by walk_at "ll") (Same.upd' (by assumption)) | exact LL.same' (by assumption) (by walk_at "ll") | exact LL.but' (by assumption) (by walk_at "lst") (by walk_at "ll"))
local macro_rules | `(tactic| walk_at "sm") => `(tactic| first | assumption | exact Same.refl _ | ((with_reducible show Same _ (upd _ _ _)); first | exact Same.put' (by assumption) (by walk_at "sm") | exact Same.trans (by walk_at "sm") (Same.upd' (by assumption))) | exact Same.trans (by walk_at "sm") (by assumption))
/-- one step of a reading -/
local macro_rules | `(tactic| walk_at "rd") => `(tactic| first
  | with_reducible refine iteF ?_
  | with_reducible refine iteT ?_
  | with_reducible refine itNotF ?_
  | with_reducible refine itNotT ?_
  | refine ⟨_, rfl, ?_⟩
  | refine ⟨_, _, rfl, rfl, ?_⟩
  | refine ⟨_, _, rfl, ?_⟩
  | refine ⟨(_ : Addr), (_ : List V), (_ : Int), (_ : V), rfl, rfl, SqL.of' (by walk_at "hf"), (by first | assumption | rfl), ?_⟩
  | refine ⟨(_ : Addr), (_ : List V), (_ : Int), (_ : V), rfl, rfl, (by walk_at "sqt" : SqT _ _ _ _), (by first | assumption | rfl), ?_⟩
  | refine .inl ⟨_, rfl, ?_⟩
  | refine ⟨_, _, rfl, .inl (by walk_at "sql" : SqL _ _ _ _), ?_⟩
  | refine ⟨_, _, rfl, .inl ⟨(by walk_at "sql" : SqL _ _ _ _), fun p hp => ?_⟩⟩
  | refine ⟨_, _, rfl, .inr ⟨(by walk_at "sqt" : SqT _ _ _ _), ?_⟩⟩
  | refine fun (p : Addr) (hp : (_ : Hp) p = none) => ?_
  | refine ⟨_, _, rfl, .inr (by walk_at "sqt" : SqT _ _ _ _), ?_⟩
  | refine And.intro (by show _ ≤ sizeLine; first | decide | walk_at "sz") (fun p hp => ?_)
  | refine ⟨(_ : Addr), (_ : Addr), (_ : List V), (_ : List V), rfl, rfl, (by walk_at "hf"), (by walk_at "hf"), (by walk_at "sz"), fun p hp => ?_⟩
  | refine ⟨(_ : Addr), (_ : Addr), (_ : List V), (_ : List V), rfl, rfl, (by walk_at "hf"), (by walk_at "hf"), (by walk_at "sz"), ?_⟩
  | refine ⟨(_ : Addr), (_ : List V), (_ : Int), (_ : Nat), rfl, rfl, (by walk_at "hf"), (by rfl), ?_⟩
  | refine And.intro ⟨_, (by walk_at "sql" : SqL _ _ _ _)⟩ ?_
  | refine And.intro ⟨_, (by walk_at "sqt" : SqT _ _ _ _)⟩ ?_
  | refine And.intro (.inl ⟨rfl, _, SqL.of' (by walk_at "hf")⟩) ?_
  | refine And.intro (by walk_at "cond") ?_
  | exact .inl ⟨rfl, _, SqL.of' (by walk_at "hf")⟩
  | with_reducible refine iteT ?_
  | with_reducible refine iteF ?_
  | refine And.intro (by rfl : scal _ _ = true) ?_
  | refine And.intro (by rfl : _ = V.non) ?_
  | refine And.intro (by rfl : wipe _ _ = wipe _ _) ?_
  | refine And.intro (by rfl : (_ : List V) = []) ?_
  | refine ⟨(_ : Addr), (_ : List V), rfl, (by walk_at "sqt" : SqT _ _ _ _), (by rfl), ?_⟩)
/-- a test: known, or both ways -/
local macro_rules | `(tactic| walk_at "if") => `(tactic| first
  | with_reducible refine itD (by omega) ?_
  | with_reducible refine itN (by omega) ?_
  | with_reducible refine itnD (by omega) ?_
  | with_reducible refine itnN (by omega) ?_
  | with_reducible refine itE (by omega) ?_
  | with_reducible refine itEn (by omega) ?_
  | with_reducible refine itnE (by omega) ?_
  | with_reducible refine itnEn (by omega) ?_
  | with_reducible refine itN (by intro z; cases z) ?_
  | with_reducible refine itD (by decide) ?_
  | with_reducible refine itN (by decide) ?_
  | with_reducible refine itnD (by decide) ?_
  | with_reducible refine itnN (by decide) ?_)
local macro_rules | `(tactic| walk_at "if2") => `(tactic| first
  | with_reducible refine itS (fun z => ?_) (fun z => ?_)
  | with_reducible refine itS' (fun z => ?_) (fun z => ?_)
  | with_reducible refine itSE (fun z => ?_) (fun z => ?_)
  | with_reducible refine itnS (fun z => ?_) (fun z => ?_)
  | with_reducible refine itnS' (fun z => ?_) (fun z => ?_)
  | with_reducible refine itnSE (fun z => ?_) (fun z => ?_))
local macro_rules | `(tactic| walk_at "go") => `(tactic| repeat' (first | walk_at "rd" | walk_at "if" | walk_at "if2" | fail))
local macro_rules | `(tactic| walk_at "sz") => `(tactic| (rw [sizeLine_eq]; simp only [List.length_append, List.length_map, List.length_cons, List.length_nil]; omega))
local macro_rules | `(tactic| walk_at "cond") => `(tactic| first | assumption | (show (_ : Int) ≠ 0; first | omega | (split <;> omega)) | (show (0 : Int) < _; first | assumption | decide) | exact ⟨by decide, by decide, by decide⟩ | exact .inr ⟨by decide, by decide⟩ | exact wide_div (b := 64) (by assumption) (by omega) (by decide) (by decide) | exact ⟨by decide, by decide⟩)


abbrev sStart : Stmt := top 24
abbrev sDrawn : Stmt := top 25
/-! ### the drawing state [script, k, m, r] -/
structure St4 (K : PySem.W.Frag) (H : Hp) (h : Addr) (ns : List Int) (k m r : Int) : Prop where
  ex : ∃ s, H h = some (.lst [.ref s, .int k, .int m, .int r]) ∧ Fz K H s (ns.map V.int)
  k0 : 0 ≤ k
  m0 : 0 ≤ m
  m1 : m < 2147483647
  r0 : 0 ≤ r
  len : ns.length ≤ 63
theorem fz_put {K : PySem.W.Frag} {H : Hp} {s h : Addr} {o : HO} {xs ys : List V} (f : Fz K H s xs) (e : H h = some (.lst ys)) : Fz K (upd H h o) s xs := by
  rcases f with ⟨u, f⟩ | f
  · exact .inl ⟨u, by rw [upd_ne (ne_of f e (fun z => nomatch z))]; exact f⟩
  · exact .inr f
theorem fz_nw {K : PySem.W.Frag} {H : Hp} {s h : Addr} {o : HO} {xs : List V} (f : Fz K H s xs) (e : H h = none) : Fz K (upd H h o) s xs := by
  rcases f with ⟨u, f⟩ | f
  · exact .inl ⟨u, by rw [upd_ne (ne_of_none f e)]; exact f⟩
  · exact .inr f
def But1 (h : Addr) (H H' : Hp) : Prop := ∀ b o, b ≠ h → H b = some o → H' b = some o
def spStart (K : PySem.W.Frag) : Sp := fun vs H Q _ => ∃ (a : Addr) (ns : List Int), vs = [.ref a] ∧ Fz K H a (ns.map V.int) ∧ ns.length ≤ 63 ∧
  ∀ h m H', H h = none → St4 K H' h ns 0 m 0 → Same H H' → Q (.ref h) H'
def spDrawn (K : PySem.W.Frag) : Sp := fun vs H Q _ => ∃ (h : Addr) (ns : List Int) (k m r n : Int), vs = [.ref h, .int n] ∧ St4 K H h ns k m r ∧ 0 < n ∧ n ≤ 2000000000000000000 ∧
  ∀ x k' m' r' H', 0 ≤ x → x < n → St4 K H' h ns k' m' r' → But1 h H H' → Q (.int x) H'
section
variable {P : Program} {w : World} {K : PySem.W.Frag} {mg : Str → Option Value} {base : Heap}
theorem scStart : FnScope ["_law_script", "_law_mixed", "_law_cell"] ["_law_script"] (fnScope sStart) := fnScope_by (by decide +kernel)
theorem ok_start {f : Addr} {fd : FuncData} (F : Def K mg "_law_start" sStart f fd) (b : Binds K fd ["_law_script"] []) (T : BT mg) : Cal P w K mg base 1 "_law_start" (spStart K) [] := by
  refine cal0 F b .nil scStart (fun vs H Q E h => ?_) (fun cdv A outer s H vs Q E hr h => ?_)
  · obtain ⟨h, ns, rfl, _⟩ := h; rfl
  · obtain ⟨a, ns, rfl, fz, hl, q⟩ := h
    have ha := fz.sql
    refine ⟨_, (pss_cons (ps_set (i := 1) scStart.nd rfl (Or.inl rfl) pe_int)
 (pss_cons (ps_for PassesOwn.never rfl (pi_list (pv 0)) (pg_name (i := 2) scStart.nd rfl (Or.inl rfl)) (pss_one (ps_set (i := 1) scStart.nd rfl (Or.inl rfl) (pe_op op_modN (pe_op op_add (pe_op op_add (pe_op op_mul (pv 1) pe_int) (pv 2)) pe_int) pe_int))))
 (pss_one (ps_ret (pe_lst (pa_cons (pv 0) (pa_cons pe_int (pa_cons (pv 1) (pa_cons pe_int pa_nil))))))))), ?_⟩
    repeat walk_at "rd"
    refine for_list (K := K) (a := a) (xs := ns.map V.int) (fun i σ H' => H' = H ∧ ∃ (m : Int) (v : Option V), σ = [some (.ref a), some (.int m), v] ∧ 0 ≤ m ∧ m < 2147483647)
      ⟨rfl, 1, none, rfl, by decide, by decide⟩ (fun i σ H' _ ⟨e, _⟩ => by rw [e]; exact ha) ?_ ?_
    · rintro i y σ H' hi ⟨rfl, m, v, rfl, m0, m1⟩
      obtain ⟨z, hz, rfl⟩ := int_get hi
      repeat walk_at "rd"
      obtain ⟨u0, u1⟩ := fdN (a := m * 48271 + z + 7) (b := 2147483647) (by decide)
      exact ⟨rfl, _, _, rfl, u0, u1⟩
    · rintro σ H' ⟨rfl, m, v, rfl, m0, m1⟩
      repeat walk_at "rd"
      rename_i p1 hp1
      exact q p1 _ _ hp1 ⟨⟨a, upd_same, fz_nw fz hp1⟩, Int.le_refl 0, m0, m1, Int.le_refl 0, hl⟩ fun b o e => by walk_at "hf"
theorem scDrawn : FnScope ["_law_state", "_law_count", "_law_result", "_law_cell"] ["_law_state", "_law_count"] (fnScope sDrawn) := fnScope_by (by decide +kernel)
theorem ok_drawn {f : Addr} {fd : FuncData} (F : Def K mg "_law_drawn" sDrawn f fd) (b : Binds K fd ["_law_state", "_law_count"] []) (T : BT mg) : Cal P w K mg base 1 "_law_drawn" (spDrawn K) [] := by
  refine cal0 F b .nil scDrawn (fun vs H Q E h => ?_) (fun cdv A outer s H vs Q E hr h => ?_)
  · obtain ⟨h, ns, k, m, r, n, rfl, _⟩ := h; rfl
  · obtain ⟨h, ns, k, m, r, n, rfl, ⟨⟨a, e1, fz⟩, k0, m0, m1, r0, xl⟩, n0, n1, q⟩ := h
    have ha := fz.sql
    refine ⟨_, (pss_cons (ps_if (pt_cmpR op_gt (pe_ix ix_list (pv 0) pe_int (fun _ _ => rfl)) pe_int (nomark _)) (pss_cons (ps_set (i := 2) scDrawn.nd rfl (Or.inl rfl) (pe_op op_modN (pe_callTy call_int1 (by rfl) T.int (by decide +kernel) (pa_cons (pe_ix ix_list (pv 0) pe_int (fun _ _ => rfl)) pa_nil)) (pv 1)))
 (pss_cons (ps_asg (pe_op op_fdivW (pe_ix ix_list (pv 0) pe_int (fun _ _ => rfl)) (pv 1)) (pg_sub (pv 0) pe_int set_list))
 (pss_one (ps_ret (pv 2))))) pss_nil)
 (pss_cons (ps_asg (pe_op op_add (pe_ix ix_list (pv 0) pe_int (fun _ _ => rfl)) pe_int) (pg_sub (pv 0) pe_int set_list))
 (pss_cons (ps_if (pt_cmpR op_le (pe_ix ix_list (pv 0) pe_int (fun _ _ => rfl)) (pe_callB call_len_seq (by rfl) T.len PySem.boot_len (pa_cons (pe_ix ix_list (pv 0) pe_int (fun _ _ => rfl)) pa_nil)) (nomark _)) (pss_cons (ps_set (i := 3) scDrawn.nd rfl (Or.inl rfl) (pe_ix ix_list (pe_ix ix_list (pv 0) pe_int (fun _ _ => rfl)) (pe_op op_sub (pe_ix ix_list (pv 0) pe_int (fun _ _ => rfl)) pe_int) (fun _ _ => rfl)))
 (pss_cons (ps_asg (pe_ifExp (pt_cmpR op_ge (pv 3) (pe_op op_pow pe_int pe_int) (nomark _)) (pe_op op_fdivW (pv 3) (pv 1)) pe_int) (pg_sub (pv 0) pe_int set_list))
 (pss_one (ps_ret (pe_op op_modN (pe_callTy call_int1 (by rfl) T.int (by decide +kernel) (pa_cons (pv 3) pa_nil)) (pv 1)))))) pss_nil)
 (pss_cons (ps_asg (pe_op op_modN (pe_op op_add (pe_op op_mul (pe_ix ix_list (pv 0) pe_int (fun _ _ => rfl)) pe_int) pe_int) pe_int) (pg_sub (pv 0) pe_int set_list))
 (pss_one (ps_ret (pe_op op_modN (pe_op op_fdiv (pe_ix ix_list (pv 0) pe_int (fun _ _ => rfl)) pe_int) (pv 1)))))))), ?_⟩
    have hs2 : ∀ o, SqL K (upd H h o) a (ns.map V.int) := fun o => (fz_put fz e1).sql
    repeat walk_at "rd"
    refine ite2 (fun c1 => ?_) (fun c1 => ?_)
    · have c1 : 0 < r := of_decide_eq_true c1
      repeat walk_at "rd"
      obtain ⟨i0, i1⟩ := fdN (a := r) n0
      refine q _ k m (r / n) _ i0 i1 ⟨⟨a, upd_same, fz_put fz e1⟩, k0, m0, m1, Int.ediv_nonneg r0 (by omega), xl⟩ fun b o nh e => up_set nh e
    · have c1 : ¬ 0 < r := fun z => c1 (decide_eq_true z)
      repeat walk_at "rd"
      have xl' : (ns.map V.int).length = ns.length := List.length_map ..
      refine ⟨_, _, rfl, .inl (hs2 _), ?_⟩
      repeat walk_at "rd"
      refine ite2 (fun c2 => ?_) (fun c2 => ?_)
      · have c2 : k + 1 ≤ ((ns.map V.int).length : Int) := of_decide_eq_true c2
        obtain ⟨c, hc⟩ : ∃ c, ns[k.toNat]? = some c := ⟨_, List.getElem?_eq_getElem (by omega)⟩
        have hc' : atI (ns.map V.int) (k + 1 - 1) = some (V.int c) := by
          rw [show k + 1 - 1 = k by omega]
          exact atI_get k0 (by rw [List.getElem?_map, hc]; rfl)
        repeat walk_at "rd"
        refine ⟨_, _, _, _, rfl, rfl, hs2 _, hc', ?_⟩
        repeat walk_at "rd"
        obtain ⟨i0, i1⟩ := fdN (a := c) n0
        refine ite2 (fun c3 => ?_) (fun c3 => ?_)
        · have c3 : (10 : Int) ^ 18 ≤ c := of_decide_eq_true c3
          repeat walk_at "rd"
          exact q _ (k + 1) m (c / n) _ i0 i1 ⟨⟨a, upd_same, fz_put (fz_put fz e1) upd_same⟩, by omega, m0, m1, Int.ediv_nonneg (Int.le_trans (by decide) c3) (by omega), xl⟩ fun b o nh e => up_set nh (up_set nh e)
        · repeat walk_at "rd"
          exact q _ (k + 1) m 0 _ i0 i1 ⟨⟨a, upd_same, fz_put (fz_put fz e1) upd_same⟩, by omega, m0, m1, Int.le_refl 0, xl⟩ fun b o nh e => up_set nh (up_set nh e)
      · repeat walk_at "rd"
        obtain ⟨i0, i1⟩ := fdN (a := (m * 48271 + 11).fmod 2147483647 / 7) n0
        obtain ⟨u0, u1⟩ := fdN (a := m * 48271 + 11) (b := 2147483647) (by decide)
        exact q _ (k + 1) _ r _ i0 i1 ⟨⟨a, upd_same, fz_put (fz_put fz e1) upd_same⟩, by omega, u0, u1, r0, xl⟩ fun b o nh e => up_set nh (up_set nh e)
end
end T1

set_option Elab.async false
set_option linter.all false
set_option maxRecDepth 100000
set_option maxHeartbeats 4000000
namespace T1
open PySem PySem.Spec PyProof.Rows L2 C8 Fm
section
variable {K : PySem.W.Frag} {H : Hp} {ρ : List Addr}
theorem rts_ints : ∀ ys : List Int, RTs K H ρ (ys.map Tr.int) (ys.map V.int)
  | [] => RTs.nil
  | y :: ys => RTs.cons RT.int_ (rts_ints ys)
theorem rts_ints_inv : ∀ {ys : List Int} {vs : List V}, RTs K H ρ (ys.map Tr.int) vs → vs = ys.map V.int
  | [], _, h => by unfold RTs at h; exact h
  | y :: ys, _, h => by
    unfold RTs at h
    obtain ⟨x, zs, rfl, h1, h2⟩ := h
    rw [h1.int_inv, rts_ints_inv (ys := ys) h2]
    rfl

/-! ### the drawing state, first in the memory -/
structure Ds where
  ns : List Int
  k : Int
  m : Int
  r : Int
def Ds.ok (d : Ds) : Prop := 0 ≤ d.k ∧ 0 ≤ d.m ∧ d.m < 2147483647 ∧ 0 ≤ d.r ∧ d.ns.length ≤ 63
def sm (d : Ds) (g : Mem) : Mem := .scr d.ns d.k d.m d.r :: g
theorem sm_app {d : Ds} {g h : Mem} : sm d (g ++ h) = sm d g ++ h := rfl
theorem sm_len {d : Ds} {g : Mem} : List.length (sm d g) = List.length g + 1 := rfl
theorem sm_at {d : Ds} {g h : Mem} {k : Nat} : (sm d g ++ h)[List.length g + (k + 1)]? = h[k]? := by
  have := at_k (M := sm d g) (g := h) (k := k)
  rw [sm_len, Nat.add_assoc, Nat.add_comm 1 k] at this
  exact this
theorem sm_at0 {d : Ds} {g h : Mem} : (sm d g ++ h)[List.length g + 1]? = h[0]? := sm_at (k := 0)
theorem sm_set {d : Ds} {g h : Mem} {k : Nat} {o : O} : (sm d g ++ h).set (List.length g + (k + 1)) o = sm d g ++ h.set k o := by
  have := set_k (M := sm d g) (g := h) (k := k) (o := o)
  rw [sm_len, Nat.add_assoc, Nat.add_comm 1 k] at this
  exact this
theorem sm_set0 {d : Ds} {g h : Mem} {o : O} : (sm d g ++ h).set (List.length g + 1) o = sm d g ++ h.set 0 o := sm_set (k := 0)
def fsDrawn : FSp := fun ts M P _ => ∃ n d g, ts = [.ref 0, .int n] ∧ M = sm d g ∧ d.ok ∧ 0 < n ∧ n ≤ 2000000000000000000 ∧ ∀ x d', d'.ok → 0 ≤ x → x < n → P (.int x) (sm d' g)
theorem simDrawn : SimSp K (spDrawn K) fsDrawn := ⟨fun {H ρ M ts vs P PX Q E} r m h o x => by
  obtain ⟨n, d, g, rfl, rfl, ok, n0, n1, q⟩ := h
  obtain ⟨x1, x2, rfl, r1, r2⟩ := r.two
  obtain ⟨ah, h1, rfl⟩ := r1.ref_inv
  cases r2.int_inv
  obtain ⟨ah', h2, s, h3, h4⟩ := m.at_ 0 _ rfl
  rw [h1] at h2
  cases h2
  refine ⟨ah, d.ns, d.k, d.m, d.r, n, rfl, ⟨⟨s, h3, h4⟩, ok.1, ok.2.1, ok.2.2.1, ok.2.2.2.1, ok.2.2.2.2⟩, n0, n1, fun y k' m' r' H' y0 y1 st bu => ?_⟩
  obtain ⟨s', e1, e2⟩ := st.ex
  have mh : ah ∈ ρ := List.mem_of_getElem? h1
  have gr : Grow K H ρ H' ρ := ⟨⟨[], by simp⟩, fun _ _ t => by
    rcases t with (t | ⟨u, t⟩) | t
    · exact .inl (.inl (bu _ _ (ne_of t h3 (fun z => nomatch z)) t))
    · exact .inl (.inr ⟨u, bu _ _ (ne_of t h3 (fun z => nomatch z)) t⟩)
    · exact .inr t, fun a o e n _ => bu a o (fun z => n (z ▸ mh)) e, fun _ h n => absurd h n, fun c q i e => bu _ _ (ne_of e h3 (fun z => i.ne.1 _ z)) e⟩
  refine o (.int y) (.int y) H' ρ (sm ⟨d.ns, k', m', r'⟩ g) gr ⟨m.len, fun j u eu => ?_, m.nd⟩ RT.int_ (q y ⟨d.ns, k', m', r'⟩ ⟨st.k0, st.m0, st.m1, st.r0, st.len⟩ y0 y1)
  match j, eu with
  | 0, eu =>
    cases eu
    exact ⟨ah, h1, s', e1, e2⟩
  | j + 1, eu =>
    obtain ⟨a, h5, h6⟩ := m.at_ (j + 1) u eu
    have n1 : a ≠ ah := fun z => by
      have := nodup_ix m.nd h5 (z ▸ h1)
      omega
    refine ⟨a, h5, h6.mono gr ?_ fun d z => bu _ _ (ne_of z h3 (fun z => nomatch z)) z⟩
    cases u with
    | lst us => obtain ⟨xs, z, _⟩ := h6; rw [z]; exact bu _ _ n1 z
    | ins C fs => obtain ⟨dx, gs, z, _⟩ := h6; rw [z]; exact bu _ _ n1 z
    | tab P q => obtain ⟨rfl, ps, z, _⟩ := h6; rw [z]; exact bu _ _ n1 z
    | scr ns k m r => obtain ⟨s, z, _⟩ := h6; rw [z]; exact bu _ _ n1 z
    | dic ps => obtain ⟨kvs, z, _⟩ := h6; rw [z]; exact bu _ _ n1 z⟩
/-! ### links, towns -/
def lkT (l : Lk) : Tr := .tup [.int l.1, .int l.2.1, .int l.2.2.1, .int l.2.2.2]
theorem lk_sq {l : Lk} {x : V} (r : RT K H ρ (lkT l) x) : ∃ a, x = .ref a ∧ SqT K H a (lv l) := by
  obtain ⟨a, xs, rfl, h1, h2⟩ := r.tup_inv
  refine ⟨a, rfl, ?_⟩
  have e : xs = lv l := by
    have := rts_ints_inv (K := K) (H := H) (ρ := ρ) (ys := [l.1, l.2.1, l.2.2.1, l.2.2.2]) h2
    rw [this]
    rfl
  rw [← e]
  exact h1
theorem lks_ll : ∀ {ls : List Lk} {vs : List V}, RTs K H ρ (ls.map lkT) vs → LL K H vs ls
  | [], _, h => by
    unfold RTs at h
    subst h
    exact LL.nil
  | l :: ls, _, h => by
    unfold RTs at h
    obtain ⟨x, ys, rfl, h1, h2⟩ := h
    obtain ⟨a, rfl, ha⟩ := lk_sq h1
    have r := lks_ll (ls := ls) h2
    refine ⟨by simp [r.1], fun j m g => ?_⟩
    match j, g with
    | 0, g =>
      cases g
      exact ⟨a, rfl, ha⟩
    | j + 1, g =>
      obtain ⟨c, g1, g2⟩ := r.2 j m (by simpa using g)
      exact ⟨c, by simpa using g1, g2⟩
theorem lks_ls {ls : List Lk} {x : V} (r : RT K H ρ (.tup (ls.map lkT)) x) : ∃ t, x = .ref t ∧ Ls K H t ls := by
  obtain ⟨a, xs, rfl, h1, h2⟩ := r.tup_inv
  exact ⟨a, rfl, xs, h1, lks_ll h2⟩
theorem bel_lks {n : Nat} : ∀ ls : List Lk, Tr.bels n (ls.map lkT) = true
  | [] => rfl
  | l :: ls => by
    rw [List.map_cons]
    unfold Tr.bels
    rw [Bool.and_eq_true]
    exact ⟨rfl, bel_lks ls⟩
/-- what stands in a made town -/
def tFT (c : Int) (ls : List Lk) : List (Str × Tr) := [("_count", .int c), ("_bridges", .tup (ls.map lkT))]
theorem tF_is (c : Int) (t : Addr) : tF c t = ([("_count", V.int c), ("_bridges", V.ref t)] : List (Str × V)) := by
  unfold tF
  simp only [putF]
  rw [if_neg (by decide +kernel)]
theorem same_grow {H' : Hp} {M : Mem} (sm : Same H H') (m : RM K H ρ M) : Grow K H ρ H' ρ ∧ RM K H' ρ M := by
  have g : Grow K H ρ H' ρ := ⟨⟨[], by simp⟩, fun _ _ t => Same.tup sm t, fun a o e _ _ => sm a o e, fun _ h n => absurd h n, fun c q _ e => sm _ _ e⟩
  refine ⟨g, m.len, fun k o e => ?_, m.nd⟩
  obtain ⟨a, h1, h2⟩ := m.at_ k o e
  refine ⟨a, h1, h2.mono g ?_ fun d q => sm _ _ q⟩
  cases o with
  | lst ts => obtain ⟨xs, z, _⟩ := h2; rw [z]; exact sm _ _ z
  | ins C fs => obtain ⟨dx, gs, z, _⟩ := h2; rw [z]; exact sm _ _ z
  | tab P q => obtain ⟨rfl, ps, z, _⟩ := h2; rw [z]; exact sm _ _ z
  | scr ns k m r => obtain ⟨s, z, _⟩ := h2; rw [z]; exact sm _ _ z
  | dic ps => obtain ⟨kvs, z, _⟩ := h2; rw [z]; exact sm _ _ z
/-- InvalidTown's own fields -/
def itT (p : Str) (i : Int) : List (Str × Tr) := [("index", .int i), ("part", .str p)]
def fsTi (C CT : Addr) : FSp := fun ts M P PX => ∃ n c ls, ts = [.ref n, .int c, .tup (ls.map lkT)] ∧ M[n]? = some (.ins C []) ∧ ls.length ≤ 1000 ∧
  (∀ r, firstBad c ls = some r → PX CT (itT r.1 r.2) M) ∧ (firstBad c ls = none → P .non (M.set n (.ins C (tFT c ls))))
theorem simTi {C CT : Addr} : SimSp K (spTi K C CT) (fsTi C CT) := ⟨fun {H ρ M ts vs P PX Q E} r m h o x => by
  obtain ⟨n, c, ls, rfl, hn, hl, k1, k2⟩ := h
  unfold RTs at r
  obtain ⟨v1, w1, rfl, r1, r⟩ := r
  obtain ⟨v2, v3, rfl, r2, r3⟩ := r.two
  obtain ⟨b, h1, rfl⟩ := r1.ref_inv
  cases r2.int_inv
  obtain ⟨t, rfl, hls⟩ := lks_ls r3
  obtain ⟨b', h2, dx, gs, h3, h4, h5⟩ := m.at_ n _ hn
  rw [h1] at h2
  cases h2
  have h5 : gs = [] := h5
  subst h5
  refine ⟨b, dx, t, c, ls, rfl, h3, hls, hl, fun q hq d H' sm hd hx => ?_, fun hf H' old hx => ?_⟩
  · obtain ⟨g, m'⟩ := same_grow sm m
    exact x CT (itT q.1 q.2) (some d) H' ρ M g m' (.inr ⟨d, _, rfl, hx, _, _, rfl, RT.int_, _, _, rfl, RT.str_, rfl⟩) (k1 q hq)
  · have mb : b ∈ ρ := List.mem_of_getElem? h1
    have g : Grow K H ρ H' ρ := ⟨⟨[], by simp⟩, fun a xs q => by
      rcases q with (q | ⟨u, q⟩) | q
      · exact .inl (.inl (old _ _ (ne_of q h3 (fun z => nomatch z)) q))
      · exact .inl (.inr ⟨u, old _ _ (ne_of q h3 (fun z => nomatch z)) q⟩)
      · exact .inr q, fun a u e na _ => old a u (fun z => na (z ▸ mb)) e, fun _ h n => absurd h n, fun c q i e => old _ _ (ne_of e h3 (fun z => i.ne.2.1 _ _ _ z)) e⟩
    refine o .non .non H' ρ _ g ⟨by rw [List.length_set]; exact m.len, fun k u e => ?_, m.nd⟩ RT.non_ (k2 hf)
    by_cases hk : n = k
    · subst hk
      rw [List.getElem?_set_self (List.getElem?_eq_some_iff.mp hn).1] at e
      cases e
      refine ⟨b, h1, dx, _, hx, old _ _ (ne_of h4 h3 (fun z => nomatch z)) h4, ?_⟩
      rw [tF_is]
      exact ⟨_, _, rfl, RT.int_, _, _, rfl, r3.mono g, rfl⟩
    · rw [List.getElem?_set_ne hk] at e
      obtain ⟨a, q1, q2⟩ := m.at_ k u e
      have na : a ≠ b := fun z => hk (nodup_ix m.nd h1 (z ▸ q1))
      refine ⟨a, q1, q2.mono g ?_ fun d q => old _ _ (ne_of q h3 (fun z => nomatch z)) q⟩
      cases u with
      | lst ts => obtain ⟨xs, z, _⟩ := q2; rw [z]; exact old _ _ na z
      | ins C fs => obtain ⟨dx, gs, z, _⟩ := q2; rw [z]; exact old _ _ na z
      | tab P q => obtain ⟨rfl, ps, z, _⟩ := q2; rw [z]; exact old _ _ na z
      | scr ns k m r => obtain ⟨s, z, _⟩ := q2; rw [z]; exact old _ _ na z
      | dic ps => obtain ⟨kvs, z, _⟩ := q2; rw [z]; exact old _ _ na z⟩
def fsGet (C : Addr) (f : Str) : FSp := fun ts M P _ => ∃ x n fs v, ts = [x] ∧ insAt M x = some (n, C, fs) ∧ fs.lookup f = some v ∧ P v M
theorem simGet {C : Addr} {f : Str} : SimSp K (spGet C f) (fsGet C f) := ⟨fun {H ρ M ts vs P PX Q E} r m h o x => by
  obtain ⟨x, n, fs, v, rfl, e, lk, p⟩ := h
  obtain ⟨xv, rfl, rx⟩ := r.one
  obtain ⟨a, dx, gs, rfl, h1, h2, rfl, h3, h4, h5⟩ := insAt_ok m rx e
  obtain ⟨w, k1, k2⟩ := h5.look lk
  exact ⟨a, dx, gs, w, rfl, h3, k1, o _ _ _ _ _ Grow.refl m k2 p⟩⟩
end
end T1

set_option Elab.async false
set_option linter.all false
set_option maxRecDepth 100000
set_option maxHeartbeats 4000000
namespace T1
open PySem PySem.Spec PyProof.Rows L2 C8 Fm
/-! ### the reader's dict -/
def kOct : L2.Key := .inr "octets"
def kAt : L2.Key := .inr "at"
def kBad : L2.Key := .inr "bad"
def wd (o a b : Tr) : List (L2.Key × Tr) := [(kOct, o), (kAt, a), (kBad, b)]
def wv (o a b : V) : List (L2.Key × V) := [(kOct, o), (kAt, a), (kBad, b)]
theorem k_ne : kOct ≠ kAt ∧ kOct ≠ kBad ∧ kAt ≠ kBad := by decide +kernel
theorem wv_oct (o a b : V) : valV (wv o a b) kOct = some o := valV_pos rfl
theorem wv_at (o a b : V) : valV (wv o a b) kAt = some a := by
  unfold wv
  rw [valV_neg k_ne.1, valV_pos rfl]
theorem wv_bad (o a b : V) : valV (wv o a b) kBad = some b := by
  unfold wv
  rw [valV_neg k_ne.2.1, valV_neg k_ne.2.2, valV_pos rfl]
theorem put_at (o a b x : V) : putK (wv o a b) kAt x = wv o x b := by
  unfold putK wv
  simp [k_ne.1, k_ne.2.2.symm]
theorem put_bad (o a b x : V) : putK (wv o a b) kBad x = wv o a x := by
  unfold putK wv
  simp [k_ne.2.1, k_ne.2.2]
def wdAt (M : Mem) : Tr → Option (Nat × Tr × Tr × Tr)
  | .ref n => match M[n]? with
    | some (.dic [(k1, o), (k2, a), (k3, b)]) => if k1 = kOct ∧ k2 = kAt ∧ k3 = kBad then some (n, o, a, b) else none
    | _ => none
  | _ => none
def fWo (fe : FE) : FE := fun L M P => fe L M fun x M1 => ∃ n o a b, x = .ref n ∧ M1[n]? = some (.dic (wd o a b)) ∧ P o M1
def fWa (fe : FE) : FE := fun L M P => fe L M fun x M1 => ∃ n o a b, x = .ref n ∧ M1[n]? = some (.dic (wd o a b)) ∧ P a M1
def fWb (fe : FE) : FE := fun L M P => fe L M fun x M1 => ∃ n o a b, x = .ref n ∧ M1[n]? = some (.dic (wd o a b)) ∧ P b M1
def fPutA (fe fv : FE) : FS := fun D L M => fv L M fun v M1 => fe L M1 fun x M2 => ∃ n o a b, x = .ref n ∧ M2[n]? = some (.dic (wd o a b)) ∧ D.nx L (M2.set n (.dic (wd o v b)))
def fPutB (fe fv : FE) : FS := fun D L M => fv L M fun v M1 => fe L M1 fun x M2 => ∃ n o a b, x = .ref n ∧ M2[n]? = some (.dic (wd o a b)) ∧ D.nx L (M2.set n (.dic (wd o a v)))
def fWnew (i : Nat) : FE := fun L M P => ∃ t, L[i]? = some (some t) ∧ P (.ref M.length) (M ++ [.dic (wd t (.int 0) .non)])
section
variable {K : PySem.W.Frag} {B : Bs} {H : Hp} {ρ : List Addr} {M : Mem} {te tv : TE} {fe fv : FE}
theorem wd_ok {n : Nat} {o a b : Tr} (m : RM K H ρ M) {x : Tr} {xv : V} (rx : RT K H ρ x xv) (ex : x = .ref n) (e : M[n]? = some (.dic (wd o a b))) : ∃ p ov av bv, ρ[n]? = some p ∧ xv = .ref p ∧ H p = some (.dK (wv ov av bv)) ∧ RT K H ρ o ov ∧ RT K H ρ a av ∧ RT K H ρ b bv := by
  subst ex
  obtain ⟨p, h1, kvs, h2, x1, r1, rfl, h3, x2, r2, rfl, h4, x3, r3, rfl, h5, rfl⟩ := m.at_ n _ e
  obtain ⟨p', h6, rfl⟩ := rx.ref_inv
  rw [h1] at h6
  cases h6
  exact ⟨p, x1, x2, x3, h1, rfl, h2, h3, h4, h5⟩
theorem sim_wo (a : SimE K B te fe) : SimE K B (tDGet te (tC (.str "octets"))) (fWo fe) := ⟨fun hl hm h o => a.run hl hm h fun x xv H1 ρ1 M1 g1 m1 rx ⟨n, u, v, w, ex, e, p⟩ => by
  obtain ⟨q, ov, av, bv, h1, rfl, h2, r1, r2, r3⟩ := wd_ok m1 rx ex e
  exact ⟨q, ov, rfl, .inl ⟨_, kOct, .inl h2, rfl, (wv_oct ov av bv).symm⟩, o _ _ _ _ _ g1 m1 r1 p⟩⟩
theorem sim_wa (a : SimE K B te fe) : SimE K B (tDGet te (tC (.str "at"))) (fWa fe) := ⟨fun hl hm h o => a.run hl hm h fun x xv H1 ρ1 M1 g1 m1 rx ⟨n, u, v, w, ex, e, p⟩ => by
  obtain ⟨q, ov, av, bv, h1, rfl, h2, r1, r2, r3⟩ := wd_ok m1 rx ex e
  exact ⟨q, av, rfl, .inl ⟨_, kAt, .inl h2, rfl, (wv_at ov av bv).symm⟩, o _ _ _ _ _ g1 m1 r2 p⟩⟩
theorem sim_wb (a : SimE K B te fe) : SimE K B (tDGet te (tC (.str "bad"))) (fWb fe) := ⟨fun hl hm h o => a.run hl hm h fun x xv H1 ρ1 M1 g1 m1 rx ⟨n, u, v, w, ex, e, p⟩ => by
  obtain ⟨q, ov, av, bv, h1, rfl, h2, r1, r2, r3⟩ := wd_ok m1 rx ex e
  exact ⟨q, bv, rfl, .inl ⟨_, kBad, .inl h2, rfl, (wv_bad ov av bv).symm⟩, o _ _ _ _ _ g1 m1 r3 p⟩⟩
/-- a dict is written -/
theorem Grow.wk (m : RM K H ρ M) {p : Addr} {xs ys : List (L2.Key × V)} (hp : H p = some (.dK xs)) (hm : p ∈ ρ) : Grow K H ρ (upd H p (.dK ys)) ρ :=
  ⟨⟨[], by simp⟩, fun _ _ h => sqt_upd h (.inr (.inr (.inr ⟨xs, hp⟩))), fun a u h n _ => by rw [upd_ne (show a ≠ p from fun e => n (by rw [e]; exact hm))]; exact h, fun _ h n => absurd h n, fun c q i h => cod_upd (.inr (.inr (.inr ⟨xs, hp⟩))) c q i h⟩
theorem rm_wk (r : RM K H ρ M) {p : Addr} {n : Nat} {xs ys : List (L2.Key × V)} {us : List (L2.Key × Tr)} (hp : H p = some (.dK xs)) (hn : ρ[n]? = some p) (h : RKs K H ρ us ys) : RM K (upd H p (.dK ys)) ρ (M.set n (.dic us)) := by
  have g := Grow.wk (ys := ys) r hp (List.mem_of_getElem? hn)
  refine ⟨by simp [r.len], fun m o e => ?_, r.nd⟩
  by_cases hm : n = m
  · subst hm
    have hl : n < M.length := by rw [← r.len]; exact (List.getElem?_eq_some_iff.mp hn).1
    rw [List.getElem?_set_self hl] at e
    cases e
    exact ⟨p, hn, ys, upd_same, RKs.mono0 g.gw h⟩
  · rw [List.getElem?_set_ne hm] at e
    obtain ⟨a, h1, h2⟩ := r.at_ m o e
    exact ⟨a, h1, h2.mono g (upd_ne fun e => hm (nodup_ix r.nd hn (e ▸ h1))) fun d q => by rw [upd_ne (ne_of q hp (fun z => nomatch z))]; exact q⟩
theorem rk3 {o a b : Tr} {ov av bv : V} (r1 : RT K H ρ o ov) (r2 : RT K H ρ a av) (r3 : RT K H ρ b bv) : RKs K H ρ (wd o a b) (wv ov av bv) := ⟨_, _, rfl, r1, _, _, rfl, r2, _, _, rfl, r3, rfl⟩
theorem len3 {o a b : V} : (wv o a b).length < sizeLine := by rw [sizeLine_eq]; show 3 < _; decide
theorem sim_putA (a : SimE K B te fe) (b : SimE K B tv fv) : SimS K B (sDPut te (tC (.str "at")) tv) (fPutA fe fv) := ⟨fun hl hm h e => b.run hl hm h fun y yv H1 ρ1 M1 g1 m1 ry h1 => a.run (hl.mono g1) m1 h1 fun x xv H2 ρ2 M2 g2 m2 rx ⟨n, u, v, w, ex, en, p⟩ => by
  obtain ⟨q, ov, av, bv, h1, rfl, h2, r1, r2, r3⟩ := wd_ok m2 rx ex en
  have g3 := Grow.wk (ys := wv ov yv bv) m2 h2 (List.mem_of_getElem? h1)
  refine ⟨q, _, rfl, .inl ⟨_, kAt, h2, rfl, len3, rfl⟩, ?_⟩
  rw [put_at]
  exact e.nx _ _ _ _ _ ((g1.trans g2).trans g3) (hl.mono ((g1.trans g2).trans g3)) (rm_wk m2 h2 h1 (rk3 r1 (ry.mono g2) r3)) p⟩
theorem sim_putB (a : SimE K B te fe) (b : SimE K B tv fv) : SimS K B (sDPut te (tC (.str "bad")) tv) (fPutB fe fv) := ⟨fun hl hm h e => b.run hl hm h fun y yv H1 ρ1 M1 g1 m1 ry h1 => a.run (hl.mono g1) m1 h1 fun x xv H2 ρ2 M2 g2 m2 rx ⟨n, u, v, w, ex, en, p⟩ => by
  obtain ⟨q, ov, av, bv, h1, rfl, h2, r1, r2, r3⟩ := wd_ok m2 rx ex en
  have g3 := Grow.wk (ys := wv ov av yv) m2 h2 (List.mem_of_getElem? h1)
  refine ⟨q, _, rfl, .inl ⟨_, kBad, h2, rfl, len3, rfl⟩, ?_⟩
  rw [put_bad]
  exact e.nx _ _ _ _ _ ((g1.trans g2).trans g3) (hl.mono ((g1.trans g2).trans g3)) (rm_wk m2 h2 h1 (rk3 r1 r2 (ry.mono g2))) p⟩
theorem RM.dic (r : RM K H ρ M) {p : Addr} {ts : List (L2.Key × Tr)} {xs : List (L2.Key × V)} (hp : H p = none) (h : RKs K H ρ ts xs) : RM K (upd H p (.dK xs)) (ρ ++ [p]) (M ++ [.dic ts]) := by
  have g := Grow.list (o := .dK xs) r hp
  have lt := r.len
  refine ⟨by simp [lt], fun n o e => ?_, ?_⟩
  · by_cases hn : n < M.length
    · rw [List.getElem?_append_left hn] at e
      obtain ⟨a, h1, h2⟩ := r.at_ n o e
      refine ⟨a, by rw [List.getElem?_append_left (by rw [lt]; exact hn)]; exact h1, h2.mono g (upd_ne fun e => r.fresh hp (e ▸ List.mem_of_getElem? h1)) fun d q => by rw [upd_ne (ne_of_none q hp)]; exact q⟩
    · rw [List.getElem?_append_right (by omega)] at e
      match hz : n - M.length, e with
      | 0, e =>
        cases e
        exact ⟨p, by rw [List.getElem?_append_right (by omega), lt, hz]; rfl, xs, upd_same, RKs.mono0 g.gw h⟩
      | k + 1, e => simp at e
  · rw [List.nodup_append]
    exact ⟨r.nd, by simp, fun a ha b hb => by rw [List.mem_singleton.mp hb]; exact fun e => r.fresh hp (e ▸ ha)⟩
theorem merge3 (o a b : V) : mergeK [] (wv o a b) = wv o a b := by
  unfold mergeK wv putK
  simp [k_ne.1, k_ne.2.1, k_ne.2.2]
theorem sim_wnew {i : Nat} : SimE K B (tDisp [(tC (.str "octets"), tVar i), (tC (.str "at"), tC (.int 0)), (tC (.str "bad"), tC .non)]) (fWnew i) := ⟨fun hl hm h o => by
  obtain ⟨t, e, p⟩ := h
  obtain ⟨x, h1, h2⟩ := hl.rl.get e
  intro q hq
  refine ⟨x, h1, upd_same, wv x (.int 0) .non, rfl, by show 3 ≤ 15; decide, ?_⟩
  rw [merge3, upd_upd]
  exact o _ _ _ _ _ (Grow.list hm hq) (RM.dic hm hq (rk3 h2 RT.int_ RT.non_)) (by unfold RT; exact ⟨q, hm.ref, rfl⟩) p⟩
end
end T1

set_option Elab.async false
set_option linter.all false
namespace T3
/-! ### bytes as integers: what the program and the law compute -/
def Oct (n : Int) : Prop := 0 ≤ n ∧ n < 256
def ckS (s : Int) (ns : List Int) : Int := ns.foldl (fun s n => (41 * s + n).fmod 65521) s
theorem fm {a b : Int} (hb : 0 < b) : a.fmod b = a % b := Int.fmod_eq_emod_of_nonneg _ (Int.le_of_lt hb)
theorem fd {a b : Int} (hb : 0 < b) : a.fdiv b = a / b := Int.fdiv_eq_ediv_of_nonneg _ (Int.le_of_lt hb)
theorem ckS_cons {s n : Int} {ns : List Int} : ckS s (n :: ns) = ckS ((41 * s + n).fmod 65521) ns := rfl
theorem ckS_snoc {s n : Int} {ns : List Int} : ckS s (ns ++ [n]) = (41 * ckS s ns + n).fmod 65521 := by
  unfold ckS
  rw [List.foldl_append]
  rfl
theorem ckS_rng : ∀ {ns : List Int} {s : Int}, 0 ≤ s → s < 65521 → 0 ≤ ckS s ns ∧ ckS s ns < 65521
  | [], _, h0, h1 => ⟨h0, h1⟩
  | n :: ns, s, h0, h1 => by
    rw [ckS_cons]
    refine ckS_rng ?_ ?_
    · rw [fm (by decide)]; omega
    · rw [fm (by decide)]; omega
def ck2 (ns : List Int) : List Int := [(ckS 5 ns).fdiv 256, (ckS 5 ns).fmod 256]
theorem ck2_oct {ns : List Int} : ∀ n ∈ ck2 ns, Oct n := by
  obtain ⟨h0, h1⟩ := ckS_rng (ns := ns) (s := 5) (by decide) (by decide)
  intro n hn
  unfold ck2 at hn
  rw [fm (by decide), fd (by decide)] at hn
  simp only [List.mem_cons, List.not_mem_nil, or_false] at hn
  unfold Oct
  rcases hn with rfl | rfl <;> omega
/-! groups of seven bits -/
def gr (n : Nat) : List Int := if n < 128 then [(n : Int)] else ((n % 128 + 128 : Nat) : Int) :: gr (n / 128)
termination_by n
decreasing_by omega
def grI (i : Int) : List Int := gr i.toNat
theorem grI_lt {i : Int} (h0 : 0 ≤ i) (h : i < 128) : grI i = [i] := by
  unfold grI
  rw [gr, if_pos (by omega)]
  congr 1
  omega
theorem grI_ge {i : Int} (h : 128 ≤ i) : grI i = (i.fmod 128 + 128) :: grI (i.fdiv 128) := by
  have e : grI i = gr i.toNat := rfl
  rw [e, gr, if_neg (by omega), fm (by decide), fd (by decide)]
  unfold grI
  congr 1
  · omega
  · congr 1
    omega
theorem grI_oct : ∀ {n : Nat} {i : Int}, i.toNat ≤ n → 0 ≤ i → ∀ g ∈ grI i, Oct g := by
  intro n
  induction n with
  | zero =>
    intro i hi h0 g hg
    rw [grI_lt h0 (by omega)] at hg
    rw [List.mem_singleton.mp hg]
    unfold Oct; omega
  | succ n ih =>
    intro i hi h0 g hg
    by_cases h : i < 128
    · rw [grI_lt h0 h] at hg
      rw [List.mem_singleton.mp hg]
      unfold Oct; omega
    · rw [grI_ge (by omega), fm (by decide), fd (by decide)] at hg
      rcases List.mem_cons.mp hg with rfl | hg
      · unfold Oct; omega
      · exact ih (by omega) (by omega) g hg
theorem grI_len : ∀ {k : Nat} {i : Int}, 0 ≤ i → i < 128 ^ k → 1 ≤ k → (grI i).length ≤ k
  | 0, _, _, _, h => absurd h (by decide)
  | 1, i, h0, h1, _ => by rw [grI_lt h0 (by simpa using h1)]; simp
  | k + 2, i, h0, h1, _ => by
    by_cases h : i < 128
    · rw [grI_lt h0 h]; simp
    · rw [grI_ge (by omega), fm (by decide), fd (by decide)]
      have e : (128 : Int) ^ (k + 2) = 128 * 128 ^ (k + 1) := by rw [show k + 2 = (k + 1) + 1 from rfl, Int.pow_succ, Int.mul_comm]
      have := grI_len (k := k + 1) (i := i / 128) (by omega) (by rw [e] at h1; omega) (by omega)
      simp only [List.length_cons]
      omega
theorem grI_ne {i : Int} (h0 : 0 ≤ i) : grI i ≠ [] := by
  by_cases h : i < 128
  · rw [grI_lt h0 h]; simp
  · rw [grI_ge (by omega)]; simp
def vl : List Int → Int
  | [] => 0
  | g :: gs => g.fmod 128 + 128 * vl gs
theorem vl_snoc : ∀ {gs : List Int} {g : Int}, vl (gs ++ [g]) = vl gs + g.fmod 128 * 128 ^ gs.length
  | [], g => by simp [vl]
  | h :: gs, g => by
    show h.fmod 128 + 128 * vl (gs ++ [g]) = h.fmod 128 + 128 * vl gs + _
    rw [vl_snoc, List.length_cons, Int.pow_succ, Int.mul_add, ← Int.mul_assoc, Int.mul_comm 128 (g.fmod 128), Int.mul_assoc, Int.mul_comm 128 (128 ^ gs.length), Int.add_assoc]
theorem vl_nn : ∀ {gs : List Int}, 0 ≤ vl gs
  | [] => Int.le_refl _
  | g :: gs => by
    have := vl_nn (gs := gs)
    unfold vl
    rw [fm (by decide)]
    omega
/-- groups as they stand: all but the last are marked, and the last of several is not 0 -/
def GOk : List Int → Prop
  | [] => False
  | [g] => 0 ≤ g ∧ g < 128
  | g :: h :: gs => 128 ≤ g ∧ g < 256 ∧ GOk (h :: gs) ∧ h :: gs ≠ [0]
theorem vl_big : ∀ {gs : List Int}, GOk gs → gs ≠ [0] → (128 : Int) ^ (gs.length - 1) ≤ vl gs
  | [g], h, n => by
    obtain ⟨h0, h1⟩ := h
    show (1 : Int) ≤ g.fmod 128 + 128 * 0
    rw [fm (by decide)]
    have : g ≠ 0 := fun z => n (by rw [z])
    omega
  | g :: h :: gs, ⟨h0, h1, h2, h3⟩, _ => by
    have := vl_big h2 h3
    show (128 : Int) ^ (gs.length + 1) ≤ g.fmod 128 + 128 * vl (h :: gs)
    have e : (128 : Int) ^ (gs.length + 1) = 128 * 128 ^ gs.length := by rw [Int.pow_succ, Int.mul_comm]
    have e2 : (h :: gs).length - 1 = gs.length := rfl
    rw [e2] at this
    rw [fm (by decide), e]
    omega
theorem grI_vl : ∀ {gs : List Int}, GOk gs → grI (vl gs) = gs
  | [g], ⟨h0, h1⟩ => by
    have e : vl [g] = g := by
      show g.fmod 128 + 128 * 0 = g
      rw [fm (by decide)]; omega
    rw [e, grI_lt h0 h1]
  | g :: h :: gs, ⟨h0, h1, h2, h3⟩ => by
    have hb := vl_big h2 h3
    have hp : (1 : Int) ≤ 128 ^ ((h :: gs).length - 1) := Int.pow_pos (by decide)
    have e : vl (g :: h :: gs) = (g - 128) + 128 * vl (h :: gs) := by
      show g.fmod 128 + 128 * vl (h :: gs) = _
      rw [fm (by decide)]; omega
    have h4 := grI_vl h2
    rw [grI_ge (by omega), e, fm (by decide), fd (by decide)]
    have e1 : (g - 128 + 128 * vl (h :: gs)) % 128 + 128 = g := by omega
    have e2 : (g - 128 + 128 * vl (h :: gs)) / 128 = vl (h :: gs) := by omega
    rw [e1, e2, h4]
/-! reading -/
def tk (b : List Int) (lo hi : Int) (k : Nat) : Except Nat (Int × Nat) := match b[k]? with
  | none => .error k
  | some x => if lo ≤ x ∧ x ≤ hi then .ok (x, k + 1) else .error k
theorem tk_ok {b : List Int} {lo hi x : Int} {k j : Nat} (h : tk b lo hi k = .ok (x, j)) : j = k + 1 ∧ k < b.length ∧ b.take j = b.take k ++ [x] ∧ lo ≤ x ∧ x ≤ hi := by
  unfold tk at h
  split at h
  · cases h
  · rename_i y e
    split at h
    · rename_i hc
      cases h
      exact ⟨rfl, (List.getElem?_eq_some_iff.mp e).1, by rw [List.take_add_one, e]; rfl, hc⟩
    · cases h
theorem tk_err {b : List Int} {lo hi : Int} {k i : Nat} (h : tk b lo hi k = .error i) : i = k := by
  unfold tk at h
  split at h
  · cases h; rfl
  · split at h
    · cases h
    · cases h; rfl
def lifeB (b : List Int) : Nat → Int → Nat → Except Nat (List Int × Nat)
  | 0, _, k => .error k
  | f + 1, lo, k => match tk b lo 255 k with
    | .error i => .error i
    | .ok (x, j) => if x < 128 then .ok ([x], j) else match lifeB b f 1 j with
      | .error i => .error i
      | .ok (gs, m) => .ok (x :: gs, m)
theorem lifeB_ok {b : List Int} : ∀ {f : Nat} {lo : Int} {k : Nat} {gs : List Int} {m : Nat}, 0 ≤ lo → lifeB b f lo k = .ok (gs, m) → GOk gs ∧ b.take m = b.take k ++ gs ∧ m ≤ b.length ∧ (1 ≤ lo → gs ≠ [0])
  | 0, _, _, _, _, _, h => by cases h
  | f + 1, lo, k, gs, m, hlo, h => by
    unfold lifeB at h
    cases ht : tk b lo 255 k with
    | error i => rw [ht] at h; cases h
    | ok p =>
      obtain ⟨x, j⟩ := p
      rw [ht] at h
      obtain ⟨e1, e2, e3, e4, e5⟩ := tk_ok ht
      simp only at h
      split at h
      · rename_i hx
        cases h
        exact ⟨⟨by omega, hx⟩, e3, by omega, fun h1 z => by
          have : x = 0 := by simpa using z
          omega⟩
      · rename_i hx
        cases hl : lifeB b f 1 j with
        | error i => rw [hl] at h; cases h
        | ok q =>
          obtain ⟨gs', m'⟩ := q
          rw [hl] at h
          cases h
          obtain ⟨g1, g2, g3, g4⟩ := lifeB_ok (by decide) hl
          match gs', g1, g2, g4 with
          | y :: r, g1, g2, g4 =>
            refine ⟨⟨by omega, by omega, g1, g4 (by decide)⟩, by rw [g2, e3, List.append_assoc]; rfl, g3, fun _ z => ?_⟩
            cases z
def top18 : Int := 1000000000000000000
def tkLife (b : List Int) (k : Nat) : Except Nat (Int × Nat) := match lifeB b (b.length + 1) 0 k with
  | .error i => .error i
  | .ok (gs, m) => if 9 < gs.length ∨ top18 < vl (gs.take 9) then .error k else .ok (vl (gs.take 9), m)
/-- with too many groups, all groups are too great also -/
theorem life_same {gs : List Int} (h : GOk gs) : (9 < gs.length ∨ top18 < vl (gs.take 9)) ↔ top18 < vl gs := by
  by_cases hl : 9 < gs.length
  · have n0 : gs ≠ [0] := fun z => by rw [z] at hl; simp at hl
    have := vl_big h n0
    have h9 : (128 : Int) ^ 9 ≤ 128 ^ (gs.length - 1) := by
      obtain ⟨d, hd⟩ : ∃ d, gs.length - 1 = 9 + d := ⟨gs.length - 1 - 9, by omega⟩
      rw [hd, Int.pow_add]
      have hp : (1 : Int) ≤ 128 ^ d := Int.pow_pos (by decide)
      have := Int.mul_le_mul_of_nonneg_left hp (show (0 : Int) ≤ 128 ^ 9 by decide)
      rwa [Int.mul_one] at this
    have h18 : top18 < 128 ^ 9 := by decide
    exact ⟨fun _ => by omega, fun _ => .inl hl⟩
  · rw [List.take_of_length_le (by omega)]
    exact ⟨fun z => z.resolve_left hl, .inr⟩
theorem life_le {gs : List Int} (h : GOk gs) (n : ¬ top18 < vl gs) : gs.take 9 = gs := by
  have : ¬ 9 < gs.length := fun z => n ((life_same h).mp (.inl z))
  rw [List.take_of_length_le (by omega)]
theorem tkLife_ok {b : List Int} {k m : Nat} {v : Int} (h : tkLife b k = .ok (v, m)) : b.take m = b.take k ++ grI v ∧ 0 ≤ v ∧ v ≤ top18 ∧ m ≤ b.length := by
  unfold tkLife at h
  cases hl : lifeB b (b.length + 1) 0 k with
  | error i => rw [hl] at h; cases h
  | ok p =>
    obtain ⟨gs, m'⟩ := p
    rw [hl] at h
    simp only at h
    obtain ⟨g1, g2, g3, _⟩ := lifeB_ok (by decide) hl
    split at h
    · cases h
    · rename_i hn
      cases h
      have h2 : ¬ top18 < vl gs := fun z => hn ((life_same g1).mpr z)
      rw [life_le g1 h2, grI_vl g1]
      exact ⟨g2, vl_nn, by omega, g3⟩
def bridge (b : List Int) (c : Int) (k : Nat) : Except Nat ((Int × Int × Int × Int) × Nat) := match tk b 0 (c - 1) k with
  | .error i => .error i
  | .ok (one, k1) => match tk b 0 (c - 1) k1 with
    | .error i => .error i
    | .ok (other, k2) => if other = one then .error k1 else match tk b 1 99 k2 with
      | .error i => .error i
      | .ok (len, k3) => match tkLife b k3 with
        | .error i => .error i
        | .ok (life, k4) => .ok ((one, other, len, life), k4)
def enc1 (l : Int × Int × Int × Int) : List Int := [l.1, l.2.1, l.2.2.1] ++ grI l.2.2.2
def goodL (c : Int) (l : Int × Int × Int × Int) : Prop := 0 ≤ l.1 ∧ l.1 < c ∧ 0 ≤ l.2.1 ∧ l.2.1 < c ∧ l.1 ≠ l.2.1 ∧ 1 ≤ l.2.2.1 ∧ l.2.2.1 ≤ 99 ∧ 0 ≤ l.2.2.2 ∧ l.2.2.2 ≤ top18
theorem bridge_ok {b : List Int} {c : Int} {k m : Nat} {l : Int × Int × Int × Int} (h : bridge b c k = .ok (l, m)) : b.take m = b.take k ++ enc1 l ∧ goodL c l ∧ m ≤ b.length := by
  unfold bridge at h
  cases h1 : tk b 0 (c - 1) k with
  | error i => rw [h1] at h; cases h
  | ok p =>
    obtain ⟨one, k1⟩ := p
    rw [h1] at h; simp only at h
    cases h2 : tk b 0 (c - 1) k1 with
    | error i => rw [h2] at h; cases h
    | ok p =>
      obtain ⟨other, k2⟩ := p
      rw [h2] at h; simp only at h
      split at h
      · cases h
      · rename_i hne
        cases h3 : tk b 1 99 k2 with
        | error i => rw [h3] at h; cases h
        | ok p =>
          obtain ⟨len, k3⟩ := p
          rw [h3] at h; simp only at h
          cases h4 : tkLife b k3 with
          | error i => rw [h4] at h; cases h
          | ok p =>
            obtain ⟨life, k4⟩ := p
            rw [h4] at h
            cases h
            obtain ⟨_, _, t1, a1, b1⟩ := tk_ok h1
            obtain ⟨_, _, t2, a2, b2⟩ := tk_ok h2
            obtain ⟨_, _, t3, a3, b3⟩ := tk_ok h3
            obtain ⟨t4, a4, b4, z4⟩ := tkLife_ok h4
            refine ⟨?_, ⟨a1, by simp only; omega, a2, by simp only; omega, fun z => hne z.symm, a3, b3, a4, b4⟩, z4⟩
            rw [t4, t3, t2, t1]
            unfold enc1
            simp
def endB (b : List Int) (k : Nat) : Option Nat := match tk b ((ckS 5 (b.take k)).fdiv 256) ((ckS 5 (b.take k)).fdiv 256) k with
  | .error i => some i
  | .ok (_, k1) => match tk b ((ckS 5 (b.take k)).fmod 256) ((ckS 5 (b.take k)).fmod 256) k1 with
    | .error i => some i
    | .ok (_, k2) => if k2 < b.length then some k2 else none
theorem endB_ok {b : List Int} {k : Nat} (h : endB b k = none) : b = b.take k ++ ck2 (b.take k) := by
  unfold endB at h
  cases h1 : tk b ((ckS 5 (b.take k)).fdiv 256) ((ckS 5 (b.take k)).fdiv 256) k with
  | error i => rw [h1] at h; cases h
  | ok p =>
    obtain ⟨x, k1⟩ := p
    rw [h1] at h; simp only at h
    cases h2 : tk b ((ckS 5 (b.take k)).fmod 256) ((ckS 5 (b.take k)).fmod 256) k1 with
    | error i => rw [h2] at h; cases h
    | ok p =>
      obtain ⟨y, k2⟩ := p
      rw [h2] at h; simp only at h
      split at h
      · cases h
      · rename_i hk
        obtain ⟨_, _, t1, a1, b1⟩ := tk_ok h1
        obtain ⟨_, _, t2, a2, b2⟩ := tk_ok h2
        have e : b.take k2 = b := List.take_of_length_le (by omega)
        rw [t2, t1] at e
        have ex : x = (ckS 5 (b.take k)).fdiv 256 := by omega
        have ey : y = (ckS 5 (b.take k)).fmod 256 := by omega
        rw [ex, ey, List.append_assoc] at e
        exact e.symm
def decB (b : List Int) (c : Int) : Nat → List (Int × Int × Int × Int) → Nat → Except Nat (Int × List (Int × Int × Int × Int))
  | 0, acc, k => match endB b k with
    | some i => .error i
    | none => .ok (c, acc)
  | n + 1, acc, k => match bridge b c k with
    | .error i => .error i
    | .ok (l, m) => decB b c n (acc ++ [l]) m
def dec (b : List Int) : Except Nat (Int × List (Int × Int × Int × Int)) := match tk b 84 84 0 with
  | .error i => .error i
  | .ok (_, k1) => match tk b 1 12 k1 with
    | .error i => .error i
    | .ok (c, k2) => match tk b 0 24 k2 with
      | .error i => .error i
      | .ok (n, k3) => decB b c n.toNat [] k3
def body (c : Int) (ls : List (Int × Int × Int × Int)) : List Int := [84, c, (ls.length : Int)] ++ ls.flatMap enc1
def encT (c : Int) (ls : List (Int × Int × Int × Int)) : List Int := body c ls ++ ck2 (body c ls)
theorem decB_ok {b : List Int} {c c' : Int} : ∀ {n : Nat} {acc ls : List (Int × Int × Int × Int)} {k : Nat}, decB b c n acc k = .ok (c', ls) → c' = c ∧ ∃ ms, ls = acc ++ ms ∧ ms.length = n ∧ (∀ l ∈ ms, goodL c l) ∧ b = (b.take k ++ ms.flatMap enc1) ++ ck2 (b.take k ++ ms.flatMap enc1)
  | 0, acc, ls, k, h => by
    unfold decB at h
    cases he : endB b k with
    | some i => rw [he] at h; cases h
    | none =>
      rw [he] at h
      cases h
      refine ⟨rfl, [], by simp, rfl, by simp, ?_⟩
      rw [List.flatMap_nil, List.append_nil]
      exact endB_ok he
  | n + 1, acc, ls, k, h => by
    unfold decB at h
    cases hb : bridge b c k with
    | error i => rw [hb] at h; cases h
    | ok p =>
      obtain ⟨l, m⟩ := p
      rw [hb] at h
      obtain ⟨h1, ms, h2, h3, h4, h5⟩ := decB_ok h
      obtain ⟨g1, g2, g3⟩ := bridge_ok hb
      refine ⟨h1, l :: ms, by rw [h2, List.append_assoc]; rfl, by simp [h3], fun l' hl' => ?_, ?_⟩
      · rcases List.mem_cons.mp hl' with rfl | hl'
        · exact g2
        · exact h4 l' hl'
      · rw [g1] at h5
        rw [List.flatMap_cons]
        simp only [List.append_assoc] at h5 ⊢
        exact h5
theorem dec_ok {b : List Int} {c : Int} {ls : List (Int × Int × Int × Int)} (h : dec b = .ok (c, ls)) : encT c ls = b ∧ 1 ≤ c ∧ c ≤ 12 ∧ ls.length ≤ 24 ∧ ∀ l ∈ ls, goodL c l := by
  unfold dec at h
  cases h1 : tk b 84 84 0 with
  | error i => rw [h1] at h; cases h
  | ok p =>
    obtain ⟨x, k1⟩ := p
    rw [h1] at h; simp only at h
    cases h2 : tk b 1 12 k1 with
    | error i => rw [h2] at h; cases h
    | ok p =>
      obtain ⟨c0, k2⟩ := p
      rw [h2] at h; simp only at h
      cases h3 : tk b 0 24 k2 with
      | error i => rw [h3] at h; cases h
      | ok p =>
        obtain ⟨n, k3⟩ := p
        rw [h3] at h; simp only at h
        obtain ⟨_, _, t1, a1, b1⟩ := tk_ok h1
        obtain ⟨_, _, t2, a2, b2⟩ := tk_ok h2
        obtain ⟨_, _, t3, a3, b3⟩ := tk_ok h3
        obtain ⟨rfl, ms, e, hl, hg, hb⟩ := decB_ok h
        rw [List.nil_append] at e
        subst e
        refine ⟨?_, a2, b2, by omega, hg⟩
        have ex : x = 84 := by omega
        have en : n = (ls.length : Int) := by omega
        have hbd : b.take k3 = [84, c, (ls.length : Int)] := by
          rw [t3, t2, t1, ex, en]
          simp
        rw [hbd] at hb
        exact hb.symm
theorem body_oct {c : Int} {ls : List (Int × Int × Int × Int)} (h0 : 1 ≤ c) (h1 : c ≤ 12) (hl : ls.length ≤ 24) (h : ∀ l ∈ ls, 0 ≤ l.1 ∧ l.1 < 256 ∧ 0 ≤ l.2.1 ∧ l.2.1 < 256 ∧ 0 ≤ l.2.2.1 ∧ l.2.2.1 < 256 ∧ 0 ≤ l.2.2.2) : ∀ n ∈ body c ls, Oct n := by
  intro n hn
  unfold body at hn
  rcases List.mem_append.mp hn with hn | hn
  · simp only [List.mem_cons, List.not_mem_nil, or_false] at hn
    unfold Oct
    rcases hn with rfl | rfl | rfl <;> omega
  · obtain ⟨l, hl, hn⟩ := List.mem_flatMap.mp hn
    obtain ⟨a0, a1, b0, b1, d0, d1, e0⟩ := h l hl
    unfold enc1 at hn
    rcases List.mem_append.mp hn with hn | hn
    · simp only [List.mem_cons, List.not_mem_nil, or_false] at hn
      unfold Oct
      rcases hn with rfl | rfl | rfl <;> omega
    · exact grI_oct (Nat.le_refl _) e0 n hn
end T3

set_option Elab.async false
set_option linter.all false
set_option maxRecDepth 100000
set_option maxHeartbeats 4000000
namespace T1
open PySem PySem.Spec PyProof.Rows L2 C8 Fm
/-! ### bytes -/
def btT (b : List Int) : Tr := .raw (.byt (byteArr b))
def intsT (b : List Int) : List Tr := b.map Tr.int
theorem bt_inj {b c : List Int} (hb : B8 b) (hc : B8 c) (h : byteArr b = byteArr c) : b = c := by
  rw [← bi_make hb, ← bi_make hc, h]
theorem arr_get {b : List Int} {i : Nat} {x : Int} (hb : B8 b) (h : b[i]? = some x) : ∃ c, (byteArr b)[i]? = some c ∧ ((c.toNat : Nat) : Int) = x := by
  have h2 : (bi (byteArr b))[i]? = some x := by rw [bi_make hb]; exact h
  unfold bi PySem.W.KBw.bInts at h2
  rw [List.getElem?_map] at h2
  cases hc : (byteArr b).toList[i]? with
  | none => rw [hc] at h2; cases h2
  | some c =>
    rw [hc] at h2
    cases h2
    exact ⟨c, by rw [← Array.getElem?_toList]; exact hc, rfl⟩
def fLenB : FC := fun xs M P => ∃ b : List Int, xs = [btT b] ∧ b.length ≤ sizeLine ∧ P (.int (b.length : Nat)) M
def fItemB : F2 := fun x y M P => ∃ (b : List Int) (i v : Int), x = btT b ∧ y = .int i ∧ B8 b ∧ b.length ≤ sizeLine ∧ 0 ≤ i ∧ b[i.toNat]? = some v ∧ P (.int v) M
def fSlB : FSl := fun x lo hi M P => ∃ (b : List Int) (k : Nat), x = btT b ∧ lo = none ∧ hi = some (k : Int) ∧ k ≤ b.length ∧ b.length ≤ 16777216 ∧ P (btT (b.take k)) M
def fIB (fe : FE) : FI := fun L M R => fe L M fun x M1 => ∃ b : List Int, x = btT b ∧ B8 b ∧ R ⟨intsT b, fun _ => True⟩ M1
def fNeB : F2 := fun x y M P => ∃ b c : List Int, x = btT b ∧ y = btT c ∧ B8 b ∧ B8 c ∧ P (.bl (!decide (b = c))) M
def fBytes : FC := fun xs M P => ∃ x, xs = [x] ∧ ∃ b : List Int, lstAt M x = some (intsT b) ∧ B8 b ∧ P (btT b) M
def fListB : FC := fun xs M P => ∃ b : List Int, xs = [btT b] ∧ B8 b ∧ b.length ≤ sizeLine ∧ P (.ref M.length) (M ++ [.lst (intsT b)])
def fDivmod : FC := fun xs M P => ∃ i j : Int, xs = [.int i, .int j] ∧ CDiv i j ∧ P (.tup [.int (i / j), .int (i % j)]) M
def fAnd127 : F2 := fun x y M P => ∃ i : Int, x = .int i ∧ y = .int 127 ∧ P (.int (i % 128)) M
def fIRev (fe : FE) : FI := fun L M R => fe L M fun x M1 => ∃ ts, lstAt M1 x = some ts ∧ R ⟨ts.reverse, fun M => lstAt M x = some ts⟩ M1
def fStar (fe : FE) (fa : FA) : FA := fun L M P => fe L M fun x M1 => ∃ ts, lstAt M1 x = some ts ∧ fa L M1 fun us M2 => P (ts ++ us) M2
def fFldAug (K : PySem.W.Frag) (fe fv : FE) (fr : F2) (f : Str) : FS := fun D L M => fe L M fun x M1 => ∃ n C fs v, insAt M1 x = some (n, C, fs) ∧ Cls K C ∧ NoAttr K C f ∧ fs.lookup f = some v ∧
  fv L M1 fun y M2 => fr v y M2 fun z M3 => ∃ fs', M3[n]? = some (.ins C fs') ∧ fs'.length < 1000 ∧ D.nx L (M3.set n (.ins C (putT f z fs')))
def fRaise0 (C : Addr) (PX : PXF) : FS := fun _ _ M => PX C [] M
section
variable {K : PySem.W.Frag} {B : Bs} {te tv : TE} {fe fv : FE} {ta : TA} {fa : FA}
theorem rts_intsT {H : Hp} {ρ : List Addr} (b : List Int) : RTs K H ρ (intsT b) (b.map V.int) := rts_ints b
theorem raw_bt {H : Hp} {ρ : List Addr} {b : List Int} {v : V} (r : RT K H ρ (btT b) v) : v = .byt (byteArr b) := r.raw_inv
theorem rt_bt {H : Hp} {ρ : List Addr} {b : List Int} : RT K H ρ (btT b) (.byt (byteArr b)) := by unfold btT RT; rfl
theorem c_lenB : SimC K (fun xs H Q => ∃ x n, xs = [x] ∧ LenV K x H n ∧ Q (.int n) H) fLenB := ⟨fun hm rx ⟨b, e, z, p⟩ o => by
  subst e
  obtain ⟨xv, rfl, r⟩ := rx.one
  rw [raw_bt r]
  exact ⟨_, b.length, rfl, ⟨by rw [byteArr_size]; exact z, (byteArr_size b).symm⟩, o _ _ _ _ _ Grow.refl hm RT.int_ p⟩⟩
theorem s_itemB : Sim2 K (fun x y H Q => ∃ (z : List UInt8) (i : Int), x = .byt z.toArray ∧ y = .int i ∧ z.length ≤ sizeLine ∧ 0 ≤ i ∧ i < z.length ∧ Q (.int ((z.getD i.toNat 0).toNat : Nat)) H) fItemB := ⟨fun hm rx ry ⟨b, i, v, ex, ey, hb, z, i0, hi, p⟩ o => by
  subst ex; subst ey
  have hl := (List.getElem?_eq_some_iff.mp hi).1
  refine ⟨b.map fun n : Int => n.toNat.toUInt8, i, raw_bt rx, ry.int_inv, by simpa using z, i0, by rw [List.length_map]; omega, ?_⟩
  rw [byte_at hb hi]
  exact o _ _ _ _ _ Grow.refl hm RT.int_ p⟩
theorem s_slB : SimSl K rSlB fSlB := ⟨fun hm rx ⟨b, k, ex, el, eh, hk, z, p⟩ o => by
  subst ex; subst el; subst eh
  refine ⟨_, raw_bt rx, by rw [byteArr_size]; exact z, ?_⟩
  have e : PySem.W.KBy.picked (byteArr b) none (some (k : Int)) = byteArr (b.take k) := by
    unfold byteArr
    rw [pk_to (by simpa using hk), List.map_take]
  rw [e]
  exact o _ _ _ _ _ Grow.refl hm rt_bt p⟩
theorem i_byt (a : SimE K B te fe) : SimI K B (iByt te) (fIB fe) := ⟨fun hl hm h k => a.run hl hm h fun x xv H1 ρ1 M1 g1 m1 rx ⟨b, e, hb, r⟩ => by
  subst e
  refine ⟨byteArr b, raw_bt rx, k _ _ (fun _ _ => True) H1 ρ1 M1 g1 m1 ⟨fun _ s => s, fun _ _ _ => ?_, fun {H ρ M i t} _ _ _ e => ?_, fun {H ρ M i t x H'} _ hm _ e y => ?_⟩ trivial r⟩
  · show (byteArr b).size ≤ (intsT b).length
    unfold intsT
    rw [byteArr_size, List.length_map]
    exact Nat.le_refl _
  · show i < (byteArr b).size
    have h := (List.getElem?_eq_some_iff.mp e).1
    have h2 : (intsT b).length = b.length := List.length_map ..
    have h : i < (intsT b).length := h
    rw [byteArr_size]
    omega
  · obtain ⟨rfl, c, h1, rfl⟩ := y
    have e : (intsT b)[i]? = some t := e
    unfold intsT at e
    rw [List.getElem?_map] at e
    cases hv : b[i]? with
    | none => rw [hv] at e; cases e
    | some v =>
      rw [hv] at e
      cases e
      obtain ⟨c', h2, h3⟩ := arr_get hb hv
      rw [h1] at h2
      cases h2
      rw [h3]
      exact ⟨Grow.refl, hm, RT.int_⟩⟩
theorem s_neB : Sim2 K rNe fNeB := ⟨fun hm rx ry ⟨b, c, ex, ey, hb, hc, p⟩ o => by
  subst ex; subst ey
  rw [raw_bt rx, raw_bt ry]
  refine ⟨rfl, ?_⟩
  have e : decide (V.byt (byteArr b) = V.byt (byteArr c)) = decide (b = c) := by
    by_cases h : b = c
    · subst h; simp
    · rw [decide_eq_false h, decide_eq_false fun z => h (bt_inj hb hc (by injection z))]
  rw [e]
  exact o _ _ _ _ _ Grow.refl hm RT.bl_ p⟩
theorem c_bytes : SimC K (fun xs H Q => ∃ p ns, xs = [.ref p] ∧ SqL K H p (ns.map V.int) ∧ B8 ns ∧ Q (.byt (byteArr ns)) H) fBytes := ⟨fun hm rx ⟨x, e, b, el, hb, p⟩ o => by
  subst e
  obtain ⟨xv, rfl, r⟩ := rx.one
  obtain ⟨n, a, us, _, _, _, rfl, h2, h3⟩ := lstAt_ok hm r el
  rw [rts_ints_inv h3] at h2
  exact ⟨a, b, rfl, .inl (.inl h2), hb, o _ _ _ _ _ Grow.refl hm rt_bt p⟩⟩
theorem c_listB : SimC K (r1 kLstB) fListB := ⟨fun hm rx ⟨b, e, hb, z, p⟩ o => by
  subst e
  obtain ⟨xv, rfl, r⟩ := rx.one
  rw [raw_bt r]
  refine ⟨_, rfl, by rw [byteArr_size]; exact z, ?_⟩
  rw [bi_make hb]
  exact out_list hm (rts_intsT b) o p⟩
theorem c_divmod : SimC K (fun xs H Q => ∃ i j, xs = [.int i, .int j] ∧ CDiv i j ∧ ∀ p, H p = none → Q (.ref p) (upd H p (.tup [.int (i / j), .int (i % j)]))) fDivmod := ⟨fun hm rx ⟨i, j, e, c, p⟩ o => by
  subst e
  obtain ⟨x1, x2, rfl, r1, r2⟩ := rx.two
  rw [r1.int_inv, r2.int_inv]
  exact ⟨i, j, rfl, c, out_tup hm (RTs.cons RT.int_ (RTs.cons RT.int_ RTs.nil)) o p⟩⟩
theorem s_and127 : Sim2 K (fun x y H Q => ∃ (i : Int) (k : Nat), x = .int i ∧ y = .int (2 ^ k - 1) ∧ Q (.int (i % 2 ^ k)) H) fAnd127 := ⟨fun hm rx ry ⟨i, ex, ey, p⟩ o => by
  subst ex; subst ey
  rw [rx.int_inv, ry.int_inv]
  exact ⟨i, 7, rfl, rfl, o _ _ _ _ _ Grow.refl hm RT.int_ p⟩⟩
theorem i_revA (a : SimE K B te fe) : SimI K B (_root_.RT.iRevA K te) (fIRev fe) := ⟨fun hl hm h k => a.run hl hm h fun x xv H1 ρ1 M1 g1 m1 rx ⟨ts, e, r⟩ => by
  obtain ⟨n, b, xs, rfl, hn, _, rfl, h3, h4⟩ := lstAt_ok m1 rx e
  have hlen := h4.len
  refine ⟨b, xs, rfl, .inl ⟨.inl (.inl h3), k _ _ (fun H ρ => ∃ m, Tr.ref n = .ref m ∧ ρ[m]? = some b) H1 ρ1 M1 g1 m1 ⟨fun g ⟨m, e, z⟩ => ⟨m, e, ext_get g.ext z⟩, fun {H ρ M} s hm e => ?_, fun {H ρ M i t} s hm e ei => ?_, fun {H ρ M i t x H'} s hm e ei y => ?_⟩ ⟨n, rfl, hn⟩ r⟩⟩
  · show xs.length ≤ ts.reverse.length
    rw [List.length_reverse, hlen]; exact Nat.le_refl _
  · obtain ⟨ys, h1, h2⟩ := lst_again (ρ' := []) (M' := []) (H' := fun _ => none) s hm e
    have ei : ts.reverse[i]? = some t := ei
    have hi : i < ts.length := by have := (List.getElem?_eq_some_iff.mp ei).1; rwa [List.length_reverse] at this
    rw [List.getElem?_reverse hi] at ei
    obtain ⟨y, h5, _⟩ := h2.get ei
    exact ⟨by rw [hlen]; exact hi, ys, y, .inl (.inl h1), by rw [hlen]; exact h5⟩
  · obtain ⟨ys, h1, h2⟩ := lst_again (ρ' := []) (M' := []) (H' := fun _ => none) s hm e
    have ei : ts.reverse[i]? = some t := ei
    have hi : i < ts.length := by have := (List.getElem?_eq_some_iff.mp ei).1; rwa [List.length_reverse] at this
    rw [List.getElem?_reverse hi] at ei
    obtain ⟨z, h5, h6⟩ := h2.get ei
    obtain ⟨rfl, y⟩ := y
    have := y ys (.inl (.inl h1))
    rw [hlen, h5] at this
    cases this
    exact ⟨Grow.refl, hm, h6⟩⟩
theorem sim_star (a : SimE K B te fe) (b : SimA K B ta fa) : SimA K B (StX.tStar K te ta) (fStar fe fa) := ⟨fun hl hm h o => a.run hl hm h fun x xv H1 ρ1 M1 g1 m1 rx ⟨ts, e, p⟩ => by
  obtain ⟨n, q, xs, _, _, _, rfl, h3, h4⟩ := lstAt_ok m1 rx e
  exact ⟨q, xs, rfl, .inr (.inl (.inl h3)), b.run (hl.mono g1) m1 p fun us ys H2 ρ2 M2 g2 m2 ry p2 => o _ _ _ _ _ (g1.trans g2) m2 ((h4.mono g2).app ry) p2⟩⟩
theorem sim_fldAug {r : V → V → Hp → VK → Prop} {fr : F2} {f : Str} (s : Sim2 K r fr) (a : SimE K B te fe) (b : SimE K B tv fv) : SimS K B (sFldAug K te tv r f) (fFldAug K fe fv fr f) := ⟨fun hl hm h e => a.run hl hm h fun x xv H1 ρ1 M1 g1 m1 rx ⟨n, C, fs, v, ei, c, na, lk, p⟩ => by
  obtain ⟨q, dx, gs, rfl, h1, h2, rfl, h3, h4, h5⟩ := insAt_ok m1 rx ei
  obtain ⟨w, k1, k2⟩ := h5.look lk
  refine ⟨q, C, dx, gs, w, rfl, h3, c, na, k1, b.run (hl.mono g1) m1 p fun y yv H2 ρ2 M2 g2 m2 ry p2 => s.run m2 (k2.mono g2) ry p2 fun z zv H3 ρ3 M3 g3 m3 rz ⟨fs', e3, l3, p3⟩ => ?_⟩
  obtain ⟨q', j1, dx', gs', j2, j3, j4⟩ := m3.at_ n _ e3
  have hq : q' = q := by
    have := ext_get (g2.trans g3).ext h1
    rw [j1] at this
    exact Option.some.inj this
  subst hq
  have g4 := Grow.wi (hs := putF f zv gs') m3 j2 (List.mem_of_getElem? j1)
  have gg := ((g1.trans g2).trans g3).trans g4
  exact ⟨dx', gs', j2, by rw [j4.len]; exact l3, e.nx _ _ _ _ _ gg (hl.mono gg) (m3.wi j2 j3 j1 (RFs.put rz j4)) p3⟩⟩
theorem sim_raise0 {C : Addr} {E : XK} {PX : PXF} (hE : OutX K B.1 B.2 PX E) : SimS K B (fun _ σ H => (fun (_ : L2.St) (H : Hp) (Q : Value → Option Addr → Hp → Prop) => Q (.ref C) none H) σ H fun cls d H' => E cls d H') (fRaise0 C PX) := ⟨fun hl hm p e => hE C [] none _ _ _ hl.gr hm (.inl ⟨rfl, rfl⟩) p⟩
end
end T1

set_option Elab.async false
set_option linter.all false
set_option maxRecDepth 100000
set_option maxHeartbeats 4000000
namespace T1
open PySem PySem.Spec PyProof.Rows L2 C8 Fm
local macro_rules | `(tactic| walk_at "hf") => `(tactic| (fail_if_success (show (fun _ => none : Hp) _ = _)); first | assumption | with_reducible exact upd_same | ((with_reducible show upd _ _ _ _ = _); first | exact up_new' (by assumption) (by walk_at "hf") | exact up_set (by walk_at "ne") (by walk_at "hf")) | exact Same.at' (by assumption) (by walk_at "hf") | exact But.at' (by assumption) (by walk_at "ne") (by walk_at "ne") (by walk_at "hf"))
local macro_rules | `(tactic| walk_at "hf0") => `(tactic| (fail_if_success (show (fun _ => none : Hp) _ = _)); first | assumption | with_reducible exact upd_same | ((with_reducible show upd _ _ _ _ = _); exact up_new' (by assumption) (by walk_at "hf0")))
local macro_rules | `(tactic| walk_at "ne") => `(tactic| first | assumption | (apply Ne.symm; assumption) | exact ne_of_none' (by assumption) (by walk_at "hf0") | exact Ne.symm (ne_of_none' (by assumption) (by walk_at "hf0")) | exact LSt.f1 (by assumption) (by walk_at "lst") | exact LSt.f2 (by assumption) (by walk_at "lst"))
local macro_rules | `(tactic| walk_at "sqt") => `(tactic| (fail_if_success (show SqT _ (fun _ => none) _ _)); first | assumption | exact SqT.of' (by walk_at "hf") | ((with_reducible show SqT _ (upd _ _ _) _ _); first | exact SqT.new' (by assumption) (by walk_at "sqt") | exact SqT.put' (by walk_at "hf") (by walk_at "sqt")) | exact Same.tup (by assumption) (by walk_at "sqt") | exact But.tup (by assumption) (by walk_at "lst") (by walk_at "sqt"))
local macro_rules | `(tactic| walk_at "sql") => `(tactic| (fail_if_success (show SqL _ (fun _ => none) _ _)); first | assumption | exact SqL.of' (by walk_at "hf") | ((with_reducible show SqL _ (upd _ _ _) _ _); exact SqL.new' (by assumption) (by walk_at "sql")) | exact Same.sql' (by assumption) (by walk_at "sql"))
local macro_rules | `(tactic| walk_at "lst") => `(tactic| (fail_if_success (show LSt (fun _ => none) _ _)); first | assumption | ((with_reducible show LSt (upd _ _ _) _ _); first | exact LSt.new (by walk_at "lst") (by assumption) | exact LSt.put (by walk_at "lst") (by walk_at "ne") (by walk_at "ne")) | exact LSt.same' (by assumption) (by walk_at "lst"))
local macro_rules | `(tactic| walk_at "but") => `(tactic| first | assumption | exact But.refl _ _ _ | ((with_reducible show But _ _ _ (upd _ _ _)); exact But.nw (by assumption) (by walk_at "but")) | exact But.bu (by assumption) (by walk_at "but") | exact But.sm (by assumption) (by walk_at "but"))
local macro_rules | `(tactic| walk_at "ls") => `(tactic| first | assumption | exact Ls.same (by walk_at "ls") (Same.upd' (by assumption)))
local macro_rules | `(tactic| walk_at "ll") => `(tactic| first | assumption | exact LL.same (by walk_at "ll") (Same.upd' (by assumption)) | exact LL.same' (by assumption) (by walk_at "ll") | exact LL.but' (by assumption) (by walk_at "lst") (by walk_at "ll"))
local macro_rules | `(tactic| walk_at "sm") => `(tactic| first | assumption | exact Same.refl _ | ((with_reducible show Same _ (upd _ _ _)); first | exact Same.put' (by assumption) (by walk_at "sm") | exact Same.trans (by walk_at "sm") (Same.upd' (by assumption))) | exact Same.trans (by walk_at "sm") (by assumption))
/-- one step of a reading -/
local macro_rules | `(tactic| walk_at "rd") => `(tactic| first
  | with_reducible refine iteF ?_
  | with_reducible refine iteT ?_
  | with_reducible refine itNotF ?_
  | with_reducible refine itNotT ?_
  | refine ⟨_, rfl, ?_⟩
  | refine ⟨_, _, rfl, rfl, ?_⟩
  | refine ⟨_, _, rfl, ?_⟩
  | refine ⟨(_ : Addr), (_ : List V), (_ : Int), (_ : V), rfl, rfl, SqL.of' (by walk_at "hf"), (by first | assumption | rfl), ?_⟩
  | refine ⟨(_ : Addr), (_ : List V), (_ : Int), (_ : V), rfl, rfl, (by walk_at "sqt" : SqT _ _ _ _), (by first | assumption | rfl), ?_⟩
  | refine .inl ⟨_, rfl, ?_⟩
  | refine ⟨_, _, rfl, .inl (by walk_at "sql" : SqL _ _ _ _), ?_⟩
  | refine ⟨_, _, rfl, .inl ⟨(by walk_at "sql" : SqL _ _ _ _), fun p hp => ?_⟩⟩
  | refine ⟨_, _, rfl, .inr ⟨(by walk_at "sqt" : SqT _ _ _ _), ?_⟩⟩
  | refine fun (p : Addr) (hp : (_ : Hp) p = none) => ?_
  | refine ⟨_, _, rfl, .inr (by walk_at "sqt" : SqT _ _ _ _), ?_⟩
  | refine And.intro (by show _ ≤ sizeLine; first | decide | walk_at "sz") (fun p hp => ?_)
  | refine ⟨(_ : Addr), (_ : Addr), (_ : List V), (_ : List V), rfl, rfl, (by walk_at "hf"), (by walk_at "hf"), (by walk_at "sz"), fun p hp => ?_⟩
  | refine ⟨(_ : Addr), (_ : Addr), (_ : List V), (_ : List V), rfl, rfl, (by walk_at "hf"), (by walk_at "hf"), (by walk_at "sz"), ?_⟩
  | refine ⟨(_ : Addr), (_ : List V), (_ : Int), (_ : Nat), rfl, rfl, (by walk_at "hf"), (by rfl), ?_⟩
  | refine And.intro ⟨_, (by walk_at "sql" : SqL _ _ _ _)⟩ ?_
  | refine And.intro ⟨_, (by walk_at "sqt" : SqT _ _ _ _)⟩ ?_
  | refine And.intro (.inl ⟨rfl, _, SqL.of' (by walk_at "hf")⟩) ?_
  | refine And.intro (by walk_at "cond") ?_
  | exact .inl ⟨rfl, _, SqL.of' (by walk_at "hf")⟩
  | with_reducible refine iteT ?_
  | with_reducible refine iteF ?_
  | refine And.intro (by rfl : scal _ _ = true) ?_
  | refine And.intro (by rfl : _ = V.non) ?_
  | refine And.intro (by rfl : wipe _ _ = wipe _ _) ?_
  | refine And.intro (by rfl : (_ : List V) = []) ?_
  | refine ⟨(_ : Addr), (_ : List V), rfl, (by walk_at "sqt" : SqT _ _ _ _), (by rfl), ?_⟩)
/-- a test: known, or both ways -/
local macro_rules | `(tactic| walk_at "if") => `(tactic| first
  | with_reducible refine itD (by omega) ?_
  | with_reducible refine itN (by omega) ?_
  | with_reducible refine itnD (by omega) ?_
  | with_reducible refine itnN (by omega) ?_
  | with_reducible refine itE (by omega) ?_
  | with_reducible refine itEn (by omega) ?_
  | with_reducible refine itnE (by omega) ?_
  | with_reducible refine itnEn (by omega) ?_
  | with_reducible refine itN (by intro z; cases z) ?_
  | with_reducible refine itD (by decide) ?_
  | with_reducible refine itN (by decide) ?_
  | with_reducible refine itnD (by decide) ?_
  | with_reducible refine itnN (by decide) ?_)
local macro_rules | `(tactic| walk_at "if2") => `(tactic| first
  | with_reducible refine itS (fun z => ?_) (fun z => ?_)
  | with_reducible refine itS' (fun z => ?_) (fun z => ?_)
  | with_reducible refine itSE (fun z => ?_) (fun z => ?_)
  | with_reducible refine itnS (fun z => ?_) (fun z => ?_)
  | with_reducible refine itnS' (fun z => ?_) (fun z => ?_)
  | with_reducible refine itnSE (fun z => ?_) (fun z => ?_))
local macro_rules | `(tactic| walk_at "go") => `(tactic| repeat' (first | walk_at "rd" | walk_at "if" | walk_at "if2" | fail))
local macro_rules | `(tactic| walk_at "sz") => `(tactic| (rw [sizeLine_eq]; simp only [List.length_append, List.length_map, List.length_cons, List.length_nil]; omega))
local macro_rules | `(tactic| walk_at "cond") => `(tactic| first | assumption | (show (_ : Int) ≠ 0; first | omega | (split <;> omega)) | (show (0 : Int) < _; first | assumption | decide) | exact ⟨by decide, by decide, by decide⟩ | exact .inr ⟨by decide, by decide⟩ | exact wide_div (b := 64) (by assumption) (by omega) (by decide) (by decide) | exact ⟨by decide, by decide⟩)


local macro_rules | `(tactic| walk_at "sim1") => `(tactic| with_reducible first
  | exact sim_nil | exact sim_var | exact sim_int | exact sim_str | exact sim_bl | exact sim_non | exact sim_raw
  | apply sim_cons | apply sim_op | apply sim_un | apply sim_tup | apply sim_lst
  | apply sim_CB | apply sim_if | apply sim_test | apply sim_B | apply sim_not | apply sim_and | apply sim_or
  | apply sim_andV | apply sim_orV | apply sim_notV | apply sim_chain | exact sim_nopart | apply sim_part
  | apply sim_sl | apply sim_BML | apply sim_BMS | apply sim_BM0S | apply sim_M1 | apply sim_M0
  | apply sim_fmt | apply sim_joined | exact SimJ.nil | apply SimJ.cons
  | exact s_I0i | exact s_I0b | exact s_Ii | exact s_Ui | exact s_eq | exact s_ne | exact s_isN | exact s_notN | exact s_ixL | exact s_ixT | exact s_ixS
  | exact s_cat | exact s_catA | exact s_rep | exact s_repT | exact s_in | exact s_slL | exact s_slA | exact s_slS | exact s_addS | exact s_leS | exact s_ltS
  | exact c_len | exact c_lenS | exact c_list | exact c_tuple | exact c_int1 | exact c_intS | exact c_strI | exact c_max2 | exact c_min2
  | exact m_append | exact m_extend | exact m_split | exact m_join | exact m_0b | exact m_1b
  | apply sim_call | exact simSpF
  | exact sim_name | exact sim_gnil | apply sim_gcons | apply sim_gtup | apply sim_gsub | exact set_list
  | exact sim_next | apply sim_seq | apply sim_cut | exact sim_break | exact sim_cont | apply sim_drop | apply sim_ret | exact sim_retN
  | apply sim_ifS | exact sim_never | apply sim_asg | apply sim_par | apply sim_aug
  | apply sim_for | apply sim_while | apply i_list | apply i_tup | apply i_rng1 | apply i_rng2 | apply i_str | apply i_enum | apply i_zip
  | apply sim_lc | exact sim_yes | exact sim_namew (by decide) | exact sim_gnilw | apply sim_gconsw | apply sim_gtupw
  | apply sim_fld | apply sim_con | apply sim_setFld | apply sim_make | apply sim_prop | apply sim_meth | apply sim_cmeth | exact c_isi | apply sim_isiT | exact s_eqD | exact s_neD
  | walk_at "sim2")
local macro_rules | `(tactic| walk_at "sim2") => `(tactic| fail)
local macro_rules | `(tactic| walk_at "sim") => `(tactic| repeat' (walk_at "sim1"))
/-- open the trees' reading as far as it goes by itself -/
local macro_rules | `(tactic| walk_at "fm") => `(tactic| simp (config := { failIfUnchanged := false }) only [fVar, fC, fOp, fUn, fNil, fCons, fTup, fLst, fCB, fIf, fTest, fNot, fAnd, fOr, fAndV, fOrV, fNotV, fChain, fNoPart, fPart, fI, fI0, fU, fEq, fNe, fIsN, fNotN, fIxL, fIxT, fIxS,
  fCat, fCatA, fRep, fRepT, fSlL, fSlA, fSlS, fSl, fLen, fLenS, fList, fTuple, fIntS, fStrI, fMax2, fMin2, fAppend, fExtend, fIn, fBM, fMS, fBMS, fBM0S, fAddS, fLeS, fLtS, fM0b, fM1b, fSplit, fJoin, fJoined, fJs,
  fName, fGNil, fGCons, fGTup, fSetL, fGSub, fNext, fSeq, fCut, fBreak, fCont, fDrop, fRet, fRetN, fIfS, fAsg, fPar, fAug, fCall, fFld, fCon, fSetFld, fMake, fProp, fMeth, fCMeth, fIsi, fIsiT, fEqD, fNeD, insAt_ref, insO_ins, fFmt, fmtS_i, fmtS_s, fmtOk_i, fmtOk_s, fIL, fIT, fIR1, fIR2, fIS, fIEn, fIZ,
  startL, List.map_cons, List.map_nil, List.length_cons, List.length_nil, List.cons_append, List.nil_append, List.replicate, List.getElem?_cons_zero, List.getElem?_cons_succ, List.set_cons_zero, List.set_cons_succ, Nat.reduceSub, Nat.reduceAdd,
  Option.some.injEq, Tr.int.injEq, Tr.str.injEq, Tr.bl.injEq, Tr.tup.injEq, Tr.ref.injEq, List.cons.injEq, exists_eq_left, exists_eq_left', exists_eq_right, true_and, and_true, and_self, exists_and_left, tupOf_tup, eqS_ii, eqS_ss, eqS_bb, eqS_ni, eqS_in, eqS_nn, isStr_s, isN_n, isN_i, isN_b, isN_s, isN_t, isN_r, noRaw_n, noRaw_i, noRaw_b, noRaw_s, noRaw_t, noRaw_r, and_assoc, reduceIte, Bool.false_eq_true, exists_const, lstAt_ref, seqAt_ref, seqAt_tup, refAt_ref, lstO_lst, app_assoc2, len_app1, at_kk, at_00, set_k, set_00, Nat.add_assoc, Option.map_some, Prod.mk.injEq, int_cast_inj, Nat.zero_le, decide_eq_true_eq, Bool.not_eq_true', decide_eq_false_iff_not, Nat.add_zero, implies_true, forall_const, ite_true, ite_false, if_true, if_false, decide_true, decide_false, Bool.not_true, Bool.not_false, asg_len, Option.isSome_some])
local macro_rules | `(tactic| walk_at "bel") => `(tactic| first | rfl | (simp (config := { failIfUnchanged := false }) only [belM, O.bel, bels_strs, bels_ints, belL, Tr.bel, Tr.bels, Bool.and_true, Bool.true_and, Bool.and_self, decide_eq_true_eq, Bool.and_eq_true, true_and, and_true, List.length_cons, List.length_nil, Nat.reduceAdd]; try omega))

abbrev sIXi : Stmt := L2.inClass (top 5) 0
/-- an error without a def of its own -/
structure OErr (K : PySem.W.Frag) (mg : Str → Option Value) (x : Str) (C : Addr) : Prop where
  g : mg x = some (.ref C)
  q : PySem.W.excIn K C [.type "ValueError", .type "Exception", .type "BaseException", .type "object"] "ValueError.__new__" = true
  k : PySem.W.keepIn K (.ref C) = true
  s : PySem.W.subIn K (.ref C) (.type "BaseException") = some true
  t : PySem.W.typeIn K (.ref C) = some (.type "type")
/-- InvalidData -/
structure ProgX (K : PySem.W.Frag) (mg : Str → Option Value) (CX fX : Addr) : Prop where
  gX : mg "InvalidData" = some (.ref CX)
  ox : OexC K CX
  iX : PySem.W.findIn K (.ref CX) "__init__" = some (some (.ref fX))
  tX : PySem.W.typeIn K (.ref fX) = some (.type "function")
  nR : PySem.W.findIn K (.ref CX) "offset" = some none
def ixF (i : Int) : List (Str × V) := [("offset", .int i)]
def spIXi (K : PySem.W.Frag) (CX : Addr) : Sp := fun vs H Q _ => ∃ (a : Addr) (i : Int), vs = [.ref a, .int i] ∧ H a = some (exo a CX none) ∧ 0 ≤ i ∧ i ≤ 1000000 ∧
  ∀ dx H', H dx = none → dx ≠ a → H' a = some (exo a CX (some dx)) → H' dx = some (exd dx (ixF i)) → (∀ b o, b ≠ a → H b = some o → H' b = some o) → Q .non H'
section
variable {P : Program} {w : World} {K : PySem.W.Frag} {mg : Str → Option Value} {base : Heap} {CB CT fT C CX fX : Addr} {mB : Value}
theorem scIXi : FnScope ["self", "offset"] ["self", "offset"] (L2.defScope sIXi) := ⟨rfl, rfl, rfl, by decide +kernel, rfl, by decide +kernel, by decide +kernel⟩
theorem ok_IXi {fd : FuncData} (F : L2.Fun K "__init__" "InvalidData.__init__" sIXi fX fd) (T : Prog K mg CB CT fT C mB) (TX : ProgX K mg CX fX) : FnOk P w K mg base L2.CX0 1 fX fd ["self", "offset"] (spIXi K CX) := by
  refine F.ok scIXi (fun vs H Q E h => ?_) (fun cdv A outer s H vs Q E hr h => ?_)
  · obtain ⟨a, i, rfl, _⟩ := h; rfl
  · obtain ⟨a, i, rfl, ha, i0, i1, q⟩ := h
    refine ⟨_, pss_cons (ps_expr (pe_beinit (by rfl) T.gB T.rdB T.sgB T.inB (pa_cons (pv 0) (pa_cons (pe_joined (PJ.cons pe_str (PJ.cons (pe_fmt (pv 1)) PJ.nil))) pa_nil))))
      (pss_one (ps_ost (pv 0) (pv 1))), ?_⟩
    have L0 : (Str.empty : Str).length = 0 := rfl
    have L1 : ("invalid data: offset " : Str).length = 21 := by decide +kernel
    have L3 : (Str.ofString (toString i)).length ≤ 7 := PyProof.Rows.toString_length_le i0 (by decide) (by omega)
    have lg : i.natAbs.log2 < 1920 := Nat.lt_of_lt_of_le (PySem.Flt.log2_lt_of (k := 20) (by decide) (by omega)) (by decide)
    walk_at "go"
    refine ⟨by rw [sizeLine_eq, Str.length_append, L0, L1]; omega, _, rfl, .inr ⟨i, rfl, lg, _, rfl, by rw [sizeLine_eq, Str.length_append, Str.length_append, L0, L1]; omega, ?_⟩⟩
    refine ⟨a, CX, _, rfl, by show 1 ≤ 1000; decide, TX.ox, ha, ?_⟩
    refine ⟨_, rfl, _, rfl, a, CX, rfl, TX.ox, TX.nR, .inl ⟨ha, fun dx hdx nda => ?_⟩⟩
    exact q dx _ hdx nda (by first | exact upd_same | exact up_set (Ne.symm nda) upd_same) (by first | exact upd_same | exact up_set nda upd_same) fun b o nb e => by first | exact up_set nb (up_new e hdx) | exact up_set (ne_of_none e hdx) (up_set nb e)
theorem raise_ix {H1 : Hp} {i : Int} {Wk : XK} (i0 : 0 ≤ i) (i1 : i ≤ 1000000) (k : ∀ d H', Same H1 H' → H1 d = none → H' d = some (.xd (ixF i)) → Wk (.ref CX) (some d) H') :
    ([V.int i] : List V).length ≤ 1000 ∧ ∀ a, H1 a = none → spIXi K CX (.ref a :: ([.int i] ++ [])) (upd H1 a (exo a CX none))
      (fun v H2 => v = .non ∧ ∃ (d : Addr) (fs : List (Str × V)), H2 a = some (exo a CX (some d)) ∧ H2 d = some (exd d fs) ∧ H1 d = none ∧ Wk (.ref CX) (some d) (upd (L2.del H2 a) d (.xd fs))) (fun _ _ _ => False) := by
  refine ⟨by show 1 ≤ 1000; decide, fun a ha => ⟨a, i, rfl, upd_same, i0, i1, fun dx H' hdx nda e1 e2 old => ?_⟩⟩
  rw [upd_ne nda] at hdx
  refine ⟨rfl, dx, ixF i, e1, e2, hdx, k dx _ (fun b o e => ?_) hdx upd_same⟩
  have nba : b ≠ a := ne_of_none e ha
  have nbd : b ≠ dx := ne_of_none e hdx
  rw [upd_ne nbd, L2.del_ne nba]
  exact old b o nba (up_new e ha)
/-- raise InvalidData(offset) -/
def ixT (i : Int) : List (Str × Tr) := [("offset", .int i)]
def fRaiseX (CX : Addr) (PX : PXF) (fa : FA) : FS := fun _ L M => fa L M fun ts M1 => ∃ i : Int, ts = [.int i] ∧ 0 ≤ i ∧ i ≤ 1000000 ∧ PX CX (ixT i) M1
theorem sim_raiseX {B : Bs} {E : XK} {PX : PXF} {as : TA} {fs : FA} (hE : OutX K B.1 B.2 PX E) (a : SimA K B as fs) : SimS K B (fun _ σ H => tMkO CX (spIXi K CX) [] as σ H fun cls d H' => E cls d H') (fRaiseX CX PX fs) :=
  ⟨fun hl hm h e => a.run hl hm h fun ts xs H1 ρ1 M1 g1 m1 rx ⟨i, et, i0, i1, p⟩ => by
    subst et
    obtain ⟨x, rfl, r1⟩ := rx.one
    cases r1.int_inv
    refine raise_ix i0 i1 fun d H' sm hd hx => ?_
    obtain ⟨g2, m2⟩ := same_grow sm m1
    exact hE CX (ixT i) (some d) H' ρ1 M1 ((hl.gr.trans g1).trans g2) m2 (.inr ⟨d, _, rfl, hx, _, _, rfl, RT.int_, rfl⟩) p⟩
end
end T1

set_option Elab.async false
set_option linter.all false
set_option maxRecDepth 100000
set_option maxHeartbeats 4000000
namespace T1
open PySem PySem.Spec PyProof.Rows L2 C8 Fm
theorem forget_same {k : Nat} {J : Fm.Loc → Mem → Prop} {L L' : Fm.Loc} {M : Mem} (le : LocLe L' L) (j : J L' M) (hk : k ≤ List.length M ∧ belL (List.length M) L' = true) (hM : belM (List.length M) M = true) : Forget k J L M :=
  ⟨M.length, L', hk.1, le, hk.2, by rw [List.take_length]; exact hM, by rw [List.take_length]; exact j⟩
theorem forget_base {k : Nat} {J : Fm.Loc → Mem → Prop} {L L' : Fm.Loc} {M h : Mem} (hk : k ≤ List.length M) (le : LocLe L' L) (j : J L' M) (bl : belL (List.length M) L' = true) (hM : belM M.length M = true) : Forget k J L (M ++ h) :=
  ⟨M.length, L', hk, le, bl, by rw [List.take_left]; exact hM, by rw [List.take_left]; exact j⟩
theorem keepX_same {H : Hp} {ρ : List Addr} {K : PySem.W.Frag} {M : Mem} {PX : PXF} {D : Addr} {fs : List (Str × Tr)} (m : RM K H ρ M) (b : belF M.length fs = true) (p : PX D fs M) : KeepX M.length PX D fs M :=
  ⟨M.length, Nat.le_refl _, b, by rw [List.take_length]; exact m.belM, by rw [List.take_length]; exact p⟩
theorem insAt_of {M : Mem} {k : Nat} {C : Addr} {fs : List (Str × Tr)} (e : M[k]? = some (.ins C fs)) : insAt M (.ref k) = some (k, C, fs) := by
  rw [insAt_ref, e]
  rfl
theorem insM_of {M : Mem} {k : Nat} {C : Addr} {fs : List (Str × Tr)} (e : M[k]? = some (.ins C fs)) : (insO M[k]?).map (fun p => (k, p.1, p.2)) = some (k, C, fs) := by
  rw [e]
  rfl
theorem at_l {M g : Mem} {k : Nat} {o : O} (e : M[k]? = some o) : (M ++ g)[k]? = some o := by
  rw [List.getElem?_append_left (List.getElem?_eq_some_iff.mp e).1]
  exact e
theorem belM_set {k : Nat} {o : O} (ho : O.bel k o = true) : ∀ {M : Mem} {n : Nat}, belM k M = true → belM k (M.set n o) = true
  | [], _, h => h
  | u :: M, 0, h => by
    unfold belM at h
    rw [Bool.and_eq_true] at h
    show (O.bel k o && belM k M) = true
    rw [ho, h.2]
    rfl
  | u :: M, n + 1, h => by
    unfold belM at h
    rw [Bool.and_eq_true] at h
    show (O.bel k u && belM k (M.set n o)) = true
    rw [h.1, belM_set ho h.2]
    rfl
theorem keep_set {K : PySem.W.Frag} {H : Hp} {ρ : List Addr} {M : Mem} {P : PF} {v : Tr} {n : Nat} {o : O} (m : RM K H ρ M) (b : Tr.bel M.length v = true) (ho : O.bel M.length o = true) (p : P v (M.set n o)) : Keep M.length P v (M.set n o) :=
  keep_whole (by simp) (by rw [List.length_set]; exact b) (by rw [List.length_set]; exact belM_set ho m.belM) p
theorem set_same {M : Mem} {n : Nat} {o u : O} (e : M[n]? = some u) : (M.set n o)[n]? = some o := by rw [List.getElem?_set_self (List.getElem?_eq_some_iff.mp e).1]
theorem ints_app (a b : List Int) : intsT (a ++ b) = intsT a ++ intsT b := by unfold intsT; rw [List.map_append]
theorem int1_i {i : Int} {M : Mem} {P : PF} : fInt1 [.int i] M P ↔ P (.int i) M := by
  unfold fInt1
  simp
def fCVal (K : PySem.W.Frag) (fe : FE) (f : Str) : FE := fun L M P => fe L M fun x M1 => ∃ (C : Addr) (mc : Value) (i : Int) (u : Value), x = .raw (.ref C) ∧ ClX.CRead K C mc ∧ ClX.CVal K C mc f (.int i) u ∧ P (.int i) M1
theorem sim_cval {K : PySem.W.Frag} {B : Bs} {te : TE} {fe : FE} {f : Str} (a : SimE K B te fe) : SimE K B (ClX.tCVal K te f) (fCVal K fe f) := ⟨fun hl hm h o => a.run hl hm h fun x xv H1 ρ1 M1 g1 m1 rx ⟨C, mc, i, u, ex, cr, cv, p⟩ => by
  subst ex
  exact ⟨C, mc, .int i, u, rx.raw_inv, cr, cv, o _ _ _ _ _ g1 m1 RT.int_ p⟩⟩
/-- an expression that is never reached -/
def tNv : TE := fun _ _ _ => False
def fNv : FE := fun _ _ _ => False
theorem pe_nv {X : Cx} {e : Expr} : PE X e tNv := ⟨fun _ _ _ _ _ _ h => h.elim⟩
theorem sim_nv {K : PySem.W.Frag} {B : Bs} : SimE K B tNv fNv := ⟨fun _ _ h _ => h⟩
/-! ### defs out of which an exception may come -/
structure CalX (P : Program) (w : World) (K : PySem.W.Frag) (mg : Str → Option Value) (base : Heap) (k : Nat) (x : Str) (sp : Sp) : Prop where
  ex : ∃ (f : Addr) (fd : FuncData) (ps : List Str), FnOk P w K mg base (L2.CX P w) k f fd ps sp ∧ mg x = some (.ref f) ∧ PySem.W.keepIn K (.ref f) = true ∧ L2.Binds K fd ps []
structure MetX (P : Program) (w : World) (K : PySem.W.Frag) (mg : Str → Option Value) (base : Heap) (k : Nat) (C : Addr) (m : Str) (sp : Sp) : Prop where
  ex : ∃ (f : Addr) (fd : FuncData) (ps : List Str), Cls K C ∧ L2.Meth K C m f ∧ FnOk P w K mg base (L2.CX P w) k f fd ps sp ∧ L2.Binds K fd ps []
section
variable {X : Cx} {k j : Nat} {x m : Str} {sp : Sp} {E : XK} {t : TA} {ta : TE} {e o : Expr} {es : List Expr} {p pos apos : Pos} {C : Addr}
theorem pe_cX (c : CalX X.prog X.w X.K X.mg X.base k x sp) (hr : Room j X.A) (hk : k ≤ j) (hg : Gl X x) (hx : L2.Passes (L2.CX X.prog X.w) X E) (ha : PA X (e :: es) t)
    (hdb : (x == ("__debug__" : Str)) = false := by decide) (he : starEach (e :: es) X.env = (false, eval e X.env) :: starEach es X.env := by rfl) (hpl : (backTo pos (starEach es X.env)).any (·.1) = false := by rfl) :
    PE X (.Call (.Name x p) (e :: es) [] pos) (tCall sp [] E t) := by
  obtain ⟨f, fd, ps, F, hm, kp, b⟩ := c.ex
  exact pe_call F (hr.mono hk) hg hm kp b .nil hx ha hdb he hpl
theorem pe_mX {pl : Sem Bool} (c : MetX X.prog X.w X.K X.mg X.base k C m sp) (hr : Room j X.A) (hk : k ≤ j) (hx : L2.Passes (L2.CX X.prog X.w) X E) (he : PE X o ta) (ha : PA X (e :: es) t)
    (hst : starEach (e :: es) X.env = (false, eval e X.env) :: starEach es X.env := by rfl) (hpl : (backTo pos (starEach es X.env)).any (·.1) = false := by rfl)
    (ht : eval (.Call (.Attribute o m apos) (e :: es) [] pos) X.env = (do
      let ov ← eval o X.env
      standAt apos.atName
      let (f, first) ← holding [ov] (getMethod ov m pl)
      callWith pos f first (backTo pos (starEach (e :: es) X.env)) (backToKw pos (keywordEach [] X.env))) := by rfl) :
    PE X (.Call (.Attribute o m apos) (e :: es) [] pos) (tMeth C m sp [] E ta t) := by
  obtain ⟨f, fd, ps, hc, hm, F, b⟩ := c.ex
  exact pe_meth (pl := pl) he hc hm F (hr.mono hk) b .nil hx ha hst hpl ht
theorem pe_mX0 {pl : Sem Bool} (c : MetX X.prog X.w X.K X.mg X.base k C m sp) (hr : Room j X.A) (hk : k ≤ j) (hx : L2.Passes (L2.CX X.prog X.w) X E) (he : PE X o ta)
    (ht : eval (.Call (.Attribute o m apos) [] [] pos) X.env = (do
      let ov ← eval o X.env
      standAt apos.atName
      let (f, first) ← holding [ov] (getMethod ov m pl)
      callWith pos f first (backTo pos (starEach [] X.env)) (backToKw pos (keywordEach [] X.env))) := by rfl) :
    PE X (.Call (.Attribute o m apos) [] [] pos) (tMeth C m sp [] E ta tNil) := by
  obtain ⟨f, fd, ps, hc, hm, F, b⟩ := c.ex
  exact pe_meth0 (pl := pl) he hc hm F (hr.mono hk) b .nil hx ht
end
theorem pass_no {X : Cx} : L2.Passes (L2.CX X.prog X.w) X (fun _ _ _ => False) := fun _ _ _ _ _ _ _ ⟨_, _, _, _, _, _, _, _, _, _, _, _, h⟩ => h.elim
/-- the built-in names and the numbers of the module -/
structure BQ (mg : Str → Option Value) : Prop where
  len : mg "len" = none
  int : mg "int" = none
  range : mg "range" = none
  list : mg "list" = none
  tuple : mg "tuple" = none
  isinstance : mg "isinstance" = none
  divmod : mg "divmod" = none
  reversed : mg "reversed" = none
  bytes : mg "bytes" = none
  g_MARK : ∃ u, mg "MARK" = some u ∧ RelV (.int 84) u
  g_MAX_BYTE : ∃ u, mg "MAX_BYTE" = some u ∧ RelV (.int 255) u
  g_GROUP : ∃ u, mg "GROUP" = some u ∧ RelV (.int 128) u
  g_LOW_BITS : ∃ u, mg "LOW_BITS" = some u ∧ RelV (.int 127) u
  g_MOST_GROUPS : ∃ u, mg "MOST_GROUPS" = some u ∧ RelV (.int 9) u
  g_MAX_LENGTH : ∃ u, mg "MAX_LENGTH" = some u ∧ RelV (.int 99) u
abbrev sPack : Stmt := top 15
abbrev sUnpack : Stmt := top 16
abbrev sGroupsOf : Stmt := top 17
abbrev sCheck : Stmt := top 18
abbrev sEnc : Stmt := top 19
abbrev sRInit : Stmt := L2.inClass (top 20) 0
abbrev sTake : Stmt := L2.inClass (top 20) 1
abbrev sTakeO : Stmt := L2.inClass (top 20) 2
abbrev sTakeL : Stmt := L2.inClass (top 20) 3
abbrev sTakeE : Stmt := L2.inClass (top 20) 4
abbrev sReadB : Stmt := top 21
abbrev sDec : Stmt := top 22
end T1

set_option Elab.async false
set_option linter.all false
set_option maxRecDepth 100000
set_option maxHeartbeats 4000000
namespace T1
open PySem PySem.Spec PyProof.Rows L2 C8 Fm T3
local macro_rules | `(tactic| walk_at "sim1") => `(tactic| with_reducible first
  | exact sim_nil | exact sim_var | exact sim_int | exact sim_str | exact sim_bl | exact sim_non | exact sim_raw
  | apply sim_cons | apply sim_op | apply sim_un | apply sim_tup | apply sim_lst
  | apply sim_CB | apply sim_if | apply sim_test | apply sim_B | apply sim_not | apply sim_and | apply sim_or
  | apply sim_andV | apply sim_orV | apply sim_notV | apply sim_chain | exact sim_nopart | apply sim_part
  | apply sim_sl | apply sim_BML | apply sim_BMS | apply sim_BM0S | apply sim_M1 | apply sim_M0
  | apply sim_fmt | apply sim_joined | exact SimJ.nil | apply SimJ.cons
  | exact s_I0i | exact s_I0b | exact s_Ii | exact s_Ui | exact s_eq | exact s_ne | exact s_isN | exact s_notN | exact s_ixL | exact s_ixT | exact s_ixS
  | exact s_cat | exact s_catA | exact s_rep | exact s_repT | exact s_in | exact s_slL | exact s_slA | exact s_slS | exact s_addS | exact s_leS | exact s_ltS
  | exact c_len | exact c_lenS | exact c_list | exact c_tuple | exact c_int1 | exact c_intS | exact c_strI | exact c_max2 | exact c_min2
  | exact m_append | exact m_extend | exact m_split | exact m_join | exact m_0b | exact m_1b
  | apply sim_call | exact simSpF
  | exact sim_name | exact sim_gnil | apply sim_gcons | apply sim_gtup | apply sim_gsub | exact set_list
  | exact sim_next | apply sim_seq | apply sim_cut | exact sim_break | exact sim_cont | apply sim_drop | apply sim_ret | exact sim_retN
  | apply sim_ifS | exact sim_never | apply sim_asg | apply sim_par | apply sim_aug
  | apply sim_for | apply sim_while | apply i_list | apply i_tup | apply i_rng1 | apply i_rng2 | apply i_str | apply i_enum | apply i_zip
  | apply sim_lc | exact sim_yes | exact sim_namew (by decide) | exact sim_gnilw | apply sim_gconsw | apply sim_gtupw
  | apply sim_fld | apply sim_con | apply sim_setFld | apply sim_make | apply sim_prop | apply sim_meth | apply sim_cmeth | exact c_isi | apply sim_isiT | exact s_eqD | exact s_neD
  | walk_at "sim2")
local macro_rules | `(tactic| walk_at "sim2") => `(tactic| fail)
local macro_rules | `(tactic| walk_at "sim") => `(tactic| repeat' (walk_at "sim1"))
/-- open the trees' reading as far as it goes by itself -/
local macro_rules | `(tactic| walk_at "fm") => `(tactic| simp (config := { failIfUnchanged := false }) only [fVar, fC, fOp, fUn, fNil, fCons, fTup, fLst, fCB, fIf, fTest, fNot, fAnd, fOr, fAndV, fOrV, fNotV, fChain, fNoPart, fPart, fI, fI0, fU, fEq, fNe, fIsN, fNotN, fIxL, fIxT, fIxS,
  fCat, fCatA, fRep, fRepT, fSlL, fSlA, fSlS, fSl, fLen, fLenS, fList, fTuple, fIntS, fStrI, fMax2, fMin2, fAppend, fExtend, fIn, fBM, fMS, fBMS, fBM0S, fAddS, fLeS, fLtS, fM0b, fM1b, fSplit, fJoin, fJoined, fJs,
  fName, fGNil, fGCons, fGTup, fSetL, fGSub, fNext, fSeq, fCut, fBreak, fCont, fDrop, fRet, fRetN, fIfS, fAsg, fPar, fAug, fCall, fFld, fCon, fSetFld, fMake, fProp, fMeth, fCMeth, fIsi, fIsiT, fEqD, fNeD, insAt_ref, insO_ins, fFmt, fmtS_i, fmtS_s, fmtOk_i, fmtOk_s, fIL, fIT, fIR1, fIR2, fIS, fIEn, fIZ,
  startL, List.map_cons, List.map_nil, List.length_cons, List.length_nil, List.cons_append, List.nil_append, List.replicate, List.getElem?_cons_zero, List.getElem?_cons_succ, List.set_cons_zero, List.set_cons_succ, Nat.reduceSub, Nat.reduceAdd,
  Option.some.injEq, Tr.int.injEq, Tr.str.injEq, Tr.bl.injEq, Tr.tup.injEq, Tr.ref.injEq, List.cons.injEq, exists_eq_left, exists_eq_left', exists_eq_right, true_and, and_true, and_self, exists_and_left, tupOf_tup, eqS_ii, eqS_ss, eqS_bb, eqS_ni, eqS_in, eqS_nn, isStr_s, isN_n, isN_i, isN_b, isN_s, isN_t, isN_r, noRaw_n, noRaw_i, noRaw_b, noRaw_s, noRaw_t, noRaw_r, and_assoc, reduceIte, Bool.false_eq_true, exists_const, lstAt_ref, seqAt_ref, seqAt_tup, refAt_ref, lstO_lst, app_assoc2, len_app1, at_kk, at_00, set_k, set_00, Nat.add_assoc, Option.map_some, Prod.mk.injEq, int_cast_inj, Nat.zero_le, decide_eq_true_eq, Bool.not_eq_true', decide_eq_false_iff_not, Nat.add_zero, implies_true, forall_const, ite_true, ite_false, if_true, if_false, decide_true, decide_false, Bool.not_true, Bool.not_false, asg_len, Option.isSome_some])
local macro_rules | `(tactic| walk_at "bel") => `(tactic| first | rfl | (simp (config := { failIfUnchanged := false }) only [belM, O.bel, bels_strs, bels_ints, belL, Tr.bel, Tr.bels, Bool.and_true, Bool.true_and, Bool.and_self, decide_eq_true_eq, Bool.and_eq_true, true_and, and_true, List.length_cons, List.length_nil, Nat.reduceAdd]; try omega))

local macro_rules | `(tactic| walk_at "sim2") => `(tactic| first | exact simGet | exact simTi | exact simDrawn | assumption | apply sim_wo | apply sim_wa | apply sim_wb | apply sim_putA | apply sim_putB | exact sim_wnew | exact c_lenB | exact s_itemB | exact s_slB | exact s_neB | exact c_bytes | exact c_listB | exact c_divmod | exact s_and127 | apply i_revA | apply i_byt | apply sim_star | apply sim_fldAug | apply sim_cval | apply sim_raise0 | apply sim_raiseX)
local macro_rules | `(tactic| walk_at "sim1") => `(tactic| first | (with_reducible apply sim_callX; assumption) | (with_reducible apply sim_methX; assumption) | (with_reducible apply sim_makeX; assumption))
local macro_rules | `(tactic| walk_at "fm2") => `(tactic| simp (config := { failIfUnchanged := false }) only [sm_app, sm_len, sm_at, sm_at0, sm_set, sm_set0, List.getElem?_cons_zero, List.getElem?_cons_succ, List.set_cons_zero, List.set_cons_succ, lstO_lst, Option.isSome_some, Option.map_some, Option.some.injEq, Prod.mk.injEq, Nat.add_assoc, Nat.reduceAdd, exists_eq_left', exists_eq_left, true_and, and_assoc, fWo, fWa, fWb, fPutA, fPutB, fWnew, fLenB, fItemB, fSlB, fIB, fNeB, fBytes, fListB, fDivmod, fAnd127, fIRev, fStar, fFldAug, fRaise0, fRaiseX, fCVal, int1_i])
local macro_rules | `(tactic| walk_at "fd") => `(tactic| (walk_at "fm"; walk_at "fm2"; walk_at "fm"; walk_at "fm2"; walk_at "fm"))

section
variable {P : Program} {w : World} {K : PySem.W.Frag} {mg : Str → Option Value} {base : Heap} {CN : Addr}
theorem intsT_get {b : List Int} {i : Nat} {y : Tr} (h : (intsT b)[i]? = some y) : ∃ v, b[i]? = some v ∧ y = .int v := by
  unfold intsT at h
  rw [List.getElem?_map] at h
  cases hv : b[i]? with
  | none => rw [hv] at h; cases h
  | some v => rw [hv] at h; cases h; exact ⟨v, rfl, rfl⟩
theorem intsT_len (b : List Int) : (intsT b).length = b.length := List.length_map ..
theorem bels_intsT {n : Nat} (b : List Int) : Tr.bels n (intsT b) = true := bels_ints b
/-! ### pack_bytes, unpack_bytes -/
def fsPack (CN : Addr) : FSp := fun ts M P PX => ∃ (n : Nat) (b : List Int), ts = [.ref n] ∧ M[n]? = some (.lst (intsT b)) ∧ b.length ≤ 100000 ∧ (B8 b → P (btT b) M) ∧ (¬ B8 b → PX CN [] M)
theorem scPack : FnScope ["numbers", "number"] ["numbers"] (L2.defScope sPack) := ⟨rfl, rfl, rfl, by decide +kernel, rfl, by decide +kernel, by decide +kernel⟩
theorem ok_pack {f : Addr} {fd : FuncData} (F : L2.Fun K "pack_bytes" "pack_bytes" sPack f fd) (T : BQ mg) (TN : OErr K mg "InvalidCount" CN) : FnOk P w K mg base (L2.CX P w) 1 f fd ["numbers"] (spF K (fsPack CN)) := by
  refine F.okX scPack (fun vs H Q E h => ?_) (fun cdv A outer s H vs Q E hr h => ?_)
  · obtain ⟨ts, ρ, M, P, PX, r, m, ⟨n, b, rfl, _⟩, o, ox⟩ := h
    exact r.len
  · refine ⟨_, (pss_cons (ps_for (passes_of rfl) rfl (pi_list (pv 0)) (pg_name (i := 1) scPack.nd rfl (Or.inl rfl)) (pss_one (ps_if (pt_not (pt_chain op_le op_le pe_int (pv 1) (pe_gc (v := .int 255) (by rfl) T.g_MAX_BYTE))) (pss_one (ps_raise rfl (takes_of rfl rfl rfl rfl) (pmk_own PySem.F.excBase_ValueError TN.q TN.g TN.k (raises_own TN.s TN.t) (by rfl)))) pss_nil)))
 (pss_one (ps_ret (pe_callTy (call_bytes_list rfl) (by rfl) T.bytes (by decide +kernel) (pa_cons (pv 0) pa_nil))))), ?_⟩
    obtain ⟨ts, ρ, M, P, PX, r, m, ⟨n, b, rfl, hn, hl, q1, q2⟩, o, ox⟩ := h
    have hE := keepX_of m ox
    try simp only [nox_K, cx_K]
    refine run_in r m o (by walk_at "sim") ?_
    walk_at "fd"
    unfold fFor
    walk_at "fd"
    refine ⟨intsT b, by rw [hn]; rfl, fun i L2 M2 => ∃ v : Option Tr, L2 = [some (.ref n), v] ∧ M2 = M ∧ ∀ (k : Nat) (z : Int), k < i → b[k]? = some z → 0 ≤ z ∧ z < 256, ⟨none, rfl, rfl, fun k z h => absurd h (Nat.not_lt_zero k)⟩, ?_, ?_, ?_⟩
    · rintro i L2 M2 hi ⟨v, rfl, rfl, hk⟩
      walk_at "fd"
      rw [hn]; rfl
    · rintro i y L2 M2 hy ⟨v, rfl, rfl, hk⟩
      obtain ⟨z, hz, rfl⟩ := intsT_get hy
      walk_at "fd"
      have out : ¬ (0 ≤ z ∧ z < 256) → KeepX (List.length M2) PX CN [] M2 := fun h => ⟨M2.length, Nat.le_refl _, rfl, by rw [List.take_length]; exact m.belM, by rw [List.take_length]; exact q2 fun hb => h (hb z (List.mem_of_getElem? hz))⟩
      by_cases h0 : 0 ≤ z
      · rw [if_pos h0]
        by_cases h1 : z ≤ 255
        · rw [if_neg (by omega)]
          refine forget_same (LocLe.refl _) ⟨_, rfl, rfl, fun k u hk' e => ?_⟩ ⟨Nat.le_refl _, ?_⟩ m.belM
          · by_cases hki : k = i
            · subst hki
              rw [hz] at e
              cases e
              omega
            · exact hk k u (by omega) e
          · have := (List.getElem?_eq_some_iff.mp hn).1
            walk_at "bel"
        · rw [if_pos h1]
          exact out (by omega)
      · rw [if_neg h0]
        exact out (by omega)
    · rintro L2 M2 ⟨v, rfl, rfl, hk⟩
      walk_at "fd"
      have hb : B8 b := fun z hz => by
        obtain ⟨k, hk2⟩ := List.getElem?_of_mem hz
        exact hk k z (by rw [intsT_len]; exact (List.getElem?_eq_some_iff.mp hk2).1) hk2
      exact ⟨b, by rw [hn]; rfl, hb, keep_same m rfl (q1 hb)⟩
end
section
variable {P : Program} {w : World} {K : PySem.W.Frag} {mg : Str → Option Value} {base : Heap}
def fsUnpack : FSp := fun ts M P _ => ∃ b : List Int, ts = [btT b] ∧ B8 b ∧ b.length ≤ 100000 ∧ P (.ref M.length) (M ++ [.lst (intsT b)])
theorem scUnpack : FnScope ["data"] ["data"] (fnScope sUnpack) := fnScope_by (by decide +kernel)
theorem ok_unpack {f : Addr} {fd : FuncData} (F : Def K mg "unpack_bytes" sUnpack f fd) (b : L2.Binds K fd ["data"] []) (T : BQ mg) : Cal P w K mg base 1 "unpack_bytes" (spF K fsUnpack) [] := by
  refine cal0 F b .nil scUnpack (fun vs H Q E h => ?_) (fun cdv A outer s H vs Q E hr h => ?_)
  · obtain ⟨ts, ρ, M, P, PX, r, m, ⟨b, rfl, _⟩, o, ox⟩ := h
    exact r.len
  · refine ⟨_, (pss_one (ps_ret (pe_callTy (call_r1 (rl_listB rfl)) (by rfl) T.list (by decide +kernel) (pa_cons (pv 0) pa_nil)))), ?_⟩
    obtain ⟨ts, ρ, M, P, PX, r, m, ⟨b, rfl, hb, hl, q⟩, o, ox⟩ := h
    try simp only [nox_K, cx_K]
    refine run_in r m o (by walk_at "sim") ?_
    walk_at "fd"
    refine ⟨b, rfl, hb, by rw [sizeLine_eq]; omega, ?_⟩
    refine keep_whole (by simp) ?_ ?_ q
    · simp [Tr.bel]
    · rw [belM_app]
      simp only [belM, O.bel, bels_intsT, Bool.and_true]
      exact belM_mono (by simp) m.belM
/-! ### groups -/
def fsGroupsOf : FSp := fun ts M P _ => ∃ i : Int, ts = [.int i] ∧ 0 ≤ i ∧ i < 9223372036854775808 ∧ P (.ref (M.length + 1)) (M ++ [.lst (intsT ((grI i).dropLast)), .lst (intsT (grI i))])
theorem scGroupsOf : FnScope ["life", "groups", "low"] ["life"] (fnScope sGroupsOf) := fnScope_by (by decide +kernel)
theorem ok_groupsOf {f : Addr} {fd : FuncData} (F : Def K mg "_groups_of" sGroupsOf f fd) (b : L2.Binds K fd ["life"] []) (T : BQ mg) : Cal P w K mg base 1 "_groups_of" (spF K fsGroupsOf) [] := by
  refine cal0 F b .nil scGroupsOf (fun vs H Q E h => ?_) (fun cdv A outer s H vs Q E hr h => ?_)
  · obtain ⟨ts, ρ, M, P, PX, r, m, ⟨i, rfl, _⟩, o, ox⟩ := h
    exact r.len
  · refine ⟨_, (pss_cons (ps_set (i := 1) scGroupsOf.nd rfl (Or.inl rfl) (pe_lst pa_nil))
 (pss_cons (ps_while PassesOwn.never (pt_cmpR op_ge (pv 0) (pe_gc (v := .int 128) (by rfl) T.g_GROUP) (nomark _)) (pss_cons (ps_asg (pe_callB call_divmod (by rfl) T.divmod (by decide +kernel) (pa_cons (pv 0) (pa_cons (pe_gc (v := .int 128) (by rfl) T.g_GROUP) pa_nil))) (pg_tup rfl (pgs_cons (pg_name (i := 0) scGroupsOf.nd rfl (Or.inl rfl)) (pgs_cons (pg_name (i := 2) scGroupsOf.nd rfl (Or.inl rfl)) pgs_nil))))
 (pss_one (ps_expr (pe_bm PySem.F.plainAttrs_list PySem.F.slot_list_append PySem.F.type_list_append mt_append (pv 1) (pa_cons (pe_op op_add (pv 2) (pe_gc (v := .int 128) (by rfl) T.g_GROUP)) pa_nil))))))
 (pss_one (ps_ret (pe_lst (StX.pa_star (pv 1) (pa_cons (pv 0) pa_nil))))))), ?_⟩
    obtain ⟨ts, ρ, M, P, PX, r, m, ⟨i, rfl, i0, i1, q⟩, o, ox⟩ := h
    try simp only [nox_K, cx_K]
    refine run_in r m o (by walk_at "sim") ?_
    walk_at "fd"
    have hlen := grI_len (k := 9) i0 (by simpa using i1) (by decide)
    unfold fWhile
    walk_at "fd"
    refine ⟨fun n L1 M1 => ∃ (x : Int) (acc : List Int) (v2 : Option Tr), n = x.toNat ∧ 0 ≤ x ∧ L1 = [some (.int x), some (.ref M.length), v2] ∧ M1 = M ++ [.lst (intsT acc)] ∧ acc ++ grI x = grI i, ⟨_, i, [], none, rfl, i0, rfl, rfl, rfl⟩, ?_⟩
    rintro n L1 M1 ⟨x, acc, v2, rfl, x0, rfl, rfl, hx⟩
    walk_at "fd"
    by_cases hc : 128 ≤ x
    · rw [if_pos hc]
      refine ⟨⟨by decide, by decide⟩, ?_, ?_⟩
      · rw [intsT_len, sizeLine_eq]
        have := congrArg List.length hx
        rw [List.length_append] at this
        omega
      · refine forget_not (by simp) ⟨_, ?_, x / 128, rfl, by omega, acc ++ [x % 128 + 128], _, rfl, ?_, ?_⟩ ?_ m.belM ?_
        · omega
        · unfold intsT
          rw [List.map_append]
          rfl
        · rw [List.append_assoc, ← hx, grI_ge hc, T3.fm (by decide), T3.fd (by decide)]
          rfl
        · walk_at "bel"
        · have e : intsT acc ++ [Tr.int (x % 128 + 128)] = intsT (acc ++ [x % 128 + 128]) := by unfold intsT; rw [List.map_append]; rfl
          rw [e]
          simp [belM, O.bel, bels_intsT]
    · rw [if_neg hc]
      have e : acc ++ [x] = grI i := by rw [← hx, grI_lt x0 (by omega)]
      have e1 : intsT acc ++ [Tr.int x] = intsT (grI i) := by rw [← e]; unfold intsT; rw [List.map_append]; rfl
      have e2 : acc = (grI i).dropLast := by rw [← e, List.dropLast_concat]
      rw [e1]
      refine ⟨by rw [intsT_len, sizeLine_eq]; omega, ?_⟩
      rw [← e2] at q
      refine keep_whole (by simp) (by simp [Tr.bel]) ?_ q
      rw [belM_app]
      simp only [belM, O.bel, bels_intsT, Bool.and_true]
      exact belM_mono (by simp) m.belM
/-! ### the checksum -/
def fsCkL : FSp := fun ts M P _ => ∃ (n : Nat) (b : List Int), ts = [.ref n] ∧ M[n]? = some (.lst (intsT b)) ∧ b.length ≤ 100000 ∧ P (.ref M.length) (M ++ [.lst (intsT (ck2 b))])
def fsCkB : FSp := fun ts M P _ => ∃ b : List Int, ts = [btT b] ∧ B8 b ∧ b.length ≤ 100000 ∧ P (.ref M.length) (M ++ [.lst (intsT (ck2 b))])
theorem scCheck : FnScope ["numbers", "checksum", "number"] ["numbers"] (fnScope sCheck) := fnScope_by (by decide +kernel)
theorem ok_ckL {f : Addr} {fd : FuncData} (F : Def K mg "_checksum" sCheck f fd) (b : L2.Binds K fd ["numbers"] []) (T : BQ mg) : Cal P w K mg base 1 "_checksum" (spF K fsCkL) [] := by
  refine cal0 F b .nil scCheck (fun vs H Q E h => ?_) (fun cdv A outer s H vs Q E hr h => ?_)
  · obtain ⟨ts, ρ, M, P, PX, r, m, ⟨n, b, rfl, _⟩, o, ox⟩ := h
    exact r.len
  · refine ⟨_, (pss_cons (ps_set (i := 1) scCheck.nd rfl (Or.inl rfl) pe_int)
 (pss_cons (ps_for PassesOwn.never rfl (pi_list (pv 0)) (pg_name (i := 2) scCheck.nd rfl (Or.inl rfl)) (pss_one (ps_set (i := 1) scCheck.nd rfl (Or.inl rfl) (pe_op op_modN (pe_callTy call_int1 (by rfl) T.int (by decide +kernel) (pa_cons (pe_op op_add (pe_op op_mul pe_int (pv 1)) (pv 2)) pa_nil)) pe_int))))
 (pss_one (ps_ret (pe_callTy call_list_of (by rfl) T.list (by decide +kernel) (pa_cons (pe_callB call_divmod (by rfl) T.divmod (by decide +kernel) (pa_cons (pv 1) (pa_cons pe_int pa_nil))) pa_nil)))))), ?_⟩
    obtain ⟨ts, ρ, M, P, PX, r, m, ⟨n, b, rfl, hn, hl, q⟩, o, ox⟩ := h
    try simp only [nox_K, cx_K]
    refine run_in r m o (by walk_at "sim") ?_
    walk_at "fd"
    unfold fFor
    walk_at "fd"
    refine ⟨intsT b, by rw [hn]; rfl, fun i L2 M2 => ∃ v : Option Tr, L2 = [some (.ref n), some (.int (ckS 5 (b.take i))), v] ∧ M2 = M, ⟨none, rfl, rfl⟩, ?_, ?_, ?_⟩
    · rintro i L2 M2 hi ⟨v, rfl, rfl⟩
      walk_at "fd"
      rw [hn]; rfl
    · rintro i y L2 M2 hy ⟨v, rfl, rfl⟩
      obtain ⟨z, hz, rfl⟩ := intsT_get hy
      walk_at "fd"
      refine ⟨.inl ⟨by decide, by decide⟩, by decide, ?_⟩
      refine forget_same (L' := [some (.ref n), some (.int (ckS 5 (b.take (i + 1)))), none]) ?_ ⟨_, rfl, rfl⟩ ⟨Nat.le_refl _, ?_⟩ m.belM
      · rw [List.take_add_one, hz]
        show LocLe _ [_, some (.int ((41 * ckS 5 (b.take i) + z).fmod 65521)), _]
        rw [← ckS_snoc]
        exact ⟨_, rfl, _, rfl, _, _, rfl, rfl⟩
      · have := (List.getElem?_eq_some_iff.mp hn).1
        walk_at "bel"
    · rintro L2 M2 ⟨v, rfl, rfl⟩
      rw [intsT_len, List.take_length]
      walk_at "fd"
      refine ⟨⟨by decide, by decide⟩, ?_⟩
      have e : [Tr.int (ckS 5 b / 256), Tr.int (ckS 5 b % 256)] = intsT (ck2 b) := by
        unfold ck2 intsT
        rw [T3.fm (by decide), T3.fd (by decide)]
        rfl
      rw [e]
      refine keep_whole (by simp) (by simp [Tr.bel]) ?_ q
      rw [belM_app]
      simp only [belM, O.bel, bels_intsT, Bool.and_true]
      exact belM_mono (by simp) m.belM
theorem ok_ckB {f : Addr} {fd : FuncData} (F : Def K mg "_checksum" sCheck f fd) (b : L2.Binds K fd ["numbers"] []) (T : BQ mg) : Cal P w K mg base 1 "_checksum" (spF K fsCkB) [] := by
  refine cal0 F b .nil scCheck (fun vs H Q E h => ?_) (fun cdv A outer s H vs Q E hr h => ?_)
  · obtain ⟨ts, ρ, M, P, PX, r, m, ⟨b, rfl, _⟩, o, ox⟩ := h
    exact r.len
  · refine ⟨_, (pss_cons (ps_set (i := 1) scCheck.nd rfl (Or.inl rfl) pe_int)
 (pss_cons (ps_for PassesOwn.never rfl (pi_byt (pv 0)) (pg_name (i := 2) scCheck.nd rfl (Or.inl rfl)) (pss_one (ps_set (i := 1) scCheck.nd rfl (Or.inl rfl) (pe_op op_modN (pe_callTy call_int1 (by rfl) T.int (by decide +kernel) (pa_cons (pe_op op_add (pe_op op_mul pe_int (pv 1)) (pv 2)) pa_nil)) pe_int))))
 (pss_one (ps_ret (pe_callTy call_list_of (by rfl) T.list (by decide +kernel) (pa_cons (pe_callB call_divmod (by rfl) T.divmod (by decide +kernel) (pa_cons (pv 1) (pa_cons pe_int pa_nil))) pa_nil)))))), ?_⟩
    obtain ⟨ts, ρ, M, P, PX, r, m, ⟨b, rfl, hb, hl, q⟩, o, ox⟩ := h
    try simp only [nox_K, cx_K]
    refine run_in r m o (by walk_at "sim") ?_
    walk_at "fd"
    unfold fFor
    walk_at "fd"
    refine ⟨b, rfl, hb, fun i L2 M2 => ∃ v : Option Tr, L2 = [some (btT b), some (.int (ckS 5 (b.take i))), v] ∧ M2 = M, ⟨none, rfl, rfl⟩, ?_, ?_⟩
    · rintro i y L2 M2 hy ⟨v, rfl, rfl⟩
      obtain ⟨z, hz, rfl⟩ := intsT_get hy
      walk_at "fd"
      refine ⟨.inl ⟨by decide, by decide⟩, by decide, ?_⟩
      refine forget_same (L' := [some (btT b), some (.int (ckS 5 (b.take (i + 1)))), none]) ?_ ⟨_, rfl, rfl⟩ ⟨Nat.le_refl _, ?_⟩ m.belM
      · rw [List.take_add_one, hz]
        show LocLe _ [_, some (.int ((41 * ckS 5 (b.take i) + z).fmod 65521)), _]
        rw [← ckS_snoc]
        exact ⟨_, rfl, _, rfl, _, _, rfl, rfl⟩
      · rfl
    · rintro L2 M2 ⟨v, rfl, rfl⟩
      rw [intsT_len, List.take_length]
      walk_at "fd"
      refine ⟨⟨by decide, by decide⟩, ?_⟩
      have e : [Tr.int (ckS 5 b / 256), Tr.int (ckS 5 b % 256)] = intsT (ck2 b) := by
        unfold ck2 intsT
        rw [T3.fm (by decide), T3.fd (by decide)]
        rfl
      rw [e]
      refine keep_whole (by simp) (by simp [Tr.bel]) ?_ q
      rw [belM_app]
      simp only [belM, O.bel, bels_intsT, Bool.and_true]
      exact belM_mono (by simp) m.belM
end
end T1

set_option Elab.async false
set_option linter.all false
set_option maxRecDepth 100000
set_option maxHeartbeats 4000000
namespace T1
open PySem PySem.Spec PyProof.Rows L2 C8 Fm T3
local macro_rules | `(tactic| walk_at "sim1") => `(tactic| with_reducible first
  | exact sim_nil | exact sim_var | exact sim_int | exact sim_str | exact sim_bl | exact sim_non | exact sim_raw
  | apply sim_cons | apply sim_op | apply sim_un | apply sim_tup | apply sim_lst
  | apply sim_CB | apply sim_if | apply sim_test | apply sim_B | apply sim_not | apply sim_and | apply sim_or
  | apply sim_andV | apply sim_orV | apply sim_notV | apply sim_chain | exact sim_nopart | apply sim_part
  | apply sim_sl | apply sim_BML | apply sim_BMS | apply sim_BM0S | apply sim_M1 | apply sim_M0
  | apply sim_fmt | apply sim_joined | exact SimJ.nil | apply SimJ.cons
  | exact s_I0i | exact s_I0b | exact s_Ii | exact s_Ui | exact s_eq | exact s_ne | exact s_isN | exact s_notN | exact s_ixL | exact s_ixT | exact s_ixS
  | exact s_cat | exact s_catA | exact s_rep | exact s_repT | exact s_in | exact s_slL | exact s_slA | exact s_slS | exact s_addS | exact s_leS | exact s_ltS
  | exact c_len | exact c_lenS | exact c_list | exact c_tuple | exact c_int1 | exact c_intS | exact c_strI | exact c_max2 | exact c_min2
  | exact m_append | exact m_extend | exact m_split | exact m_join | exact m_0b | exact m_1b
  | apply sim_call | exact simSpF
  | exact sim_name | exact sim_gnil | apply sim_gcons | apply sim_gtup | apply sim_gsub | exact set_list
  | exact sim_next | apply sim_seq | apply sim_cut | exact sim_break | exact sim_cont | apply sim_drop | apply sim_ret | exact sim_retN
  | apply sim_ifS | exact sim_never | apply sim_asg | apply sim_par | apply sim_aug
  | apply sim_for | apply sim_while | apply i_list | apply i_tup | apply i_rng1 | apply i_rng2 | apply i_str | apply i_enum | apply i_zip
  | apply sim_lc | exact sim_yes | exact sim_namew (by decide) | exact sim_gnilw | apply sim_gconsw | apply sim_gtupw
  | apply sim_fld | apply sim_con | apply sim_setFld | apply sim_make | apply sim_prop | apply sim_meth | apply sim_cmeth | exact c_isi | apply sim_isiT | exact s_eqD | exact s_neD
  | walk_at "sim2")
local macro_rules | `(tactic| walk_at "sim2") => `(tactic| fail)
local macro_rules | `(tactic| walk_at "sim") => `(tactic| repeat' (walk_at "sim1"))
/-- open the trees' reading as far as it goes by itself -/
local macro_rules | `(tactic| walk_at "fm") => `(tactic| simp (config := { failIfUnchanged := false }) only [fVar, fC, fOp, fUn, fNil, fCons, fTup, fLst, fCB, fIf, fTest, fNot, fAnd, fOr, fAndV, fOrV, fNotV, fChain, fNoPart, fPart, fI, fI0, fU, fEq, fNe, fIsN, fNotN, fIxL, fIxT, fIxS,
  fCat, fCatA, fRep, fRepT, fSlL, fSlA, fSlS, fSl, fLen, fLenS, fList, fTuple, fIntS, fStrI, fMax2, fMin2, fAppend, fExtend, fIn, fBM, fMS, fBMS, fBM0S, fAddS, fLeS, fLtS, fM0b, fM1b, fSplit, fJoin, fJoined, fJs,
  fName, fGNil, fGCons, fGTup, fSetL, fGSub, fNext, fSeq, fCut, fBreak, fCont, fDrop, fRet, fRetN, fIfS, fAsg, fPar, fAug, fCall, fFld, fCon, fSetFld, fMake, fProp, fMeth, fCMeth, fIsi, fIsiT, fEqD, fNeD, insAt_ref, insO_ins, fFmt, fmtS_i, fmtS_s, fmtOk_i, fmtOk_s, fIL, fIT, fIR1, fIR2, fIS, fIEn, fIZ,
  startL, List.map_cons, List.map_nil, List.length_cons, List.length_nil, List.cons_append, List.nil_append, List.replicate, List.getElem?_cons_zero, List.getElem?_cons_succ, List.set_cons_zero, List.set_cons_succ, Nat.reduceSub, Nat.reduceAdd,
  Option.some.injEq, Tr.int.injEq, Tr.str.injEq, Tr.bl.injEq, Tr.tup.injEq, Tr.ref.injEq, List.cons.injEq, exists_eq_left, exists_eq_left', exists_eq_right, true_and, and_true, and_self, exists_and_left, tupOf_tup, eqS_ii, eqS_ss, eqS_bb, eqS_ni, eqS_in, eqS_nn, isStr_s, isN_n, isN_i, isN_b, isN_s, isN_t, isN_r, noRaw_n, noRaw_i, noRaw_b, noRaw_s, noRaw_t, noRaw_r, and_assoc, reduceIte, Bool.false_eq_true, exists_const, lstAt_ref, seqAt_ref, seqAt_tup, refAt_ref, lstO_lst, app_assoc2, len_app1, at_kk, at_00, set_k, set_00, Nat.add_assoc, Option.map_some, Prod.mk.injEq, int_cast_inj, Nat.zero_le, decide_eq_true_eq, Bool.not_eq_true', decide_eq_false_iff_not, Nat.add_zero, implies_true, forall_const, ite_true, ite_false, if_true, if_false, decide_true, decide_false, Bool.not_true, Bool.not_false, asg_len, Option.isSome_some])
local macro_rules | `(tactic| walk_at "bel") => `(tactic| first | rfl | (simp (config := { failIfUnchanged := false }) only [belM, O.bel, bels_strs, bels_ints, belL, Tr.bel, Tr.bels, Bool.and_true, Bool.true_and, Bool.and_self, decide_eq_true_eq, Bool.and_eq_true, true_and, and_true, List.length_cons, List.length_nil, Nat.reduceAdd]; try omega))

local macro_rules | `(tactic| walk_at "sim2") => `(tactic| first | exact simGet | exact simTi | exact simDrawn | assumption | apply sim_wo | apply sim_wa | apply sim_wb | apply sim_putA | apply sim_putB | exact sim_wnew | exact c_lenB | exact s_itemB | exact s_slB | exact s_neB | exact c_bytes | exact c_listB | exact c_divmod | exact s_and127 | apply i_revA | apply i_byt | apply sim_star | apply sim_fldAug | apply sim_cval | apply sim_raise0 | apply sim_raiseX)
local macro_rules | `(tactic| walk_at "sim1") => `(tactic| first | (with_reducible apply sim_callX; assumption) | (with_reducible apply sim_methX; assumption) | (with_reducible apply sim_makeX; assumption))
local macro_rules | `(tactic| walk_at "fm2") => `(tactic| simp (config := { failIfUnchanged := false }) only [sm_app, sm_len, sm_at, sm_at0, sm_set, sm_set0, List.getElem?_cons_zero, List.getElem?_cons_succ, List.set_cons_zero, List.set_cons_succ, lstO_lst, Option.isSome_some, Option.map_some, Option.some.injEq, Prod.mk.injEq, Nat.add_assoc, Nat.reduceAdd, exists_eq_left', exists_eq_left, true_and, and_assoc, fWo, fWa, fWb, fPutA, fPutB, fWnew, fLenB, fItemB, fSlB, fIB, fNeB, fBytes, fListB, fDivmod, fAnd127, fIRev, fStar, fFldAug, fRaise0, fRaiseX, fCVal, int1_i])
local macro_rules | `(tactic| walk_at "fd") => `(tactic| (walk_at "fm"; walk_at "fm2"; walk_at "fm"; walk_at "fm2"; walk_at "fm"))

def okE (l : Lk) : Prop := 0 ≤ l.1 ∧ l.1 < 256 ∧ 0 ≤ l.2.1 ∧ l.2.1 < 256 ∧ 0 ≤ l.2.2.1 ∧ l.2.2.1 < 256 ∧ 0 ≤ l.2.2.2 ∧ l.2.2.2 < 9223372036854775808
theorem enc1_len {l : Lk} (h : okE l) : (enc1 l).length ≤ 12 := by
  have := grI_len (k := 9) h.2.2.2.2.2.2.1 (by simpa using h.2.2.2.2.2.2.2) (by decide)
  unfold enc1
  simp only [List.length_append, List.length_cons, List.length_nil]
  omega
theorem flat_len : ∀ {ls : List Lk}, (∀ l ∈ ls, okE l) → (ls.flatMap enc1).length ≤ 12 * ls.length
  | [], _ => by simp
  | l :: ls, h => by
    have h1 := enc1_len (h l List.mem_cons_self)
    have h2 := flat_len fun m hm => h m (List.mem_cons_of_mem _ hm)
    rw [List.flatMap_cons, List.length_append, List.length_cons]
    omega
theorem encT_len {c : Int} {ls : List Lk} (hl : ls.length ≤ 24) (h : ∀ l ∈ ls, okE l) : (body c ls).length ≤ 291 ∧ (encT c ls).length ≤ 293 := by
  have := flat_len h
  unfold encT body ck2
  simp only [List.length_append, List.length_cons, List.length_nil]
  omega
theorem b8_body {c : Int} {ls : List Lk} (h0 : 1 ≤ c) (h1 : c ≤ 12) (hl : ls.length ≤ 24) (h : ∀ l ∈ ls, okE l) : B8 (body c ls) := body_oct h0 h1 hl fun l hl => ⟨(h l hl).1, (h l hl).2.1, (h l hl).2.2.1, (h l hl).2.2.2.1, (h l hl).2.2.2.2.1, (h l hl).2.2.2.2.2.1, (h l hl).2.2.2.2.2.2.1⟩
theorem b8_enc {c : Int} {ls : List Lk} (h : B8 (body c ls)) : B8 (encT c ls) := fun n hn => (List.mem_append.mp hn).elim (h n) (ck2_oct n)
section
variable {P : Program} {w : World} {K : PySem.W.Frag} {mg : Str → Option Value} {base : Heap} {CN C pS gS : Addr}
structure CE (P : Program) (w : World) (K : PySem.W.Frag) (mg : Str → Option Value) (base : Heap) (CN : Addr) : Prop where
  pack_bytes : CalX P w K mg base 1 "pack_bytes" (spF K (fsPack CN))
  _groups_of : Cal P w K mg base 1 "_groups_of" (spF K fsGroupsOf) []
  _checksum : Cal P w K mg base 1 "_checksum" (spF K fsCkL) []
def fsEnc (C : Addr) : FSp := fun ts M P _ => ∃ (n : Nat) (c : Int) (ls : List Lk), ts = [.ref n] ∧ M[n]? = some (.ins C (tFT c ls)) ∧ 1 ≤ c ∧ c ≤ 12 ∧ ls.length ≤ 24 ∧ (∀ l ∈ ls, okE l) ∧ P (btT (encT c ls)) M
theorem scEnc : FnScope ["town", "numbers", "one", "other", "length", "life"] ["town"] (fnScope sEnc) := fnScope_by (by decide +kernel)
theorem ok_enc {f p1 p2 g1 g2 : Addr} {fd fd1 fd2 : FuncData} (F : Def K mg "encode_town" sEnc f fd) (b : L2.Binds K fd ["town"] []) (T : BQ mg) (TT : PTown K mg C pS gS) (C9 : CE P w K mg base CN)
    (P1 : PropOf K C "place_count" p1 g1) (G1 : FnOk P w K mg base L2.CX0 1 g1 fd1 ["self"] (spGet C "_count")) (b1 : L2.Binds K fd1 ["self"] [])
    (P2 : PropOf K C "bridges" p2 g2) (G2 : FnOk P w K mg base L2.CX0 1 g2 fd2 ["self"] (spGet C "_bridges")) (b2 : L2.Binds K fd2 ["self"] []) : Cal P w K mg base 3 "encode_town" (spF K (fsEnc C)) [] := by
  refine cal0 F b .nil scEnc (fun vs H Q E h => ?_) (fun cdv A outer s H vs Q E hr h => ?_)
  · obtain ⟨ts, ρ, M, P, PX, r, m, ⟨n, c, ls, rfl, _⟩, o, ox⟩ := h
    exact r.len
  · have C0 := C
    have C := C9
    refine ⟨_, (pss_cons (ps_set (i := 1) scEnc.nd rfl (Or.inl rfl) (pe_lst (pa_cons (pe_gc (v := .int 84) (by rfl) T.g_MARK) (pa_cons (pe_prop (pv 0) TT.cl P1 G1 hr b1 .nil L2.pass0 rfl) (pa_cons (pe_callB call_len_seq (by rfl) T.len PySem.boot_len (pa_cons (pe_prop (pv 0) TT.cl P2 G2 hr b2 .nil L2.pass0 rfl) pa_nil)) pa_nil)))))
 (pss_cons (ps_for PassesOwn.never rfl (pi_tup (pe_prop (pv 0) TT.cl P2 G2 hr b2 .nil L2.pass0 rfl)) (pg_tup rfl (pgs_cons (pg_name (i := 2) scEnc.nd rfl (Or.inl rfl)) (pgs_cons (pg_name (i := 3) scEnc.nd rfl (Or.inl rfl)) (pgs_cons (pg_name (i := 4) scEnc.nd rfl (Or.inl rfl)) (pgs_cons (pg_name (i := 5) scEnc.nd rfl (Or.inl rfl)) pgs_nil))))) (pss_one (ps_expr (pe_bm PySem.F.plainAttrs_list PySem.F.slot_list_extend PySem.F.type_list_extend mt_extend (pv 1) (pa_cons (pe_op op_cat (pe_lst (pa_cons (pv 2) (pa_cons (pv 3) (pa_cons (pv 4) pa_nil)))) (pe_c C._groups_of hr (by first | decide | omega) (by rfl) (pa_cons (pv 5) pa_nil))) pa_nil)))))
 (pss_one (ps_ret (pe_cX C.pack_bytes hr (by first | decide | omega) (by rfl) pass_no (pa_cons (pe_op op_cat (pv 1) (pe_c C._checksum hr (by first | decide | omega) (by rfl) (pa_cons (pv 1) pa_nil))) pa_nil)))))), ?_⟩
    obtain ⟨ts, ρ, M, P, PX, r, m, ⟨n, c, ls, rfl, hn, c0, c1, hl, hls, q⟩, o, ox⟩ := h
    try simp only [nox_K, cx_K]
    refine run_in r m o (by walk_at "sim") ?_
    walk_at "fd"
    refine ⟨_, _, insM_of hn, ⟨_, _, _, _, rfl, insAt_of hn, rfl, ?_⟩⟩
    refine ⟨_, _, insM_of hn, ⟨_, _, _, _, rfl, insAt_of hn, rfl, ?_⟩⟩
    refine ⟨_, rfl, by rw [sizeLine_eq]; decide, ?_⟩
    have hlm : (ls.map lkT).length = ls.length := List.length_map ..
    rw [hlm]
    unfold fFor
    walk_at "fd"
    refine ⟨_, _, insM_of (at_l hn), ⟨_, _, _, _, rfl, insAt_of (at_l hn), rfl, ?_⟩⟩
    refine ⟨_, rfl, fun i L2 M2 => ∃ v2 v3 v4 v5 : Option Tr, L2 = [some (.ref n), some (.ref M.length), v2, v3, v4, v5] ∧ M2 = M ++ [.lst (intsT ([84, c, (ls.length : Int)] ++ (ls.take i).flatMap enc1))], ⟨none, none, none, none, rfl, rfl⟩, ?_, ?_⟩
    · rintro i y L2 M2 hy ⟨v2, v3, v4, v5, rfl, rfl⟩
      rw [List.getElem?_map] at hy
      cases hli : ls[i]? with
      | none => rw [hli] at hy; cases hy
      | some l =>
        rw [hli] at hy
        cases hy
        have hlE := hls l (List.mem_of_getElem? hli)
        walk_at "fd"
        refine ⟨_, rfl, rfl, _, _, rfl, _, _, rfl, _, _, rfl, _, _, rfl, rfl, by rw [sizeLine_eq]; decide, ⟨l.2.2.2, rfl, hlE.2.2.2.2.2.2.1, hlE.2.2.2.2.2.2.2, ?_⟩⟩
        walk_at "fd"
        have hg9 := grI_len (k := 9) hlE.2.2.2.2.2.2.1 (by simpa using hlE.2.2.2.2.2.2.2) (by decide)
        have hfl := flat_len (ls := ls.take i) fun m hm => hls m (List.mem_of_mem_take hm)
        have htl : (ls.take i).length ≤ 24 := by rw [List.length_take]; omega
        refine ⟨by rw [intsT_len, sizeLine_eq]; omega, by rw [intsT_len, intsT_len, sizeLine_eq]; simp only [List.length_cons]; omega, ?_⟩
        have e : intsT (84 :: c :: (ls.length : Int) :: (ls.take i).flatMap enc1) ++ Tr.int l.1 :: Tr.int l.2.1 :: Tr.int l.2.2.1 :: intsT (grI l.2.2.2) = intsT (84 :: c :: (ls.length : Int) :: (ls.take (i + 1)).flatMap enc1) := by
          rw [List.take_add_one, hli, List.flatMap_append]
          show _ = intsT (84 :: c :: (ls.length : Int) :: ((ls.take i).flatMap enc1 ++ (([l].flatMap enc1))))
          rw [← List.cons_append, ← List.cons_append, ← List.cons_append, ints_app]
          congr 1
          show _ = intsT (enc1 l ++ [])
          rw [List.append_nil]
          unfold enc1
          rw [ints_app]
          rfl
        rw [e]
        refine forget_to (g := [_]) (by simp) (L' := [some (.ref n), some (.ref M.length), none, none, none, none]) ?_ ⟨_, _, _, _, rfl, rfl⟩ ?_ m.belM ?_
        · exact ⟨_, rfl, _, rfl, _, _, rfl, _, _, rfl, _, _, rfl, _, _, rfl, rfl⟩
        · have := (List.getElem?_eq_some_iff.mp hn).1
          simp [belL, Tr.bel]; omega
        · simp [belM, O.bel, bels_intsT]
    · rintro L2 M2 ⟨v2, v3, v4, v5, rfl, rfl⟩
      rw [hlm, List.take_length]
      walk_at "fd"
      refine ⟨_, _, rfl, at_0, by have := flat_len hls; simp only [List.length_cons]; omega, ?_⟩
      walk_at "fd"
      have hfl := flat_len hls
      refine ⟨by rw [intsT_len, intsT_len, sizeLine_eq]; simp only [List.length_cons]; unfold ck2; simp only [List.length_cons, List.length_nil]; omega, ?_⟩
      have hb := b8_enc (b8_body c0 c1 hl hls)
      rw [← ints_app]
      refine ⟨_, _, rfl, by rw [at_k]; rfl, by have := (encT_len (c := c) hl hls).2; omega, fun _ => ?_, fun h => h hb⟩
      exact keep_app m rfl q
end
end T1

set_option Elab.async false
set_option linter.all false
set_option maxRecDepth 100000
set_option maxHeartbeats 4000000
namespace T1
open PySem PySem.Spec PyProof.Rows L2 C8 Fm T3
local macro_rules | `(tactic| walk_at "sim1") => `(tactic| with_reducible first
  | exact sim_nil | exact sim_var | exact sim_int | exact sim_str | exact sim_bl | exact sim_non | exact sim_raw
  | apply sim_cons | apply sim_op | apply sim_un | apply sim_tup | apply sim_lst
  | apply sim_CB | apply sim_if | apply sim_test | apply sim_B | apply sim_not | apply sim_and | apply sim_or
  | apply sim_andV | apply sim_orV | apply sim_notV | apply sim_chain | exact sim_nopart | apply sim_part
  | apply sim_sl | apply sim_BML | apply sim_BMS | apply sim_BM0S | apply sim_M1 | apply sim_M0
  | apply sim_fmt | apply sim_joined | exact SimJ.nil | apply SimJ.cons
  | exact s_I0i | exact s_I0b | exact s_Ii | exact s_Ui | exact s_eq | exact s_ne | exact s_isN | exact s_notN | exact s_ixL | exact s_ixT | exact s_ixS
  | exact s_cat | exact s_catA | exact s_rep | exact s_repT | exact s_in | exact s_slL | exact s_slA | exact s_slS | exact s_addS | exact s_leS | exact s_ltS
  | exact c_len | exact c_lenS | exact c_list | exact c_tuple | exact c_int1 | exact c_intS | exact c_strI | exact c_max2 | exact c_min2
  | exact m_append | exact m_extend | exact m_split | exact m_join | exact m_0b | exact m_1b
  | apply sim_call | exact simSpF
  | exact sim_name | exact sim_gnil | apply sim_gcons | apply sim_gtup | apply sim_gsub | exact set_list
  | exact sim_next | apply sim_seq | apply sim_cut | exact sim_break | exact sim_cont | apply sim_drop | apply sim_ret | exact sim_retN
  | apply sim_ifS | exact sim_never | apply sim_asg | apply sim_par | apply sim_aug
  | apply sim_for | apply sim_while | apply i_list | apply i_tup | apply i_rng1 | apply i_rng2 | apply i_str | apply i_enum | apply i_zip
  | apply sim_lc | exact sim_yes | exact sim_namew (by decide) | exact sim_gnilw | apply sim_gconsw | apply sim_gtupw
  | apply sim_fld | apply sim_con | apply sim_setFld | apply sim_make | apply sim_prop | apply sim_meth | apply sim_cmeth | exact c_isi | apply sim_isiT | exact s_eqD | exact s_neD
  | walk_at "sim2")
local macro_rules | `(tactic| walk_at "sim2") => `(tactic| fail)
local macro_rules | `(tactic| walk_at "sim") => `(tactic| repeat' (walk_at "sim1"))
/-- open the trees' reading as far as it goes by itself -/
local macro_rules | `(tactic| walk_at "fm") => `(tactic| simp (config := { failIfUnchanged := false }) only [fVar, fC, fOp, fUn, fNil, fCons, fTup, fLst, fCB, fIf, fTest, fNot, fAnd, fOr, fAndV, fOrV, fNotV, fChain, fNoPart, fPart, fI, fI0, fU, fEq, fNe, fIsN, fNotN, fIxL, fIxT, fIxS,
  fCat, fCatA, fRep, fRepT, fSlL, fSlA, fSlS, fSl, fLen, fLenS, fList, fTuple, fIntS, fStrI, fMax2, fMin2, fAppend, fExtend, fIn, fBM, fMS, fBMS, fBM0S, fAddS, fLeS, fLtS, fM0b, fM1b, fSplit, fJoin, fJoined, fJs,
  fName, fGNil, fGCons, fGTup, fSetL, fGSub, fNext, fSeq, fCut, fBreak, fCont, fDrop, fRet, fRetN, fIfS, fAsg, fPar, fAug, fCall, fFld, fCon, fSetFld, fMake, fProp, fMeth, fCMeth, fIsi, fIsiT, fEqD, fNeD, insAt_ref, insO_ins, fFmt, fmtS_i, fmtS_s, fmtOk_i, fmtOk_s, fIL, fIT, fIR1, fIR2, fIS, fIEn, fIZ,
  startL, List.map_cons, List.map_nil, List.length_cons, List.length_nil, List.cons_append, List.nil_append, List.replicate, List.getElem?_cons_zero, List.getElem?_cons_succ, List.set_cons_zero, List.set_cons_succ, Nat.reduceSub, Nat.reduceAdd,
  Option.some.injEq, Tr.int.injEq, Tr.str.injEq, Tr.bl.injEq, Tr.tup.injEq, Tr.ref.injEq, List.cons.injEq, exists_eq_left, exists_eq_left', exists_eq_right, true_and, and_true, and_self, exists_and_left, tupOf_tup, eqS_ii, eqS_ss, eqS_bb, eqS_ni, eqS_in, eqS_nn, isStr_s, isN_n, isN_i, isN_b, isN_s, isN_t, isN_r, noRaw_n, noRaw_i, noRaw_b, noRaw_s, noRaw_t, noRaw_r, and_assoc, reduceIte, Bool.false_eq_true, exists_const, lstAt_ref, seqAt_ref, seqAt_tup, refAt_ref, lstO_lst, app_assoc2, len_app1, at_kk, at_00, set_k, set_00, Nat.add_assoc, Option.map_some, Prod.mk.injEq, int_cast_inj, Nat.zero_le, decide_eq_true_eq, Bool.not_eq_true', decide_eq_false_iff_not, Nat.add_zero, implies_true, forall_const, ite_true, ite_false, if_true, if_false, decide_true, decide_false, Bool.not_true, Bool.not_false, asg_len, Option.isSome_some])
local macro_rules | `(tactic| walk_at "bel") => `(tactic| first | rfl | (simp (config := { failIfUnchanged := false }) only [belM, O.bel, bels_strs, bels_ints, belL, Tr.bel, Tr.bels, Bool.and_true, Bool.true_and, Bool.and_self, decide_eq_true_eq, Bool.and_eq_true, true_and, and_true, List.length_cons, List.length_nil, Nat.reduceAdd]; try omega))

local macro_rules | `(tactic| walk_at "sim2") => `(tactic| first | exact simGet | exact simTi | exact simDrawn | assumption | apply sim_wo | apply sim_wa | apply sim_wb | apply sim_putA | apply sim_putB | exact sim_wnew | exact c_lenB | exact s_itemB | exact s_slB | exact s_neB | exact c_bytes | exact c_listB | exact c_divmod | exact s_and127 | apply i_revA | apply i_byt | apply sim_star | apply sim_fldAug | apply sim_cval | apply sim_raise0 | apply sim_raiseX)
local macro_rules | `(tactic| walk_at "sim1") => `(tactic| first | (with_reducible apply sim_callX; assumption) | (with_reducible apply sim_methX; assumption) | (with_reducible apply sim_makeX; assumption))
local macro_rules | `(tactic| walk_at "fm2") => `(tactic| simp (config := { failIfUnchanged := false }) only [sm_app, sm_len, sm_at, sm_at0, sm_set, sm_set0, List.getElem?_cons_zero, List.getElem?_cons_succ, List.set_cons_zero, List.set_cons_succ, lstO_lst, Option.isSome_some, Option.map_some, Option.some.injEq, Prod.mk.injEq, Nat.add_assoc, Nat.reduceAdd, exists_eq_left', exists_eq_left, true_and, and_assoc, fWo, fWa, fWb, fPutA, fPutB, fWnew, fLenB, fItemB, fSlB, fIB, fNeB, fBytes, fListB, fDivmod, fAnd127, fIRev, fStar, fFldAug, fRaise0, fRaiseX, fCVal, int1_i])
local macro_rules | `(tactic| walk_at "fd") => `(tactic| (walk_at "fm"; walk_at "fm2"; walk_at "fm"; walk_at "fm2"; walk_at "fm"))

/-! ### Reader -/
def rFT (b : List Int) (k : Nat) : List (Str × Tr) := [("_data", btT b), ("_at", .int (k : Int))]
structure RdC (K : PySem.W.Frag) (C : Addr) : Prop where
  cl : Cls K C
  nD : NoAttr K C "_data"
  nA : NoAttr K C "_at"
theorem nad : (("_at" : Str) == "_data") = false := by decide +kernel
theorem lk_data {b : List Int} {k : Nat} : (rFT b k).lookup ("_data" : Str) = some (btT b) := by
  unfold rFT
  rw [List.lookup_cons, beq_self_eq_true]
theorem lk_at {b : List Int} {k : Nat} : (rFT b k).lookup ("_at" : Str) = some (.int (k : Int)) := by
  unfold rFT
  rw [List.lookup_cons, nad]
  simp only
  rw [List.lookup_cons, beq_self_eq_true]
theorem put_rd {b : List Int} {k j : Nat} : putT "_at" (.int (j : Int)) (rFT b k) = rFT b j := by
  unfold rFT putT
  rw [if_neg (by decide +kernel)]
  unfold putT
  rw [if_pos rfl]
theorem put_0 {b : List Int} : putT "_at" (.int 0) (putT "_data" (btT b) []) = rFT b 0 := by
  show (if ("_data" : Str) = "_at" then [(("_data" : Str), Tr.int 0)] else [("_data", btT b), ("_at", .int 0)]) = rFT b 0
  rw [if_neg (by decide +kernel)]
  rfl
theorem bel_rd {k : Nat} {C : Addr} {b : List Int} {j : Nat} : O.bel k (.ins C (rFT b j)) = true := rfl
section
variable {P : Program} {w : World} {K : PySem.W.Frag} {mg : Str → Option Value} {base : Heap} {CB CT CX CR fT fX C : Addr} {mB : Value}
def fsRInit (CR : Addr) : FSp := fun ts M P _ => ∃ (n : Nat) (b : List Int), ts = [.ref n, btT b] ∧ M[n]? = some (.ins CR []) ∧ P .non (M.set n (.ins CR (rFT b 0)))
theorem scRInit : FnScope ["self", "data"] ["self", "data"] (L2.defScope sRInit) := ⟨rfl, rfl, rfl, by decide +kernel, rfl, by decide +kernel, by decide +kernel⟩
theorem ok_rInit {f : Addr} {fd : FuncData} (F : L2.Fun K "__init__" "Reader.__init__" sRInit f fd) (T : BQ mg) (RC : RdC K CR) : FnOk P w K mg base L2.CX0 1 f fd ["self", "data"] (spF K (fsRInit CR)) := by
  refine F.ok scRInit (fun vs H Q E h => ?_) (fun cdv A outer s H vs Q E hr h => ?_)
  · obtain ⟨ts, ρ, M, P, PX, r, m, ⟨n, b, rfl, _⟩, o, ox⟩ := h
    exact r.len
  · refine ⟨_, (pss_cons (ps_fld (pv 0) (pv 1) rfl)
 (pss_one (ps_fld (pv 0) pe_int rfl))), ?_⟩
    obtain ⟨ts, ρ, M, P, PX, r, m, ⟨n, b, rfl, hn, q⟩, o, ox⟩ := h
    try simp only [nox_K, cx_K]
    refine run_in r m o (by walk_at "sim") ?_
    walk_at "fd"
    refine ⟨_, CR, _, insM_of hn, RC.cl, RC.nD, by decide, ?_⟩
    refine ⟨_, CR, _, insM_of (set_same hn), RC.cl, RC.nA, by show 1 < 1000; decide, ?_⟩
    rw [put_0, List.set_set]
    exact keep_set m rfl rfl q
def fsTake (CR CX : Addr) : FSp := fun ts M P PX => ∃ (n : Nat) (b : List Int) (k : Nat) (lo hi : Int), ts = [.ref n, .int lo, .int hi] ∧ M[n]? = some (.ins CR (rFT b k)) ∧ B8 b ∧ b.length ≤ 100000 ∧ k ≤ b.length ∧
  (∀ i, tk b lo hi k = .error i → PX CX (ixT (i : Int)) M) ∧ ∀ x j, tk b lo hi k = .ok (x, j) → P (.int x) (M.set n (.ins CR (rFT b j)))
theorem scTake : FnScope ["self", "low", "high"] ["self", "low", "high"] (L2.defScope sTake) := ⟨rfl, rfl, rfl, by decide +kernel, rfl, by decide +kernel, by decide +kernel⟩
theorem ok_take {f : Addr} {fd fdX : FuncData} (F : L2.Fun K "take" "Reader.take" sTake f fd) (T : BQ mg) (RC : RdC K CR) (TX : ProgX K mg CX fX) (FX : FnOk P w K mg base L2.CX0 1 fX fdX ["self", "offset"] (spIXi K CX)) (bX : L2.Binds K fdX ["self", "offset"] []) :
    FnOk P w K mg base (L2.CX P w) 3 f fd ["self", "low", "high"] (spF K (fsTake CR CX)) := by
  refine F.okX scTake (fun vs H Q E h => ?_) (fun cdv A outer s H vs Q E hr h => ?_)
  · obtain ⟨ts, ρ, M, P, PX, r, m, ⟨n, b, k, lo, hi, rfl, _⟩, o, ox⟩ := h
    exact r.len
  · refine ⟨_, (pss_cons (ps_if (PW.pt (pw_or (pt_cmpR op_eq (pe_fld (pv 0) rfl) (pe_callB call_len (by rfl) T.len PySem.boot_len (pa_cons (pe_fld (pv 0) rfl) pa_nil)) (nomark _)) (pw_or1 (pt_not (pt_chain op_le op_le (pv 1) (pe_item_byt (pe_fld (pv 0) rfl) (pe_fld (pv 0) rfl) (fun _ _ => rfl)) (pv 2)))))) (pss_one (ps_raise rfl (takes_of rfl rfl rfl rfl) (pmk_oex TX.ox TX.iX TX.tX FX (hr.mono (by decide)) bX .nil L2.pass0 (by rfl) TX.gX (pa_cons (pe_fld (pv 0) rfl) pa_nil)))) pss_nil)
 (pss_cons (ps_fldaug (pv 0) pe_int iop_add)
 (pss_one (ps_ret (pe_item_byt (pe_fld (pv 0) rfl) (pe_op op_sub (pe_fld (pv 0) rfl) pe_int) (fun _ _ => rfl)))))), ?_⟩
    obtain ⟨ts, ρ, M, P, PX, r, m, ⟨n, b, k, lo, hi, rfl, hn, hb, hl, hk, q1, q2⟩, o, ox⟩ := h
    have hE := keepX_of m ox
    try simp only [nox_K, cx_K]
    refine run_in r m o (by walk_at "sim") ?_
    walk_at "fd"
    refine ⟨_, CR, _, insM_of hn, RC.cl, RC.nA, _, lk_at, _, CR, _, insM_of hn, RC.cl, RC.nD, _, lk_data, _, rfl, by rw [sizeLine_eq]; omega, _, rfl, ?_⟩
    by_cases e : k = b.length
    · rw [if_pos (decide_eq_true (by omega))]
      have ht : tk b lo hi k = .error k := by unfold tk; rw [List.getElem?_eq_none (by omega)]
      exact ⟨_, CR, _, insM_of hn, RC.cl, RC.nA, _, lk_at, _, rfl, by omega, by omega, keepX_same m rfl (q1 _ ht)⟩
    · rw [if_neg (fun z => e (by have := of_decide_eq_true z; omega))]
      obtain ⟨x, hx⟩ : ∃ x, b[k]? = some x := ⟨_, List.getElem?_eq_getElem (by omega)⟩
      refine ⟨_, CR, _, insM_of hn, RC.cl, RC.nD, _, lk_data, _, CR, _, insM_of hn, RC.cl, RC.nA, _, lk_at, _, rfl, _, rfl, hb, by rw [sizeLine_eq]; omega, by omega, x, by simpa using hx, ?_⟩
      by_cases c1 : lo ≤ x
      · rw [if_pos c1]
        by_cases c2 : x ≤ hi
        · rw [if_neg (fun z => z c2)]
          have ht : tk b lo hi k = .ok (x, k + 1) := by unfold tk; rw [hx]; simp only; rw [if_pos ⟨c1, c2⟩]
          refine ⟨_, CR, _, insM_of hn, RC.cl, RC.nA, _, lk_at, _, rfl, _, hn, by show 2 < 1000; decide, ?_⟩
          have ep : putT "_at" (.int ((k : Int) + 1)) (rFT b k) = rFT b (k + 1) := put_rd (j := k + 1)
          rw [ep]
          refine ⟨_, CR, _, insM_of (set_same hn), RC.cl, RC.nD, _, lk_data, _, CR, _, insM_of (set_same hn), RC.cl, RC.nA, _, lk_at, _, rfl, _, rfl, hb, by rw [sizeLine_eq]; omega, by omega, x, ?_, ?_⟩
          · have e2 : (((k + 1 : Nat) : Int) - 1).toNat = k := by omega
            rw [e2]
            exact hx
          · exact keep_set m rfl rfl (q2 _ _ ht)
        · rw [if_pos c2]
          have ht : tk b lo hi k = .error k := by unfold tk; rw [hx]; simp only; rw [if_neg (fun z => c2 z.2)]
          exact ⟨_, CR, _, insM_of hn, RC.cl, RC.nA, _, lk_at, _, rfl, by omega, by omega, keepX_same m rfl (q1 _ ht)⟩
      · rw [if_neg c1]
        have ht : tk b lo hi k = .error k := by unfold tk; rw [hx]; simp only; rw [if_neg (fun z => c1 z.1)]
        exact ⟨_, CR, _, insM_of hn, RC.cl, RC.nA, _, lk_at, _, rfl, by omega, by omega, keepX_same m rfl (q1 _ ht)⟩
end
end T1

set_option Elab.async false
set_option linter.all false
namespace T3
def pre (acc : List Int) : Except Nat (List Int × Nat) → Except Nat (List Int × Nat)
  | .error i => .error i
  | .ok (gs, m) => .ok (acc ++ gs, m)
theorem pre_pre {a b : List Int} {r : Except Nat (List Int × Nat)} : pre a (pre b r) = pre (a ++ b) r := by
  cases r with
  | error i => rfl
  | ok p =>
    obtain ⟨gs, m⟩ := p
    show Except.ok (a ++ (b ++ gs), m) = Except.ok (a ++ b ++ gs, m)
    rw [List.append_assoc]
theorem lifeB_err {b : List Int} {f : Nat} {lo : Int} {k i : Nat} (h : tk b lo 255 k = .error i) : lifeB b (f + 1) lo k = .error i := by
  unfold lifeB
  rw [h]
theorem lifeB_lt {b : List Int} {f : Nat} {lo x : Int} {k j : Nat} (h : tk b lo 255 k = .ok (x, j)) (hx : x < 128) : lifeB b (f + 1) lo k = .ok ([x], j) := by
  unfold lifeB
  rw [h]
  simp only
  rw [if_pos hx]
theorem lifeB_ge {b : List Int} {f : Nat} {lo x : Int} {k j : Nat} (h : tk b lo 255 k = .ok (x, j)) (hx : ¬ x < 128) : lifeB b (f + 1) lo k = pre [x] (lifeB b f 1 j) := by
  have e : lifeB b (f + 1) lo k = (match lifeB b f 1 j with
    | .error i => .error i
    | .ok (gs, m) => .ok (x :: gs, m)) := by
    conv => lhs; unfold lifeB
    rw [h]
    simp only
    rw [if_neg hx]
    try rfl
  rw [e]
  cases lifeB b f 1 j with
  | error i => rfl
  | ok p => rfl
/-- while a life is read: what stands in the list of its groups -/
def LifeAt (b : List Int) (k : Nat) (acc : List Int) (j : Nat) : Prop := ∃ l x, acc = l ++ [x] ∧ 0 ≤ x ∧ x < 256 ∧ k < j ∧ j ≤ b.length ∧ acc.length + k = j ∧
  ((x < 128 ∧ lifeB b (b.length + 1) 0 k = .ok (acc, j)) ∨ (128 ≤ x ∧ ∃ f, b.length + 1 ≤ f + j ∧ lifeB b (b.length + 1) 0 k = pre acc (lifeB b f 1 j)))
theorem lifeAt_0 {b : List Int} {k j : Nat} {x : Int} (h : tk b 0 255 k = .ok (x, j)) : LifeAt b k [x] j := by
  obtain ⟨e1, e2, e3, e4, e5⟩ := tk_ok h
  refine ⟨[], x, rfl, e4, by omega, by omega, by omega, by simp; omega, ?_⟩
  by_cases hx : x < 128
  · exact .inl ⟨hx, lifeB_lt h hx⟩
  · exact .inr ⟨by omega, b.length, by omega, lifeB_ge h hx⟩
theorem lifeAt_err {b : List Int} {k j i : Nat} {acc : List Int} (h : LifeAt b k acc j) (hx : ∀ l x, acc = l ++ [x] → 128 ≤ x) (ht : tk b 1 255 j = .error i) : lifeB b (b.length + 1) 0 k = .error i := by
  obtain ⟨l, x, rfl, x0, x1, kj, jb, hl, h | ⟨_, f, hf, e⟩⟩ := h
  · have := hx l x rfl
    omega
  · rw [e]
    match f, hf with
    | 0, hf => omega
    | f + 1, _ => rw [lifeB_err ht]; rfl
theorem lifeAt_s {b : List Int} {k j m : Nat} {acc : List Int} {y : Int} (h : LifeAt b k acc j) (hx : ∀ l x, acc = l ++ [x] → 128 ≤ x) (ht : tk b 1 255 j = .ok (y, m)) : LifeAt b k (acc ++ [y]) m := by
  obtain ⟨l, x, rfl, x0, x1, kj, jb, hl, h | ⟨_, f, hf, e⟩⟩ := h
  · have := hx l x rfl
    omega
  · obtain ⟨e1, e2, e3, e4, e5⟩ := tk_ok ht
    refine ⟨l ++ [x], y, rfl, by omega, by omega, by omega, by omega, by simp at hl ⊢; omega, ?_⟩
    match f, hf, e with
    | 0, hf, _ => omega
    | f + 1, hf, e =>
      by_cases hy : y < 128
      · refine .inl ⟨hy, ?_⟩
        rw [e, lifeB_lt ht hy]
        rfl
      · refine .inr ⟨by omega, f, by omega, ?_⟩
        rw [e, lifeB_ge ht hy, pre_pre]
theorem lifeAt_end {b : List Int} {k j : Nat} {acc : List Int} (h : LifeAt b k acc j) (hx : ∀ l x, acc = l ++ [x] → x < 128) : lifeB b (b.length + 1) 0 k = .ok (acc, j) := by
  obtain ⟨l, x, rfl, x0, x1, kj, jb, hl, ⟨_, h⟩ | ⟨h, _⟩⟩ := h
  · exact h
  · have := hx l x rfl
    omega
theorem life_of {b : List Int} {k j : Nat} {acc : List Int} (h : lifeB b (b.length + 1) 0 k = .ok (acc, j)) : tkLife b k = if 9 < acc.length ∨ top18 < vl (acc.take 9) then .error k else .ok (vl (acc.take 9), j) := by
  unfold tkLife
  rw [h]
theorem life_bad {b : List Int} {k i : Nat} (h : lifeB b (b.length + 1) 0 k = .error i) : tkLife b k = .error i := by
  unfold tkLife
  rw [h]
theorem vl_cons {g : Int} {gs : List Int} : vl (g :: gs) = vl gs * 128 + g % 128 := by
  show g.fmod 128 + 128 * vl gs = _
  rw [fm (by decide)]
  omega
theorem vl_le : ∀ {gs : List Int}, vl gs < 128 ^ gs.length
  | [] => by decide
  | g :: gs => by
    have := vl_le (gs := gs)
    rw [vl_cons, List.length_cons, Int.pow_succ]
    omega
end T3

set_option Elab.async false
set_option linter.all false
set_option maxRecDepth 100000
set_option maxHeartbeats 4000000
namespace T1
open PySem PySem.Spec PyProof.Rows L2 C8 Fm T3
local macro_rules | `(tactic| walk_at "sim1") => `(tactic| with_reducible first
  | exact sim_nil | exact sim_var | exact sim_int | exact sim_str | exact sim_bl | exact sim_non | exact sim_raw
  | apply sim_cons | apply sim_op | apply sim_un | apply sim_tup | apply sim_lst
  | apply sim_CB | apply sim_if | apply sim_test | apply sim_B | apply sim_not | apply sim_and | apply sim_or
  | apply sim_andV | apply sim_orV | apply sim_notV | apply sim_chain | exact sim_nopart | apply sim_part
  | apply sim_sl | apply sim_BML | apply sim_BMS | apply sim_BM0S | apply sim_M1 | apply sim_M0
  | apply sim_fmt | apply sim_joined | exact SimJ.nil | apply SimJ.cons
  | exact s_I0i | exact s_I0b | exact s_Ii | exact s_Ui | exact s_eq | exact s_ne | exact s_isN | exact s_notN | exact s_ixL | exact s_ixT | exact s_ixS
  | exact s_cat | exact s_catA | exact s_rep | exact s_repT | exact s_in | exact s_slL | exact s_slA | exact s_slS | exact s_addS | exact s_leS | exact s_ltS
  | exact c_len | exact c_lenS | exact c_list | exact c_tuple | exact c_int1 | exact c_intS | exact c_strI | exact c_max2 | exact c_min2
  | exact m_append | exact m_extend | exact m_split | exact m_join | exact m_0b | exact m_1b
  | apply sim_call | exact simSpF
  | exact sim_name | exact sim_gnil | apply sim_gcons | apply sim_gtup | apply sim_gsub | exact set_list
  | exact sim_next | apply sim_seq | apply sim_cut | exact sim_break | exact sim_cont | apply sim_drop | apply sim_ret | exact sim_retN
  | apply sim_ifS | exact sim_never | apply sim_asg | apply sim_par | apply sim_aug
  | apply sim_for | apply sim_while | apply i_list | apply i_tup | apply i_rng1 | apply i_rng2 | apply i_str | apply i_enum | apply i_zip
  | apply sim_lc | exact sim_yes | exact sim_namew (by decide) | exact sim_gnilw | apply sim_gconsw | apply sim_gtupw
  | apply sim_fld | apply sim_con | apply sim_setFld | apply sim_make | apply sim_prop | apply sim_meth | apply sim_cmeth | exact c_isi | apply sim_isiT | exact s_eqD | exact s_neD
  | walk_at "sim2")
local macro_rules | `(tactic| walk_at "sim2") => `(tactic| fail)
local macro_rules | `(tactic| walk_at "sim") => `(tactic| repeat' (walk_at "sim1"))
/-- open the trees' reading as far as it goes by itself -/
local macro_rules | `(tactic| walk_at "fm") => `(tactic| simp (config := { failIfUnchanged := false }) only [fVar, fC, fOp, fUn, fNil, fCons, fTup, fLst, fCB, fIf, fTest, fNot, fAnd, fOr, fAndV, fOrV, fNotV, fChain, fNoPart, fPart, fI, fI0, fU, fEq, fNe, fIsN, fNotN, fIxL, fIxT, fIxS,
  fCat, fCatA, fRep, fRepT, fSlL, fSlA, fSlS, fSl, fLen, fLenS, fList, fTuple, fIntS, fStrI, fMax2, fMin2, fAppend, fExtend, fIn, fBM, fMS, fBMS, fBM0S, fAddS, fLeS, fLtS, fM0b, fM1b, fSplit, fJoin, fJoined, fJs,
  fName, fGNil, fGCons, fGTup, fSetL, fGSub, fNext, fSeq, fCut, fBreak, fCont, fDrop, fRet, fRetN, fIfS, fAsg, fPar, fAug, fCall, fFld, fCon, fSetFld, fMake, fProp, fMeth, fCMeth, fIsi, fIsiT, fEqD, fNeD, insAt_ref, insO_ins, fFmt, fmtS_i, fmtS_s, fmtOk_i, fmtOk_s, fIL, fIT, fIR1, fIR2, fIS, fIEn, fIZ,
  startL, List.map_cons, List.map_nil, List.length_cons, List.length_nil, List.cons_append, List.nil_append, List.replicate, List.getElem?_cons_zero, List.getElem?_cons_succ, List.set_cons_zero, List.set_cons_succ, Nat.reduceSub, Nat.reduceAdd,
  Option.some.injEq, Tr.int.injEq, Tr.str.injEq, Tr.bl.injEq, Tr.tup.injEq, Tr.ref.injEq, List.cons.injEq, exists_eq_left, exists_eq_left', exists_eq_right, true_and, and_true, and_self, exists_and_left, tupOf_tup, eqS_ii, eqS_ss, eqS_bb, eqS_ni, eqS_in, eqS_nn, isStr_s, isN_n, isN_i, isN_b, isN_s, isN_t, isN_r, noRaw_n, noRaw_i, noRaw_b, noRaw_s, noRaw_t, noRaw_r, and_assoc, reduceIte, Bool.false_eq_true, exists_const, lstAt_ref, seqAt_ref, seqAt_tup, refAt_ref, lstO_lst, app_assoc2, len_app1, at_kk, at_00, set_k, set_00, Nat.add_assoc, Option.map_some, Prod.mk.injEq, int_cast_inj, Nat.zero_le, decide_eq_true_eq, Bool.not_eq_true', decide_eq_false_iff_not, Nat.add_zero, implies_true, forall_const, ite_true, ite_false, if_true, if_false, decide_true, decide_false, Bool.not_true, Bool.not_false, asg_len, Option.isSome_some])
local macro_rules | `(tactic| walk_at "bel") => `(tactic| first | rfl | (simp (config := { failIfUnchanged := false }) only [belM, O.bel, bels_strs, bels_ints, belL, Tr.bel, Tr.bels, Bool.and_true, Bool.true_and, Bool.and_self, decide_eq_true_eq, Bool.and_eq_true, true_and, and_true, List.length_cons, List.length_nil, Nat.reduceAdd]; try omega))

local macro_rules | `(tactic| walk_at "sim2") => `(tactic| first | exact simGet | exact simTi | exact simDrawn | assumption | apply sim_wo | apply sim_wa | apply sim_wb | apply sim_putA | apply sim_putB | exact sim_wnew | exact c_lenB | exact s_itemB | exact s_slB | exact s_neB | exact c_bytes | exact c_listB | exact c_divmod | exact s_and127 | apply i_revA | apply i_byt | apply sim_star | apply sim_fldAug | apply sim_cval | apply sim_raise0 | apply sim_raiseX)
local macro_rules | `(tactic| walk_at "sim1") => `(tactic| first | (with_reducible apply sim_callX; assumption) | (with_reducible apply sim_methX; assumption) | (with_reducible apply sim_makeX; assumption))
local macro_rules | `(tactic| walk_at "fm2") => `(tactic| simp (config := { failIfUnchanged := false }) only [sm_app, sm_len, sm_at, sm_at0, sm_set, sm_set0, List.getElem?_cons_zero, List.getElem?_cons_succ, List.set_cons_zero, List.set_cons_succ, lstO_lst, Option.isSome_some, Option.map_some, Option.some.injEq, Prod.mk.injEq, Nat.add_assoc, Nat.reduceAdd, exists_eq_left', exists_eq_left, true_and, and_assoc, fWo, fWa, fWb, fPutA, fPutB, fWnew, fLenB, fItemB, fSlB, fIB, fNeB, fBytes, fListB, fDivmod, fAnd127, fIRev, fStar, fFldAug, fRaise0, fRaiseX, fCVal, int1_i])
local macro_rules | `(tactic| walk_at "fd") => `(tactic| (walk_at "fm"; walk_at "fm2"; walk_at "fm"; walk_at "fm2"; walk_at "fm"))


theorem set_id {M : Mem} {n : Nat} {o : O} (e : M[n]? = some o) : M.set n o = M := by
  obtain ⟨h, rfl⟩ := List.getElem?_eq_some_iff.mp e
  exact List.set_getElem_self h
theorem keepX_set {H : Hp} {ρ : List Addr} {K : PySem.W.Frag} {M g : Mem} {PX : PXF} {D : Addr} {fs : List (Str × Tr)} {n : Nat} {o : O} (m : RM K H ρ M) (ho : O.bel M.length o = true) (b : belF M.length fs = true) (p : PX D fs (M.set n o)) : KeepX M.length PX D fs (M.set n o ++ g) :=
  ⟨M.length, Nat.le_refl _, b, by rw [← List.length_set (i := n) (a := o), List.take_left]; rw [List.length_set]; exact belM_set ho m.belM, by rw [← List.length_set (i := n) (a := o), List.take_left]; exact p⟩
theorem keep_setG {H : Hp} {ρ : List Addr} {K : PySem.W.Frag} {M g : Mem} {P : PF} {v : Tr} {n : Nat} {o : O} (m : RM K H ρ M) (ho : O.bel M.length o = true) (b : Tr.bel M.length v = true) (p : P v (M.set n o)) : Keep M.length P v (M.set n o ++ g) :=
  ⟨M.length, Nat.le_refl _, b, by rw [← List.length_set (i := n) (a := o), List.take_left]; rw [List.length_set]; exact belM_set ho m.belM, by rw [← List.length_set (i := n) (a := o), List.take_left]; exact p⟩
theorem keepX_set0 {H : Hp} {ρ : List Addr} {K : PySem.W.Frag} {M : Mem} {PX : PXF} {D : Addr} {fs : List (Str × Tr)} {n : Nat} {o : O} (m : RM K H ρ M) (ho : O.bel M.length o = true) (b : belF M.length fs = true) (p : PX D fs (M.set n o)) : KeepX M.length PX D fs (M.set n o) := by
  have := keepX_set (g := []) m ho b p
  rwa [List.append_nil] at this
theorem lk_none {b : List Int} {k : Nat} {m : Str} (h1 : (m == "_data") = false) (h2 : (m == "_at") = false) : (rFT b k).lookup m = none := by
  unfold rFT
  rw [List.lookup_cons, h1]
  simp only
  rw [List.lookup_cons, h2]
  rfl
theorem atI_last {α : Type} {xs : List α} {x : α} : atI (xs ++ [x]) (-1) = some x := by
  unfold atI ixN
  have e : (-1 + (((xs ++ [x]).length : Nat) : Int)).toNat = xs.length := by simp; omega
  rw [if_neg (by decide), if_pos (by simp; omega), e]
  simp
theorem cut_9 (xs : List Tr) : cutT xs none (some 9) = xs.take 9 := by
  unfold cutT HT.sIx
  simp only [List.drop_zero, Nat.sub_zero]
  rw [if_neg (by decide)]
  show xs.take (min 9 xs.length) = xs.take 9
  by_cases h : 9 ≤ xs.length
  · rw [Nat.min_eq_left h]
  · rw [Nat.min_eq_right (by omega), List.take_length, List.take_of_length_le (by omega)]
section
variable {P : Program} {w : World} {K : PySem.W.Frag} {mg : Str → Option Value} {base : Heap} {CB CT CX CR fT fX C : Addr} {mB : Value}
def fsTakeO (CR CX : Addr) : FSp := fun ts M P PX => ∃ (n : Nat) (b : List Int) (k : Nat) (one hi : Int), ts = [.ref n, .int one, .int hi] ∧ M[n]? = some (.ins CR (rFT b k)) ∧ B8 b ∧ b.length ≤ 100000 ∧ k ≤ b.length ∧
  (∀ i j, (tk b 0 hi k = .error i ∨ tk b 0 hi k = .ok (one, j) ∧ i = k) → ∀ j, PX CX (ixT (i : Int)) (M.set n (.ins CR (rFT b j)))) ∧ ∀ x j, tk b 0 hi k = .ok (x, j) → x ≠ one → P (.int x) (M.set n (.ins CR (rFT b j)))
theorem scTakeO : FnScope ["self", "one", "high", "other"] ["self", "one", "high"] (L2.defScope sTakeO) := ⟨rfl, rfl, rfl, by decide +kernel, rfl, by decide +kernel, by decide +kernel⟩
theorem ok_takeO {f : Addr} {fd fdX : FuncData} (F : L2.Fun K "take_other" "Reader.take_other" sTakeO f fd) (T : BQ mg) (RC : RdC K CR) (TX : ProgX K mg CX fX) (FX : FnOk P w K mg base L2.CX0 1 fX fdX ["self", "offset"] (spIXi K CX)) (bX : L2.Binds K fdX ["self", "offset"] [])
    (MT : MetX P w K mg base 3 CR "take" (spF K (fsTake CR CX))) :
    FnOk P w K mg base (L2.CX P w) 4 f fd ["self", "one", "high"] (spF K (fsTakeO CR CX)) := by
  refine F.okX scTakeO (fun vs H Q E h => ?_) (fun cdv A outer s H vs Q E hr h => ?_)
  · obtain ⟨ts, ρ, M, P, PX, r, m, ⟨n, b, k, one, hi, rfl, _⟩, o, ox⟩ := h
    exact r.len
  · refine ⟨_, (pss_cons (ps_set (i := 3) scTakeO.nd rfl (Or.inl rfl) (pe_mX MT hr (by first | decide | omega) (L2.passes_call (takes_of rfl rfl rfl rfl) (fun _ _ _ _ h => h)) (pv 0) (pa_cons pe_int (pa_cons (pv 2) pa_nil))))
 (pss_cons (ps_if (pt_cmpR op_eq (pv 3) (pv 1) (nomark _)) (pss_one (ps_raise rfl (takes_of rfl rfl rfl rfl) (pmk_oex TX.ox TX.iX TX.tX FX (hr.mono (by decide)) bX .nil L2.pass0 (by rfl) TX.gX (pa_cons (pe_op op_sub (pe_fld (pv 0) rfl) pe_int) pa_nil)))) pss_nil)
 (pss_one (ps_ret (pv 3))))), ?_⟩
    obtain ⟨ts, ρ, M, P, PX, r, m, ⟨n, b, k, one, hi, rfl, hn, hb, hl, hk, q1, q2⟩, o, ox⟩ := h
    have hE := keepX_of m ox
    try simp only [nox_K, cx_K]
    refine run_in r m o (by walk_at "sim") ?_
    walk_at "fd"
    refine ⟨_, _, insM_of hn, lk_none (by decide +kernel) (by decide +kernel), ⟨n, b, k, 0, hi, rfl, hn, hb, hl, hk, fun i hi' => ?_, fun x j hx => ?_⟩⟩
    · have := q1 i 0 (.inl hi') k
      rw [set_id hn] at this
      exact keepX_same m rfl this
    · obtain ⟨e1, e2, _⟩ := tk_ok hx
      subst e1
      refine ⟨_, rfl, ?_⟩
      by_cases c : x = one
      · subst c
        rw [if_pos (decide_eq_true rfl)]
        refine ⟨_, CR, _, insM_of (set_same hn), RC.cl, RC.nA, _, lk_at, _, rfl, by omega, by omega, ?_⟩
        have ek : ((k + 1 : Nat) : Int) - 1 = (k : Int) := by omega
        rw [ek]
        exact keepX_set0 m rfl rfl (q1 k (k + 1) (.inr ⟨hx, rfl⟩) (k + 1))
      · rw [if_neg (fun z => c (of_decide_eq_true z))]
        exact keep_set m rfl rfl (q2 _ _ hx c)
def fsTakeL (CR CX : Addr) : FSp := fun ts M P PX => ∃ (n : Nat) (b : List Int) (k : Nat), ts = [.ref n] ∧ M[n]? = some (.ins CR (rFT b k)) ∧ B8 b ∧ b.length ≤ 100000 ∧ k ≤ b.length ∧
  (∀ i, tkLife b k = .error i → ∀ j, PX CX (ixT (i : Int)) (M.set n (.ins CR (rFT b j)))) ∧ ∀ x j, tkLife b k = .ok (x, j) → P (.int x) (M.set n (.ins CR (rFT b j)))
theorem scTakeL : FnScope ["self", "first", "groups", "life", "group"] ["self"] (L2.defScope sTakeL) := ⟨rfl, rfl, rfl, by decide +kernel, rfl, by decide +kernel, by decide +kernel⟩
theorem ok_takeL {f : Addr} {fd fdX : FuncData} (F : L2.Fun K "take_life" "Reader.take_life" sTakeL f fd) (T : BQ mg) (T0 : Prog K mg CB CT fT C mB) (RC : RdC K CR) (TX : ProgX K mg CX fX) (FX : FnOk P w K mg base L2.CX0 1 fX fdX ["self", "offset"] (spIXi K CX)) (bX : L2.Binds K fdX ["self", "offset"] [])
    (MT : MetX P w K mg base 3 CR "take" (spF K (fsTake CR CX))) :
    FnOk P w K mg base (L2.CX P w) 4 f fd ["self"] (spF K (fsTakeL CR CX)) := by
  refine F.okX scTakeL (fun vs H Q E h => ?_) (fun cdv A outer s H vs Q E hr h => ?_)
  · obtain ⟨ts, ρ, M, P, PX, r, m, ⟨n, b, k, rfl, _⟩, o, ox⟩ := h
    exact r.len
  · refine ⟨_, (pss_cons (ps_set (i := 1) scTakeL.nd rfl (Or.inl rfl) (pe_fld (pv 0) rfl))
 (pss_cons (ps_set (i := 2) scTakeL.nd rfl (Or.inl rfl) (pe_lst (pa_cons (pe_mX MT hr (by first | decide | omega) (L2.passes_call (takes_of rfl rfl rfl rfl) (fun _ _ _ _ h => h)) (pv 0) (pa_cons pe_int (pa_cons (pe_gc (v := .int 255) (by rfl) T.g_MAX_BYTE) pa_nil))) pa_nil)))
 (pss_cons (ps_while (passes_of rfl) (pt_cmpR op_ge (pe_ix ix_list (pv 2) (pe_un un_neg pe_int) (fun _ _ => rfl)) (pe_gc (v := .int 128) (by rfl) T.g_GROUP) (nomark _)) (pss_one (ps_expr (pe_bm PySem.F.plainAttrs_list PySem.F.slot_list_append PySem.F.type_list_append mt_append (pv 2) (pa_cons (pe_mX MT hr (by first | decide | omega) (L2.passes_call (takes_of rfl rfl rfl rfl) (fun _ _ _ _ h => h)) (pv 0) (pa_cons pe_int (pa_cons (pe_gc (v := .int 255) (by rfl) T.g_MAX_BYTE) pa_nil))) pa_nil)))))
 (pss_cons (ps_set (i := 3) scTakeL.nd rfl (Or.inl rfl) pe_int)
 (pss_cons (ps_for (passes_of rfl) rfl (_root_.RT.pi_revA (by rfl) T.reversed (pe_slice sl_list (pv 2) po_none (po_some (pe_gc (v := .int 9) (by rfl) T.g_MOST_GROUPS)))) (pg_name (i := 4) scTakeL.nd rfl (Or.inl rfl)) (pss_one (ps_set (i := 3) scTakeL.nd rfl (Or.inl rfl) (pe_op op_add (pe_op op_mul (pv 3) (pe_gc (v := .int 128) (by rfl) T.g_GROUP)) (pe_op op_andM (pv 4) (pe_gc (v := .int 127) (by rfl) T.g_LOW_BITS))))))
 (pss_cons (ps_if (PW.pt (pw_or (pt_cmpR op_gt (pe_callB call_len_seq (by rfl) T.len PySem.boot_len (pa_cons (pv 2) pa_nil)) (pe_gc (v := .int 9) (by rfl) T.g_MOST_GROUPS) (nomark _)) (pw_or1 (pt_cmpR op_gt (pv 3) (ClX.pe_cval (pe_gc (v := .ref C) (by rfl) ⟨_, T0.gC, rfl⟩)) (nomark _))))) (pss_one (ps_raise rfl (takes_of rfl rfl rfl rfl) (pmk_oex TX.ox TX.iX TX.tX FX (hr.mono (by decide)) bX .nil L2.pass0 (by rfl) TX.gX (pa_cons (pv 1) pa_nil)))) pss_nil)
 (pss_one (ps_ret (pv 3))))))))), ?_⟩
    obtain ⟨ts, ρ, M, P, PX, r, m, ⟨n, b, k, rfl, hn, hb, hl, hk, q1, q2⟩, o, ox⟩ := h
    have hE := keepX_of m ox
    try simp only [nox_K, cx_K]
    refine run_in r m o (by walk_at "sim") ?_
    walk_at "fd"
    refine ⟨_, CR, _, insM_of hn, RC.cl, RC.nA, _, lk_at, _, _, insM_of hn, lk_none (by decide +kernel) (by decide +kernel), ⟨n, b, k, 0, 255, rfl, hn, hb, hl, hk, fun i h => ?_, fun x j hx => ?_⟩⟩
    · have := q1 i (life_bad (lifeB_err h)) k
      rw [set_id hn] at this
      exact keepX_same m rfl this
    · refine ⟨by rw [sizeLine_eq]; decide, ?_⟩
      rw [List.length_set]
      have h0 := lifeAt_0 hx
      unfold fWhile
      walk_at "fd"
      refine ⟨fun mm L1 M1 => ∃ (acc : List Int) (j : Nat), mm = b.length + 1 - j ∧ LifeAt b k acc j ∧ L1 = [some (.ref n), some (.int (k : Int)), some (.ref M.length), none, none] ∧ M1 = M.set n (.ins CR (rFT b j)) ++ [.lst (intsT acc)], ⟨_, [x], j, rfl, h0, rfl, rfl⟩, ?_⟩
      rintro mm L1 M1 ⟨acc, j, rfl, hA, rfl, rfl⟩
      have hA2 := hA
      obtain ⟨l, y, rfl, y0, y1, kj, jb, hlen, hR⟩ := hA
      have nl := (List.getElem?_eq_some_iff.mp hn).1
      have hat : ∀ (o u : O) (g : Mem), (M.set n o ++ u :: g)[M.length]? = some u := fun o u g => by
        have := at_0 (M := M.set n o) (g := g) (o := u)
        rwa [List.length_set] at this
      have hsn : ∀ (o o' u : O) (g : Mem), (M.set n o ++ u :: g).set n o' = M.set n o' ++ u :: g := fun o o' u g => by rw [List.set_append_left _ _ (by rw [List.length_set]; exact nl), List.set_set]
      have hsl : ∀ (o u u' : O), (M.set n o ++ [u]).set M.length u' = M.set n o ++ [u'] := fun o u u' => by
        rw [List.set_append_right _ _ (by rw [List.length_set]; exact Nat.le_refl _), List.length_set, Nat.sub_self]
        rfl
      have hin : ∀ {l' : List Int} {x' : Int}, l ++ [y] = l' ++ [x'] → x' = y := fun e => by
        have := congrArg List.getLast? e
        simpa using this.symm
      walk_at "fd"
      refine ⟨_, by rw [hat]; rfl, _, by rw [ints_app]; exact atI_last, y, rfl, ?_⟩
      by_cases c : 128 ≤ y
      · rw [if_pos c]
        refine ⟨by rw [hat]; rfl, _, _, insM_of (at_l (set_same hn)), lk_none (by decide +kernel) (by decide +kernel), ⟨n, b, j, 1, 255, rfl, at_l (set_same hn), hb, hl, jb, fun i h => ?_, fun z j' hz => ?_⟩⟩
        · exact keepX_set m rfl rfl (q1 i (life_bad (lifeAt_err hA2 (fun l' x' e => by rw [hin e]; exact c) h)) j)
        · rw [hsn]
          obtain ⟨e1, e2, _⟩ := tk_ok hz
          refine ⟨_, _, by rw [hat]; rfl, by rw [intsT_len, sizeLine_eq]; omega, ?_⟩
          rw [hsl]
          refine forget_same (LocLe.refl _) ⟨_, ?_, _, j', rfl, lifeAt_s hA2 (fun l' x' e => by rw [hin e]; exact c) hz, rfl, by rw [ints_app (l ++ [y])]; rfl⟩ ⟨by simp, ?_⟩ ?_
          · omega
          · simp [belL, Tr.bel]; omega
          · rw [belM_app]
            have hM : belM (List.length (M.set n (.ins CR (rFT b j')) ++ [O.lst (intsT (l ++ [y]) ++ [Tr.int z])])) (M.set n (.ins CR (rFT b j'))) = true := belM_set rfl (belM_mono (by simp) m.belM)
            rw [hM]
            have e3 : intsT (l ++ [y]) ++ [Tr.int z] = intsT (l ++ [y] ++ [z]) := by rw [ints_app (l ++ [y])]; rfl
            rw [e3]
            simp [belM, O.bel, bels_intsT]
      · rw [if_neg c]
        have hR2 := lifeAt_end hA2 (fun l' x' e => by rw [hin e]; omega)
        generalize l ++ [y] = acc at *
        have hL := life_of hR2
        unfold fFor
        walk_at "fd"
        refine ⟨intsT acc, by rw [hat]; rfl, ?_⟩
        have ht : cutT (intsT acc) none (some 9) = intsT (acc.take 9) := by
          rw [cut_9]
          unfold intsT
          rw [List.map_take]
        rw [ht]
        obtain ⟨D, hD⟩ : ∃ D, acc.take 9 = D := ⟨_, rfl⟩
        rw [hD] at hL ⊢
        refine ⟨fun i L2 M2 => ∃ v4 : Option Tr, L2 = [some (.ref n), some (.int (k : Int)), some (.ref M.length), some (.int (vl (D.drop (D.length - i)))), v4] ∧ M2 = M.set n (.ins CR (rFT b j)) ++ [.lst (intsT acc), .lst (intsT D)], ⟨none, by rw [Nat.sub_zero, List.drop_length]; rfl, rfl⟩, ?_, ?_, ?_⟩
        · rintro i L2 M2 hi ⟨v4, rfl, rfl⟩
          rw [at_k]
          rfl
        · rintro i t L2 M2 hi ⟨v4, rfl, rfl⟩
          have hil : i < D.length := by
            have := (List.getElem?_eq_some_iff.mp hi).1
            rwa [List.length_reverse, intsT_len] at this
          rw [List.getElem?_reverse (by rw [intsT_len]; exact hil), intsT_len] at hi
          obtain ⟨g, hg, rfl⟩ := intsT_get hi
          walk_at "fd"
          refine ⟨.inr ⟨by decide, by decide⟩, ?_⟩
          have ed : D.drop (D.length - (i + 1)) = g :: D.drop (D.length - i) := by
            have e1 : D.length - 1 - i = D.length - (i + 1) := by omega
            rw [e1] at hg
            obtain ⟨hlt, hge⟩ := List.getElem?_eq_some_iff.mp hg
            rw [List.drop_eq_getElem_cons hlt, hge]
            congr 2
            omega
          have ev : vl (D.drop (D.length - (i + 1))) = vl (D.drop (D.length - i)) * 128 + g % 128 := by rw [ed, vl_cons]
          rw [← ev]
          refine forget_same (L' := [some (.ref n), some (.int (k : Int)), some (.ref M.length), some (.int (vl (D.drop (D.length - (i + 1))))), none]) ?_ ⟨none, rfl, rfl⟩ ⟨by simp, ?_⟩ ?_
          · exact ⟨_, rfl, _, rfl, _, rfl, _, rfl, _, _, rfl, rfl⟩
          · simp [belL, Tr.bel]; omega
          · rw [belM_app]
            have hM : belM (List.length (M.set n (.ins CR (rFT b j)) ++ [O.lst (intsT acc), O.lst (intsT D)])) (M.set n (.ins CR (rFT b j))) = true := belM_set rfl (belM_mono (by simp) m.belM)
            rw [hM]
            simp [belM, O.bel, bels_intsT]
        · rintro L2 M2 ⟨v4, rfl, rfl⟩
          rw [List.length_reverse, intsT_len, Nat.sub_self, List.drop_zero]
          have hs : seqAt (M.set n (.ins CR (rFT b j)) ++ [O.lst (intsT acc), O.lst (intsT D)]) (.ref M.length) = some (intsT acc) := seqAt_of (hat _ _ _)
          refine ⟨_, rfl, _, hs, ?_⟩
          rw [intsT_len]
          by_cases c9 : 9 < acc.length
          · rw [if_pos (by omega)]
            exact ⟨_, rfl, _, rfl, by omega, by omega, keepX_set m rfl rfl (q1 k (by rw [hL, if_pos (.inl c9)]) j)⟩
          · rw [if_neg (by omega)]
            obtain ⟨u, hu⟩ := T0.mlf
            refine ⟨_, rfl, _, rfl, _, T0.cr, _, _, hu, _, rfl, ?_⟩
            by_cases c18 : 1000000000000000000 < vl D
            · rw [if_pos c18]
              exact ⟨_, rfl, _, rfl, by omega, by omega, keepX_set m rfl rfl (q1 k (by rw [hL, if_pos (.inr c18)]) j)⟩
            · rw [if_neg c18]
              exact ⟨_, rfl, keep_setG m rfl rfl (q2 _ _ (by rw [hL, if_neg (fun z => z.elim c9 c18)]))⟩
end
end T1

set_option Elab.async false
set_option linter.all false
set_option maxRecDepth 100000
set_option maxHeartbeats 4000000
namespace T1
open PySem PySem.Spec PyProof.Rows L2 C8 Fm T3
local macro_rules | `(tactic| walk_at "sim1") => `(tactic| with_reducible first
  | exact sim_nil | exact sim_var | exact sim_int | exact sim_str | exact sim_bl | exact sim_non | exact sim_raw
  | apply sim_cons | apply sim_op | apply sim_un | apply sim_tup | apply sim_lst
  | apply sim_CB | apply sim_if | apply sim_test | apply sim_B | apply sim_not | apply sim_and | apply sim_or
  | apply sim_andV | apply sim_orV | apply sim_notV | apply sim_chain | exact sim_nopart | apply sim_part
  | apply sim_sl | apply sim_BML | apply sim_BMS | apply sim_BM0S | apply sim_M1 | apply sim_M0
  | apply sim_fmt | apply sim_joined | exact SimJ.nil | apply SimJ.cons
  | exact s_I0i | exact s_I0b | exact s_Ii | exact s_Ui | exact s_eq | exact s_ne | exact s_isN | exact s_notN | exact s_ixL | exact s_ixT | exact s_ixS
  | exact s_cat | exact s_catA | exact s_rep | exact s_repT | exact s_in | exact s_slL | exact s_slA | exact s_slS | exact s_addS | exact s_leS | exact s_ltS
  | exact c_len | exact c_lenS | exact c_list | exact c_tuple | exact c_int1 | exact c_intS | exact c_strI | exact c_max2 | exact c_min2
  | exact m_append | exact m_extend | exact m_split | exact m_join | exact m_0b | exact m_1b
  | apply sim_call | exact simSpF
  | exact sim_name | exact sim_gnil | apply sim_gcons | apply sim_gtup | apply sim_gsub | exact set_list
  | exact sim_next | apply sim_seq | apply sim_cut | exact sim_break | exact sim_cont | apply sim_drop | apply sim_ret | exact sim_retN
  | apply sim_ifS | exact sim_never | apply sim_asg | apply sim_par | apply sim_aug
  | apply sim_for | apply sim_while | apply i_list | apply i_tup | apply i_rng1 | apply i_rng2 | apply i_str | apply i_enum | apply i_zip
  | apply sim_lc | exact sim_yes | exact sim_namew (by decide) | exact sim_gnilw | apply sim_gconsw | apply sim_gtupw
  | apply sim_fld | apply sim_con | apply sim_setFld | apply sim_make | apply sim_prop | apply sim_meth | apply sim_cmeth | exact c_isi | apply sim_isiT | exact s_eqD | exact s_neD
  | walk_at "sim2")
local macro_rules | `(tactic| walk_at "sim2") => `(tactic| fail)
local macro_rules | `(tactic| walk_at "sim") => `(tactic| repeat' (walk_at "sim1"))
/-- open the trees' reading as far as it goes by itself -/
local macro_rules | `(tactic| walk_at "fm") => `(tactic| simp (config := { failIfUnchanged := false }) only [fVar, fC, fOp, fUn, fNil, fCons, fTup, fLst, fCB, fIf, fTest, fNot, fAnd, fOr, fAndV, fOrV, fNotV, fChain, fNoPart, fPart, fI, fI0, fU, fEq, fNe, fIsN, fNotN, fIxL, fIxT, fIxS,
  fCat, fCatA, fRep, fRepT, fSlL, fSlA, fSlS, fSl, fLen, fLenS, fList, fTuple, fIntS, fStrI, fMax2, fMin2, fAppend, fExtend, fIn, fBM, fMS, fBMS, fBM0S, fAddS, fLeS, fLtS, fM0b, fM1b, fSplit, fJoin, fJoined, fJs,
  fName, fGNil, fGCons, fGTup, fSetL, fGSub, fNext, fSeq, fCut, fBreak, fCont, fDrop, fRet, fRetN, fIfS, fAsg, fPar, fAug, fCall, fFld, fCon, fSetFld, fMake, fProp, fMeth, fCMeth, fIsi, fIsiT, fEqD, fNeD, insAt_ref, insO_ins, fFmt, fmtS_i, fmtS_s, fmtOk_i, fmtOk_s, fIL, fIT, fIR1, fIR2, fIS, fIEn, fIZ,
  startL, List.map_cons, List.map_nil, List.length_cons, List.length_nil, List.cons_append, List.nil_append, List.replicate, List.getElem?_cons_zero, List.getElem?_cons_succ, List.set_cons_zero, List.set_cons_succ, Nat.reduceSub, Nat.reduceAdd,
  Option.some.injEq, Tr.int.injEq, Tr.str.injEq, Tr.bl.injEq, Tr.tup.injEq, Tr.ref.injEq, List.cons.injEq, exists_eq_left, exists_eq_left', exists_eq_right, true_and, and_true, and_self, exists_and_left, tupOf_tup, eqS_ii, eqS_ss, eqS_bb, eqS_ni, eqS_in, eqS_nn, isStr_s, isN_n, isN_i, isN_b, isN_s, isN_t, isN_r, noRaw_n, noRaw_i, noRaw_b, noRaw_s, noRaw_t, noRaw_r, and_assoc, reduceIte, Bool.false_eq_true, exists_const, lstAt_ref, seqAt_ref, seqAt_tup, refAt_ref, lstO_lst, app_assoc2, len_app1, at_kk, at_00, set_k, set_00, Nat.add_assoc, Option.map_some, Prod.mk.injEq, int_cast_inj, Nat.zero_le, decide_eq_true_eq, Bool.not_eq_true', decide_eq_false_iff_not, Nat.add_zero, implies_true, forall_const, ite_true, ite_false, if_true, if_false, decide_true, decide_false, Bool.not_true, Bool.not_false, asg_len, Option.isSome_some])
local macro_rules | `(tactic| walk_at "bel") => `(tactic| first | rfl | (simp (config := { failIfUnchanged := false }) only [belM, O.bel, bels_strs, bels_ints, belL, Tr.bel, Tr.bels, Bool.and_true, Bool.true_and, Bool.and_self, decide_eq_true_eq, Bool.and_eq_true, true_and, and_true, List.length_cons, List.length_nil, Nat.reduceAdd]; try omega))

local macro_rules | `(tactic| walk_at "sim2") => `(tactic| first | exact simGet | exact simTi | exact simDrawn | assumption | apply sim_wo | apply sim_wa | apply sim_wb | apply sim_putA | apply sim_putB | exact sim_wnew | exact c_lenB | exact s_itemB | exact s_slB | exact s_neB | exact c_bytes | exact c_listB | exact c_divmod | exact s_and127 | apply i_revA | apply i_byt | apply sim_star | apply sim_fldAug | apply sim_cval | apply sim_raise0 | apply sim_raiseX)
local macro_rules | `(tactic| walk_at "sim1") => `(tactic| first | (with_reducible apply sim_callX; assumption) | (with_reducible apply sim_methX; assumption) | (with_reducible apply sim_makeX; assumption))
local macro_rules | `(tactic| walk_at "fm2") => `(tactic| simp (config := { failIfUnchanged := false }) only [sm_app, sm_len, sm_at, sm_at0, sm_set, sm_set0, List.getElem?_cons_zero, List.getElem?_cons_succ, List.set_cons_zero, List.set_cons_succ, lstO_lst, Option.isSome_some, Option.map_some, Option.some.injEq, Prod.mk.injEq, Nat.add_assoc, Nat.reduceAdd, exists_eq_left', exists_eq_left, true_and, and_assoc, fWo, fWa, fWb, fPutA, fPutB, fWnew, fLenB, fItemB, fSlB, fIB, fNeB, fBytes, fListB, fDivmod, fAnd127, fIRev, fStar, fFldAug, fRaise0, fRaiseX, fCVal, int1_i])
local macro_rules | `(tactic| walk_at "fd") => `(tactic| (walk_at "fm"; walk_at "fm2"; walk_at "fm"; walk_at "fm2"; walk_at "fm"))

section
variable {P : Program} {w : World} {K : PySem.W.Frag} {mg : Str → Option Value} {base : Heap} {CB CT CX CR fT fX C pS gS : Addr} {mB : Value}
structure CkB (P : Program) (w : World) (K : PySem.W.Frag) (mg : Str → Option Value) (base : Heap) : Prop where
  _checksum : Cal P w K mg base 1 "_checksum" (spF K fsCkB) []
/-- while the checksum is read -/
def ckSt (b : List Int) (k : Nat) : Nat → Nat → Prop
  | 0, j => j = k
  | 1, j => ∃ x, tk b ((ckS 5 (b.take k)).fdiv 256) ((ckS 5 (b.take k)).fdiv 256) k = .ok (x, j)
  | _, j => ∃ x j1 y, tk b ((ckS 5 (b.take k)).fdiv 256) ((ckS 5 (b.take k)).fdiv 256) k = .ok (x, j1) ∧ tk b ((ckS 5 (b.take k)).fmod 256) ((ckS 5 (b.take k)).fmod 256) j1 = .ok (y, j)
theorem ckSt_s {b : List Int} {k i j j' : Nat} {z x : Int} (h : ckSt b k i j) (hz : (ck2 (b.take k))[i]? = some z) (ht : tk b z z j = .ok (x, j')) : ckSt b k (i + 1) j' := by
  match i, h, hz with
  | 0, h, hz =>
    cases hz
    have h : j = k := h
    subst h
    exact ⟨x, ht⟩
  | 1, ⟨y, h⟩, hz =>
    cases hz
    exact ⟨_, _, _, h, ht⟩
  | i + 2, _, hz => simp [ck2] at hz
theorem ckSt_e {b : List Int} {k i j e : Nat} {z : Int} (h : ckSt b k i j) (hz : (ck2 (b.take k))[i]? = some z) (ht : tk b z z j = .error e) : endB b k = some e := by
  match i, h, hz with
  | 0, h, hz =>
    cases hz
    have h : j = k := h
    subst h
    unfold endB
    rw [ht]
  | 1, ⟨y, h⟩, hz =>
    cases hz
    unfold endB
    rw [h]
    simp only
    rw [ht]
  | i + 2, _, hz => simp [ck2] at hz
theorem ckSt_le {b : List Int} {k i j : Nat} (h : ckSt b k i j) (hk : k ≤ b.length) : j ≤ b.length := by
  match i, h with
  | 0, h => have h : j = k := h; omega
  | 1, ⟨y, h⟩ => have := tk_ok h; omega
  | i + 2, ⟨x, j1, y, _, h⟩ => have := tk_ok h; omega
theorem ckSt_2 {b : List Int} {k j : Nat} (h : ckSt b k 2 j) : endB b k = if j < b.length then some j else none := by
  obtain ⟨x, j1, y, h1, h2⟩ := h
  unfold endB
  rw [h1]
  simp only
  rw [h2]
def fsTakeE (CR CX : Addr) : FSp := fun ts M P PX => ∃ (n : Nat) (b : List Int) (k : Nat), ts = [.ref n] ∧ M[n]? = some (.ins CR (rFT b k)) ∧ B8 b ∧ b.length ≤ 100000 ∧ k ≤ b.length ∧
  (∀ i, endB b k = some i → ∀ j, PX CX (ixT (i : Int)) (M.set n (.ins CR (rFT b j)))) ∧ (endB b k = none → ∀ j, P .non (M.set n (.ins CR (rFT b j))))
theorem scTakeE : FnScope ["self", "checksum", "number"] ["self"] (L2.defScope sTakeE) := ⟨rfl, rfl, rfl, by decide +kernel, rfl, by decide +kernel, by decide +kernel⟩
theorem ok_takeE {f : Addr} {fd fdX : FuncData} (F : L2.Fun K "take_end" "Reader.take_end" sTakeE f fd) (T : BQ mg) (RC : RdC K CR) (TX : ProgX K mg CX fX) (FX : FnOk P w K mg base L2.CX0 1 fX fdX ["self", "offset"] (spIXi K CX)) (bX : L2.Binds K fdX ["self", "offset"] [])
    (MT : MetX P w K mg base 3 CR "take" (spF K (fsTake CR CX))) (C9 : CkB P w K mg base) :
    FnOk P w K mg base (L2.CX P w) 4 f fd ["self"] (spF K (fsTakeE CR CX)) := by
  refine F.okX scTakeE (fun vs H Q E h => ?_) (fun cdv A outer s H vs Q E hr h => ?_)
  · obtain ⟨ts, ρ, M, P, PX, r, m, ⟨n, b, k, rfl, _⟩, o, ox⟩ := h
    exact r.len
  · have C := C9
    refine ⟨_, (pss_cons (ps_set (i := 1) scTakeE.nd rfl (Or.inl rfl) (pe_c C._checksum hr (by first | decide | omega) (by rfl) (pa_cons (pe_slice sl_byt (pe_fld (pv 0) rfl) po_none (po_some (pe_fld (pv 0) rfl))) pa_nil)))
 (pss_cons (ps_for (passes_of rfl) rfl (pi_list (pv 1)) (pg_name (i := 2) scTakeE.nd rfl (Or.inl rfl)) (pss_one (ps_expr (pe_mX MT hr (by first | decide | omega) (L2.passes_call (takes_of rfl rfl rfl rfl) (fun _ _ _ _ h => h)) (pv 0) (pa_cons (pv 2) (pa_cons (pv 2) pa_nil))))))
 (pss_one (ps_if (pt_cmpR op_lt (pe_fld (pv 0) rfl) (pe_callB call_len (by rfl) T.len PySem.boot_len (pa_cons (pe_fld (pv 0) rfl) pa_nil)) (nomark _)) (pss_one (ps_raise rfl (takes_of rfl rfl rfl rfl) (pmk_oex TX.ox TX.iX TX.tX FX (hr.mono (by decide)) bX .nil L2.pass0 (by rfl) TX.gX (pa_cons (pe_fld (pv 0) rfl) pa_nil)))) pss_nil)))), ?_⟩
    obtain ⟨ts, ρ, M, P, PX, r, m, ⟨n, b, k, rfl, hn, hb, hl, hk, q1, q2⟩, o, ox⟩ := h
    have hE := keepX_of m ox
    try simp only [nox_K, cx_K]
    refine run_in r m o (by walk_at "sim") ?_
    walk_at "fd"
    refine ⟨_, CR, _, insM_of hn, RC.cl, RC.nD, _, lk_data, _, CR, _, insM_of hn, RC.cl, RC.nA, _, lk_at, _, rfl, b, rfl, k, rfl, hk, by omega, ?_⟩
    refine ⟨b.take k, rfl, fun z hz => hb z (List.mem_of_mem_take hz), by rw [List.length_take]; omega, ?_⟩
    have nl := (List.getElem?_eq_some_iff.mp hn).1
    have hat : ∀ (o u : O) (g : Mem), (M.set n o ++ u :: g)[M.length]? = some u := fun o u g => by
      have := at_0 (M := M.set n o) (g := g) (o := u)
      rwa [List.length_set] at this
    have hsn : ∀ (o o' u : O) (g : Mem), (M.set n o ++ u :: g).set n o' = M.set n o' ++ u :: g := fun o o' u g => by rw [List.set_append_left _ _ (by rw [List.length_set]; exact nl), List.set_set]
    obtain ⟨ck, hck⟩ : ∃ ck, ck2 (b.take k) = ck := ⟨_, rfl⟩
    have hck2 : ck.length = 2 := by rw [← hck]; rfl
    rw [hck]
    unfold fFor
    walk_at "fd"
    refine ⟨fun i L2 M2 => ∃ (j : Nat) (v2 : Option Tr), L2 = [some (.ref n), some (.ref M.length), v2] ∧ M2 = M.set n (.ins CR (rFT b j)) ++ [.lst (intsT ck)] ∧ ckSt b k i j, ⟨k, none, rfl, by rw [set_id hn], rfl⟩, ?_, ?_, ?_⟩
    · rintro i L2 M2 hi ⟨j, v2, rfl, rfl, hj⟩
      rw [hat]
      rfl
    · rintro i t L2 M2 hi ⟨j, v2, rfl, rfl, hj⟩
      obtain ⟨z, hz, rfl⟩ := intsT_get hi
      rw [← hck] at hz
      walk_at "fd"
      refine ⟨_, _, insM_of (at_l (set_same hn)), lk_none (by decide +kernel) (by decide +kernel), ⟨n, b, j, z, z, rfl, at_l (set_same hn), hb, hl, ckSt_le hj hk, fun e h => ?_, fun x j' h => ?_⟩⟩
      · exact keepX_set m rfl rfl (q1 e (ckSt_e hj hz h) j)
      · rw [hsn]
        refine forget_same (L' := [some (.ref n), some (.ref M.length), none]) ?_ ⟨j', none, rfl, rfl, ckSt_s hj hz h⟩ ⟨by simp, ?_⟩ ?_
        · exact ⟨_, rfl, _, rfl, _, _, rfl, rfl⟩
        · simp [belL, Tr.bel]; omega
        · rw [belM_app]
          have hM : belM (List.length (M.set n (.ins CR (rFT b j')) ++ [O.lst (intsT ck)])) (M.set n (.ins CR (rFT b j'))) = true := belM_set rfl (belM_mono (by simp) m.belM)
          rw [hM]
          simp [belM, O.bel, bels_intsT]
    · rintro L2 M2 ⟨j, v2, rfl, rfl, hj⟩
      rw [intsT_len, hck2] at hj
      have hend := ckSt_2 hj
      have hjl := ckSt_le hj hk
      walk_at "fd"
      refine ⟨_, CR, _, insM_of (at_l (set_same hn)), RC.cl, RC.nA, _, lk_at, _, CR, _, insM_of (at_l (set_same hn)), RC.cl, RC.nD, _, lk_data, b, rfl, by rw [sizeLine_eq]; omega, _, rfl, ?_⟩
      by_cases c : j < b.length
      · rw [if_pos (by omega)]
        exact ⟨_, CR, _, insM_of (at_l (set_same hn)), RC.cl, RC.nA, _, lk_at, _, rfl, by omega, by omega, keepX_set m rfl rfl (q1 j (by rw [hend, if_pos c]) j)⟩
      · rw [if_neg (by omega)]
        exact keep_setG m rfl rfl (q2 (by rw [hend, if_neg c]) j)
def fsReadB (CR CX : Addr) : FSp := fun ts M P PX => ∃ (n : Nat) (b : List Int) (k : Nat) (c : Int), ts = [.ref n, .int c] ∧ M[n]? = some (.ins CR (rFT b k)) ∧ B8 b ∧ b.length ≤ 100000 ∧ k ≤ b.length ∧
  (∀ i, bridge b c k = .error i → ∀ j, PX CX (ixT (i : Int)) (M.set n (.ins CR (rFT b j)))) ∧ ∀ l j, bridge b c k = .ok (l, j) → P (lkT l) (M.set n (.ins CR (rFT b j)))
theorem scReadB : FnScope ["reader", "count", "one", "other", "length"] ["reader", "count"] (L2.defScope sReadB) := ⟨rfl, rfl, rfl, by decide +kernel, rfl, by decide +kernel, by decide +kernel⟩
theorem ok_readB {f : Addr} {fd : FuncData} (F : L2.Fun K "_read_bridge" "_read_bridge" sReadB f fd) (T : BQ mg)
    (MT : MetX P w K mg base 3 CR "take" (spF K (fsTake CR CX))) (MO : MetX P w K mg base 4 CR "take_other" (spF K (fsTakeO CR CX))) (ML : MetX P w K mg base 4 CR "take_life" (spF K (fsTakeL CR CX))) :
    FnOk P w K mg base (L2.CX P w) 5 f fd ["reader", "count"] (spF K (fsReadB CR CX)) := by
  refine F.okX scReadB (fun vs H Q E h => ?_) (fun cdv A outer s H vs Q E hr h => ?_)
  · obtain ⟨ts, ρ, M, P, PX, r, m, ⟨n, b, k, c, rfl, _⟩, o, ox⟩ := h
    exact r.len
  · refine ⟨_, (pss_cons (ps_set (i := 2) scReadB.nd rfl (Or.inl rfl) (pe_mX MT hr (by first | decide | omega) (L2.passes_call (takes_of rfl rfl rfl rfl) (fun _ _ _ _ h => h)) (pv 0) (pa_cons pe_int (pa_cons (pe_op op_sub (pv 1) pe_int) pa_nil))))
 (pss_cons (ps_set (i := 3) scReadB.nd rfl (Or.inl rfl) (pe_mX MO hr (by first | decide | omega) (L2.passes_call (takes_of rfl rfl rfl rfl) (fun _ _ _ _ h => h)) (pv 0) (pa_cons (pv 2) (pa_cons (pe_op op_sub (pv 1) pe_int) pa_nil))))
 (pss_cons (ps_set (i := 4) scReadB.nd rfl (Or.inl rfl) (pe_mX MT hr (by first | decide | omega) (L2.passes_call (takes_of rfl rfl rfl rfl) (fun _ _ _ _ h => h)) (pv 0) (pa_cons pe_int (pa_cons (pe_gc (v := .int 99) (by rfl) T.g_MAX_LENGTH) pa_nil))))
 (pss_one (ps_ret (pe_tup (pa_cons (pv 2) (pa_cons (pv 3) (pa_cons (pv 4) (pa_cons (pe_mX0 ML hr (by first | decide | omega) (L2.passes_call (takes_of rfl rfl rfl rfl) (fun _ _ _ _ h => h)) (pv 0)) pa_nil)))))))))), ?_⟩
    obtain ⟨ts, ρ, M, P, PX, r, m, ⟨n, b, k, c, rfl, hn, hb, hl, hk, q1, q2⟩, o, ox⟩ := h
    have hE := keepX_of m ox
    try simp only [nox_K, cx_K]
    refine run_in r m o (by walk_at "sim") ?_
    walk_at "fd"
    refine ⟨_, _, insM_of hn, lk_none (by decide +kernel) (by decide +kernel), ⟨n, b, k, 0, c - 1, rfl, hn, hb, hl, hk, fun i h => ?_, fun one k1 h1 => ?_⟩⟩
    · have := q1 i (by unfold bridge; rw [h]) k
      rw [set_id hn] at this
      exact keepX_same m rfl this
    refine ⟨_, _, insM_of (set_same hn), lk_none (by decide +kernel) (by decide +kernel), ⟨n, b, k1, one, c - 1, rfl, set_same hn, hb, hl, by have := tk_ok h1; omega, fun i j h j' => ?_, fun other k2 h2 hne => ?_⟩⟩
    · rw [List.set_set]
      refine keepX_set0 m rfl rfl (q1 i ?_ j')
      unfold bridge
      rw [h1]
      simp only
      rcases h with h | ⟨h, rfl⟩
      · rw [h]
      · rw [h]
        simp only
        rw [if_pos trivial]
    rw [List.set_set]
    refine ⟨_, _, insM_of (set_same hn), lk_none (by decide +kernel) (by decide +kernel), ⟨n, b, k2, 1, 99, rfl, set_same hn, hb, hl, by have := tk_ok h2; omega, fun i h => ?_, fun len k3 h3 => ?_⟩⟩
    · refine keepX_set0 m rfl rfl (q1 i ?_ k2)
      unfold bridge
      rw [h1]
      simp only
      rw [h2]
      simp only
      rw [if_neg hne, h]
    rw [List.set_set]
    refine ⟨_, _, insM_of (set_same hn), lk_none (by decide +kernel) (by decide +kernel), ⟨n, b, k3, rfl, set_same hn, hb, hl, by have := tk_ok h3; omega, fun i h j => ?_, fun life k4 h4 => ?_⟩⟩
    · rw [List.set_set]
      refine keepX_set0 m rfl rfl (q1 i ?_ j)
      unfold bridge
      rw [h1]
      simp only
      rw [h2]
      simp only
      rw [if_neg hne, h3]
      simp only
      rw [h]
    rw [List.set_set]
    refine ⟨by rw [sizeLine_eq]; decide, keep_set m rfl rfl (q2 (one, other, len, life) k4 ?_)⟩
    unfold bridge
    rw [h1]
    simp only
    rw [h2]
    simp only
    rw [if_neg hne, h3]
    simp only
    rw [h4]
end
end T1

set_option Elab.async false
set_option linter.all false
set_option maxRecDepth 100000
set_option maxHeartbeats 4000000
namespace T1
open PySem PySem.Spec PyProof.Rows L2 C8 Fm T3
local macro_rules | `(tactic| walk_at "sim1") => `(tactic| with_reducible first
  | exact sim_nil | exact sim_var | exact sim_int | exact sim_str | exact sim_bl | exact sim_non | exact sim_raw
  | apply sim_cons | apply sim_op | apply sim_un | apply sim_tup | apply sim_lst
  | apply sim_CB | apply sim_if | apply sim_test | apply sim_B | apply sim_not | apply sim_and | apply sim_or
  | apply sim_andV | apply sim_orV | apply sim_notV | apply sim_chain | exact sim_nopart | apply sim_part
  | apply sim_sl | apply sim_BML | apply sim_BMS | apply sim_BM0S | apply sim_M1 | apply sim_M0
  | apply sim_fmt | apply sim_joined | exact SimJ.nil | apply SimJ.cons
  | exact s_I0i | exact s_I0b | exact s_Ii | exact s_Ui | exact s_eq | exact s_ne | exact s_isN | exact s_notN | exact s_ixL | exact s_ixT | exact s_ixS
  | exact s_cat | exact s_catA | exact s_rep | exact s_repT | exact s_in | exact s_slL | exact s_slA | exact s_slS | exact s_addS | exact s_leS | exact s_ltS
  | exact c_len | exact c_lenS | exact c_list | exact c_tuple | exact c_int1 | exact c_intS | exact c_strI | exact c_max2 | exact c_min2
  | exact m_append | exact m_extend | exact m_split | exact m_join | exact m_0b | exact m_1b
  | apply sim_call | exact simSpF
  | exact sim_name | exact sim_gnil | apply sim_gcons | apply sim_gtup | apply sim_gsub | exact set_list
  | exact sim_next | apply sim_seq | apply sim_cut | exact sim_break | exact sim_cont | apply sim_drop | apply sim_ret | exact sim_retN
  | apply sim_ifS | exact sim_never | apply sim_asg | apply sim_par | apply sim_aug
  | apply sim_for | apply sim_while | apply i_list | apply i_tup | apply i_rng1 | apply i_rng2 | apply i_str | apply i_enum | apply i_zip
  | apply sim_lc | exact sim_yes | exact sim_namew (by decide) | exact sim_gnilw | apply sim_gconsw | apply sim_gtupw
  | apply sim_fld | apply sim_con | apply sim_setFld | apply sim_make | apply sim_prop | apply sim_meth | apply sim_cmeth | exact c_isi | apply sim_isiT | exact s_eqD | exact s_neD
  | walk_at "sim2")
local macro_rules | `(tactic| walk_at "sim2") => `(tactic| fail)
local macro_rules | `(tactic| walk_at "sim") => `(tactic| repeat' (walk_at "sim1"))
/-- open the trees' reading as far as it goes by itself -/
local macro_rules | `(tactic| walk_at "fm") => `(tactic| simp (config := { failIfUnchanged := false }) only [fVar, fC, fOp, fUn, fNil, fCons, fTup, fLst, fCB, fIf, fTest, fNot, fAnd, fOr, fAndV, fOrV, fNotV, fChain, fNoPart, fPart, fI, fI0, fU, fEq, fNe, fIsN, fNotN, fIxL, fIxT, fIxS,
  fCat, fCatA, fRep, fRepT, fSlL, fSlA, fSlS, fSl, fLen, fLenS, fList, fTuple, fIntS, fStrI, fMax2, fMin2, fAppend, fExtend, fIn, fBM, fMS, fBMS, fBM0S, fAddS, fLeS, fLtS, fM0b, fM1b, fSplit, fJoin, fJoined, fJs,
  fName, fGNil, fGCons, fGTup, fSetL, fGSub, fNext, fSeq, fCut, fBreak, fCont, fDrop, fRet, fRetN, fIfS, fAsg, fPar, fAug, fCall, fFld, fCon, fSetFld, fMake, fProp, fMeth, fCMeth, fIsi, fIsiT, fEqD, fNeD, insAt_ref, insO_ins, fFmt, fmtS_i, fmtS_s, fmtOk_i, fmtOk_s, fIL, fIT, fIR1, fIR2, fIS, fIEn, fIZ,
  startL, List.map_cons, List.map_nil, List.length_cons, List.length_nil, List.cons_append, List.nil_append, List.replicate, List.getElem?_cons_zero, List.getElem?_cons_succ, List.set_cons_zero, List.set_cons_succ, Nat.reduceSub, Nat.reduceAdd,
  Option.some.injEq, Tr.int.injEq, Tr.str.injEq, Tr.bl.injEq, Tr.tup.injEq, Tr.ref.injEq, List.cons.injEq, exists_eq_left, exists_eq_left', exists_eq_right, true_and, and_true, and_self, exists_and_left, tupOf_tup, eqS_ii, eqS_ss, eqS_bb, eqS_ni, eqS_in, eqS_nn, isStr_s, isN_n, isN_i, isN_b, isN_s, isN_t, isN_r, noRaw_n, noRaw_i, noRaw_b, noRaw_s, noRaw_t, noRaw_r, and_assoc, reduceIte, Bool.false_eq_true, exists_const, lstAt_ref, seqAt_ref, seqAt_tup, refAt_ref, lstO_lst, app_assoc2, len_app1, at_kk, at_00, set_k, set_00, Nat.add_assoc, Option.map_some, Prod.mk.injEq, int_cast_inj, Nat.zero_le, decide_eq_true_eq, Bool.not_eq_true', decide_eq_false_iff_not, Nat.add_zero, implies_true, forall_const, ite_true, ite_false, if_true, if_false, decide_true, decide_false, Bool.not_true, Bool.not_false, asg_len, Option.isSome_some])
local macro_rules | `(tactic| walk_at "bel") => `(tactic| first | rfl | (simp (config := { failIfUnchanged := false }) only [belM, O.bel, bels_strs, bels_ints, belL, Tr.bel, Tr.bels, Bool.and_true, Bool.true_and, Bool.and_self, decide_eq_true_eq, Bool.and_eq_true, true_and, and_true, List.length_cons, List.length_nil, Nat.reduceAdd]; try omega))

local macro_rules | `(tactic| walk_at "sim2") => `(tactic| first | exact simGet | exact simTi | exact simDrawn | assumption | apply sim_wo | apply sim_wa | apply sim_wb | apply sim_putA | apply sim_putB | exact sim_wnew | exact c_lenB | exact s_itemB | exact s_slB | exact s_neB | exact c_bytes | exact c_listB | exact c_divmod | exact s_and127 | apply i_revA | apply i_byt | apply sim_star | apply sim_fldAug | apply sim_cval | apply sim_raise0 | apply sim_raiseX)
local macro_rules | `(tactic| walk_at "sim1") => `(tactic| first | (with_reducible apply sim_callX; assumption) | (with_reducible apply sim_methX; assumption) | (with_reducible apply sim_makeX; assumption))
local macro_rules | `(tactic| walk_at "fm2") => `(tactic| simp (config := { failIfUnchanged := false }) only [sm_app, sm_len, sm_at, sm_at0, sm_set, sm_set0, List.getElem?_cons_zero, List.getElem?_cons_succ, List.set_cons_zero, List.set_cons_succ, lstO_lst, Option.isSome_some, Option.map_some, Option.some.injEq, Prod.mk.injEq, Nat.add_assoc, Nat.reduceAdd, exists_eq_left', exists_eq_left, true_and, and_assoc, fWo, fWa, fWb, fPutA, fPutB, fWnew, fLenB, fItemB, fSlB, fIB, fNeB, fBytes, fListB, fDivmod, fAnd127, fIRev, fStar, fFldAug, fRaise0, fRaiseX, fCVal, int1_i])
local macro_rules | `(tactic| walk_at "fd") => `(tactic| (walk_at "fm"; walk_at "fm2"; walk_at "fm"; walk_at "fm2"; walk_at "fm"))

theorem good_ok {c : Int} {ls : List Lk} (c0 : 1 ≤ c) (c1 : c ≤ 12) (hl : ls.length ≤ 24) (h : ∀ l ∈ ls, goodL c l) : firstBad c ls = none := by
  unfold firstBad
  rw [if_pos ⟨c0, c1⟩, firstFrom_none (k := 0) fun j l e => ?_]
  · rfl
  · have hj := (List.getElem?_eq_some_iff.mp e).1
    obtain ⟨a0, a1, b0, b1, n, d0, d1, e0, e1⟩ := h l (List.mem_of_getElem? e)
    unfold top18 at e1
    unfold badAt isLink
    simp only [Bool.or_eq_false_iff, Bool.not_eq_false', Bool.and_eq_true, Bool.not_eq_true', decide_eq_true_eq, decide_eq_false_iff_not]
    omega
theorem keepX_app {K : PySem.W.Frag} {H : Hp} {ρ : List Addr} {M g : Mem} {PX : PXF} {D : Addr} {fs : List (Str × Tr)} (m : RM K H ρ M) (b : belF M.length fs = true) (p : PX D fs M) : KeepX M.length PX D fs (M ++ g) :=
  ⟨M.length, Nat.le_refl _, b, by rw [List.take_left]; exact m.belM, by rw [List.take_left]; exact p⟩
theorem set_at0 {M g : Mem} {u u' : O} : (M ++ u :: g).set M.length u' = M ++ u' :: g := by
  rw [List.set_append_right _ _ (Nat.le_refl _), Nat.sub_self]
  rfl
theorem dec_1 {b : List Int} {i : Nat} (h : tk b 84 84 0 = .error i) : dec b = .error i := by unfold dec; rw [h]
theorem dec_2 {b : List Int} {x : Int} {i k : Nat} (h : tk b 84 84 0 = .ok (x, k)) (h2 : tk b 1 12 k = .error i) : dec b = .error i := by unfold dec; rw [h]; simp only; rw [h2]
theorem dec_3 {b : List Int} {x c : Int} {i k k2 : Nat} (h : tk b 84 84 0 = .ok (x, k)) (h2 : tk b 1 12 k = .ok (c, k2)) (h3 : tk b 0 24 k2 = .error i) : dec b = .error i := by unfold dec; rw [h]; simp only; rw [h2]; simp only; rw [h3]
theorem dec_4 {b : List Int} {x c n : Int} {k k2 k3 : Nat} (h : tk b 84 84 0 = .ok (x, k)) (h2 : tk b 1 12 k = .ok (c, k2)) (h3 : tk b 0 24 k2 = .ok (n, k3)) : dec b = decB b c n.toNat [] k3 := by unfold dec; rw [h]; simp only; rw [h2]; simp only; rw [h3]
theorem decB_0 {b : List Int} {c : Int} {acc : List Lk} {k : Nat} : decB b c 0 acc k = match endB b k with
    | some i => .error i
    | none => .ok (c, acc) := by
  conv => lhs; unfold decB
  all_goals (cases endB b k <;> rfl)
theorem decB_e {b : List Int} {c : Int} {n i k : Nat} {acc : List Lk} (h : bridge b c k = .error i) : decB b c (n + 1) acc k = .error i := by
  unfold decB; rw [h]
theorem decB_s {b : List Int} {c : Int} {n k m : Nat} {acc : List Lk} {l : Lk} (h : bridge b c k = .ok (l, m)) : decB b c (n + 1) acc k = decB b c n (acc ++ [l]) m := by
  conv => lhs; unfold decB
  rw [h]
theorem lks_app (a b : List Lk) : (a ++ b).map lkT = a.map lkT ++ b.map lkT := List.map_append
structure CD (P : Program) (w : World) (K : PySem.W.Frag) (mg : Str → Option Value) (base : Heap) (CR CX : Addr) : Prop where
  _read_bridge : CalX P w K mg base 5 "_read_bridge" (spF K (fsReadB CR CX))
section
variable {P : Program} {w : World} {K : PySem.W.Frag} {mg : Str → Option Value} {base : Heap} {CB CT CX CR fT fX C pS gS : Addr} {mB : Value}
def fsDec (C CX : Addr) : FSp := fun ts M P PX => ∃ b : List Int, ts = [btT b] ∧ B8 b ∧ b.length ≤ 100000 ∧
  (∀ i, dec b = .error i → PX CX (ixT (i : Int)) M) ∧ ∀ c ls, dec b = .ok (c, ls) → ∀ g : Mem, belM 0 g = true → P (.ref (M.length + g.length)) (M ++ (g ++ [.ins C (tFT c ls)]))
theorem scDec : FnScope ["data", "reader", "count", "size", "bridges", "_"] ["data"] (L2.defScope sDec) := ⟨rfl, rfl, rfl, by decide +kernel, rfl, by decide +kernel, by decide +kernel⟩
theorem ok_dec {f fR fTi : Addr} {fd fdR fdTi : FuncData} (F : L2.Fun K "decode_town" "decode_town" sDec f fd) (T : BQ mg) (T0 : Prog K mg CB CT fT C mB)
    (r12 : ∃ u, CVal' K C "MAX_PLACES" (.int 12) u) (r24 : ∃ u, CVal' K C "MAX_BRIDGES" (.int 24) u)
    (MR : L2.Mk K CR fR) (GR : FnOk P w K mg base L2.CX0 1 fR fdR ["self", "data"] (spF K (fsRInit CR))) (bR : L2.Binds K fdR ["self", "data"] []) (gR : mg "Reader" = some (.ref CR))
    (MK : L2.Mk K C fTi) (OTi : FnOk P w K mg base (L2.CX P w) 3 fTi fdTi ["self", "count", "bridges"] (spTi K C CT)) (bTi : L2.Binds K fdTi ["self", "count", "bridges"] [])
    (MT : MetX P w K mg base 3 CR "take" (spF K (fsTake CR CX))) (ME : MetX P w K mg base 4 CR "take_end" (spF K (fsTakeE CR CX))) (C9 : CD P w K mg base CR CX) :
    FnOk P w K mg base (L2.CX P w) 6 f fd ["data"] (spF K (fsDec C CX)) := by
  refine F.okX scDec (fun vs H Q E h => ?_) (fun cdv A outer s H vs Q E hr h => ?_)
  · obtain ⟨ts, ρ, M, P, PX, r, m, ⟨b, rfl, _⟩, o, ox⟩ := h
    exact r.len
  · have C0 : C = C := rfl
    let CC : Addr := C
    have C := C9
    refine ⟨_, (pss_cons (ps_set (i := 1) scDec.nd rfl (Or.inl rfl) (pe_make MR GR (hr.mono (by decide)) (by rfl) gR bR .nil L2.pass0 (pa_cons (pv 0) pa_nil)))
 (pss_cons (ps_expr (pe_mX MT hr (by first | decide | omega) (L2.passes_call (takes_of rfl rfl rfl rfl) (fun _ _ _ _ h => h)) (pv 1) (pa_cons (pe_gc (v := .int 84) (by rfl) T.g_MARK) (pa_cons (pe_gc (v := .int 84) (by rfl) T.g_MARK) pa_nil))))
 (pss_cons (ps_set (i := 2) scDec.nd rfl (Or.inl rfl) (pe_mX MT hr (by first | decide | omega) (L2.passes_call (takes_of rfl rfl rfl rfl) (fun _ _ _ _ h => h)) (pv 1) (pa_cons pe_int (pa_cons (ClX.pe_cval (pe_gc (v := .ref CC) (by rfl) ⟨_, T0.gC, rfl⟩)) pa_nil))))
 (pss_cons (ps_set (i := 3) scDec.nd rfl (Or.inl rfl) (pe_mX MT hr (by first | decide | omega) (L2.passes_call (takes_of rfl rfl rfl rfl) (fun _ _ _ _ h => h)) (pv 1) (pa_cons pe_int (pa_cons (ClX.pe_cval (pe_gc (v := .ref CC) (by rfl) ⟨_, T0.gC, rfl⟩)) pa_nil))))
 (pss_cons (ps_set (i := 4) scDec.nd rfl (Or.inl rfl) (pe_lst pa_nil))
 (pss_cons (ps_for (passes_of rfl) rfl (pi_range1 (by rfl) T.range (pa_cons (pv 3) pa_nil)) (pg_name (i := 5) scDec.nd rfl (Or.inl rfl)) (pss_one (ps_expr (pe_bm PySem.F.plainAttrs_list PySem.F.slot_list_append PySem.F.type_list_append mt_append (pv 4) (pa_cons (pe_cX C._read_bridge hr (by first | decide | omega) (by rfl) (L2.passes_call (takes_of rfl rfl rfl rfl) (fun _ _ _ _ h => h)) (pa_cons (pv 1) (pa_cons (pv 2) pa_nil))) pa_nil)))))
 (pss_cons (ps_expr (pe_mX0 ME hr (by first | decide | omega) (L2.passes_call (takes_of rfl rfl rfl rfl) (fun _ _ _ _ h => h)) (pv 1)))
 (pss_one (ps_ret (pe_make MK OTi (hr.mono (by decide)) (by rfl) T0.gC bTi .nil (L2.passes_call (takes_of rfl rfl rfl rfl) (fun _ _ _ _ h => h)) (pa_cons (pv 2) (pa_cons (pe_callTy call_tuple_of (by rfl) T.tuple (by decide +kernel) (pa_cons (pv 4) pa_nil)) pa_nil)))))))))))), ?_⟩
    obtain ⟨ts, ρ, M, P, PX, r, m, ⟨b, rfl, hb, hl, q1, q2⟩, o, ox⟩ := h
    have hE := keepX_of m ox
    try simp only [nox_K, cx_K]
    refine run_in r m o (by walk_at "sim") ?_
    walk_at "fd"
    obtain ⟨u12, h12⟩ := r12
    obtain ⟨u24, h24⟩ := r24
    refine ⟨_, b, rfl, at_0, rfl, ?_⟩
    rw [set_at0]
    refine ⟨_, _, insM_of at_0, lk_none (by decide +kernel) (by decide +kernel), ⟨_, b, 0, 84, 84, rfl, at_0, hb, hl, Nat.zero_le _, fun i h => keepX_app m rfl (q1 i (dec_1 h)), fun x0 k1 e1 => ?_⟩⟩
    rw [set_at0]
    refine ⟨_, _, insM_of at_0, lk_none (by decide +kernel) (by decide +kernel), _, rfl, _, T0.cr, _, _, h12, ⟨_, b, k1, 1, 12, rfl, at_0, hb, hl, by have := tk_ok e1; omega, fun i h => keepX_app m rfl (q1 i (dec_2 e1 h)), fun c k2 e2 => ?_⟩⟩
    rw [set_at0]
    refine ⟨_, _, insM_of at_0, lk_none (by decide +kernel) (by decide +kernel), _, rfl, _, T0.cr, _, _, h24, ⟨_, b, k2, 0, 24, rfl, at_0, hb, hl, by have := tk_ok e2; omega, fun i h => keepX_app m rfl (q1 i (dec_3 e1 e2 h)), fun sz k3 e3 => ?_⟩⟩
    rw [set_at0]
    have hd := dec_4 e1 e2 e3
    obtain ⟨_, hk3, _, z0, z1⟩ := tk_ok e3
    obtain ⟨_, _, _, c0, c1⟩ := tk_ok e2
    unfold fFor
    walk_at "fd"
    have key : ∀ (n : Nat) (ls : List Lk), dec b = decB b c 0 ls n → endB b n = none → dec b = .ok (c, ls) := fun n ls h e => by rw [h, decB_0, e]
    refine ⟨by omega, by omega, fun i L2 M2 => ∃ (j : Nat) (acc : List Lk) (v5 : Option Tr), L2 = [some (btT b), some (.ref M.length), some (.int c), some (.int sz), some (.ref (M.length + 1)), v5] ∧ M2 = M ++ [.ins CR (rFT b j), .lst (acc.map lkT)] ∧ acc.length = i ∧ j ≤ b.length ∧ dec b = decB b c (sz.toNat - i) acc j, ⟨k3, [], none, rfl, rfl, rfl, by omega, hd⟩, ?_, ?_⟩
    · rintro i t L2 M2 hi ⟨j, acc, v5, rfl, rfl, ha, hj, hdj⟩
      have hin := (rngT_get hi).1
      have en : sz.toNat - i = (sz.toNat - (i + 1)) + 1 := by omega
      rw [en] at hdj
      walk_at "fd"
      refine ⟨_, b, j, c, rfl, at_0, hb, hl, hj, fun e h j' => ?_, fun l j' h => ?_⟩
      · rw [set_at0]
        exact keepX_app m rfl (q1 e (by rw [hdj, decB_e h]))
      · rw [set_at0]
        walk_at "fd"
        have hbk := bridge_ok h
        refine ⟨by rw [List.length_map, sizeLine_eq]; omega, ?_⟩
        refine forget_not (by simp) ⟨j', acc ++ [l], _, rfl, by rw [lks_app]; rfl, by simp [ha], hbk.2.2, by rw [hdj, decB_s h]⟩ ?_ m.belM ?_
        · have hu := rngT_get hi
          rw [hu.2]
          simp [belL, Tr.bel, btT]
        · have e4 : acc.map lkT ++ [lkT l] = (acc ++ [l]).map lkT := (lks_app acc [l]).symm
          rw [e4]
          simp only [belM, O.bel, bel_lks, rFT, belF, Tr.bel, btT, Bool.and_self]
    · rintro L2 M2 ⟨j, acc, v5, rfl, rfl, ha, hj, hdj⟩
      rw [rngT_len] at ha hdj
      rw [Nat.sub_self] at hdj
      walk_at "fd"
      refine ⟨lk_none (by decide +kernel) (by decide +kernel), ⟨_, b, j, rfl, at_0, hb, hl, hj, fun e h j' => ?_, fun h j' => ?_⟩⟩
      · rw [set_at0]
        exact keepX_app m rfl (q1 e (by rw [hdj, decB_0, h]))
      · rw [set_at0]
        have hok := key j acc hdj h
        obtain ⟨_, _, _, hle, hgood⟩ := dec_ok hok
        have hnone := good_ok c0 c1 hle hgood
        walk_at "fd"
        refine ⟨_, c, acc, rfl, by rw [at_k]; rfl, by omega, fun r e => (by rw [hnone] at e; cases e), fun _ => ⟨rfl, ?_⟩⟩
        have es : (M ++ [O.ins CR (rFT b j'), O.lst (acc.map lkT), O.ins CC []]).set (M.length + 2) (O.ins CC (tFT c acc)) = M ++ ([O.ins CR (rFT b j'), O.lst (acc.map lkT)] ++ [O.ins CC (tFT c acc)]) := by
          rw [set_k]
          rfl
        rw [es]
        refine keep_whole (by simp) (by simp [Tr.bel]) ?_ (q2 c acc hok [O.ins CR (rFT b j'), O.lst (acc.map lkT)] ?_)
        · rw [belM_app]
          have hM : belM (List.length (M ++ ([O.ins CR (rFT b j'), O.lst (acc.map lkT)] ++ [O.ins CC (tFT c acc)]))) M = true := belM_mono (by simp) m.belM
          rw [hM]
          simp [belM, O.bel, bel_lks, rFT, belF, Tr.bel, tFT, btT]
        · simp [belM, O.bel, bel_lks, rFT, belF, Tr.bel, btT]
end
end T1

set_option Elab.async false
set_option linter.all false
set_option maxRecDepth 100000
set_option maxHeartbeats 4000000
namespace T1
open PySem PySem.Spec PyProof.Rows L2 C8 Fm T3
local macro_rules | `(tactic| walk_at "sim1") => `(tactic| with_reducible first
  | exact sim_nil | exact sim_var | exact sim_int | exact sim_str | exact sim_bl | exact sim_non | exact sim_raw
  | apply sim_cons | apply sim_op | apply sim_un | apply sim_tup | apply sim_lst
  | apply sim_CB | apply sim_if | apply sim_test | apply sim_B | apply sim_not | apply sim_and | apply sim_or
  | apply sim_andV | apply sim_orV | apply sim_notV | apply sim_chain | exact sim_nopart | apply sim_part
  | apply sim_sl | apply sim_BML | apply sim_BMS | apply sim_BM0S | apply sim_M1 | apply sim_M0
  | apply sim_fmt | apply sim_joined | exact SimJ.nil | apply SimJ.cons
  | exact s_I0i | exact s_I0b | exact s_Ii | exact s_Ui | exact s_eq | exact s_ne | exact s_isN | exact s_notN | exact s_ixL | exact s_ixT | exact s_ixS
  | exact s_cat | exact s_catA | exact s_rep | exact s_repT | exact s_in | exact s_slL | exact s_slA | exact s_slS | exact s_addS | exact s_leS | exact s_ltS
  | exact c_len | exact c_lenS | exact c_list | exact c_tuple | exact c_int1 | exact c_intS | exact c_strI | exact c_max2 | exact c_min2
  | exact m_append | exact m_extend | exact m_split | exact m_join | exact m_0b | exact m_1b
  | apply sim_call | exact simSpF
  | exact sim_name | exact sim_gnil | apply sim_gcons | apply sim_gtup | apply sim_gsub | exact set_list
  | exact sim_next | apply sim_seq | apply sim_cut | exact sim_break | exact sim_cont | apply sim_drop | apply sim_ret | exact sim_retN
  | apply sim_ifS | exact sim_never | apply sim_asg | apply sim_par | apply sim_aug
  | apply sim_for | apply sim_while | apply i_list | apply i_tup | apply i_rng1 | apply i_rng2 | apply i_str | apply i_enum | apply i_zip
  | apply sim_lc | exact sim_yes | exact sim_namew (by decide) | exact sim_gnilw | apply sim_gconsw | apply sim_gtupw
  | apply sim_fld | apply sim_con | apply sim_setFld | apply sim_make | apply sim_prop | apply sim_meth | apply sim_cmeth | exact c_isi | apply sim_isiT | exact s_eqD | exact s_neD
  | walk_at "sim2")
local macro_rules | `(tactic| walk_at "sim2") => `(tactic| fail)
local macro_rules | `(tactic| walk_at "sim") => `(tactic| repeat' (walk_at "sim1"))
/-- open the trees' reading as far as it goes by itself -/
local macro_rules | `(tactic| walk_at "fm") => `(tactic| simp (config := { failIfUnchanged := false }) only [fVar, fC, fOp, fUn, fNil, fCons, fTup, fLst, fCB, fIf, fTest, fNot, fAnd, fOr, fAndV, fOrV, fNotV, fChain, fNoPart, fPart, fI, fI0, fU, fEq, fNe, fIsN, fNotN, fIxL, fIxT, fIxS,
  fCat, fCatA, fRep, fRepT, fSlL, fSlA, fSlS, fSl, fLen, fLenS, fList, fTuple, fIntS, fStrI, fMax2, fMin2, fAppend, fExtend, fIn, fBM, fMS, fBMS, fBM0S, fAddS, fLeS, fLtS, fM0b, fM1b, fSplit, fJoin, fJoined, fJs,
  fName, fGNil, fGCons, fGTup, fSetL, fGSub, fNext, fSeq, fCut, fBreak, fCont, fDrop, fRet, fRetN, fIfS, fAsg, fPar, fAug, fCall, fFld, fCon, fSetFld, fMake, fProp, fMeth, fCMeth, fIsi, fIsiT, fEqD, fNeD, insAt_ref, insO_ins, fFmt, fmtS_i, fmtS_s, fmtOk_i, fmtOk_s, fIL, fIT, fIR1, fIR2, fIS, fIEn, fIZ,
  startL, List.map_cons, List.map_nil, List.length_cons, List.length_nil, List.cons_append, List.nil_append, List.replicate, List.getElem?_cons_zero, List.getElem?_cons_succ, List.set_cons_zero, List.set_cons_succ, Nat.reduceSub, Nat.reduceAdd,
  Option.some.injEq, Tr.int.injEq, Tr.str.injEq, Tr.bl.injEq, Tr.tup.injEq, Tr.ref.injEq, List.cons.injEq, exists_eq_left, exists_eq_left', exists_eq_right, true_and, and_true, and_self, exists_and_left, tupOf_tup, eqS_ii, eqS_ss, eqS_bb, eqS_ni, eqS_in, eqS_nn, isStr_s, isN_n, isN_i, isN_b, isN_s, isN_t, isN_r, noRaw_n, noRaw_i, noRaw_b, noRaw_s, noRaw_t, noRaw_r, and_assoc, reduceIte, Bool.false_eq_true, exists_const, lstAt_ref, seqAt_ref, seqAt_tup, refAt_ref, lstO_lst, app_assoc2, len_app1, at_kk, at_00, set_k, set_00, Nat.add_assoc, Option.map_some, Prod.mk.injEq, int_cast_inj, Nat.zero_le, decide_eq_true_eq, Bool.not_eq_true', decide_eq_false_iff_not, Nat.add_zero, implies_true, forall_const, ite_true, ite_false, if_true, if_false, decide_true, decide_false, Bool.not_true, Bool.not_false, asg_len, Option.isSome_some])
local macro_rules | `(tactic| walk_at "bel") => `(tactic| first | rfl | (simp (config := { failIfUnchanged := false }) only [belM, O.bel, bels_strs, bels_ints, belL, Tr.bel, Tr.bels, Bool.and_true, Bool.true_and, Bool.and_self, decide_eq_true_eq, Bool.and_eq_true, true_and, and_true, List.length_cons, List.length_nil, Nat.reduceAdd]; try omega))

local macro_rules | `(tactic| walk_at "sim2") => `(tactic| first | exact simGet | exact simTi | exact simDrawn | assumption | apply sim_wo | apply sim_wa | apply sim_wb | apply sim_putA | apply sim_putB | exact sim_wnew | exact c_lenB | exact s_itemB | exact s_slB | exact s_neB | exact c_bytes | exact c_listB | exact c_divmod | exact s_and127 | apply i_revA | apply i_byt | apply sim_star | apply sim_fldAug | apply sim_cval | exact sim_nv | apply sim_raise0 | apply sim_raiseX)
local macro_rules | `(tactic| walk_at "sim1") => `(tactic| first | (with_reducible apply sim_callX; assumption) | (with_reducible apply sim_methX; assumption) | (with_reducible apply sim_makeX; assumption))
local macro_rules | `(tactic| walk_at "fm2") => `(tactic| simp (config := { failIfUnchanged := false }) only [sm_app, sm_len, sm_at, sm_at0, sm_set, sm_set0, List.getElem?_cons_zero, List.getElem?_cons_succ, List.set_cons_zero, List.set_cons_succ, lstO_lst, Option.isSome_some, Option.map_some, Option.some.injEq, Prod.mk.injEq, Nat.add_assoc, Nat.reduceAdd, exists_eq_left', exists_eq_left, true_and, and_assoc, fWo, fWa, fWb, fPutA, fPutB, fWnew, fLenB, fItemB, fSlB, fIB, fNeB, fBytes, fListB, fDivmod, fAnd127, fIRev, fStar, fFldAug, fRaise0, fRaiseX, fCVal, fNv, int1_i])
local macro_rules | `(tactic| walk_at "fd") => `(tactic| (walk_at "fm"; walk_at "fm2"; walk_at "fm"; walk_at "fm2"; walk_at "fm"))

abbrev sOutc : Stmt := top 27
abbrev sLBr : Stmt := top 28
abbrev sLCk : Stmt := top 29
abbrev sLGr : Stmt := top 30
abbrev sLBody : Stmt := top 31
abbrev sLGet : Stmt := top 32
abbrev sLFault : Stmt := top 33
abbrev sLRead : Stmt := top 34
abbrev sLDam : Stmt := top 35
abbrev sLaw : Stmt := top 36
/-- a list that has come to stand somewhere behind M -/
def Res (P : PF) (M : Mem) (b : List Int) : Prop := ∀ (h : Mem) (r : Nat), belM 0 h = true → (M ++ h)[r]? = some (.lst (intsT b)) → P (.ref r) (M ++ h)
theorem res_keep {K : PySem.W.Frag} {H : Hp} {ρ : List Addr} {M h : Mem} {P : PF} {b : List Int} {r : Nat} (m : RM K H ρ M) (q : Res P M b) (hb : belM 0 h = true) (e : (M ++ h)[r]? = some (.lst (intsT b))) : Keep M.length P (.ref r) (M ++ h) := by
  refine keep_whole (by simp) ?_ ?_ (q h r hb e)
  · have := (List.getElem?_eq_some_iff.mp e).1
    unfold Tr.bel
    exact decide_eq_true this
  · rw [belM_app, belM_mono (by simp) m.belM, belM_mono (Nat.zero_le _) hb]
    rfl
theorem bel0_ints (b : List Int) : belM 0 [O.lst (intsT b)] = true := by
  simp only [belM, O.bel, bels_intsT, Bool.and_self]
section
variable {P : Program} {w : World} {K : PySem.W.Frag} {mg : Str → Option Value} {base : Heap}
theorem scLCk : FnScope ["_law_octets", "_law_total", "_law_octet"] ["_law_octets"] (fnScope sLCk) := fnScope_by (by decide +kernel)
theorem ok_lck {f : Addr} {fd : FuncData} (F : Def K mg "_law_checksum" sLCk f fd) (b : L2.Binds K fd ["_law_octets"] []) (T : BQ mg) : Cal P w K mg base 1 "_law_checksum" (spF K fsCkL) [] := by
  refine cal0 F b .nil scLCk (fun vs H Q E h => ?_) (fun cdv A outer s H vs Q E hr h => ?_)
  · obtain ⟨ts, ρ, M, P, PX, r, m, ⟨n, b, rfl, _⟩, o, ox⟩ := h
    exact r.len
  · refine ⟨_, (pss_cons (ps_set (i := 1) scLCk.nd rfl (Or.inl rfl) pe_int)
 (pss_cons (ps_for PassesOwn.never rfl (pi_list (pv 0)) (pg_name (i := 2) scLCk.nd rfl (Or.inl rfl)) (pss_one (ps_set (i := 1) scLCk.nd rfl (Or.inl rfl) (pe_op op_modN (pe_callTy call_int1 (by rfl) T.int (by decide +kernel) (pa_cons (pe_op op_add (pe_op op_mul (pv 1) pe_int) (pv 2)) pa_nil)) pe_int))))
 (pss_one (ps_ret (pe_lst (pa_cons (pe_op op_fdiv (pv 1) pe_int) (pa_cons (pe_op op_modN (pe_callTy call_int1 (by rfl) T.int (by decide +kernel) (pa_cons (pv 1) pa_nil)) pe_int) pa_nil))))))), ?_⟩
    obtain ⟨ts, ρ, M, P, PX, r, m, ⟨n, b, rfl, hn, hl, q⟩, o, ox⟩ := h
    try simp only [nox_K, cx_K]
    refine run_in r m o (by walk_at "sim") ?_
    walk_at "fd"
    unfold fFor
    walk_at "fd"
    refine ⟨intsT b, by rw [hn]; rfl, fun i L2 M2 => ∃ v : Option Tr, L2 = [some (.ref n), some (.int (ckS 5 (b.take i))), v] ∧ M2 = M, ⟨none, rfl, rfl⟩, ?_, ?_, ?_⟩
    · rintro i L2 M2 hi ⟨v, rfl, rfl⟩
      walk_at "fd"
      rw [hn]; rfl
    · rintro i y L2 M2 hy ⟨v, rfl, rfl⟩
      obtain ⟨z, hz, rfl⟩ := intsT_get hy
      walk_at "fd"
      refine ⟨.inr ⟨by decide, by decide⟩, by decide, ?_⟩
      refine forget_same (L' := [some (.ref n), some (.int (ckS 5 (b.take (i + 1)))), none]) ?_ ⟨_, rfl, rfl⟩ ⟨Nat.le_refl _, ?_⟩ m.belM
      · rw [List.take_add_one, hz, Int.mul_comm]
        show LocLe _ [_, some (.int ((41 * ckS 5 (b.take i) + z).fmod 65521)), _]
        rw [← ckS_snoc]
        exact ⟨_, rfl, _, rfl, _, _, rfl, rfl⟩
      · have := (List.getElem?_eq_some_iff.mp hn).1
        walk_at "bel"
    · rintro L2 M2 ⟨v, rfl, rfl⟩
      rw [intsT_len, List.take_length]
      walk_at "fd"
      have e : [Tr.int (ckS 5 b / 256), Tr.int ((ckS 5 b).fmod 256)] = intsT (ck2 b) := by
        unfold ck2 intsT
        rw [T3.fd (by decide)]
        rfl
      rw [e]
      refine ⟨⟨by decide, by decide⟩, by decide, by rw [sizeLine_eq]; decide, keep_whole (by simp) (by simp [Tr.bel]) ?_ q⟩
      rw [belM_app]
      simp only [belM, O.bel, bels_intsT, Bool.and_true]
      exact belM_mono (by simp) m.belM
/-! ### groups, by calls of itself -/
def fsLGr (n : Nat) : FSp := fun ts M P _ => ∃ i : Int, ts = [.int i] ∧ 0 ≤ i ∧ i < 128 ^ (n + 1) ∧ Res P M (grI i)
theorem scLGr : FnScope ["_law_number"] ["_law_number"] (fnScope sLGr) := fnScope_by (by decide +kernel)
structure CG (P : Program) (w : World) (K : PySem.W.Frag) (mg : Str → Option Value) (base : Heap) (n : Nat) : Prop where
  _law_groups : Cal P w K mg base (n + 1) "_law_groups" (spF K (fsLGr n)) []
theorem ok_lgr {f : Addr} {fd : FuncData} (F : Def K mg "_law_groups" sLGr f fd) (b : L2.Binds K fd ["_law_number"] []) (T : BQ mg) : ∀ n : Nat, n ≤ 100 → Cal P w K mg base (n + 1) "_law_groups" (spF K (fsLGr n)) []
  | 0, _ => by
    refine cal0 F b .nil scLGr (fun vs H Q E h => ?_) (fun cdv A outer s H vs Q E hr h => ?_)
    · obtain ⟨ts, ρ, M, P, PX, r, m, ⟨i, rfl, _⟩, o, ox⟩ := h
      exact r.len
    · refine ⟨_, (pss_one (ps_ret (pe_ifExp (pt_cmpR op_lt (pv 0) pe_int (nomark _)) (pe_lst (pa_cons (pv 0) pa_nil)) (pe_op op_cat (pe_lst (pa_cons (pe_op op_add (pe_op op_modN (pe_callTy call_int1 (by rfl) T.int (by decide +kernel) (pa_cons (pv 0) pa_nil)) pe_int) pe_int) pa_nil)) pe_nv)))), ?_⟩
      obtain ⟨ts, ρ, M, P, PX, r, m, ⟨i, rfl, i0, i1, q⟩, o, ox⟩ := h
      try simp only [nox_K, cx_K]
      refine run_in r m o (by walk_at "sim") ?_
      walk_at "fd"
      have i1 : i < 128 := by simpa using i1
      rw [if_pos i1]
      have e : [Tr.int i] = intsT (grI i) := by rw [grI_lt i0 i1]; rfl
      rw [e]
      exact ⟨by rw [sizeLine_eq]; decide, res_keep m q (bel0_ints _) at_0⟩
  | n + 1, hn => by
    refine cal0 F b .nil scLGr (fun vs H Q E h => ?_) (fun cdv A outer s H vs Q E hr h => ?_)
    · obtain ⟨ts, ρ, M, P, PX, r, m, ⟨i, rfl, _⟩, o, ox⟩ := h
      exact r.len
    · have C : CG P w K mg base n := ⟨ok_lgr F b T n (by omega)⟩
      refine ⟨_, (pss_one (ps_ret (pe_ifExp (pt_cmpR op_lt (pv 0) pe_int (nomark _)) (pe_lst (pa_cons (pv 0) pa_nil)) (pe_op op_cat (pe_lst (pa_cons (pe_op op_add (pe_op op_modN (pe_callTy call_int1 (by rfl) T.int (by decide +kernel) (pa_cons (pv 0) pa_nil)) pe_int) pe_int) pa_nil)) (pe_c C._law_groups hr (by first | decide | omega) (by rfl) (pa_cons (pe_op op_fdiv (pv 0) pe_int) pa_nil)))))), ?_⟩
      obtain ⟨ts, ρ, M, P, PX, r, m, ⟨i, rfl, i0, i1, q⟩, o, ox⟩ := h
      try simp only [nox_K, cx_K]
      refine run_in r m o (by walk_at "sim") ?_
      walk_at "fd"
      by_cases c : i < 128
      · rw [if_pos c]
        have e : [Tr.int i] = intsT (grI i) := by rw [grI_lt i0 c]; rfl
        rw [e]
        exact ⟨by rw [sizeLine_eq]; decide, res_keep m q (bel0_ints _) at_0⟩
      · rw [if_neg c]
        have e2 : (128 : Int) ^ (n + 1 + 1) = 128 * 128 ^ (n + 1) := by rw [Int.pow_succ (128 : Int) (n + 1), Int.mul_comm]
        rw [e2] at i1
        refine ⟨by decide, by rw [sizeLine_eq]; decide, ⟨by decide, by decide⟩, ⟨i / 128, rfl, by omega, by omega, fun h r' hb er => ?_⟩⟩
        have elast : ∀ (u : List Tr), (M ++ ([O.lst [Tr.int (i.fmod 128 + 128)]] ++ h ++ [O.lst u]))[List.length (M ++ [O.lst [Tr.int (i.fmod 128 + 128)]] ++ h)]? = some (.lst u) := fun u => by
          rw [← List.append_assoc, ← List.append_assoc]
          exact at_0
        refine ⟨[Tr.int (i.fmod 128 + 128)], ?_, _, lstAt_of er, ?_, ?_⟩
        · rw [List.append_assoc]
          show lstO (M ++ (O.lst _ :: h))[M.length]? = _
          rw [at_0]
          rfl
        · rw [intsT_len, sizeLine_eq]
          have := grI_len (i := i / 128) (k := n + 1) (by omega) (by omega) (by omega)
          simp only [List.length_cons, List.length_nil]
          omega
        · have e : [Tr.int (i.fmod 128 + 128)] ++ intsT (grI (i / 128)) = intsT (grI i) := by rw [grI_ge (i := i) (by omega), T3.fd (by decide)]; rfl
          have ea : M ++ [O.lst [Tr.int (i.fmod 128 + 128)]] ++ h ++ [O.lst ([Tr.int (i.fmod 128 + 128)] ++ intsT (grI (i / 128)))] = M ++ ([O.lst [Tr.int (i.fmod 128 + 128)]] ++ h ++ [O.lst (intsT (grI i))]) := by rw [e]; simp only [List.append_assoc]
          rw [ea]
          refine res_keep m q ?_ (elast _)
          rw [belM_app, belM_app, hb, bel0_ints]
          rfl
end
end T1

set_option Elab.async false
set_option linter.all false
set_option maxRecDepth 100000
set_option maxHeartbeats 4000000
namespace T1
open PySem PySem.Spec PyProof.Rows L2 C8 Fm T3
local macro_rules | `(tactic| walk_at "sim1") => `(tactic| with_reducible first
  | exact sim_nil | exact sim_var | exact sim_int | exact sim_str | exact sim_bl | exact sim_non | exact sim_raw
  | apply sim_cons | apply sim_op | apply sim_un | apply sim_tup | apply sim_lst
  | apply sim_CB | apply sim_if | apply sim_test | apply sim_B | apply sim_not | apply sim_and | apply sim_or
  | apply sim_andV | apply sim_orV | apply sim_notV | apply sim_chain | exact sim_nopart | apply sim_part
  | apply sim_sl | apply sim_BML | apply sim_BMS | apply sim_BM0S | apply sim_M1 | apply sim_M0
  | apply sim_fmt | apply sim_joined | exact SimJ.nil | apply SimJ.cons
  | exact s_I0i | exact s_I0b | exact s_Ii | exact s_Ui | exact s_eq | exact s_ne | exact s_isN | exact s_notN | exact s_ixL | exact s_ixT | exact s_ixS
  | exact s_cat | exact s_catA | exact s_rep | exact s_repT | exact s_in | exact s_slL | exact s_slA | exact s_slS | exact s_addS | exact s_leS | exact s_ltS
  | exact c_len | exact c_lenS | exact c_list | exact c_tuple | exact c_int1 | exact c_intS | exact c_strI | exact c_max2 | exact c_min2
  | exact m_append | exact m_extend | exact m_split | exact m_join | exact m_0b | exact m_1b
  | apply sim_call | exact simSpF
  | exact sim_name | exact sim_gnil | apply sim_gcons | apply sim_gtup | apply sim_gsub | exact set_list
  | exact sim_next | apply sim_seq | apply sim_cut | exact sim_break | exact sim_cont | apply sim_drop | apply sim_ret | exact sim_retN
  | apply sim_ifS | exact sim_never | apply sim_asg | apply sim_par | apply sim_aug
  | apply sim_for | apply sim_while | apply i_list | apply i_tup | apply i_rng1 | apply i_rng2 | apply i_str | apply i_enum | apply i_zip
  | apply sim_lc | exact sim_yes | exact sim_namew (by decide) | exact sim_gnilw | apply sim_gconsw | apply sim_gtupw
  | apply sim_fld | apply sim_con | apply sim_setFld | apply sim_make | apply sim_prop | apply sim_meth | apply sim_cmeth | exact c_isi | apply sim_isiT | exact s_eqD | exact s_neD
  | walk_at "sim2")
local macro_rules | `(tactic| walk_at "sim2") => `(tactic| fail)
local macro_rules | `(tactic| walk_at "sim") => `(tactic| repeat' (walk_at "sim1"))
/-- open the trees' reading as far as it goes by itself -/
local macro_rules | `(tactic| walk_at "fm") => `(tactic| simp (config := { failIfUnchanged := false }) only [fVar, fC, fOp, fUn, fNil, fCons, fTup, fLst, fCB, fIf, fTest, fNot, fAnd, fOr, fAndV, fOrV, fNotV, fChain, fNoPart, fPart, fI, fI0, fU, fEq, fNe, fIsN, fNotN, fIxL, fIxT, fIxS,
  fCat, fCatA, fRep, fRepT, fSlL, fSlA, fSlS, fSl, fLen, fLenS, fList, fTuple, fIntS, fStrI, fMax2, fMin2, fAppend, fExtend, fIn, fBM, fMS, fBMS, fBM0S, fAddS, fLeS, fLtS, fM0b, fM1b, fSplit, fJoin, fJoined, fJs,
  fName, fGNil, fGCons, fGTup, fSetL, fGSub, fNext, fSeq, fCut, fBreak, fCont, fDrop, fRet, fRetN, fIfS, fAsg, fPar, fAug, fCall, fFld, fCon, fSetFld, fMake, fProp, fMeth, fCMeth, fIsi, fIsiT, fEqD, fNeD, insAt_ref, insO_ins, fFmt, fmtS_i, fmtS_s, fmtOk_i, fmtOk_s, fIL, fIT, fIR1, fIR2, fIS, fIEn, fIZ,
  startL, List.map_cons, List.map_nil, List.length_cons, List.length_nil, List.cons_append, List.nil_append, List.replicate, List.getElem?_cons_zero, List.getElem?_cons_succ, List.set_cons_zero, List.set_cons_succ, Nat.reduceSub, Nat.reduceAdd,
  Option.some.injEq, Tr.int.injEq, Tr.str.injEq, Tr.bl.injEq, Tr.tup.injEq, Tr.ref.injEq, List.cons.injEq, exists_eq_left, exists_eq_left', exists_eq_right, true_and, and_true, and_self, exists_and_left, tupOf_tup, eqS_ii, eqS_ss, eqS_bb, eqS_ni, eqS_in, eqS_nn, isStr_s, isN_n, isN_i, isN_b, isN_s, isN_t, isN_r, noRaw_n, noRaw_i, noRaw_b, noRaw_s, noRaw_t, noRaw_r, and_assoc, reduceIte, Bool.false_eq_true, exists_const, lstAt_ref, seqAt_ref, seqAt_tup, refAt_ref, lstO_lst, app_assoc2, len_app1, at_kk, at_00, set_k, set_00, Nat.add_assoc, Option.map_some, Prod.mk.injEq, int_cast_inj, Nat.zero_le, decide_eq_true_eq, Bool.not_eq_true', decide_eq_false_iff_not, Nat.add_zero, implies_true, forall_const, ite_true, ite_false, if_true, if_false, decide_true, decide_false, Bool.not_true, Bool.not_false, asg_len, Option.isSome_some])
local macro_rules | `(tactic| walk_at "bel") => `(tactic| first | rfl | (simp (config := { failIfUnchanged := false }) only [belM, O.bel, bels_strs, bels_ints, belL, Tr.bel, Tr.bels, Bool.and_true, Bool.true_and, Bool.and_self, decide_eq_true_eq, Bool.and_eq_true, true_and, and_true, List.length_cons, List.length_nil, Nat.reduceAdd]; try omega))

local macro_rules | `(tactic| walk_at "sim2") => `(tactic| first | exact simGet | exact simTi | exact simDrawn | assumption | apply sim_wo | apply sim_wa | apply sim_wb | apply sim_putA | apply sim_putB | exact sim_wnew | exact c_lenB | exact s_itemB | exact s_slB | exact s_neB | exact c_bytes | exact c_listB | exact c_divmod | exact s_and127 | apply i_revA | apply i_byt | apply sim_star | apply sim_fldAug | apply sim_cval | exact sim_nv | apply sim_raise0 | apply sim_raiseX)
local macro_rules | `(tactic| walk_at "sim1") => `(tactic| first | (with_reducible apply sim_callX; assumption) | (with_reducible apply sim_methX; assumption) | (with_reducible apply sim_makeX; assumption))
local macro_rules | `(tactic| walk_at "fm2") => `(tactic| simp (config := { failIfUnchanged := false }) only [sm_app, sm_len, sm_at, sm_at0, sm_set, sm_set0, List.getElem?_cons_zero, List.getElem?_cons_succ, List.set_cons_zero, List.set_cons_succ, lstO_lst, Option.isSome_some, Option.map_some, Option.some.injEq, Prod.mk.injEq, Nat.add_assoc, Nat.reduceAdd, exists_eq_left', exists_eq_left, true_and, and_assoc, fWo, fWa, fWb, fPutA, fPutB, fWnew, fLenB, fItemB, fSlB, fIB, fNeB, fBytes, fListB, fDivmod, fAnd127, fIRev, fStar, fFldAug, fRaise0, fRaiseX, fCVal, fNv, int1_i])
local macro_rules | `(tactic| walk_at "fd") => `(tactic| (walk_at "fm"; walk_at "fm2"; walk_at "fm"; walk_at "fm2"; walk_at "fm"))

theorem atI_nat {xs : List Tr} {k : Nat} {x : Tr} (h : xs[k]? = some x) : atI xs (k : Int) = some x := by
  unfold atI ixN
  rw [if_pos (by omega), if_pos (by have := (List.getElem?_eq_some_iff.mp h).1; omega)]
  simpa using h
section
variable {P : Program} {w : World} {K : PySem.W.Frag} {mg : Str → Option Value} {base : Heap}
def fsLBody : FSp := fun ts M P _ => ∃ (c : Int) (ls : List Lk), ts = [.int c, .tup (ls.map lkT)] ∧ ls.length ≤ 24 ∧ (∀ l ∈ ls, okE l) ∧ Res P M (body c ls)
theorem scLBody : FnScope ["_law_count", "_law_bridges_here", "_law_octets", "_law_one", "_law_other", "_law_length", "_law_life"] ["_law_count", "_law_bridges_here"] (fnScope sLBody) := fnScope_by (by decide +kernel)
theorem ok_lbody {f : Addr} {fd : FuncData} (F : Def K mg "_law_body" sLBody f fd) (b : L2.Binds K fd ["_law_count", "_law_bridges_here"] []) (T : BQ mg) (C : CG P w K mg base 8) : Cal P w K mg base 10 "_law_body" (spF K fsLBody) [] := by
  refine cal0 F b .nil scLBody (fun vs H Q E h => ?_) (fun cdv A outer s H vs Q E hr h => ?_)
  · obtain ⟨ts, ρ, M, P, PX, r, m, ⟨c, ls, rfl, _⟩, o, ox⟩ := h
    exact r.len
  · refine ⟨_, (pss_cons (ps_set (i := 2) scLBody.nd rfl (Or.inl rfl) (pe_lst (pa_cons pe_int (pa_cons (pv 0) (pa_cons (pe_callB call_len_seq (by rfl) T.len PySem.boot_len (pa_cons (pv 1) pa_nil)) pa_nil)))))
 (pss_cons (ps_for PassesOwn.never rfl (pi_tup (pv 1)) (pg_tup rfl (pgs_cons (pg_name (i := 3) scLBody.nd rfl (Or.inl rfl)) (pgs_cons (pg_name (i := 4) scLBody.nd rfl (Or.inl rfl)) (pgs_cons (pg_name (i := 5) scLBody.nd rfl (Or.inl rfl)) (pgs_cons (pg_name (i := 6) scLBody.nd rfl (Or.inl rfl)) pgs_nil))))) (pss_one (ps_set (i := 2) scLBody.nd rfl (Or.inl rfl) (pe_op op_cat (pe_op op_cat (pv 2) (pe_lst (pa_cons (pv 3) (pa_cons (pv 4) (pa_cons (pv 5) pa_nil))))) (pe_c C._law_groups hr (by first | decide | omega) (by rfl) (pa_cons (pv 6) pa_nil))))))
 (pss_one (ps_ret (pv 2))))), ?_⟩
    obtain ⟨ts, ρ, M, P, PX, r, m, ⟨c, ls, rfl, hl, hls, q⟩, o, ox⟩ := h
    try simp only [nox_K, cx_K]
    refine run_in r m o (by walk_at "sim") ?_
    walk_at "fd"
    refine ⟨by rw [sizeLine_eq]; decide, ?_⟩
    have hlm : (ls.map lkT).length = ls.length := List.length_map ..
    rw [hlm]
    unfold fFor
    walk_at "fd"
    refine ⟨fun i L2 M2 => ∃ (h : Mem) (r : Nat) (v3 v4 v5 v6 : Option Tr), L2 = [some (.int c), some (.tup (ls.map lkT)), some (.ref r), v3, v4, v5, v6] ∧ M2 = M ++ h ∧ belM 0 h = true ∧ (M ++ h)[r]? = some (.lst (intsT ([84, c, (ls.length : Int)] ++ (ls.take i).flatMap enc1))), ⟨_, _, none, none, none, none, rfl, rfl, bel0_ints [84, c, (ls.length : Int)], at_0⟩, ?_, ?_⟩
    · rintro i y L2 M2 hy ⟨h, r', v3, v4, v5, v6, rfl, rfl, hb, hr'⟩
      rw [List.getElem?_map] at hy
      cases hli : ls[i]? with
      | none => rw [hli] at hy; cases hy
      | some l =>
        rw [hli] at hy
        cases hy
        have hlE := hls l (List.mem_of_getElem? hli)
        walk_at "fd"
        refine ⟨_, rfl, rfl, _, _, rfl, _, _, rfl, _, _, rfl, _, _, rfl, rfl, ?_⟩
        have hg9 := grI_len (k := 9) hlE.2.2.2.2.2.2.1 (by simpa using hlE.2.2.2.2.2.2.2) (by decide)
        have hfl := flat_len (ls := ls.take i) fun m hm => hls m (List.mem_of_mem_take hm)
        have htl : (ls.take i).length ≤ 24 := by rw [List.length_take]; omega
        have er1 : ∀ g : Mem, (M ++ (h ++ g))[r']? = some (.lst (intsT ([84, c, (ls.length : Int)] ++ (ls.take i).flatMap enc1))) := fun g => by
          rw [← List.append_assoc]
          exact at_l hr'
        refine ⟨by rw [sizeLine_eq]; decide, _, by rw [er1]; rfl, by rw [intsT_len, sizeLine_eq]; simp only [List.length_append, List.length_cons, List.length_nil]; omega, ⟨l.2.2.2, rfl, hlE.2.2.2.2.2.2.1, by have := hlE.2.2.2.2.2.2.2; simpa using this, fun h2 r2 hb2 e2 => ?_⟩⟩
        have eb : ∀ u v : O, (M ++ (h ++ [u, v]) ++ h2)[List.length M + (List.length h + 1)]? = some v := fun u v => by
          have e0 : M ++ (h ++ [u, v]) ++ h2 = (M ++ h ++ [u]) ++ v :: h2 := by simp
          have e1 : List.length M + (List.length h + 1) = List.length (M ++ h ++ [u]) := by simp
          rw [e0, e1]
          exact at_0
        refine ⟨_, by rw [eb]; rfl, _, lstAt_of e2, by rw [intsT_len, sizeLine_eq]; simp only [List.length_append, intsT_len, List.length_cons, List.length_nil]; omega, ?_⟩
        have e : intsT ([84, c, (ls.length : Int)] ++ (ls.take i).flatMap enc1) ++ [Tr.int l.1, Tr.int l.2.1, Tr.int l.2.2.1] ++ intsT (grI l.2.2.2) = intsT ([84, c, (ls.length : Int)] ++ (ls.take (i + 1)).flatMap enc1) := by
          rw [List.take_add_one, hli, List.flatMap_append, ← List.append_assoc [84, c, (ls.length : Int)], ints_app ([84, c, (ls.length : Int)] ++ (ls.take i).flatMap enc1), List.append_assoc]
          congr 1
          show _ = intsT (enc1 l ++ [])
          rw [List.append_nil]
          unfold enc1
          rw [ints_app]
          rfl
        rw [e]
        have hbN : belM 0 (h ++ [O.lst [Tr.int l.1, Tr.int l.2.1, Tr.int l.2.2.1], O.lst (intsT ([84, c, (ls.length : Int)] ++ (ls.take i).flatMap enc1) ++ [Tr.int l.1, Tr.int l.2.1, Tr.int l.2.2.1])] ++ h2 ++ [O.lst (intsT ([84, c, (ls.length : Int)] ++ (ls.take (i + 1)).flatMap enc1))]) = true := by
          have e5 : intsT ([84, c, (ls.length : Int)] ++ (ls.take i).flatMap enc1) ++ [Tr.int l.1, Tr.int l.2.1, Tr.int l.2.2.1] = intsT ([84, c, (ls.length : Int)] ++ (ls.take i).flatMap enc1 ++ [l.1, l.2.1, l.2.2.1]) := by
            rw [ints_app _ [l.1, l.2.1, l.2.2.1]]
            rfl
          rw [e5, belM_app, belM_app, belM_app, hb, hb2, bel0_ints]
          simp only [belM, O.bel, bels_intsT, Tr.bels, Tr.bel, Bool.and_self]
        have eM : M ++ (h ++ [O.lst [Tr.int l.1, Tr.int l.2.1, Tr.int l.2.2.1], O.lst (intsT ([84, c, (ls.length : Int)] ++ (ls.take i).flatMap enc1) ++ [Tr.int l.1, Tr.int l.2.1, Tr.int l.2.2.1])]) ++ h2 ++ [O.lst (intsT ([84, c, (ls.length : Int)] ++ (ls.take (i + 1)).flatMap enc1))] = M ++ (h ++ [O.lst [Tr.int l.1, Tr.int l.2.1, Tr.int l.2.2.1], O.lst (intsT ([84, c, (ls.length : Int)] ++ (ls.take i).flatMap enc1) ++ [Tr.int l.1, Tr.int l.2.1, Tr.int l.2.2.1])] ++ h2 ++ [O.lst (intsT ([84, c, (ls.length : Int)] ++ (ls.take (i + 1)).flatMap enc1))]) := by simp only [List.append_assoc]
        refine forget_same (L' := [some (.int c), some (.tup (ls.map lkT)), some (.ref (List.length (M ++ (h ++ [O.lst [Tr.int l.1, Tr.int l.2.1, Tr.int l.2.2.1], O.lst (intsT ([84, c, (ls.length : Int)] ++ (ls.take i).flatMap enc1) ++ [Tr.int l.1, Tr.int l.2.1, Tr.int l.2.2.1])]) ++ h2))), none, none, none, none]) ?_ ⟨_, _, none, none, none, none, rfl, eM, hbN, by rw [← eM]; exact at_0⟩ ⟨?_, ?_⟩ ?_
        · exact ⟨_, rfl, _, rfl, _, rfl, _, _, rfl, _, _, rfl, _, _, rfl, _, _, rfl, rfl⟩
        · simp only [List.length_append, List.length_cons, List.length_nil]; omega
        · simp [belL, Tr.bel, bel_lks]
        · rw [eM, belM_app, belM_mono (by simp) m.belM, belM_mono (Nat.zero_le _) hbN]
          rfl
    · rintro L2 M2 ⟨h, r', v3, v4, v5, v6, rfl, rfl, hb, hr'⟩
      rw [hlm, List.take_length] at hr'
      walk_at "fd"
      exact res_keep m q hb hr'
/-! ### the law's reader -/
def bdT : Option Nat → Tr
  | none => .non
  | some i => .int (i : Int)
def rdO (o k : Nat) (bad : Option Nat) : O := .dic (wd (.ref o) (.int (k : Int)) (bdT bad))
def fsLGet : FSp := fun ts M P _ => ∃ (n o : Nat) (b : List Int) (k : Nat) (bad : Option Nat) (lo hi : Int), ts = [.ref n, .int lo, .int hi] ∧ M[n]? = some (rdO o k bad) ∧ M[o]? = some (.lst (intsT b)) ∧ b.length ≤ 100000 ∧ k ≤ b.length ∧
  (bad ≠ none → P (.int lo) M) ∧ (bad = none → (∀ i, tk b lo hi k = .error i → P (.int lo) (M.set n (rdO o k (some i)))) ∧ ∀ x j, tk b lo hi k = .ok (x, j) → P (.int x) (M.set n (rdO o j none)))
theorem scLGet : FnScope ["_law_w", "_law_low", "_law_high"] ["_law_w", "_law_low", "_law_high"] (fnScope sLGet) := fnScope_by (by decide +kernel)
theorem ok_lget {f : Addr} {fd : FuncData} (F : Def K mg "_law_get" sLGet f fd) (b : L2.Binds K fd ["_law_w", "_law_low", "_law_high"] []) (T : BQ mg) : Cal P w K mg base 1 "_law_get" (spF K fsLGet) [] := by
  refine cal0 F b .nil scLGet (fun vs H Q E h => ?_) (fun cdv A outer s H vs Q E hr h => ?_)
  · obtain ⟨ts, ρ, M, P, PX, r, m, ⟨n, o', b, k, bad, lo, hi, rfl, _⟩, o, ox⟩ := h
    exact r.len
  · refine ⟨_, (pss_cons (ps_if (pt_cmpR op_notN (pe_dget (hu_of hr) (pv 0) pe_str (fun _ _ => rfl)) pe_non (nomark _)) (pss_one (ps_ret (pv 1))) pss_nil)
 (pss_cons (ps_if (PW.pt (pw_or (pt_cmpR op_eq (pe_dget (hu_of hr) (pv 0) pe_str (fun _ _ => rfl)) (pe_callB call_len_seq (by rfl) T.len PySem.boot_len (pa_cons (pe_dget (hu_of hr) (pv 0) pe_str (fun _ _ => rfl)) pa_nil)) (nomark _)) (pw_or1 (pt_not (pt_chain op_le op_le (pv 1) (pe_ix ix_list (pe_dget (hu_of hr) (pv 0) pe_str (fun _ _ => rfl)) (pe_dget (hu_of hr) (pv 0) pe_str (fun _ _ => rfl)) (fun _ _ => rfl)) (pv 2)))))) (pss_cons (ps_dput (hu_of hr) (pv 0) pe_str (pe_dget (hu_of hr) (pv 0) pe_str (fun _ _ => rfl)) (by rfl))
 (pss_one (ps_ret (pv 1)))) pss_nil)
 (pss_cons (ps_dput (hu_of hr) (pv 0) pe_str (pe_op op_add (pe_dget (hu_of hr) (pv 0) pe_str (fun _ _ => rfl)) pe_int) (by rfl))
 (pss_one (ps_ret (pe_ix ix_list (pe_dget (hu_of hr) (pv 0) pe_str (fun _ _ => rfl)) (pe_op op_sub (pe_dget (hu_of hr) (pv 0) pe_str (fun _ _ => rfl)) pe_int) (fun _ _ => rfl))))))), ?_⟩
    obtain ⟨ts, ρ, M, P, PX, r, m, ⟨n, o', b, k, bad, lo, hi, rfl, hn, ho, hl, hk, q1, q2⟩, o, ox⟩ := h
    try simp only [nox_K, cx_K]
    refine run_in r m o (by walk_at "sim") ?_
    walk_at "fd"
    refine ⟨_, _, _, hn, by cases bad <;> rfl, ?_⟩
    cases bad with
    | some i =>
      have e1 : isN (bdT (some i)) = false := rfl
      rw [if_pos e1]
      exact keep_same m rfl (q1 (by simp))
    | none =>
      obtain ⟨q2, q3⟩ := q2 rfl
      have e1 : ¬ isN (bdT none) = false := by decide
      rw [if_neg e1]
      refine ⟨_, _, _, hn, _, _, _, hn, _, seqAt_of ho, _, rfl, ?_⟩
      rw [intsT_len]
      have hB := belM_get m.belM hn
      by_cases e : k = b.length
      · rw [if_pos (decide_eq_true (by omega))]
        have ht : tk b lo hi k = .error k := by unfold tk; rw [List.getElem?_eq_none (by omega)]
        exact ⟨_, _, _, hn, _, _, _, hn, keep_set m rfl hB (q2 k ht)⟩
      · rw [if_neg (fun z => e (by have := of_decide_eq_true z; omega))]
        obtain ⟨x, hx⟩ : ∃ x, b[k]? = some x := ⟨_, List.getElem?_eq_getElem (by omega)⟩
        have hxT : (intsT b)[k]? = some (.int x) := by unfold intsT; rw [List.getElem?_map, hx]; rfl
        refine ⟨_, _, _, hn, _, _, _, hn, _, lstAt_of ho, _, rfl, _, atI_nat hxT, x, rfl, ?_⟩
        by_cases c1 : lo ≤ x
        · rw [if_pos c1]
          refine ⟨x, rfl, ?_⟩
          by_cases c2 : x ≤ hi
          · rw [if_neg (fun z => z c2)]
            have ht : tk b lo hi k = .ok (x, k + 1) := by unfold tk; rw [hx]; simp only; rw [if_pos ⟨c1, c2⟩]
            refine ⟨_, _, _, hn, _, rfl, _, _, _, hn, ?_⟩
            have hno : n ≠ o' := fun z => by rw [z, ho] at hn; cases hn
            have ho2 : ∀ u : O, (M.set n u)[o']? = some (.lst (intsT b)) := fun u => by rw [List.getElem?_set_ne hno]; exact ho
            refine ⟨_, _, _, set_same hn, _, _, _, set_same hn, _, rfl, _, lstAt_of (ho2 _), .int x, ?_, keep_set m rfl hB (q3 x (k + 1) ht)⟩
            have e3 : ((k : Int) + 1 - 1) = (k : Int) := by omega
            rw [e3]
            exact atI_nat hxT
          · rw [if_pos c2]
            have ht : tk b lo hi k = .error k := by unfold tk; rw [hx]; simp only; rw [if_neg (fun z => c2 z.2)]
            exact ⟨_, _, _, hn, _, _, _, hn, keep_set m rfl hB (q2 k ht)⟩
        · rw [if_neg c1]
          have ht : tk b lo hi k = .error k := by unfold tk; rw [hx]; simp only; rw [if_neg (fun z => c1 z.1)]
          exact ⟨_, _, _, hn, _, _, _, hn, keep_set m rfl hB (q2 k ht)⟩
def fsLFault : FSp := fun ts M P _ => ∃ (n o k s : Nat) (bad : Option Nat) (wr : Bool), ts = [.ref n, .bl wr, .int (s : Int)] ∧ M[n]? = some (rdO o k bad) ∧
  (wr = true → bad = none → P .non (M.set n (rdO o k (some s)))) ∧ ((wr = false ∨ bad ≠ none) → P .non M)
theorem scLFault : FnScope ["_law_w", "_law_wrong", "_law_start_here"] ["_law_w", "_law_wrong", "_law_start_here"] (fnScope sLFault) := fnScope_by (by decide +kernel)
theorem ok_lfault {f : Addr} {fd : FuncData} (F : Def K mg "_law_fault" sLFault f fd) (b : L2.Binds K fd ["_law_w", "_law_wrong", "_law_start_here"] []) (T : BQ mg) : Cal P w K mg base 1 "_law_fault" (spF K fsLFault) [] := by
  refine cal0 F b .nil scLFault (fun vs H Q E h => ?_) (fun cdv A outer s H vs Q E hr h => ?_)
  · obtain ⟨ts, ρ, M, P, PX, r, m, ⟨n, o', k, s, bad, wr, rfl, _⟩, o, ox⟩ := h
    exact r.len
  · refine ⟨_, (pss_one (ps_if (PW.pt (pw_and (pt_val (pv 1)) (pw_and1 (pt_cmpR op_isN (pe_dget (hu_of hr) (pv 0) pe_str (fun _ _ => rfl)) pe_non (nomark _))))) (pss_one (ps_dput (hu_of hr) (pv 0) pe_str (pv 2) (by rfl))) pss_nil)), ?_⟩
    obtain ⟨ts, ρ, M, P, PX, r, m, ⟨n, o', k, s, bad, wr, rfl, hn, q1, q2⟩, o, ox⟩ := h
    try simp only [nox_K, cx_K]
    refine run_in r m o (by walk_at "sim") ?_
    walk_at "fd"
    cases wr with
    | false =>
      rw [if_neg (by decide)]
      exact keep_same m rfl (q2 (.inl rfl))
    | true =>
      rw [if_pos rfl]
      refine ⟨_, _, _, hn, by cases bad <;> rfl, ?_⟩
      cases bad with
      | some i =>
        have e1 : ¬ isN (bdT (some i)) = true := fun z => nomatch z
        rw [if_neg e1]
        exact keep_same m rfl (q2 (.inr (by simp)))
      | none =>
        have e1 : isN (bdT none) = true := rfl
        rw [if_pos e1]
        refine ⟨_, _, _, hn, keep_set m rfl ?_ (q1 rfl rfl)⟩
        have hB := belM_get m.belM hn
        exact hB
end
end T1

set_option Elab.async false
set_option linter.all false
namespace T3
/-! ### the law's reader: a place, and the first fault -/
def gt (b : List Int) (lo hi : Int) (k : Nat) (bad : Option Nat) : Int × Nat × Option Nat := match bad with
  | some i => (lo, k, some i)
  | none => match tk b lo hi k with
    | .error i => (lo, k, some i)
    | .ok (x, j) => (x, j, none)
def ft (wr : Bool) (s : Nat) (bad : Option Nat) : Option Nat := if wr = true ∧ bad = none then some s else bad
/-- what is still to come, or what has come out -/
def Inv {α : Type} (R : Except Nat α) (X : Nat → Except Nat α) (k : Nat) (bad : Option Nat) : Prop := (bad = none ∧ R = X k) ∨ ∃ i, bad = some i ∧ R = .error i
theorem gt_rng {b : List Int} {lo hi : Int} {k : Nat} {bad : Option Nat} (h : lo ≤ hi) (hk : k ≤ b.length) : lo ≤ (gt b lo hi k bad).1 ∧ (gt b lo hi k bad).1 ≤ hi ∧ k ≤ (gt b lo hi k bad).2.1 ∧ (gt b lo hi k bad).2.1 ≤ b.length := by
  unfold gt
  cases bad with
  | some i => exact ⟨Int.le_refl _, h, Nat.le_refl _, hk⟩
  | none =>
    simp only
    cases ht : tk b lo hi k with
    | error i => exact ⟨Int.le_refl _, h, Nat.le_refl _, hk⟩
    | ok p =>
      obtain ⟨x, j⟩ := p
      obtain ⟨e1, e2, e3, e4, e5⟩ := tk_ok ht
      exact ⟨e4, e5, by simp only; omega, by simp only; omega⟩
theorem gt_bad {b : List Int} {lo hi : Int} {k i : Nat} : gt b lo hi k (some i) = (lo, k, some i) := rfl
theorem gt_err {b : List Int} {lo hi : Int} {k i : Nat} (h : tk b lo hi k = .error i) : gt b lo hi k none = (lo, k, some i) := by
  unfold gt; simp only; rw [h]
theorem gt_ok {b : List Int} {lo hi x : Int} {k j : Nat} (h : tk b lo hi k = .ok (x, j)) : gt b lo hi k none = (x, j, none) := by
  unfold gt; simp only; rw [h]
theorem Inv.get {α : Type} {R : Except Nat α} {b : List Int} {lo hi : Int} {X : Int → Nat → Except Nat α} {k : Nat} {bad : Option Nat} (h : Inv R (fun k => match tk b lo hi k with
    | .error i => .error i
    | .ok (x, j) => X x j) k bad) : Inv R (X (gt b lo hi k bad).1) (gt b lo hi k bad).2.1 (gt b lo hi k bad).2.2 := by
  rcases h with ⟨rfl, h⟩ | ⟨i, rfl, h⟩
  · cases ht : tk b lo hi k with
    | error i =>
      rw [gt_err ht]
      simp only [ht] at h
      exact .inr ⟨i, rfl, h⟩
    | ok p =>
      obtain ⟨x, j⟩ := p
      rw [gt_ok ht]
      simp only [ht] at h
      exact .inl ⟨rfl, h⟩
  · exact .inr ⟨i, rfl, h⟩
theorem Inv.fault {α : Type} {R : Except Nat α} {Y : Nat → Except Nat α} {k s : Nat} {bad : Option Nat} {wr : Bool} (h : Inv R (fun k => if wr = true then .error s else Y k) k bad) : Inv R Y k (ft wr s bad) := by
  rcases h with ⟨rfl, h⟩ | ⟨i, rfl, h⟩
  · dsimp only at h
    cases wr with
    | true =>
      rw [if_pos rfl] at h
      exact .inr ⟨s, rfl, h⟩
    | false =>
      rw [if_neg (by decide)] at h
      exact .inl ⟨rfl, h⟩
  · refine .inr ⟨i, ?_, h⟩
    unfold ft
    rw [if_neg (fun z => by cases z.2)]
theorem decB_long {b : List Int} {c : Int} {n k : Nat} {acc : List (Int × Int × Int × Int)} : decB b c (n + 1) acc k = match tk b 0 (c - 1) k with
    | .error i => .error i
    | .ok (one, k1) => match tk b 0 (c - 1) k1 with
      | .error i => .error i
      | .ok (other, k2) => if other = one then .error k1 else match tk b 1 99 k2 with
        | .error i => .error i
        | .ok (len, k3) => match tkLife b k3 with
          | .error i => .error i
          | .ok (life, k4) => decB b c n (acc ++ [(one, other, len, life)]) k4 := by
  conv => lhs; unfold decB bridge
  cases tk b 0 (c - 1) k with
  | error i => rfl
  | ok p =>
    obtain ⟨one, k1⟩ := p
    simp only
    cases tk b 0 (c - 1) k1 with
    | error i => rfl
    | ok p =>
      obtain ⟨other, k2⟩ := p
      simp only
      by_cases h : other = one
      · rw [if_pos h, if_pos h]
      · rw [if_neg h, if_neg h]
        cases tk b 1 99 k2 with
        | error i => rfl
        | ok p =>
          obtain ⟨len, k3⟩ := p
          simp only
          cases tkLife b k3 with
          | error i => rfl
          | ok p => rfl
/-- while the law reads a life from place k3 on: the groups so far, the last byte, the place, the fault -/
def LifeL {α : Type} (R : Except Nat α) (Z : Int → Nat → Except Nat α) (b : List Int) (k3 : Nat) (acc : List Int) (oc : Int) (k : Nat) (bad : Option Nat) : Prop :=
  (∃ i, bad = some i ∧ R = .error i) ∨ (bad = none ∧ (R = match tkLife b k3 with
    | .error i => .error i
    | .ok (v, m) => Z v m) ∧ ((acc = [] ∧ oc = 128 ∧ k = k3) ∨ (LifeAt b k3 acc k ∧ ∃ l, acc = l ++ [oc])))
theorem lifeL_s {α : Type} {R : Except Nat α} {Z : Int → Nat → Except Nat α} {b : List Int} {k3 k : Nat} {acc : List Int} {oc : Int} (h : LifeL R Z b k3 acc oc k none) (hc : 128 ≤ oc) (hk : k ≤ b.length) (h3 : k3 ≤ k) (hl : acc.length + k3 = k) :
    ∀ x j bd, gt b 0 255 k none = (x, j, bd) → LifeL R Z b k3 (acc ++ [x]) x j (ft (decide (x = 0) && decide (acc ≠ [])) (j - 1) bd) ∧ j ≤ b.length ∧ (bd = none → j = k + 1 ∧ (acc ++ [x]).length + k3 = j) := by
  intro x j bd hg
  rcases h with ⟨i, z, _⟩ | ⟨_, hR, h⟩
  · cases z
  cases ht : tk b 0 255 k with
  | error i =>
    rw [gt_err ht] at hg
    cases hg
    have hbad : tkLife b k3 = .error i := by
      rcases h with ⟨rfl, rfl, rfl⟩ | ⟨hA, l, rfl⟩
      · exact life_bad (lifeB_err ht)
      · have hn : b[k]? = none ∨ ∃ y, b[k]? = some y ∧ ¬ (0 ≤ y ∧ y ≤ 255) := by
          unfold tk at ht
          split at ht
          · rename_i e; exact .inl e
          · rename_i y e
            split at ht
            · cases ht
            · rename_i hy; exact .inr ⟨y, e, hy⟩
        have hik := tk_err ht
        have h1 : tk b 1 255 k = .error i := by
          unfold tk
          rcases hn with e | ⟨y, e, hy⟩
          · rw [e, hik]
          · rw [e]
            simp only
            rw [if_neg (fun z => hy ⟨by omega, z.2⟩), hik]
        exact life_bad (lifeAt_err hA (fun l' x' e => by
          have := congrArg List.getLast? e
          have : x' = oc := by simpa using this.symm
          omega) h1)
    refine ⟨.inl ⟨i, ?_, ?_⟩, hk, fun z => by cases z⟩
    · unfold ft
      rw [if_neg (fun z => by cases z.2)]
    · rw [hR, hbad]
  | ok p =>
    obtain ⟨y, m⟩ := p
    rw [gt_ok ht] at hg
    cases hg
    obtain ⟨e1, e2, e3, e4, e5⟩ := tk_ok ht
    have hlen : (acc ++ [x]).length + k3 = j := by simp only [List.length_append, List.length_cons, List.length_nil]; omega
    refine ⟨?_, by omega, fun _ => ⟨e1, hlen⟩⟩
    rcases h with ⟨rfl, rfl, rfl⟩ | ⟨hA, l, rfl⟩
    · refine .inr ⟨?_, hR, .inr ⟨lifeAt_0 ht, [], rfl⟩⟩
      unfold ft
      rw [if_neg (fun z => by simp at z)]
    · by_cases hx : x = 0
      · subst hx
        refine .inl ⟨k, ?_, ?_⟩
        · unfold ft
          rw [if_pos ⟨by simp, rfl⟩]
          congr 1
          omega
        · have h1 : tk b 1 255 k = .error k := by
            unfold tk at ht ⊢
            split at ht
            · cases ht
            · rename_i y e
              split at ht
              · cases ht
                rw [if_neg (by omega)]
              · cases ht
          rw [hR, life_bad (lifeAt_err hA (fun l' x' e => by
            have := congrArg List.getLast? e
            have : x' = oc := by simpa using this.symm
            omega) h1)]
      · refine .inr ⟨?_, hR, .inr ⟨lifeAt_s hA (fun l' x' e => by
            have := congrArg List.getLast? e
            have : x' = oc := by simpa using this.symm
            omega) ?_, _, rfl⟩⟩
        · unfold ft
          rw [if_neg (fun z => by simp [hx] at z)]
        · unfold tk at ht ⊢
          split at ht
          · cases ht
          · rename_i y e
            split at ht
            · cases ht
              rw [if_pos (by omega)]
            · cases ht
theorem lifeL_e {α : Type} {R : Except Nat α} {Z : Int → Nat → Except Nat α} {b : List Int} {k3 k : Nat} {acc : List Int} {oc : Int} {bad : Option Nat} (h : LifeL R Z b k3 acc oc k bad) (hc : ¬ (128 ≤ oc ∧ bad = none)) : Inv R (Z (vl acc)) k (ft (decide (top18 < vl acc)) k3 bad) := by
  refine Inv.fault (wr := decide (top18 < vl acc)) ?_
  rcases h with ⟨i, rfl, h⟩ | ⟨rfl, hR, h⟩
  · exact .inr ⟨i, rfl, h⟩
  · refine .inl ⟨rfl, ?_⟩
    have hoc : ¬ 128 ≤ oc := fun z => hc ⟨z, rfl⟩
    rcases h with ⟨_, rfl, _⟩ | ⟨hA, l, rfl⟩
    · exact absurd (by decide) hoc
    · have hl := lifeAt_end hA (fun l' x' e => by
        have := congrArg List.getLast? e
        have : x' = oc := by simpa using this.symm
        omega)
      have g := (lifeB_ok (by decide) hl).1
      rw [hR, life_of hl]
      dsimp only
      by_cases ht : top18 < vl (l ++ [oc])
      · rw [if_pos ((life_same g).mpr ht), if_pos (decide_eq_true ht)]
      · rw [if_neg (fun z => ht ((life_same g).mp z)), if_neg (fun z => ht (of_decide_eq_true z))]
        simp only
        rw [life_le g ht]
theorem dec_long {b : List Int} : dec b = match tk b 84 84 0 with
    | .error i => .error i
    | .ok (_, k1) => match tk b 1 12 k1 with
      | .error i => .error i
      | .ok (c, k2) => match tk b 0 24 k2 with
        | .error i => .error i
        | .ok (n, k3) => decB b c n.toNat [] k3 := rfl
end T3

set_option Elab.async false
set_option linter.all false
set_option maxRecDepth 100000
set_option maxHeartbeats 4000000
namespace T1
open PySem PySem.Spec PyProof.Rows L2 C8 Fm T3
local macro_rules | `(tactic| walk_at "sim1") => `(tactic| with_reducible first
  | exact sim_nil | exact sim_var | exact sim_int | exact sim_str | exact sim_bl | exact sim_non | exact sim_raw
  | apply sim_cons | apply sim_op | apply sim_un | apply sim_tup | apply sim_lst
  | apply sim_CB | apply sim_if | apply sim_test | apply sim_B | apply sim_not | apply sim_and | apply sim_or
  | apply sim_andV | apply sim_orV | apply sim_notV | apply sim_chain | exact sim_nopart | apply sim_part
  | apply sim_sl | apply sim_BML | apply sim_BMS | apply sim_BM0S | apply sim_M1 | apply sim_M0
  | apply sim_fmt | apply sim_joined | exact SimJ.nil | apply SimJ.cons
  | exact s_I0i | exact s_I0b | exact s_Ii | exact s_Ui | exact s_eq | exact s_ne | exact s_isN | exact s_notN | exact s_ixL | exact s_ixT | exact s_ixS
  | exact s_cat | exact s_catA | exact s_rep | exact s_repT | exact s_in | exact s_slL | exact s_slA | exact s_slS | exact s_addS | exact s_leS | exact s_ltS
  | exact c_len | exact c_lenS | exact c_list | exact c_tuple | exact c_int1 | exact c_intS | exact c_strI | exact c_max2 | exact c_min2
  | exact m_append | exact m_extend | exact m_split | exact m_join | exact m_0b | exact m_1b
  | apply sim_call | exact simSpF
  | exact sim_name | exact sim_gnil | apply sim_gcons | apply sim_gtup | apply sim_gsub | exact set_list
  | exact sim_next | apply sim_seq | apply sim_cut | exact sim_break | exact sim_cont | apply sim_drop | apply sim_ret | exact sim_retN
  | apply sim_ifS | exact sim_never | apply sim_asg | apply sim_par | apply sim_aug
  | apply sim_for | apply sim_while | apply i_list | apply i_tup | apply i_rng1 | apply i_rng2 | apply i_str | apply i_enum | apply i_zip
  | apply sim_lc | exact sim_yes | exact sim_namew (by decide) | exact sim_gnilw | apply sim_gconsw | apply sim_gtupw
  | apply sim_fld | apply sim_con | apply sim_setFld | apply sim_make | apply sim_prop | apply sim_meth | apply sim_cmeth | exact c_isi | apply sim_isiT | exact s_eqD | exact s_neD
  | walk_at "sim2")
local macro_rules | `(tactic| walk_at "sim2") => `(tactic| fail)
local macro_rules | `(tactic| walk_at "sim") => `(tactic| repeat' (walk_at "sim1"))
/-- open the trees' reading as far as it goes by itself -/
local macro_rules | `(tactic| walk_at "fm") => `(tactic| simp (config := { failIfUnchanged := false }) only [fVar, fC, fOp, fUn, fNil, fCons, fTup, fLst, fCB, fIf, fTest, fNot, fAnd, fOr, fAndV, fOrV, fNotV, fChain, fNoPart, fPart, fI, fI0, fU, fEq, fNe, fIsN, fNotN, fIxL, fIxT, fIxS,
  fCat, fCatA, fRep, fRepT, fSlL, fSlA, fSlS, fSl, fLen, fLenS, fList, fTuple, fIntS, fStrI, fMax2, fMin2, fAppend, fExtend, fIn, fBM, fMS, fBMS, fBM0S, fAddS, fLeS, fLtS, fM0b, fM1b, fSplit, fJoin, fJoined, fJs,
  fName, fGNil, fGCons, fGTup, fSetL, fGSub, fNext, fSeq, fCut, fBreak, fCont, fDrop, fRet, fRetN, fIfS, fAsg, fPar, fAug, fCall, fFld, fCon, fSetFld, fMake, fProp, fMeth, fCMeth, fIsi, fIsiT, fEqD, fNeD, insAt_ref, insO_ins, fFmt, fmtS_i, fmtS_s, fmtOk_i, fmtOk_s, fIL, fIT, fIR1, fIR2, fIS, fIEn, fIZ,
  startL, List.map_cons, List.map_nil, List.length_cons, List.length_nil, List.cons_append, List.nil_append, List.replicate, List.getElem?_cons_zero, List.getElem?_cons_succ, List.set_cons_zero, List.set_cons_succ, Nat.reduceSub, Nat.reduceAdd,
  Option.some.injEq, Tr.int.injEq, Tr.str.injEq, Tr.bl.injEq, Tr.tup.injEq, Tr.ref.injEq, List.cons.injEq, exists_eq_left, exists_eq_left', exists_eq_right, true_and, and_true, and_self, exists_and_left, tupOf_tup, eqS_ii, eqS_ss, eqS_bb, eqS_ni, eqS_in, eqS_nn, isStr_s, isN_n, isN_i, isN_b, isN_s, isN_t, isN_r, noRaw_n, noRaw_i, noRaw_b, noRaw_s, noRaw_t, noRaw_r, and_assoc, reduceIte, Bool.false_eq_true, exists_const, lstAt_ref, seqAt_ref, seqAt_tup, refAt_ref, lstO_lst, app_assoc2, len_app1, at_kk, at_00, set_k, set_00, Nat.add_assoc, Option.map_some, Prod.mk.injEq, int_cast_inj, Nat.zero_le, decide_eq_true_eq, Bool.not_eq_true', decide_eq_false_iff_not, Nat.add_zero, implies_true, forall_const, ite_true, ite_false, if_true, if_false, decide_true, decide_false, Bool.not_true, Bool.not_false, asg_len, Option.isSome_some])
local macro_rules | `(tactic| walk_at "bel") => `(tactic| first | rfl | (simp (config := { failIfUnchanged := false }) only [belM, O.bel, bels_strs, bels_ints, belL, Tr.bel, Tr.bels, Bool.and_true, Bool.true_and, Bool.and_self, decide_eq_true_eq, Bool.and_eq_true, true_and, and_true, List.length_cons, List.length_nil, Nat.reduceAdd]; try omega))

local macro_rules | `(tactic| walk_at "sim2") => `(tactic| first | exact simGet | exact simTi | exact simDrawn | assumption | apply sim_wo | apply sim_wa | apply sim_wb | apply sim_putA | apply sim_putB | exact sim_wnew | exact c_lenB | exact s_itemB | exact s_slB | exact s_neB | exact c_bytes | exact c_listB | exact c_divmod | exact s_and127 | apply i_revA | apply i_byt | apply sim_star | apply sim_fldAug | apply sim_cval | exact sim_nv | apply sim_raise0 | apply sim_raiseX)
local macro_rules | `(tactic| walk_at "sim1") => `(tactic| first | (with_reducible apply sim_callX; assumption) | (with_reducible apply sim_methX; assumption) | (with_reducible apply sim_makeX; assumption))
local macro_rules | `(tactic| walk_at "fm2") => `(tactic| simp (config := { failIfUnchanged := false }) only [sm_app, sm_len, sm_at, sm_at0, sm_set, sm_set0, List.getElem?_cons_zero, List.getElem?_cons_succ, List.set_cons_zero, List.set_cons_succ, lstO_lst, Option.isSome_some, Option.map_some, Option.some.injEq, Prod.mk.injEq, Nat.add_assoc, Nat.reduceAdd, exists_eq_left', exists_eq_left, true_and, and_assoc, fWo, fWa, fWb, fPutA, fPutB, fWnew, fLenB, fItemB, fSlB, fIB, fNeB, fBytes, fListB, fDivmod, fAnd127, fIRev, fStar, fFldAug, fRaise0, fRaiseX, fCVal, fNv, int1_i])
local macro_rules | `(tactic| walk_at "fd") => `(tactic| (walk_at "fm"; walk_at "fm2"; walk_at "fm"; walk_at "fm2"; walk_at "fm"))

theorem rd_set {M : Mem} {n o k k' : Nat} {bad bad' : Option Nat} (e : M[n]? = some (rdO o k bad)) : (M.set n (rdO o k' bad'))[n]? = some (rdO o k' bad') := set_same e
theorem lget {n o : Nat} {b : List Int} {k : Nat} {bad : Option Nat} {lo hi : Int} {M : Mem} {P : PF} {PX : PXF} (hn : M[n]? = some (rdO o k bad)) (ho : M[o]? = some (.lst (intsT b))) (hl : b.length ≤ 100000) (hk : k ≤ b.length)
    (q : ∀ x j bd, gt b lo hi k bad = (x, j, bd) → P (.int x) (M.set n (rdO o j bd))) : fsLGet [.ref n, .int lo, .int hi] M P PX := by
  refine ⟨n, o, b, k, bad, lo, hi, rfl, hn, ho, hl, hk, fun h => ?_, fun h => ⟨fun i hi' => ?_, fun x j hx => ?_⟩⟩
  · cases bad with
    | none => exact absurd rfl h
    | some i =>
      have := q lo k (some i) rfl
      rwa [set_id hn] at this
  · subst h
    exact q _ _ _ (gt_err hi')
  · subst h
    exact q _ _ _ (gt_ok hx)
theorem lfault {n o : Nat} {k s : Nat} {bad : Option Nat} {wr : Bool} {M : Mem} {P : PF} {PX : PXF} (hn : M[n]? = some (rdO o k bad)) (q : P .non (M.set n (rdO o k (ft wr s bad)))) : fsLFault [.ref n, .bl wr, .int (s : Int)] M P PX := by
  refine ⟨n, o, k, s, bad, wr, rfl, hn, fun h h2 => ?_, fun h => ?_⟩
  · subst h; subst h2
    exact q
  · have e : ft wr s bad = bad := by
      unfold ft
      rw [if_neg]
      rintro ⟨h1, h2⟩
      rcases h with h | h
      · rw [h1] at h; cases h
      · exact h h2
    rw [e, set_id hn] at q
    exact q
theorem gt_none {b : List Int} {lo hi x : Int} {k j : Nat} {bad : Option Nat} (h : gt b lo hi k bad = (x, j, none)) : bad = none ∧ j = k + 1 := by
  cases bad with
  | some i => cases h
  | none =>
    cases ht : tk b lo hi k with
    | error i => rw [gt_err ht] at h; cases h
    | ok p =>
      obtain ⟨y, m⟩ := p
      rw [gt_ok ht] at h
      cases h
      exact ⟨rfl, (tk_ok ht).1⟩
theorem gt_some {b : List Int} {lo hi x : Int} {k j i : Nat} (h : gt b lo hi k none = (x, j, some i)) : j = k := by
  cases ht : tk b lo hi k with
  | error i => rw [gt_err ht] at h; cases h; rfl
  | ok p =>
    obtain ⟨y, m⟩ := p
    rw [gt_ok ht] at h
    cases h
theorem ft_some {wr : Bool} {s i : Nat} : ft wr s (some i) = some i := by
  unfold ft
  rw [if_neg (fun z => by cases z.2)]
theorem pow_one {acc : List Int} : (1 : Int) < 128 ^ acc.length ↔ acc ≠ [] := by
  cases acc with
  | nil => simp
  | cons a r =>
    have hp : (0 : Int) < 128 ^ r.length := Int.pow_pos (by decide)
    rw [List.length_cons, Int.pow_succ]
    exact ⟨fun _ => by simp, fun _ => by omega⟩
structure CL (P : Program) (w : World) (K : PySem.W.Frag) (mg : Str → Option Value) (base : Heap) : Prop where
  _law_get : Cal P w K mg base 1 "_law_get" (spF K fsLGet) []
  _law_fault : Cal P w K mg base 1 "_law_fault" (spF K fsLFault) []
  _law_checksum : Cal P w K mg base 1 "_law_checksum" (spF K fsCkL) []
section
variable {P : Program} {w : World} {K : PySem.W.Frag} {mg : Str → Option Value} {base : Heap}
def fsLRead : FSp := fun ts M P _ => ∃ (n o : Nat) (b : List Int), ts = [.ref n] ∧ M[n]? = some (rdO o 0 none) ∧ M[o]? = some (.lst (intsT b)) ∧ b.length ≤ 100000 ∧
  (∀ i, dec b = .error i → ∀ k v, Tr.bel 0 v = true → P v (M.set n (rdO o k (some i)))) ∧ ∀ c ls, dec b = .ok (c, ls) → ∀ k, P (.tup [.int c, .tup (ls.map lkT)]) (M.set n (rdO o k none))
theorem scLRead : FnScope ["_law_w", "_law_count", "_law_bridges_here", "_law_k", "_law_one", "_law_start_here", "_law_other", "_law_length", "_law_total", "_law_weight", "_law_octet"] ["_law_w"] (fnScope sLRead) := fnScope_by (by decide +kernel)
theorem ok_lread {f : Addr} {fd : FuncData} (F : Def K mg "_law_read" sLRead f fd) (b : L2.Binds K fd ["_law_w"] []) (T : BQ mg) (C : CL P w K mg base) : Cal P w K mg base 2 "_law_read" (spF K fsLRead) [] := by
  refine cal0 F b .nil scLRead (fun vs H Q E h => ?_) (fun cdv A outer s H vs Q E hr h => ?_)
  · obtain ⟨ts, ρ, M, P, PX, r, m, ⟨n, o', b, rfl, _⟩, o, ox⟩ := h
    exact r.len
  · refine ⟨_, (pss_cons (ps_expr (pe_c C._law_get hr (by first | decide | omega) (by rfl) (pa_cons (pv 0) (pa_cons pe_int (pa_cons pe_int pa_nil)))))
 (pss_cons (ps_set (i := 1) scLRead.nd rfl (Or.inl rfl) (pe_c C._law_get hr (by first | decide | omega) (by rfl) (pa_cons (pv 0) (pa_cons pe_int (pa_cons pe_int pa_nil)))))
 (pss_cons (ps_set (i := 2) scLRead.nd rfl (Or.inl rfl) (pe_lst pa_nil))
 (pss_cons (ps_for PassesOwn.never rfl (pi_range1 (by rfl) T.range (pa_cons (pe_c C._law_get hr (by first | decide | omega) (by rfl) (pa_cons (pv 0) (pa_cons pe_int (pa_cons pe_int pa_nil)))) pa_nil)) (pg_name (i := 3) scLRead.nd rfl (Or.inl rfl)) (pss_cons (ps_set (i := 4) scLRead.nd rfl (Or.inl rfl) (pe_c C._law_get hr (by first | decide | omega) (by rfl) (pa_cons (pv 0) (pa_cons pe_int (pa_cons (pe_op op_sub (pv 1) pe_int) pa_nil)))))
 (pss_cons (ps_set (i := 5) scLRead.nd rfl (Or.inl rfl) (pe_dget (hu_of hr) (pv 0) pe_str (fun _ _ => rfl)))
 (pss_cons (ps_set (i := 6) scLRead.nd rfl (Or.inl rfl) (pe_c C._law_get hr (by first | decide | omega) (by rfl) (pa_cons (pv 0) (pa_cons pe_int (pa_cons (pe_op op_sub (pv 1) pe_int) pa_nil)))))
 (pss_cons (ps_expr (pe_c C._law_fault hr (by first | decide | omega) (by rfl) (pa_cons (pv 0) (pa_cons (pe_cmpR op_eq (pv 4) (pv 6) (nomark _)) (pa_cons (pv 5) pa_nil)))))
 (pss_cons (ps_par (i := 7) (j := 5) (by rfl) scLRead.nd rfl rfl (by decide) rfl rfl (pa_cons (pe_c C._law_get hr (by first | decide | omega) (by rfl) (pa_cons (pv 0) (pa_cons pe_int (pa_cons pe_int pa_nil)))) (pa_cons (pe_dget (hu_of hr) (pv 0) pe_str (fun _ _ => rfl)) pa_nil)) (by rfl))
 (pss_cons (ps_asg (pe_tup (pa_cons pe_int (pa_cons pe_int (pa_cons pe_int pa_nil)))) (pg_tup rfl (pgs_cons (pg_name (i := 8) scLRead.nd rfl (Or.inl rfl)) (pgs_cons (pg_name (i := 9) scLRead.nd rfl (Or.inl rfl)) (pgs_cons (pg_name (i := 10) scLRead.nd rfl (Or.inl rfl)) pgs_nil)))))
 (pss_cons (ps_while PassesOwn.never (PW.pt (pw_and (pt_cmpR op_ge (pv 10) pe_int (nomark _)) (pw_and1 (pt_cmpR op_isN (pe_dget (hu_of hr) (pv 0) pe_str (fun _ _ => rfl)) pe_non (nomark _))))) (pss_cons (ps_set (i := 10) scLRead.nd rfl (Or.inl rfl) (pe_c C._law_get hr (by first | decide | omega) (by rfl) (pa_cons (pv 0) (pa_cons pe_int (pa_cons pe_int pa_nil)))))
 (pss_cons (ps_expr (pe_c C._law_fault hr (by first | decide | omega) (by rfl) (pa_cons (pv 0) (pa_cons (pe_and (pe_cmpR op_eq (pv 10) pe_int (nomark _)) (pe_one (pe_cmpR op_gt (pv 9) pe_int (nomark _)))) (pa_cons (pe_op op_sub (pe_dget (hu_of hr) (pv 0) pe_str (fun _ _ => rfl)) pe_int) pa_nil)))))
 (pss_cons (ps_set (i := 8) scLRead.nd rfl (Or.inl rfl) (pe_op op_add (pv 8) (pe_op op_mul (pe_op op_modN (pe_callTy call_int1 (by rfl) T.int (by decide +kernel) (pa_cons (pv 10) pa_nil)) pe_int) (pv 9))))
 (pss_one (ps_set (i := 9) scLRead.nd rfl (Or.inl rfl) (pe_op op_mul (pv 9) pe_int)))))))
 (pss_cons (ps_expr (pe_c C._law_fault hr (by first | decide | omega) (by rfl) (pa_cons (pv 0) (pa_cons (pe_cmpR op_gt (pv 8) (pe_op op_pow pe_int pe_int) (nomark _)) (pa_cons (pv 5) pa_nil)))))
 (pss_one (ps_expr (pe_bm PySem.F.plainAttrs_list PySem.F.slot_list_append PySem.F.type_list_append mt_append (pv 2) (pa_cons (pe_tup (pa_cons (pv 4) (pa_cons (pv 6) (pa_cons (pv 7) (pa_cons (pv 8) pa_nil))))) pa_nil)))))))))))))
 (pss_cons (ps_for PassesOwn.never rfl (pi_list (pe_c C._law_checksum hr (by first | decide | omega) (by rfl) (pa_cons (pe_slice sl_list (pe_dget (hu_of hr) (pv 0) pe_str (fun _ _ => rfl)) po_none (po_some (pe_dget (hu_of hr) (pv 0) pe_str (fun _ _ => rfl)))) pa_nil))) (pg_name (i := 10) scLRead.nd rfl (Or.inl rfl)) (pss_one (ps_expr (pe_c C._law_get hr (by first | decide | omega) (by rfl) (pa_cons (pv 0) (pa_cons (pv 10) (pa_cons (pv 10) pa_nil)))))))
 (pss_cons (ps_expr (pe_c C._law_fault hr (by first | decide | omega) (by rfl) (pa_cons (pv 0) (pa_cons (pe_cmpR op_lt (pe_dget (hu_of hr) (pv 0) pe_str (fun _ _ => rfl)) (pe_callB call_len_seq (by rfl) T.len PySem.boot_len (pa_cons (pe_dget (hu_of hr) (pv 0) pe_str (fun _ _ => rfl)) pa_nil)) (nomark _)) (pa_cons (pe_dget (hu_of hr) (pv 0) pe_str (fun _ _ => rfl)) pa_nil)))))
 (pss_one (ps_ret (pe_tup (pa_cons (pv 1) (pa_cons (pe_callTy call_tuple_of (by rfl) T.tuple (by decide +kernel) (pa_cons (pv 2) pa_nil)) pa_nil))))))))))), ?_⟩
    obtain ⟨ts, ρ, M, P, PX, r, m, ⟨n, o', b, rfl, hn, ho, hl, q1, q2⟩, o, ox⟩ := h
    try simp only [nox_K, cx_K]
    refine run_in r m o (by walk_at "sim") ?_
    walk_at "fd"
    have nl := (List.getElem?_eq_some_iff.mp hn).1
    have hno : n ≠ o' := fun z => by rw [z, ho] at hn; cases hn
    have hN : ∀ (k : Nat) (bad : Option Nat) (g : Mem), (M.set n (rdO o' k bad) ++ g)[n]? = some (rdO o' k bad) := fun k bad g => at_l (set_same hn)
    have hO : ∀ (k : Nat) (bad : Option Nat) (g : Mem), (M.set n (rdO o' k bad) ++ g)[o']? = some (.lst (intsT b)) := fun k bad g => at_l (by rw [List.getElem?_set_ne hno]; exact ho)
    have hS : ∀ (k k' : Nat) (bad bad' : Option Nat) (g : Mem), (M.set n (rdO o' k bad) ++ g).set n (rdO o' k' bad') = M.set n (rdO o' k' bad') ++ g := fun k k' bad bad' g => by rw [List.set_append_left _ _ (by rw [List.length_set]; exact nl), List.set_set]
    have G : ∀ {k : Nat} {bad : Option Nat} {g : Mem} {lo hi : Int} {P : PF} {PX : PXF}, k ≤ b.length → (∀ x j bd, gt b lo hi k bad = (x, j, bd) → P (.int x) (M.set n (rdO o' j bd) ++ g)) → fsLGet [.ref n, .int lo, .int hi] (M.set n (rdO o' k bad) ++ g) P PX := fun hk q => lget (hN _ _ _) (hO _ _ _) hl hk fun x j bd e => by
      rw [hS]
      exact q x j bd e
    have Fl : ∀ {k s : Nat} {bad : Option Nat} {g : Mem} {wr : Bool} {P : PF} {PX : PXF}, P .non (M.set n (rdO o' k (ft wr s bad)) ++ g) → fsLFault [.ref n, .bl wr, .int (s : Int)] (M.set n (rdO o' k bad) ++ g) P PX := fun q => lfault (hN _ _ _) (by rw [hS]; exact q)
    have hO2 : ∀ (k : Nat) (bad : Option Nat), (M.set n (rdO o' k bad))[o']? = some (.lst (intsT b)) := fun k bad => by rw [List.getElem?_set_ne hno]; exact ho
    let X2 : Int → Nat → Except Nat (Int × List Lk) := fun c k => match tk b 0 24 k with
      | .error i => .error i
      | .ok (n, k3) => decB b c n.toNat [] k3
    let X1 : Int → Nat → Except Nat (Int × List Lk) := fun _ k => match tk b 1 12 k with
      | .error i => .error i
      | .ok (c, k2) => X2 c k2
    have i0 : Inv (dec b) (fun k => match tk b 84 84 k with
      | .error i => .error i
      | .ok (x, j) => X1 x j) 0 none := .inl ⟨rfl, rfl⟩
    refine lget hn ho hl (Nat.zero_le _) fun x0 k1 b1 g1 => ?_
    have r1 := gt_rng (b := b) (lo := 84) (hi := 84) (k := 0) (bad := none) (by decide) (Nat.zero_le _)
    have i1 := i0.get
    rw [g1] at i1 r1
    refine lget (rd_set hn) (hO2 _ _) hl r1.2.2.2 fun c k2 b2 g2 => ?_
    rw [List.set_set]
    have r2 := gt_rng (b := b) (lo := 1) (hi := 12) (k := k1) (bad := b1) (by decide) r1.2.2.2
    have i2 := Inv.get (X := X2) i1
    rw [g2] at i2 r2
    rw [List.length_set]
    unfold fFor
    walk_at "fd"
    refine G r2.2.2.2 fun sz k3 b3 g3 => ?_
    have r3 := gt_rng (b := b) (lo := 0) (hi := 24) (k := k2) (bad := b2) (by decide) r2.2.2.2
    have i3 := Inv.get (X := fun (n : Int) k3 => decB b c n.toNat [] k3) i2
    rw [g3] at i3 r3
    dsimp only at r1 r2 r3 i1 i2 i3
    have hdN : ∀ (k : Nat) (bad : Option Nat) (acc : List Lk), belM (List.length (M.set n (rdO o' k bad) ++ [O.lst (acc.map lkT)])) (M.set n (rdO o' k bad) ++ [O.lst (acc.map lkT)]) = true := fun k bad acc => by
      have hB := belM_get m.belM hn
      have hB2 : O.bel M.length (rdO o' k bad) = true := by
        have ho2 : Tr.bel M.length (.ref o') = true := by
          unfold Tr.bel
          exact decide_eq_true (List.getElem?_eq_some_iff.mp ho).1
        show (Tr.bel M.length (.ref o') && (Tr.bel M.length (.int (k : Int)) && (Tr.bel M.length (bdT bad) && true))) = true
        rw [ho2]
        cases bad <;> rfl
      rw [belM_app, belM_mono (by simp) (belM_set hB2 m.belM)]
      simp only [belM, O.bel, bel_lks, Bool.and_self]
    refine ⟨sz, rfl, by omega, by omega, fun i L2 M2 => ∃ (k : Nat) (bad : Option Nat) (acc : List Lk), L2 = [some (.ref n), some (.int c), some (.ref M.length), none, none, none, none, none, none, none, none] ∧ M2 = M.set n (rdO o' k bad) ++ [.lst (acc.map lkT)] ∧ acc.length = i ∧ k ≤ b.length ∧ Inv (dec b) (decB b c (sz.toNat - i) acc) k bad, ⟨k3, b3, [], rfl, rfl, rfl, r3.2.2.2, i3⟩, ?_, ?_⟩
    · rintro i t L2 M2 hi ⟨k, bad, acc, rfl, rfl, ha, hk, iv⟩
      have hin := (rngT_get hi).1
      have en : sz.toNat - i = (sz.toNat - (i + 1)) + 1 := by omega
      rw [en] at iv
      let Y4 : Int → Int → Int → Nat → Except Nat (Int × List Lk) := fun one other len k3 => match tkLife b k3 with
        | .error i => .error i
        | .ok (life, k4) => decB b c (sz.toNat - (i + 1)) (acc ++ [(one, other, len, life)]) k4
      let Y3 : Int → Int → Nat → Except Nat (Int × List Lk) := fun one other k2 => match tk b 1 99 k2 with
        | .error i => .error i
        | .ok (len, k3) => Y4 one other len k3
      let Y2 : Int → Nat → Int → Nat → Except Nat (Int × List Lk) := fun one k1 other k2 => if other = one then .error k1 else Y3 one other k2
      let Y1 : Int → Nat → Except Nat (Int × List Lk) := fun one k1 => match tk b 0 (c - 1) k1 with
        | .error i => .error i
        | .ok (other, k2) => Y2 one k1 other k2
      have j0 : Inv (dec b) (fun k => match tk b 0 (c - 1) k with
        | .error i => .error i
        | .ok (x, j) => Y1 x j) k bad := by
        have e : decB b c (sz.toNat - (i + 1) + 1) acc = fun k => match tk b 0 (c - 1) k with
          | .error i => .error i
          | .ok (x, j) => Y1 x j := funext fun k => decB_long
        rwa [e] at iv
      walk_at "fd"
      refine G hk fun one k1 bd1 h1 => ?_
      have s1 := gt_rng (b := b) (lo := 0) (hi := c - 1) (k := k) (bad := bad) (by omega) hk
      have j1 := j0.get
      rw [h1] at j1 s1
      dsimp only at s1 j1
      refine ⟨_, _, _, hN _ _ _, ?_⟩
      refine G s1.2.2.2 fun other k2 bd2 h2 => ?_
      have s2 := gt_rng (b := b) (lo := 0) (hi := c - 1) (k := k1) (bad := bd1) (by omega) s1.2.2.2
      have j2 := Inv.get (X := Y2 one k1) j1
      rw [h2] at j2 s2
      dsimp only at s2 j2
      have j3 : Inv (dec b) (Y3 one other) k2 (ft (decide (one = other)) k1 bd2) := by
        refine Inv.fault ?_
        have e : (fun k => if decide (one = other) = true then Except.error k1 else Y3 one other k) = Y2 one k1 other := by
          funext k
          by_cases h : one = other
          · show _ = if other = one then _ else _
            rw [if_pos (decide_eq_true h), if_pos h.symm]
          · show _ = if other = one then _ else _
            rw [if_neg (fun z => h (of_decide_eq_true z)), if_neg (fun z => h z.symm)]
        rw [e]
        exact j2
      refine ⟨_, rfl, Fl ?_⟩
      refine G s2.2.2.2 fun len k3 bd3 h3 => ?_
      have s3 := gt_rng (b := b) (lo := 1) (hi := 99) (k := k2) (bad := ft (decide (one = other)) k1 bd2) (by decide) s2.2.2.2
      have j4 := Inv.get (X := Y4 one other) j3
      rw [h3] at j4 s3
      dsimp only at s3 j4
      refine ⟨_, _, _, hN _ _ _, by rw [sizeLine_eq]; decide, ?_⟩
      have hLk : 1 ≤ k3 ∨ bd3 ≠ none := by
        cases hb3 : bd3 with
        | none =>
          rw [hb3] at h3
          have := (gt_none h3).2
          exact .inl (by omega)
        | some i => exact .inr (by simp)
      let Z : Int → Nat → Except Nat (Int × List Lk) := fun life k4 => decB b c (sz.toNat - (i + 1)) (acc ++ [(one, other, len, life)]) k4
      have l0 : LifeL (dec b) Z b k3 [] 128 k3 bd3 := by
        rcases j4 with ⟨e1, e2⟩ | ⟨i, e1, e2⟩
        · exact .inr ⟨e1, e2, .inl ⟨rfl, rfl, rfl⟩⟩
        · exact .inl ⟨i, e1, e2⟩
      obtain ⟨ti, hti⟩ : ∃ ti, t = Tr.int ti := ⟨_, (rngT_get hi).2⟩
      subst hti
      have hbL : ∀ (L : List Tr) (kk : Nat) (bb : Option Nat) (ac : List Lk), Tr.bels 0 L = true → belL (List.length (M.set n (rdO o' kk bb) ++ [O.lst (ac.map lkT)])) (some (.ref n) :: some (.int c) :: some (.ref M.length) :: L.map some) = true := fun L kk bb ac hL => by
        have hmap : ∀ L : List Tr, Tr.bels 0 L = true → belL (List.length (M.set n (rdO o' kk bb) ++ [O.lst (ac.map lkT)])) (L.map some) = true := fun L => by
          induction L with
          | nil => intro _; rfl
          | cons a r ih =>
            intro h
            unfold Tr.bels at h
            rw [Bool.and_eq_true] at h
            show (Tr.bel _ a && belL _ (r.map some)) = true
            rw [Tr.bel_mono (Nat.zero_le _) h.1, ih h.2]
            rfl
        show (Tr.bel _ (.ref n) && (true && (Tr.bel _ (.ref M.length) && belL _ (L.map some)))) = true
        rw [hmap L hL]
        simp [Tr.bel]
        omega
      unfold fWhile
      walk_at "fd"
      refine ⟨fun mm L1 M1 => ∃ (ac2 : List Int) (oc tot wt : Int) (k : Nat) (bd : Option Nat), L1 = some (.ref n) :: some (.int c) :: some (.ref M.length) :: [Tr.int ti, .int one, .int (k3 : Int), .int other, .int len, .int tot, .int wt, .int oc].map some ∧ M1 = M.set n (rdO o' k bd) ++ [.lst (acc.map lkT)] ∧ k ≤ b.length ∧ k3 ≤ k ∧ LifeL (dec b) Z b k3 ac2 oc k bd ∧ (bd = none → tot = vl ac2 ∧ wt = 128 ^ ac2.length ∧ ac2.length + k3 = k ∧ 1 ≤ k) ∧ mm = (if bd = none then b.length + 2 - k else 0), ⟨_, [], 128, 0, 1, k3, bd3, rfl, rfl, s3.2.2.2, Nat.le_refl _, l0, fun h => ⟨rfl, rfl, by simp, hLk.resolve_right (fun z => z h)⟩, rfl⟩, ?_⟩
      rintro mm L1 M1 ⟨ac2, oc, tot, wt, k, bd, rfl, rfl, hk', hk3, hL, hT, rfl⟩
      have hat : ∀ (o u : O) (g : Mem), (M.set n o ++ u :: g)[M.length]? = some u := fun o u g => by
        have := at_0 (M := M.set n o) (g := g) (o := u)
        rwa [List.length_set] at this
      have hset : ∀ (o u u' : O), (M.set n o ++ [u]).set M.length u' = M.set n o ++ [u'] := fun o u u' => by
        rw [List.set_append_right _ _ (by rw [List.length_set]; exact Nat.le_refl _), List.length_set, Nat.sub_self]
        rfl
      have fin : ¬ (128 ≤ oc ∧ bd = none) → Inv (dec b) (decB b c (sz.toNat - (i + 1)) (acc ++ [(one, other, len, tot)])) k (ft (decide ((10 : Int) ^ Int.toNat 18 < tot)) k3 bd) := fun hc => by
        cases bd with
        | some j =>
          rw [ft_some]
          rcases hL with ⟨i, e1, e2⟩ | ⟨e1, _⟩
          · exact .inr ⟨i, e1, e2⟩
          · cases e1
        | none =>
          obtain ⟨rfl, _⟩ := hT rfl
          exact lifeL_e hL hc
      walk_at "fd"
      by_cases c1 : 128 ≤ oc
      · rw [if_pos c1]
        refine ⟨_, _, _, hN _ _ _, by cases bd <;> rfl, ?_⟩
        cases bd with
        | some ib =>
          have e1 : ¬ isN (bdT (some ib)) = true := fun z => nomatch z
          rw [if_neg e1]
          refine ⟨⟨by decide, by decide, by decide⟩, Fl ?_⟩
          refine ⟨by rw [hat]; rfl, by rw [sizeLine_eq]; decide, _, _, by rw [hat]; rfl, by rw [List.length_map, sizeLine_eq]; omega, ?_⟩
          rw [hset]
          have ea : acc.map lkT ++ [Tr.tup [Tr.int one, Tr.int other, Tr.int len, Tr.int tot]] = (acc ++ [(one, other, len, tot)]).map lkT := (lks_app acc [(one, other, len, tot)]).symm
          rw [ea]
          refine forget_same (L' := [some (.ref n), some (.int c), some (.ref M.length), none, none, none, none, none, none, none, none]) ?_ ⟨rfl, k, _, _, rfl, by simp [ha], hk', fin (fun z => by cases z.2)⟩ ⟨by simp, hbL [] _ _ _ rfl⟩ (hdN _ _ _)
          exact ⟨_, rfl, _, rfl, _, rfl, _, _, rfl, _, _, rfl, _, _, rfl, _, _, rfl, _, _, rfl, _, _, rfl, _, _, rfl, _, _, rfl, rfl⟩
        | none =>
          have e1 : isN (bdT none) = true := rfl
          rw [if_pos e1]
          obtain ⟨rfl, rfl, hlk, hk1⟩ := hT rfl
          refine G hk' fun x j bd' hg => ?_
          obtain ⟨lS, jb, hbd⟩ := lifeL_s hL c1 hk' hk3 hlk x j bd' hg
          have hx := gt_rng (b := b) (lo := 0) (hi := 255) (k := k) (bad := none) (by decide) hk'
          rw [hg] at hx
          dsimp only at hx
          have hj1 : 1 ≤ j := by omega
          have ej : (j : Int) - 1 = ((j - 1 : Nat) : Int) := by omega
          have hj2 : bd' = none → j = k + 1 := fun h => (hbd h).1
          have hbn : ft (decide (x = 0) && decide (ac2 ≠ [])) (j - 1) bd' = none → bd' = none := fun h => by
            cases bd' with
            | none => rfl
            | some q => rw [ft_some] at h; cases h
          refine ⟨_, rfl, ?_⟩
          by_cases hx0 : x = 0
          · rw [if_pos (decide_eq_true hx0)]
            have hW : decide ((1 : Int) < 128 ^ ac2.length) = (decide (x = 0) && decide (ac2 ≠ [])) := by
              rw [decide_eq_true hx0, Bool.true_and]
              by_cases hn2 : ac2 ≠ []
              · rw [decide_eq_true hn2, decide_eq_true (pow_one.mpr hn2)]
              · rw [decide_eq_false hn2, decide_eq_false (fun z => hn2 (pow_one.mp z))]
            refine ⟨_, _, _, hN _ _ _, _, rfl, ?_⟩
            rw [ej]
            refine Fl ?_
            rw [int1_i]
            refine ⟨x, rfl, by decide, .inl ⟨by rw [T3.fm (by decide)]; omega, by rw [T3.fm (by decide)]; omega⟩, .inr ⟨by decide, by decide⟩, ?_⟩
            rw [hW]
            refine forget_same (LocLe.refl _) ⟨_, ?_, ac2 ++ [x], x, _, _, rfl, j, _, rfl, jb, by omega, lS, fun h => ?_, rfl⟩ ⟨by simp, hbL [Tr.int ti, .int one, .int (k3 : Int), .int other, .int len, .int (vl ac2 + x.fmod 128 * 128 ^ ac2.length), .int (128 ^ ac2.length * 128), .int x] _ _ _ rfl⟩ (hdN _ _ _)
            · rw [if_pos rfl]
              by_cases hz : ft (decide (x = 0) && decide (ac2 ≠ [])) (j - 1) bd' = none
              · rw [if_pos hz]
                have := hj2 (hbn hz)
                omega
              · rw [if_neg hz]
                omega
            · have hb0 := hbn h
              have h2 := hbd hb0
              exact ⟨by rw [vl_snoc], by rw [List.length_append, List.length_singleton, Int.pow_succ], h2.2, by omega⟩
          · rw [if_neg (fun z => hx0 (of_decide_eq_true z))]
            have hW : false = (decide (x = 0) && decide (ac2 ≠ [])) := by rw [decide_eq_false hx0]; rfl
            refine ⟨_, _, _, hN _ _ _, _, rfl, ?_⟩
            rw [ej]
            refine Fl ?_
            rw [int1_i]
            refine ⟨x, rfl, by decide, .inl ⟨by rw [T3.fm (by decide)]; omega, by rw [T3.fm (by decide)]; omega⟩, .inr ⟨by decide, by decide⟩, ?_⟩
            rw [hW]
            refine forget_same (LocLe.refl _) ⟨_, ?_, ac2 ++ [x], x, _, _, rfl, j, _, rfl, jb, by omega, lS, fun h => ?_, rfl⟩ ⟨by simp, hbL [Tr.int ti, .int one, .int (k3 : Int), .int other, .int len, .int (vl ac2 + x.fmod 128 * 128 ^ ac2.length), .int (128 ^ ac2.length * 128), .int x] _ _ _ rfl⟩ (hdN _ _ _)
            · rw [if_pos rfl]
              by_cases hz : ft (decide (x = 0) && decide (ac2 ≠ [])) (j - 1) bd' = none
              · rw [if_pos hz]
                have := hj2 (hbn hz)
                omega
              · rw [if_neg hz]
                omega
            · have hb0 := hbn h
              have h2 := hbd hb0
              exact ⟨by rw [vl_snoc], by rw [List.length_append, List.length_singleton, Int.pow_succ], h2.2, by omega⟩
      · rw [if_neg c1]
        refine ⟨⟨by decide, by decide, by decide⟩, Fl ?_⟩
        refine ⟨by rw [hat]; rfl, by rw [sizeLine_eq]; decide, _, _, by rw [hat]; rfl, by rw [List.length_map, sizeLine_eq]; omega, ?_⟩
        rw [hset]
        have ea : acc.map lkT ++ [Tr.tup [Tr.int one, Tr.int other, Tr.int len, Tr.int tot]] = (acc ++ [(one, other, len, tot)]).map lkT := (lks_app acc [(one, other, len, tot)]).symm
        rw [ea]
        refine forget_same (L' := [some (.ref n), some (.int c), some (.ref M.length), none, none, none, none, none, none, none, none]) ?_ ⟨rfl, k, _, _, rfl, by simp [ha], hk', fin (fun z => c1 z.1)⟩ ⟨by simp, hbL [] _ _ _ rfl⟩ (hdN _ _ _)
        exact ⟨_, rfl, _, rfl, _, rfl, _, _, rfl, _, _, rfl, _, _, rfl, _, _, rfl, _, _, rfl, _, _, rfl, _, _, rfl, _, _, rfl, rfl⟩
    · rintro L2 M2 ⟨k, bad, acc, rfl, rfl, ha, hk, iv⟩
      rw [rngT_len] at ha iv
      rw [Nat.sub_self] at iv
      walk_at "fd"
      let E2 : Nat → Except Nat (Int × List Lk) := fun j => if j < b.length then .error j else .ok (c, acc)
      let E1 : Nat → Except Nat (Int × List Lk) := fun k1 => match tk b ((ckS 5 (b.take k)).fmod 256) ((ckS 5 (b.take k)).fmod 256) k1 with
        | .error i => .error i
        | .ok (_, k2) => E2 k2
      let E0 : Nat → Except Nat (Int × List Lk) := fun k0 => match tk b ((ckS 5 (b.take k)).fdiv 256) ((ckS 5 (b.take k)).fdiv 256) k0 with
        | .error i => .error i
        | .ok (_, k1) => E1 k1
      have v0 : Inv (dec b) E0 k bad := by
        rcases iv with ⟨e1, e2⟩ | h
        · refine .inl ⟨e1, ?_⟩
          rw [e2, decB_0]
          show _ = (match tk b ((ckS 5 (b.take k)).fdiv 256) ((ckS 5 (b.take k)).fdiv 256) k with
            | Except.error i => Except.error i
            | Except.ok (_, k1) => E1 k1)
          unfold endB
          cases tk b ((ckS 5 (b.take k)).fdiv 256) ((ckS 5 (b.take k)).fdiv 256) k with
          | error i => rfl
          | ok p =>
            obtain ⟨x, k1⟩ := p
            simp only
            show _ = (match tk b ((ckS 5 (b.take k)).fmod 256) ((ckS 5 (b.take k)).fmod 256) k1 with
              | Except.error i => Except.error i
              | Except.ok (_, k2) => E2 k2)
            cases tk b ((ckS 5 (b.take k)).fmod 256) ((ckS 5 (b.take k)).fmod 256) k1 with
            | error i => rfl
            | ok p =>
              obtain ⟨y, k2⟩ := p
              simp only
              show _ = if k2 < b.length then _ else _
              by_cases h : k2 < b.length
              · rw [if_pos h, if_pos h]
              · rw [if_neg h, if_neg h]
        · exact .inr h
      let Es : Nat → Nat → Option Nat → Prop := fun i j bd => match i with
        | 0 => Inv (dec b) E0 j bd
        | 1 => Inv (dec b) E1 j bd
        | _ => Inv (dec b) E2 j bd
      have hck2 : (ck2 (b.take k)).length = 2 := rfl
      refine ⟨_, _, _, hN _ _ _, _, _, _, hN _ _ _, _, rfl, _, lstAt_of (hO _ _ _), ?_⟩
      have ht : cutT (intsT b) none (some (k : Int)) = intsT (b.take k) := by
        unfold cutT HT.sIx
        simp only [List.drop_zero, Nat.sub_zero]
        rw [if_neg (by omega), intsT_len, Int.toNat_natCast, Nat.min_eq_left hk]
        unfold intsT
        rw [List.map_take]
      rw [ht]
      refine ⟨_, b.take k, rfl, by rw [at_k]; rfl, by rw [List.length_take]; omega, ?_⟩
      walk_at "fd"
      obtain ⟨ck, hck⟩ : ∃ ck, ck2 (b.take k) = ck := ⟨_, rfl⟩
      rw [hck] at hck2 ⊢
      have hck0 : ck[0]? = some ((ckS 5 (b.take k)).fdiv 256) := by rw [← hck]; rfl
      have hck1 : ck[1]? = some ((ckS 5 (b.take k)).fmod 256) := by rw [← hck]; rfl
      have hlen3 : ∀ (j : Nat) (bd : Option Nat), List.length (M.set n (rdO o' j bd)) = M.length := fun j bd => List.length_set ..
      have hdN3 : ∀ (k' : Nat) (bad : Option Nat), belM (List.length (M.set n (rdO o' k' bad) ++ [O.lst (acc.map lkT), O.lst (intsT (b.take k)), O.lst (intsT ck)])) (M.set n (rdO o' k' bad) ++ [O.lst (acc.map lkT), O.lst (intsT (b.take k)), O.lst (intsT ck)]) = true := fun k' bad => by
        have h1 := hdN k' bad acc
        rw [belM_app, Bool.and_eq_true] at h1
        rw [belM_app, belM_mono (by simp) h1.1]
        simp only [belM, O.bel, bel_lks, bels_intsT, Bool.and_self]
      refine ⟨fun i L2 M2 => ∃ (j : Nat) (bd : Option Nat), L2 = [some (.ref n), some (.int c), some (.ref M.length), none, none, none, none, none, none, none, none] ∧ M2 = M.set n (rdO o' j bd) ++ [O.lst (acc.map lkT), O.lst (intsT (b.take k)), O.lst (intsT ck)] ∧ j ≤ b.length ∧ Es i j bd, ⟨k, bad, rfl, rfl, hk, v0⟩, ?_, ?_, ?_⟩
      · rintro i L2 M2 hi ⟨j, bd, rfl, rfl, hj, hE⟩
        rw [hlen3, ← hlen3 j bd, at_k]
        rfl
      · rintro i t L2 M2 hi ⟨j, bd, rfl, rfl, hj, hE⟩
        obtain ⟨z, hz, rfl⟩ := intsT_get hi
        walk_at "fd"
        refine G hj fun x j' bd' hg => ?_
        have hx := gt_rng (b := b) (lo := z) (hi := z) (k := j) (bad := bd) (Int.le_refl _) hj
        rw [hg] at hx
        refine forget_same (L' := [some (.ref n), some (.int c), some (.ref M.length), none, none, none, none, none, none, none, none]) ?_ ⟨rfl, j', bd', rfl, hx.2.2.2, ?_⟩ ⟨by simp, ?_⟩ (hdN3 _ _)
        · exact ⟨_, rfl, _, rfl, _, rfl, _, _, rfl, _, _, rfl, _, _, rfl, _, _, rfl, _, _, rfl, _, _, rfl, _, _, rfl, _, _, rfl, rfl⟩
        · match i, hE, hz with
          | 0, hE, hz =>
            rw [hck0] at hz
            cases hz
            have h2 := Inv.get (X := fun _ => E1) (show Inv (dec b) E0 j bd from hE)
            rw [hg] at h2
            exact h2
          | 1, hE, hz =>
            rw [hck1] at hz
            cases hz
            have h2 := Inv.get (X := fun _ => E2) (show Inv (dec b) E1 j bd from hE)
            rw [hg] at h2
            exact h2
          | i + 2, hE, hz =>
            have := (List.getElem?_eq_some_iff.mp hz).1
            omega
        · simp [belL, Tr.bel]; omega
      · rintro L2 M2 ⟨j, bd, rfl, rfl, hj, hE⟩
        rw [intsT_len, hck2] at hE
        have hE : Inv (dec b) E2 j bd := hE
        walk_at "fd"
        refine ⟨_, _, _, hN _ _ _, _, _, _, hN _ _ _, _, seqAt_of (hO _ _ _), _, rfl, ?_⟩
        refine ⟨_, _, _, hN _ _ _, Fl ?_⟩
        have hfin : Inv (dec b) (fun _ => .ok (c, acc)) j (ft (decide ((j : Int) < ((intsT b).length : Nat))) j bd) := by
          refine Inv.fault ?_
          rcases hE with ⟨e1, e2⟩ | h
          · refine .inl ⟨e1, ?_⟩
            rw [e2, intsT_len]
            show (if j < b.length then _ else _) = _
            by_cases h : j < b.length
            · rw [if_pos h]
              dsimp only
              rw [if_pos (decide_eq_true (by omega))]
            · rw [if_neg h]
              dsimp only
              rw [if_neg (fun z => h (by have := of_decide_eq_true z; omega))]
          · exact .inr h
        have hat : ∀ (o u : O) (g : Mem), (M.set n o ++ u :: g)[M.length]? = some u := fun o u g => by
          have := at_0 (M := M.set n o) (g := g) (o := u)
          rwa [List.length_set] at this
        refine ⟨_, by rw [hat]; rfl, by rw [sizeLine_eq]; decide, ?_⟩
        have hB2 : ∀ bad : Option Nat, O.bel M.length (rdO o' j bad) = true := fun bad => by
          have ho2 : Tr.bel M.length (.ref o') = true := by
            unfold Tr.bel
            exact decide_eq_true (List.getElem?_eq_some_iff.mp ho).1
          show (Tr.bel M.length (.ref o') && (Tr.bel M.length (.int (j : Int)) && (Tr.bel M.length (bdT bad) && true))) = true
          rw [ho2]
          cases bad <;> rfl
        have hbv : Tr.bel 0 (.tup [.int c, .tup (acc.map lkT)]) = true := by simp [Tr.bel, Tr.bels, bel_lks]
        obtain ⟨bdf, hbdf⟩ : ∃ bdf, ft (decide ((j : Int) < ((intsT b).length : Nat))) j bd = bdf := ⟨_, rfl⟩
        rw [hbdf] at hfin ⊢
        refine keep_setG m (hB2 _) (Tr.bel_mono (Nat.zero_le _) hbv) ?_
        rcases hfin with ⟨rfl, e2⟩ | ⟨i, rfl, e2⟩
        · exact q2 c acc e2 j
        · exact q1 i e2 j _ hbv
end
end T1

set_option Elab.async false
set_option linter.all false
set_option maxRecDepth 100000
set_option maxHeartbeats 4000000
namespace T1
open PySem PySem.Spec PyProof.Rows L2 C8 Fm T3
local macro_rules | `(tactic| walk_at "sim1") => `(tactic| with_reducible first
  | exact sim_nil | exact sim_var | exact sim_int | exact sim_str | exact sim_bl | exact sim_non | exact sim_raw
  | apply sim_cons | apply sim_op | apply sim_un | apply sim_tup | apply sim_lst
  | apply sim_CB | apply sim_if | apply sim_test | apply sim_B | apply sim_not | apply sim_and | apply sim_or
  | apply sim_andV | apply sim_orV | apply sim_notV | apply sim_chain | exact sim_nopart | apply sim_part
  | apply sim_sl | apply sim_BML | apply sim_BMS | apply sim_BM0S | apply sim_M1 | apply sim_M0
  | apply sim_fmt | apply sim_joined | exact SimJ.nil | apply SimJ.cons
  | exact s_I0i | exact s_I0b | exact s_Ii | exact s_Ui | exact s_eq | exact s_ne | exact s_isN | exact s_notN | exact s_ixL | exact s_ixT | exact s_ixS
  | exact s_cat | exact s_catA | exact s_rep | exact s_repT | exact s_in | exact s_slL | exact s_slA | exact s_slS | exact s_addS | exact s_leS | exact s_ltS
  | exact c_len | exact c_lenS | exact c_list | exact c_tuple | exact c_int1 | exact c_intS | exact c_strI | exact c_max2 | exact c_min2
  | exact m_append | exact m_extend | exact m_split | exact m_join | exact m_0b | exact m_1b
  | apply sim_call | exact simSpF
  | exact sim_name | exact sim_gnil | apply sim_gcons | apply sim_gtup | apply sim_gsub | exact set_list
  | exact sim_next | apply sim_seq | apply sim_cut | exact sim_break | exact sim_cont | apply sim_drop | apply sim_ret | exact sim_retN
  | apply sim_ifS | exact sim_never | apply sim_asg | apply sim_par | apply sim_aug
  | apply sim_for | apply sim_while | apply i_list | apply i_tup | apply i_rng1 | apply i_rng2 | apply i_str | apply i_enum | apply i_zip
  | apply sim_lc | exact sim_yes | exact sim_namew (by decide) | exact sim_gnilw | apply sim_gconsw | apply sim_gtupw
  | apply sim_fld | apply sim_con | apply sim_setFld | apply sim_make | apply sim_prop | apply sim_meth | apply sim_cmeth | exact c_isi | apply sim_isiT | exact s_eqD | exact s_neD
  | walk_at "sim2")
local macro_rules | `(tactic| walk_at "sim2") => `(tactic| fail)
local macro_rules | `(tactic| walk_at "sim") => `(tactic| repeat' (walk_at "sim1"))
/-- open the trees' reading as far as it goes by itself -/
local macro_rules | `(tactic| walk_at "fm") => `(tactic| simp (config := { failIfUnchanged := false }) only [fVar, fC, fOp, fUn, fNil, fCons, fTup, fLst, fCB, fIf, fTest, fNot, fAnd, fOr, fAndV, fOrV, fNotV, fChain, fNoPart, fPart, fI, fI0, fU, fEq, fNe, fIsN, fNotN, fIxL, fIxT, fIxS,
  fCat, fCatA, fRep, fRepT, fSlL, fSlA, fSlS, fSl, fLen, fLenS, fList, fTuple, fIntS, fStrI, fMax2, fMin2, fAppend, fExtend, fIn, fBM, fMS, fBMS, fBM0S, fAddS, fLeS, fLtS, fM0b, fM1b, fSplit, fJoin, fJoined, fJs,
  fName, fGNil, fGCons, fGTup, fSetL, fGSub, fNext, fSeq, fCut, fBreak, fCont, fDrop, fRet, fRetN, fIfS, fAsg, fPar, fAug, fCall, fFld, fCon, fSetFld, fMake, fProp, fMeth, fCMeth, fIsi, fIsiT, fEqD, fNeD, insAt_ref, insO_ins, fFmt, fmtS_i, fmtS_s, fmtOk_i, fmtOk_s, fIL, fIT, fIR1, fIR2, fIS, fIEn, fIZ,
  startL, List.map_cons, List.map_nil, List.length_cons, List.length_nil, List.cons_append, List.nil_append, List.replicate, List.getElem?_cons_zero, List.getElem?_cons_succ, List.set_cons_zero, List.set_cons_succ, Nat.reduceSub, Nat.reduceAdd,
  Option.some.injEq, Tr.int.injEq, Tr.str.injEq, Tr.bl.injEq, Tr.tup.injEq, Tr.ref.injEq, List.cons.injEq, exists_eq_left, exists_eq_left', exists_eq_right, true_and, and_true, and_self, exists_and_left, tupOf_tup, eqS_ii, eqS_ss, eqS_bb, eqS_ni, eqS_in, eqS_nn, isStr_s, isN_n, isN_i, isN_b, isN_s, isN_t, isN_r, noRaw_n, noRaw_i, noRaw_b, noRaw_s, noRaw_t, noRaw_r, and_assoc, reduceIte, Bool.false_eq_true, exists_const, lstAt_ref, seqAt_ref, seqAt_tup, refAt_ref, lstO_lst, app_assoc2, len_app1, at_kk, at_00, set_k, set_00, Nat.add_assoc, Option.map_some, Prod.mk.injEq, int_cast_inj, Nat.zero_le, decide_eq_true_eq, Bool.not_eq_true', decide_eq_false_iff_not, Nat.add_zero, implies_true, forall_const, ite_true, ite_false, if_true, if_false, decide_true, decide_false, Bool.not_true, Bool.not_false, asg_len, Option.isSome_some])
local macro_rules | `(tactic| walk_at "bel") => `(tactic| first | rfl | (simp (config := { failIfUnchanged := false }) only [belM, O.bel, bels_strs, bels_ints, belL, Tr.bel, Tr.bels, Bool.and_true, Bool.true_and, Bool.and_self, decide_eq_true_eq, Bool.and_eq_true, true_and, and_true, List.length_cons, List.length_nil, Nat.reduceAdd]; try omega))

local macro_rules | `(tactic| walk_at "sim2") => `(tactic| first | exact simGet | exact simTi | exact simDrawn | assumption | apply sim_wo | apply sim_wa | apply sim_wb | apply sim_putA | apply sim_putB | exact sim_wnew | exact c_lenB | exact s_itemB | exact s_slB | exact s_neB | exact c_bytes | exact c_listB | exact c_divmod | exact s_and127 | apply i_revA | apply i_byt | apply sim_star | apply sim_fldAug | apply sim_cval | exact sim_nv | apply sim_raise0 | apply sim_raiseX)
local macro_rules | `(tactic| walk_at "sim1") => `(tactic| first | (with_reducible apply sim_callX; assumption) | (with_reducible apply sim_methX; assumption) | (with_reducible apply sim_makeX; assumption))
local macro_rules | `(tactic| walk_at "fm2") => `(tactic| simp (config := { failIfUnchanged := false }) only [sm_app, sm_len, sm_at, sm_at0, sm_set, sm_set0, List.getElem?_cons_zero, List.getElem?_cons_succ, List.set_cons_zero, List.set_cons_succ, lstO_lst, Option.isSome_some, Option.map_some, Option.some.injEq, Prod.mk.injEq, Nat.add_assoc, Nat.reduceAdd, exists_eq_left', exists_eq_left, true_and, and_assoc, fWo, fWa, fWb, fPutA, fPutB, fWnew, fLenB, fItemB, fSlB, fIB, fNeB, fBytes, fListB, fDivmod, fAnd127, fIRev, fStar, fFldAug, fRaise0, fRaiseX, fCVal, fNv, int1_i])
local macro_rules | `(tactic| walk_at "fd") => `(tactic| (walk_at "fm"; walk_at "fm2"; walk_at "fm"; walk_at "fm2"; walk_at "fm"))

local macro_rules | `(tactic| walk_at "sim1") => `(tactic| with_reducible first | apply sim_cutF)
theorem belM_sm {n : Nat} {d d' : Ds} {g : Mem} (h : belM n (sm d g) = true) : belM n (sm d' g) = true := by
  unfold sm belM at h ⊢
  exact h
theorem forget_sm {k : Nat} {J : Fm.Loc → Mem → Prop} {L L' : Fm.Loc} {d d' : Ds} {g h rest : Mem} (hk : k ≤ List.length g + 1 + List.length h) (le : LocLe L' L) (j : J L' (sm d' g ++ h)) (bl : belL (List.length g + 1 + List.length h) L' = true)
    (hM : belM (sm d g).length (sm d g) = true) (hg : belM (List.length g + 1 + List.length h) h = true) : Forget k J L (sm d' g ++ (h ++ rest)) :=
  forget_to (M := sm d' g) hk le j bl (belM_sm hM) hg
theorem drawn_at {n : Int} {d : Ds} {g h : Mem} {P : PF} {PX : PXF} (hd : d.ok) (n0 : 0 < n) (n1 : n ≤ 2000000000000000000) (q : ∀ r d', d'.ok → 0 ≤ r → r < n → P (.int r) (sm d' g ++ h)) : fsDrawn [.ref 0, .int n] (sm d g ++ h) P PX :=
  ⟨n, d, g ++ h, rfl, rfl, hd, n0, n1, q⟩
theorem drawn_0 {n : Int} {d : Ds} {g : Mem} {P : PF} {PX : PXF} (hd : d.ok) (n0 : 0 < n) (n1 : n ≤ 2000000000000000000) (q : ∀ r d', d'.ok → 0 ≤ r → r < n → P (.int r) (sm d' g)) : fsDrawn [.ref 0, .int n] (sm d g) P PX :=
  ⟨n, d, g, rfl, rfl, hd, n0, n1, q⟩
structure CS (P : Program) (w : World) (K : PySem.W.Frag) (mg : Str → Option Value) (base : Heap) : Prop where
  _law_drawn : Cal P w K mg base 1 "_law_drawn" (spDrawn K) []
  _law_checksum : Cal P w K mg base 1 "_law_checksum" (spF K fsCkL) []
def okB (c hi : Int) (l : Lk) : Prop := 0 ≤ l.1 ∧ l.1 < c ∧ 0 ≤ l.2.1 ∧ l.2.1 < c ∧ l.1 ≠ l.2.1 ∧ 1 ≤ l.2.2.1 ∧ l.2.2.1 ≤ 99 ∧ 0 ≤ l.2.2.2 ∧ l.2.2.2 < hi
section
variable {P : Program} {w : World} {K : PySem.W.Frag} {mg : Str → Option Value} {base : Heap}
theorem keep_sm {H : Hp} {ρ : List Addr} {d d' : Ds} {g h : Mem} {P : PF} {v : Tr} (m : RM K H ρ (sm d g)) (b : Tr.bel (List.length g + 1) v = true) (p : P v (sm d' g)) : Keep (List.length g + 1) P v (sm d' g ++ h) :=
  ⟨(sm d' g).length, Nat.le_refl _, b, by rw [List.take_left]; exact belM_sm m.belM, by rw [List.take_left]; exact p⟩
def fsLBr : FSp := fun ts M P _ => ∃ (c mx hi : Int) (d : Ds) (g : Mem), ts = [.ref 0, .int c, .int mx, .int hi] ∧ M = sm d g ∧ d.ok ∧ 1 ≤ c ∧ c ≤ 12 ∧ 0 ≤ mx ∧ mx ≤ 24 ∧ 8 ≤ hi ∧ hi ≤ 2000000000000000000 ∧
  ∀ (ls : List Lk) d', d'.ok → (ls.length : Int) ≤ mx → (∀ l ∈ ls, okB c hi l) → P (.tup (ls.map lkT)) (sm d' g)
theorem scLBr : FnScope ["_law_state", "_law_count", "_law_most", "_law_high", "_law_result", "_law_k", "_law_one", "_law_other", "_law_life"] ["_law_state", "_law_count", "_law_most", "_law_high"] (fnScope sLBr) := fnScope_by (by decide +kernel)
theorem ok_lbr {f : Addr} {fd : FuncData} (F : Def K mg "_law_bridges" sLBr f fd) (b : L2.Binds K fd ["_law_state", "_law_count", "_law_most", "_law_high"] []) (T : BQ mg) (C : CS P w K mg base) : Cal P w K mg base 2 "_law_bridges" (spF K fsLBr) [] := by
  refine cal0 F b .nil scLBr (fun vs H Q E h => ?_) (fun cdv A outer s H vs Q E hr h => ?_)
  · obtain ⟨ts, ρ, M, P, PX, r, m, ⟨c, mx, hi, d, g, rfl, _⟩, o, ox⟩ := h
    exact r.len
  · refine ⟨_, (pss_cons (ps_set (i := 4) scLBr.nd rfl (Or.inl rfl) (pe_lst pa_nil))
 (pss_cons (ps_for PassesOwn.never rfl (pi_range1 (by rfl) T.range (pa_cons (pe_ifExp (pt_cmpR op_gt (pv 1) pe_int (nomark _)) (pe_c C._law_drawn hr (by first | decide | omega) (by rfl) (pa_cons (pv 0) (pa_cons (pe_op op_add (pv 2) pe_int) pa_nil))) pe_int) pa_nil)) (pg_name (i := 5) scLBr.nd rfl (Or.inl rfl)) (pss_cons (ps_set (i := 6) scLBr.nd rfl (Or.inl rfl) (pe_c C._law_drawn hr (by first | decide | omega) (by rfl) (pa_cons (pv 0) (pa_cons (pv 1) pa_nil))))
 (pss_cons (ps_set (i := 7) scLBr.nd rfl (Or.inl rfl) (pe_op op_modN (pe_op op_add (pe_op op_add (pv 6) pe_int) (pe_c C._law_drawn hr (by first | decide | omega) (by rfl) (pa_cons (pv 0) (pa_cons (pe_op op_sub (pv 1) pe_int) pa_nil)))) (pv 1)))
 (pss_cons (ps_set (i := 8) scLBr.nd rfl (Or.inl rfl) (pe_c C._law_drawn hr (by first | decide | omega) (by rfl) (pa_cons (pv 0) (pa_cons (pe_ix ix_list (pe_lst (pa_cons pe_int (pa_cons (pv 3) pa_nil))) (pe_c C._law_drawn hr (by first | decide | omega) (by rfl) (pa_cons (pv 0) (pa_cons pe_int pa_nil))) (fun _ _ => rfl)) pa_nil))))
 (pss_one (ps_expr (pe_bm PySem.F.plainAttrs_list PySem.F.slot_list_append PySem.F.type_list_append mt_append (pv 4) (pa_cons (pe_tup (pa_cons (pv 6) (pa_cons (pv 7) (pa_cons (pe_op op_add pe_int (pe_c C._law_drawn hr (by first | decide | omega) (by rfl) (pa_cons (pv 0) (pa_cons (pe_ix ix_list (pe_lst (pa_cons pe_int (pa_cons pe_int pa_nil))) (pe_c C._law_drawn hr (by first | decide | omega) (by rfl) (pa_cons (pv 0) (pa_cons pe_int pa_nil))) (fun _ _ => rfl)) pa_nil)))) (pa_cons (pv 8) pa_nil))))) pa_nil))))))))
 (pss_one (ps_ret (pe_callTy call_tuple_of (by rfl) T.tuple (by decide +kernel) (pa_cons (pv 4) pa_nil)))))), ?_⟩
    obtain ⟨ts, ρ, M, P, PX, r, m, ⟨c, mx, hi, d, g, rfl, rfl, hd, c0, c1, m0, m1, h0, h1, q⟩, o, ox⟩ := h
    try simp only [nox_K, cx_K]
    refine run_in r m o (by walk_at "sim") ?_
    walk_at "fd"
    unfold fFor
    walk_at "fd"
    by_cases c2 : 1 < c
    · rw [if_pos c2]
      refine drawn_at hd (by omega) (by omega) fun n d1 hd1 n0 n1 => ?_
      refine ⟨n, rfl, by omega, by omega, fun i L2 M2 => ∃ (d2 : Ds) (ls : List Lk) (v5 v6 v7 v8 : Option Tr), d2.ok ∧ L2 = [some (.ref 0), some (.int c), some (.int mx), some (.int hi), some (.ref (List.length g + 1)), v5, v6, v7, v8] ∧ M2 = sm d2 g ++ [.lst (ls.map lkT)] ∧ ls.length = i ∧ ∀ l ∈ ls, okB c hi l, ⟨d1, [], none, none, none, none, hd1, rfl, rfl, rfl, fun l hl => nomatch hl⟩, ?_, ?_⟩
      · rintro i t L2 M2 ht ⟨d2, ls, v5, v6, v7, v8, hd2, rfl, rfl, hl, hok⟩
        walk_at "fd"
        refine drawn_at hd2 (by omega) (by omega) fun r1 d3 hd3 r10 r11 => ?_
        walk_at "fd"
        refine drawn_at hd3 (by omega) (by omega) fun r2 d4 hd4 r20 r21 => ?_
        walk_at "fd"
        refine ⟨by omega, by rw [sizeLine_eq]; decide, drawn_at hd4 (by decide) (by decide) fun r3 d5 hd5 r30 r31 => ?_⟩
        walk_at "fd"
        obtain ⟨v, hv, v0, v1⟩ : ∃ v : Int, atI ([.int 8, .int hi] : List Tr) r3 = some (.int v) ∧ 0 < v ∧ v ≤ hi := by
          have hr : r3 = 0 ∨ r3 = 1 := by omega
          rcases hr with e | e <;> rw [e]
          · exact ⟨8, rfl, by decide, by omega⟩
          · exact ⟨hi, rfl, by omega, by omega⟩
        refine ⟨.int v, hv, drawn_at hd5 v0 (by omega) fun life d6 hd6 r40 r41 => ?_⟩
        walk_at "fd"
        refine ⟨by rw [sizeLine_eq]; decide, drawn_at hd6 (by decide) (by decide) fun r5 d7 hd7 r50 r51 => ?_⟩
        walk_at "fd"
        obtain ⟨u, hu, u0, u1⟩ : ∃ v : Int, atI ([.int 4, .int 99] : List Tr) r5 = some (.int v) ∧ 0 < v ∧ v ≤ 99 := by
          have hr : r5 = 0 ∨ r5 = 1 := by omega
          rcases hr with e | e <;> rw [e]
          · exact ⟨4, rfl, by decide, by decide⟩
          · exact ⟨99, rfl, by decide, by decide⟩
        refine ⟨.int u, hu, drawn_at hd7 u0 (by omega) fun r6 d8 hd8 r60 r61 => ?_⟩
        walk_at "fd"
        have hc : 0 ≤ (r1 + 1 + r2).fmod c ∧ (r1 + 1 + r2).fmod c < c ∧ (r1 + 1 + r2).fmod c ≠ r1 := by
          rw [Int.fmod_eq_emod_of_nonneg _ (by omega)]
          refine ⟨Int.emod_nonneg _ (by omega), Int.emod_lt_of_pos _ (by omega), fun e => ?_⟩
          by_cases hlt : r1 + 1 + r2 < c
          · rw [Int.emod_eq_of_lt (by omega) hlt] at e
            omega
          · rw [← Int.sub_emod_right, Int.emod_eq_of_lt (by omega) (by omega)] at e
            omega
        obtain ⟨hc0, hc1, hc2⟩ := hc
        refine ⟨by rw [sizeLine_eq]; decide, by rw [sizeLine_eq, List.length_map]; have := (rngT_get ht).1; omega, ?_⟩
        refine forget_sm (h := [_]) (by simp) (LocLe.refl _) ⟨d8, hd8, ls ++ [(r1, (r1 + 1 + r2).fmod c, 1 + r6, life)], _, _, _, _, rfl, by rw [List.map_append]; rfl, by simp [hl], ?_⟩ ?_ m.belM ?_
        · intro l hl
          rcases List.mem_append.mp hl with hl | hl
          · exact hok l hl
          · rw [List.mem_singleton.mp hl]
            exact ⟨r10, r11, hc0, hc1, fun z => hc2 z.symm, by show 1 ≤ 1 + r6; omega, by show 1 + r6 ≤ 99; omega, r40, by show life < hi; omega⟩
        · obtain ⟨_, rfl⟩ := rngT_get ht
          walk_at "bel"
        · have := bel_lks (n := List.length g + 2) (ls ++ [(r1, (r1 + 1 + r2).fmod c, 1 + r6, life)])
          rw [List.map_append] at this
          show (Tr.bels _ _ && true) = true
          rw [Bool.and_true]
          exact this
      · rintro L2 M2 ⟨d2, ls, v5, v6, v7, v8, hd2, rfl, rfl, hl, hok⟩
        walk_at "fd"
        rw [rngT_len] at hl
        refine keep_sm m (by show Tr.bels _ _ = true; exact bel_lks _) (q ls d2 hd2 (by omega) hok)
    · rw [if_neg c2]
      refine ⟨by decide, by decide, fun i L2 M2 => L2 = [some (.ref 0), some (.int c), some (.int mx), some (.int hi), some (.ref (List.length g + 1)), none, none, none, none] ∧ M2 = sm d g ++ [.lst []], ⟨rfl, rfl⟩, ?_, ?_⟩
      · rintro i t L2 M2 ht
        simp [rngT] at ht
      · rintro L2 M2 ⟨rfl, rfl⟩
        walk_at "fd"
        exact keep_sm m rfl (q [] d hd (by simpa using m0) fun l hl => nomatch hl)
/-! ### damage -/
theorem da_ints {M : Mem} : ∀ b : List Int, DaAll M (intsT b) (b.map PyData.int)
  | [] => .nil
  | x :: b => .cons (.int x) (da_ints b)
theorem lay_ints : ∀ b : List Int, PyData.canLayAll0 (b.map PyData.int) = true
  | [] => by simp [PyData.canLayAll0]
  | x :: b => by simp [PyData.canLayAll0, PyData.canLay0, lay_ints b]
theorem depth_ints : ∀ b : List Int, PyData.depthAll (b.map PyData.int) ≤ 1
  | [] => by simp [PyData.depthAll]
  | x :: b => by
    have := depth_ints b
    simp only [List.map_cons, PyData.depthAll, PyData.depth]
    omega
theorem shaped_ints (b : List Int) : SeqAt.shaped (.list (b.map PyData.int)) = true := by
  have h := depth_ints b
  have hd : PyData.depth (.list (b.map PyData.int)) ≤ 64 := by simp only [PyData.depth]; omega
  have hc : PyData.canLay0 (.list (b.map PyData.int)) = true := by simp only [PyData.canLay0]; exact lay_ints b
  unfold SeqAt.shaped
  rw [hc, decide_eq_true hd] <;> rfl
theorem eqv_ints_nil : ∀ b : List Int, PyData.eqv (.list (b.map PyData.int)) (.list []) = decide (b = [])
  | [] => rfl
  | y :: ys => by rw [decide_eq_false (by simp)]; rfl
theorem cl_app {G x : Mem} (h : belM (List.length G + 1) G = true) (hx : belM (List.length (G ++ x) + 1) x = true) : belM (List.length (G ++ x) + 1) (G ++ x) = true := by
  rw [belM_app, belM_mono (by rw [List.length_append]; omega) h, hx]
  rfl
theorem forget_w {k : Nat} {J : Fm.Loc → Mem → Prop} {L L' : Fm.Loc} {d : Ds} {G X : Mem} (hk : k ≤ List.length (G ++ X) + 1) (le : LocLe L' L) (j : J L' (sm d (G ++ X))) (bl : belL (List.length (G ++ X) + 1) L' = true) (hc : belM (List.length (G ++ X) + 1) (G ++ X) = true) : Forget k J L (sm d G ++ X) :=
  forget_same (M := sm d (G ++ X)) le j ⟨hk, bl⟩ hc
theorem ifS_of {ft : FT} {A B : FS} {D : FEnds} {L : Fm.Loc} {M : Mem} (c : Bool) (ht : ∀ P : PB, P c M → ft L M P) (h1 : c = true → A D L M) (h2 : c = false → B D L M) : fIfS ft A B D L M := ht _ (by
  cases c with
  | true => exact h1 rfl
  | false => exact h2 rfl)
/-- no table of code objects -/
def ntab (M : Mem) : Bool := M.all fun o => match o with
  | .tab _ _ => false
  | _ => true
theorem ntab_app {a b : Mem} : ntab (a ++ b) = (ntab a && ntab b) := List.all_append
theorem ntab_0 : ∀ {M : Mem}, belM 0 M = true → ntab M = true
  | [], _ => rfl
  | o :: M, h => by
    unfold belM at h
    rw [Bool.and_eq_true] at h
    have := ntab_0 h.2
    unfold ntab at this ⊢
    rw [List.all_cons, this, Bool.and_true]
    cases o with
    | tab _ _ => exact absurd h.1 (by simp [O.bel])
    | _ => rfl
/-- a list of bytes that has come to stand somewhere -/
def ResS (P : PF) (g : Mem) (n : Nat) : Prop := ∀ (d' : Ds) (h : Mem) (r : Nat) (b : List Int), d'.ok → B8 b → b.length ≤ n → ntab h = true → belM (List.length (g ++ h) + 1) (g ++ h) = true → (g ++ h)[r]? = some (.lst (intsT b)) → P (.ref (r + 1)) (sm d' (g ++ h))
theorem keep_resS {d' : Ds} {g h : Mem} {P : PF} {n r : Nat} {b : List Int} (q : ResS P g n) (hd : d'.ok) (hb : B8 b) (hl : b.length ≤ n) (nt : ntab h = true) (hc : belM (List.length (g ++ h) + 1) (g ++ h) = true) (e : (g ++ h)[r]? = some (.lst (intsT b))) : Keep (List.length g + 1) P (.ref (r + 1)) (sm d' (g ++ h)) := by
  refine ⟨List.length (sm d' (g ++ h)), by rw [sm_len, List.length_append]; omega, ?_, ?_, ?_⟩
  · have := (List.getElem?_eq_some_iff.mp e).1
    unfold Tr.bel
    exact decide_eq_true (by rw [sm_len]; omega)
  · rw [List.take_length, sm_len]
    show (true && belM _ (g ++ h)) = true
    rw [hc]
    rfl
  · rw [List.take_length]
    exact q d' h r b hd hb hl nt hc e
theorem keep_resG {d' : Ds} {g e0 G h : Mem} {P : PF} {n r : Nat} {b : List Int} (hG : g ++ e0 = G) (q : ResS P g n) (hd : d'.ok) (hb : B8 b) (hl : b.length ≤ n) (nt : ntab (e0 ++ h) = true) (hc : belM (List.length (G ++ h) + 1) (G ++ h) = true) (e : (G ++ h)[r]? = some (.lst (intsT b))) : Keep (List.length g + 1) P (.ref (r + 1)) (sm d' G ++ h) := by
  subst hG
  show Keep _ P _ (sm d' ((g ++ e0) ++ h))
  rw [List.append_assoc] at hc e ⊢
  exact keep_resS q hd hb hl nt hc e
theorem sm_g {d : Ds} {G x : Mem} {r : Nat} {o : O} (e : G[r]? = some o) : (sm d G ++ x)[r + 1]? = some o := at_l (M := G) e
theorem sm_g0 {d : Ds} {G : Mem} {r : Nat} {o : O} (e : G[r]? = some o) : (sm d G)[r + 1]? = some o := e
theorem cut_k {b : List Int} {k : Nat} (hk : k ≤ b.length) : cutT (intsT b) none (some (k : Int)) = intsT (b.take k) := by
  unfold cutT HT.sIx
  simp only [List.drop_zero, Nat.sub_zero]
  rw [if_neg (by omega), intsT_len, Int.toNat_natCast, Nat.min_eq_left hk]
  unfold intsT
  rw [List.map_take]
theorem cut_d {b : List Int} {k : Nat} (hk : k ≤ b.length) : cutT (intsT b) (some (k : Int)) none = intsT (b.drop k) := by
  unfold cutT HT.sIx
  simp only
  rw [if_neg (by omega), intsT_len, Int.toNat_natCast, Nat.min_eq_left hk, List.take_of_length_le (by rw [List.length_drop, intsT_len]; exact Nat.le_refl _)]
  unfold intsT
  rw [List.map_drop]
theorem cut_2 {b : List Int} : cutT (intsT b) (some (0 - 2)) none = intsT (b.drop (b.length - 2)) := by
  unfold cutT HT.sIx
  simp only
  have e : ((0 : Int) - 2 + ((intsT b).length : Nat)).toNat = b.length - 2 := by rw [intsT_len]; omega
  rw [if_pos (by decide), e, List.take_of_length_le (by rw [List.length_drop]; exact Nat.le_refl _)]
  unfold intsT
  rw [List.map_drop]
theorem b8_app {a b : List Int} (ha : B8 a) (hb : B8 b) : B8 (a ++ b) := fun n h => (List.mem_append.mp h).elim (ha n) (hb n)
theorem b8_take {a : List Int} {k : Nat} (ha : B8 a) : B8 (a.take k) := fun n h => ha n (List.mem_of_mem_take h)
theorem b8_drop {a : List Int} {k : Nat} (ha : B8 a) : B8 (a.drop k) := fun n h => ha n (List.mem_of_mem_drop h)
theorem b8_1 {x : Int} (h0 : 0 ≤ x) (h1 : x < 256) : B8 [x] := fun n h => by
  rw [List.mem_singleton.mp h]
  exact ⟨h0, h1⟩
def fsLDam : FSp := fun ts M P _ => ∃ (d : Ds) (g : Mem) (r : Nat) (b : List Int), ts = [.ref 0, .ref (r + 1)] ∧ M = sm d g ∧ d.ok ∧ g[r]? = some (.lst (intsT b)) ∧ B8 b ∧ b ≠ [] ∧ b.length ≤ 300 ∧ ResS P g 400
theorem scLDam : FnScope ["_law_state", "_law_body_here", "_law_branch", "_law_octets", "_law_change", "_law_at", "_law_octet"] ["_law_state", "_law_body_here"] (fnScope sLDam) := fnScope_by (by decide +kernel)
theorem ok_ldam {f : Addr} {fd : FuncData} (F : Def K mg "_law_damaged" sLDam f fd) (b : L2.Binds K fd ["_law_state", "_law_body_here"] []) (T : BQ mg) (C : CS P w K mg base) : Cal P w K mg base 2 "_law_damaged" (spF K fsLDam) [] := by
  refine cal0 F b .nil scLDam (fun vs H Q E h => ?_) (fun cdv A outer s H vs Q E hr h => ?_)
  · obtain ⟨ts, ρ, M, P, PX, r, m, ⟨d, g, r', b, rfl, _⟩, o, ox⟩ := h
    exact r.len
  · refine ⟨_, (pss_cons (ps_par (i := 2) (j := 3) (by rfl) scLDam.nd rfl rfl (by decide) rfl rfl (pa_cons (pe_c C._law_drawn hr (by first | decide | omega) (by rfl) (pa_cons (pv 0) (pa_cons pe_int pa_nil))) (pa_cons (pe_op op_cat (pv 1) (pe_c C._law_checksum hr (by first | decide | omega) (by rfl) (pa_cons (pv 1) pa_nil))) pa_nil)) (by rfl))
 (pss_cons (ps_if (pt_cmpR op_eq (pv 2) pe_int (nomark _)) (pss_one (ps_ret (pe_slice sl_list (pv 3) po_none (po_some (pe_c C._law_drawn hr (by first | decide | omega) (by rfl) (pa_cons (pv 0) (pa_cons (pe_op op_add (pe_callB call_len_seq (by rfl) T.len PySem.boot_len (pa_cons (pv 3) pa_nil)) pe_int) pa_nil))))))) pss_nil)
 (pss_cons (ps_if (pt_cmpR op_eq (pv 2) pe_int (nomark _)) (pss_one (ps_ret (pe_op op_cat (pv 3) (pe_lst (pa_cons (pe_c C._law_drawn hr (by first | decide | omega) (by rfl) (pa_cons (pv 0) (pa_cons pe_int pa_nil))) pa_nil))))) pss_nil)
 (pss_cons (ps_for PassesOwn.never rfl (pi_range1 (by rfl) T.range (pa_cons (pe_c C._law_drawn hr (by first | decide | omega) (by rfl) (pa_cons (pv 0) (pa_cons pe_int pa_nil))) pa_nil)) (pg_name (i := 4) scLDam.nd rfl (Or.inl rfl)) (pss_cons (ps_par (i := 5) (j := 6) (by rfl) scLDam.nd rfl rfl (by decide) rfl rfl (pa_cons (pe_c C._law_drawn hr (by first | decide | omega) (by rfl) (pa_cons (pv 0) (pa_cons (pe_callB call_len_seq (by rfl) T.len PySem.boot_len (pa_cons (pv 1) pa_nil)) pa_nil))) (pa_cons (pe_ix ix_list (pe_lst (pa_cons (pe_c C._law_drawn hr (by first | decide | omega) (by rfl) (pa_cons (pv 0) (pa_cons pe_int pa_nil))) (pa_cons (pe_c C._law_drawn hr (by first | decide | omega) (by rfl) (pa_cons (pv 0) (pa_cons pe_int pa_nil))) pa_nil))) (pe_c C._law_drawn hr (by first | decide | omega) (by rfl) (pa_cons (pv 0) (pa_cons pe_int pa_nil))) (fun _ _ => rfl)) pa_nil)) (by rfl))
 (pss_cut (ps_if (PW.pt (pw_and (pt_cmpR op_gt (pv 2) pe_int (nomark _)) (pw_and1 (pt_cmpR op_lt (pe_ix ix_list (pv 1) (pv 5) (fun _ _ => rfl)) pe_int (nomark _))))) (pss_one (ps_set (i := 1) scLDam.nd rfl (Or.inl rfl) (pe_op op_cat (pe_op op_cat (pe_slice sl_list (pv 1) po_none (po_some (pv 5))) (pe_lst (pa_cons (pe_op op_add (pe_ix ix_list (pv 1) (pv 5) (fun _ _ => rfl)) pe_int) (pa_cons pe_int pa_nil)))) (pe_slice sl_list (pv 1) (po_some (pe_op op_add (pv 5) pe_int)) po_none)))) (pss_one (ps_set (i := 1) scLDam.nd rfl (Or.inl rfl) (pe_op op_cat (pe_op op_cat (pe_slice sl_list (pv 1) po_none (po_some (pv 5))) (pe_ix ix_list (pe_lst (pa_cons (pe_lst (pa_cons (pv 6) pa_nil)) (pa_cons (pe_lst (pa_cons (pv 6) pa_nil)) (pa_cons (pe_lst (pa_cons (pv 6) (pa_cons (pe_ix ix_list (pv 1) (pv 5) (fun _ _ => rfl)) pa_nil))) (pa_cons (pe_lst pa_nil) pa_nil))))) (pe_c C._law_drawn hr (by first | decide | omega) (by rfl) (pa_cons (pv 0) (pa_cons pe_int pa_nil))) (fun _ _ => rfl))) (pe_slice sl_list (pv 1) (po_some (pe_op op_add (pv 5) pe_int)) po_none)))))
 (pss_one (ps_set (i := 1) scLDam.nd rfl (Or.inl rfl) (pe_ifExp (pt_cmpR (op_neD hr.units) (pv 1) (pe_lst pa_nil) (nomark _)) (pv 1) (pe_lst (pa_cons pe_int pa_nil))))))))
 (pss_one (ps_ret (pe_ifExp (pt_cmpR op_eq (pv 2) pe_int (nomark _)) (pe_op op_cat (pv 1) (pe_slice sl_list (pv 3) (po_some (pe_op op_sub pe_int pe_int)) po_none)) (pe_op op_cat (pv 1) (pe_c C._law_checksum hr (by first | decide | omega) (by rfl) (pa_cons (pv 1) pa_nil)))))))))), ?_⟩
    obtain ⟨ts, ρ, M, P, PX, r, m, ⟨d, g, r', b, rfl, rfl, hd, hr', hb, hne, hl, q⟩, o, ox⟩ := h
    try simp only [nox_K, cx_K]
    refine run_in r m o (by walk_at "sim") ?_
    walk_at "fd"
    have hcl : belM (List.length g + 1) g = true := by
      have := m.belM
      rw [sm_len] at this
      exact this
    have hb2 := b8_app hb (ck2_oct (ns := b))
    refine drawn_0 hd (by decide) (by decide) fun br d1 hd1 br0 br1 => ?_
    refine ⟨_, b, rfl, sm_g0 hr', by omega, ?_⟩
    walk_at "fd"
    have hlo : (b ++ ck2 b).length ≤ 302 := by
      unfold ck2
      simp only [List.length_append, List.length_cons, List.length_nil]
      omega
    refine ⟨_, by rw [sm_g hr']; rfl, by rw [← List.length_append, ← ints_app, intsT_len, sizeLine_eq]; omega, ?_⟩
    rw [← ints_app]
    obtain ⟨oc, hoc⟩ : ∃ oc, b ++ ck2 b = oc := ⟨_, rfl⟩
    rw [hoc] at hlo hb2 ⊢
    have eM : ∀ d x, sm d g ++ O.lst (intsT (ck2 b)) :: O.lst (intsT oc) :: x = sm d (g ++ ([O.lst (intsT (ck2 b)), O.lst (intsT oc)] ++ x)) := fun d x => rfl
    have hgo : ∀ x, (g ++ ([O.lst (intsT (ck2 b)), O.lst (intsT oc)] ++ x))[g.length + 1]? = some (.lst (intsT oc)) := fun x => by rw [at_k]; rfl
    have hocl : ((intsT oc).length : Int) = (oc.length : Int) := by rw [intsT_len]
    by_cases hb0 : br = 0
    · rw [if_pos hb0]
      refine drawn_at hd1 (by omega) (by omega) fun x d2 hd2 x0 x1 => ⟨x, rfl, ?_⟩
      have ex : x = ((x.toNat : Nat) : Int) := by omega
      rw [ex]
      have hxl : x.toNat ≤ oc.length := by omega
      generalize x.toNat = xn at hxl
      walk_at "fd"
      rw [cut_k hxl]
      refine keep_resS (h := [O.lst (intsT (ck2 b)), O.lst (intsT oc), O.lst (intsT (oc.take xn))]) (r := List.length g + 2) q hd2 (b8_take (k := xn) hb2) (by rw [List.length_take]; omega) rfl ?_ (by rw [at_k]; rfl)
      rw [belM_app, belM_mono (by simp) hcl]
      simp only [belM, O.bel, bels_intsT, Bool.and_self]
    rw [if_neg hb0]
    by_cases hb1 : br = 1
    · rw [if_pos hb1]
      refine drawn_at hd1 (by decide) (by decide) fun x d2 hd2 x0 x1 => ?_
      walk_at "fd"
      have e1 : intsT oc ++ [Tr.int x] = intsT (oc ++ [x]) := by rw [ints_app]; rfl
      rw [e1]
      refine ⟨by rw [sizeLine_eq]; decide, by rw [intsT_len, sizeLine_eq]; omega, ?_⟩
      refine keep_resS (h := [O.lst (intsT (ck2 b)), O.lst (intsT oc), O.lst (intsT [x]), O.lst (intsT (oc ++ [x]))]) (r := List.length g + 3) q hd2 (b8_app hb2 (b8_1 x0 x1)) (by rw [List.length_append, List.length_singleton]; omega) rfl ?_ (by rw [at_k]; rfl)
      rw [belM_app, belM_mono (by simp) hcl]
      simp only [belM, O.bel, bels_intsT, Bool.and_self]
    rw [if_neg hb1]
    have hc0 : belM (List.length (g ++ [O.lst (intsT (ck2 b)), O.lst (intsT oc)]) + 1) (g ++ [O.lst (intsT (ck2 b)), O.lst (intsT oc)]) = true := by
      rw [belM_app, belM_mono (by simp) hcl]
      simp only [belM, O.bel, bels_intsT, Bool.and_self]
    unfold fFor
    walk_at "fd"
    refine drawn_at hd1 (by decide) (by decide) fun nn d2 hd2 n0 n1 => ?_
    refine ⟨nn, rfl, by omega, by omega, fun i L2 M2 => ∃ (d3 : Ds) (h : Mem) (r0 : Nat) (bs : List Int), d3.ok ∧ L2 = [some (.ref 0), some (.ref (r0 + 1)), some (.int br), some (.ref (List.length g + 2)), none, none, none] ∧ M2 = sm d3 (g ++ (O.lst (intsT (ck2 b)) :: O.lst (intsT oc) :: h)) ∧ (g ++ (O.lst (intsT (ck2 b)) :: O.lst (intsT oc) :: h))[r0]? = some (.lst (intsT bs)) ∧ belM (List.length (g ++ (O.lst (intsT (ck2 b)) :: O.lst (intsT oc) :: h)) + 1) (g ++ (O.lst (intsT (ck2 b)) :: O.lst (intsT oc) :: h)) = true ∧ B8 bs ∧ bs ≠ [] ∧ bs.length ≤ 300 + i ∧ ntab h = true, ⟨d2, [], r', b, hd2, rfl, rfl, at_l hr', hc0, hb, hne, by omega, rfl⟩, ?_, ?_⟩
    · rintro i t L2 M2 ht ⟨d3, h, r0, bs, hd3, rfl, rfl, hr0, hc, hbs, hbn, hbl, hnt⟩
      have hin := (rngT_get ht).1
      obtain ⟨G, hG⟩ : ∃ G, g ++ (O.lst (intsT (ck2 b)) :: O.lst (intsT oc) :: h) = G := ⟨_, rfl⟩
      rw [hG] at hr0 hc ⊢
      walk_at "fd"
      refine ⟨_, by rw [sm_g0 hr0]; rfl, ?_⟩
      rw [intsT_len]
      have hbp : 0 < bs.length := List.length_pos_iff.mpr hbn
      refine drawn_0 hd3 (by omega) (by omega) fun at_ d4 hd4 a0 a1 => ?_
      refine drawn_0 hd4 (by decide) (by decide) fun x1 d5 hd5 x10 x11 => ?_
      refine drawn_0 hd5 (by decide) (by decide) fun x2 d6 hd6 x20 x21 => ?_
      refine ⟨by rw [sizeLine_eq]; decide, ?_⟩
      refine drawn_at hd6 (by decide) (by decide) fun x3 d7 hd7 x30 x31 => ?_
      obtain ⟨oct, ho, o0, o1⟩ : ∃ v : Int, atI ([.int x1, .int x2] : List Tr) x3 = some (.int v) ∧ 0 ≤ v ∧ v < 256 := by
        have hr : x3 = 0 ∨ x3 = 1 := by omega
        rcases hr with e | e <;> rw [e]
        · exact ⟨x1, rfl, x10, x11⟩
        · exact ⟨x2, rfl, x20, by omega⟩
      have ea : at_ = ((at_.toNat : Nat) : Int) := by omega
      rw [ea]
      have hal : at_.toNat < bs.length := by omega
      generalize at_.toNat = an at hal
      obtain ⟨v, hv⟩ : ∃ v, bs[an]? = some v := ⟨_, List.getElem?_eq_getElem hal⟩
      have hvb := hbs v (List.mem_of_getElem? hv)
      have hvT : atI (intsT bs) (an : Int) = some (.int v) := atI_nat (by unfold intsT; rw [List.getElem?_map, hv]; rfl)
      walk_at "fd"
      refine ⟨.int oct, ho, ?_⟩
      refine ⟨fun L' M' => ∃ (d8 : Ds) (h2 : Mem) (r2 : Nat) (b2 : List Int), d8.ok ∧ L' = [some (.ref 0), some (.ref (r2 + 1)), some (.int br), some (.ref (List.length g + 2)), none, none, none] ∧ M' = sm d8 (G ++ h2) ∧ (G ++ h2)[r2]? = some (.lst (intsT b2)) ∧ belM (List.length (G ++ h2) + 1) (G ++ h2) = true ∧ B8 b2 ∧ b2.length ≤ bs.length + 1 ∧ ntab h2 = true, ?_, ?_⟩
      · refine ifS_of (decide (6 < br) && decide (v < 128)) (fun P hP => ?_) (fun hc1 => ?_) (fun _ => ?_)
        · walk_at "fd"
          by_cases c6 : 6 < br
          · rw [if_pos c6]
            refine ⟨_, by rw [sm_g hr0]; rfl, _, hvT, v, rfl, ?_⟩
            rw [decide_eq_true c6, Bool.true_and] at hP
            exact hP
          · rw [if_neg c6]
            rw [decide_eq_false c6, Bool.false_and] at hP
            exact hP
        · walk_at "fd"
          have hv128 : v < 128 := by
            rw [Bool.and_eq_true] at hc1
            exact of_decide_eq_true hc1.2
          have ea2 : (an : Int) + 1 = ((an + 1 : Nat) : Int) := rfl
          refine ⟨_, by rw [sm_g hr0]; rfl, _, by rw [sm_g hr0]; rfl, _, hvT, v, rfl, by rw [sizeLine_eq]; decide, by rw [cut_k (by omega), intsT_len, sizeLine_eq, List.length_take]; omega, _, by rw [sm_g hr0]; rfl, ?_, ?_⟩
          · rw [ea2, cut_k (by omega), cut_d (by omega), List.length_append, intsT_len, intsT_len, sizeLine_eq, List.length_take, List.length_drop]
            simp only [List.length_cons, List.length_nil]
            omega
          rw [ea2, cut_k (by omega), cut_d (by omega)]
          have e2 : intsT (bs.take an) ++ [Tr.int (v + 128), Tr.int 0] = intsT (bs.take an ++ [v + 128, 0]) := by rw [ints_app]; rfl
          have e3 : intsT (bs.take an) ++ [Tr.int (v + 128), Tr.int 0] ++ intsT (bs.drop (an + 1)) = intsT (bs.take an ++ [v + 128, 0] ++ bs.drop (an + 1)) := by rw [e2, ← ints_app]
          rw [e3, e2]
          have hX : belM (List.length (G ++ [O.lst (intsT [x1, x2]), O.lst (intsT (bs.take an)), O.lst (intsT [v + 128, 0]), O.lst (intsT (bs.take an ++ [v + 128, 0])), O.lst (intsT (bs.drop (an + 1))), O.lst (intsT (bs.take an ++ [v + 128, 0] ++ bs.drop (an + 1)))]) + 1) (G ++ [O.lst (intsT [x1, x2]), O.lst (intsT (bs.take an)), O.lst (intsT [v + 128, 0]), O.lst (intsT (bs.take an ++ [v + 128, 0])), O.lst (intsT (bs.drop (an + 1))), O.lst (intsT (bs.take an ++ [v + 128, 0] ++ bs.drop (an + 1)))]) = true := cl_app hc (by simp only [belM, O.bel, bels_intsT, Bool.and_self])
          refine forget_w (X := [O.lst (intsT [x1, x2]), O.lst (intsT (bs.take an)), O.lst (intsT [v + 128, 0]), O.lst (intsT (bs.take an ++ [v + 128, 0])), O.lst (intsT (bs.drop (an + 1))), O.lst (intsT (bs.take an ++ [v + 128, 0] ++ bs.drop (an + 1)))]) (L' := [some (.ref 0), some (.ref (List.length G + 5 + 1)), some (.int br), some (.ref (List.length g + 2)), none, none, none]) (by simp) ⟨_, rfl, _, rfl, _, rfl, _, rfl, _, _, rfl, _, _, rfl, _, _, rfl, rfl⟩ ⟨d7, hd7, _, List.length G + 5, rfl, rfl, bs.take an ++ [v + 128, 0] ++ bs.drop (an + 1), by rw [at_k]; rfl, ?_, ?_, ?_, rfl⟩ ?_ hX
          · rw [List.length_append] at hX
            exact hX
          · refine b8_app (b8_app (b8_take hbs) ?_) (b8_drop hbs)
            intro z hz
            simp only [List.mem_cons, List.not_mem_nil, or_false] at hz
            rcases hz with rfl | rfl
            · exact ⟨by omega, by omega⟩
            · exact ⟨by decide, by decide⟩
          · simp only [List.length_append, List.length_take, List.length_drop, List.length_cons, List.length_nil]
            omega
          · have hgl : List.length g + 2 ≤ List.length G + 1 := by rw [← hG]; simp
            simp [belL, Tr.bel]
            omega
        · walk_at "fd"
          have ea2 : (an : Int) + 1 = ((an + 1 : Nat) : Int) := rfl
          refine ⟨_, by rw [sm_g hr0]; rfl, by rw [sizeLine_eq]; decide, by rw [sizeLine_eq]; decide, _, by rw [sm_g hr0]; rfl, _, hvT, by rw [sizeLine_eq]; decide, by rw [sizeLine_eq]; decide, ?_⟩
          rw [cut_k (by omega)]
          refine drawn_at hd7 (by decide) (by decide) fun x4 d8 hd8 x40 x41 => ?_
          walk_at "fd"
          obtain ⟨q4, qs, hq4, hq5, hq6, hq7⟩ : ∃ (q4 : Nat) (qs : List Int), atI ([.ref (List.length G + 3), .ref (List.length G + 4), .ref (List.length G + 5), .ref (List.length G + 6)] : List Tr) x4 = some (.ref (List.length G + q4 + 1)) ∧ (∀ X : Mem, (O.lst [Tr.int x1, Tr.int x2] :: O.lst (intsT (bs.take an)) :: O.lst [Tr.int oct] :: O.lst [Tr.int oct] :: O.lst [Tr.int oct, Tr.int v] :: O.lst [] :: X)[q4]? = some (O.lst (intsT qs))) ∧ B8 qs ∧ qs.length ≤ 2 := by
            have hr : x4 = 0 ∨ x4 = 1 ∨ x4 = 2 ∨ x4 = 3 := by omega
            rcases hr with e | e | e | e <;> rw [e]
            · exact ⟨2, [oct], rfl, fun X => rfl, b8_1 o0 o1, by simp⟩
            · exact ⟨3, [oct], rfl, fun X => rfl, b8_1 o0 o1, by simp⟩
            · exact ⟨4, [oct, v], rfl, fun X => rfl, b8_app (b8_1 o0 o1) (b8_1 hvb.1 hvb.2), by simp⟩
            · exact ⟨5, [], rfl, fun X => rfl, fun n h => absurd h List.not_mem_nil, Nat.zero_le 2⟩
          have hlq : ∀ X : Mem, lstAt (sm d8 G ++ (O.lst [Tr.int x1, Tr.int x2] :: O.lst (intsT (bs.take an)) :: O.lst [Tr.int oct] :: O.lst [Tr.int oct] :: O.lst [Tr.int oct, Tr.int v] :: O.lst [] :: X)) (.ref (List.length G + q4 + 1)) = some (intsT qs) := fun X => by
            have e : (sm d8 G ++ (O.lst [Tr.int x1, Tr.int x2] :: O.lst (intsT (bs.take an)) :: O.lst [Tr.int oct] :: O.lst [Tr.int oct] :: O.lst [Tr.int oct, Tr.int v] :: O.lst [] :: X))[List.length G + q4 + 1]? = some (O.lst (intsT qs)) := by
              show (G ++ _)[List.length G + q4]? = _
              rw [at_k]
              exact hq5 X
            unfold lstAt
            simp only [e]
          refine ⟨_, hq4, intsT qs, hlq _, by rw [intsT_len, intsT_len, sizeLine_eq, List.length_take]; omega, _, by rw [sm_g hr0]; rfl, ?_, ?_⟩
          · rw [ea2, cut_d (by omega), List.length_append, intsT_len, intsT_len, intsT_len, sizeLine_eq, List.length_take, List.length_drop]
            omega
          rw [ea2, cut_d (by omega), ← ints_app, ← ints_app]
          have hX : belM (List.length (G ++ [O.lst (intsT [x1, x2]), O.lst (intsT (bs.take an)), O.lst (intsT [oct]), O.lst (intsT [oct]), O.lst (intsT [oct, v]), O.lst (intsT []), O.lst [.ref (List.length G + 3), .ref (List.length G + 4), .ref (List.length G + 5), .ref (List.length G + 6)], O.lst (intsT (bs.take an ++ qs)), O.lst (intsT (bs.drop (an + 1))), O.lst (intsT (bs.take an ++ qs ++ bs.drop (an + 1)))]) + 1) (G ++ [O.lst (intsT [x1, x2]), O.lst (intsT (bs.take an)), O.lst (intsT [oct]), O.lst (intsT [oct]), O.lst (intsT [oct, v]), O.lst (intsT []), O.lst [.ref (List.length G + 3), .ref (List.length G + 4), .ref (List.length G + 5), .ref (List.length G + 6)], O.lst (intsT (bs.take an ++ qs)), O.lst (intsT (bs.drop (an + 1))), O.lst (intsT (bs.take an ++ qs ++ bs.drop (an + 1)))]) = true := cl_app hc (by
            simp only [belM, O.bel, bels_intsT, Tr.bels, Tr.bel, Bool.and_self, Bool.true_and, Bool.and_true, Bool.and_eq_true, decide_eq_true_eq, List.length_append, List.length_cons, List.length_nil]
            omega)
          refine forget_w (X := [O.lst (intsT [x1, x2]), O.lst (intsT (bs.take an)), O.lst (intsT [oct]), O.lst (intsT [oct]), O.lst (intsT [oct, v]), O.lst (intsT []), O.lst [.ref (List.length G + 3), .ref (List.length G + 4), .ref (List.length G + 5), .ref (List.length G + 6)], O.lst (intsT (bs.take an ++ qs)), O.lst (intsT (bs.drop (an + 1))), O.lst (intsT (bs.take an ++ qs ++ bs.drop (an + 1)))]) (L' := [some (.ref 0), some (.ref (List.length G + 9 + 1)), some (.int br), some (.ref (List.length g + 2)), none, none, none]) (by simp) ⟨_, rfl, _, rfl, _, rfl, _, rfl, _, _, rfl, _, _, rfl, _, _, rfl, rfl⟩ ⟨d8, hd8, _, List.length G + 9, rfl, rfl, bs.take an ++ qs ++ bs.drop (an + 1), by rw [at_k]; rfl, ?_, ?_, ?_, rfl⟩ ?_ hX
          · rw [List.length_append] at hX
            exact hX
          · exact b8_app (b8_app (b8_take hbs) hq6) (b8_drop hbs)
          · simp only [List.length_append, List.length_take, List.length_drop]
            omega
          · have hgl : List.length g + 2 ≤ List.length G + 1 := by rw [← hG]; simp
            simp [belL, Tr.bel]
            omega
      · rintro L' M' ⟨d8, h2, r2, b2, hd8, rfl, rfl, hr2, hc2, hb2, hbl2, hnt2⟩
        walk_at "fd"
        have hgl : List.length g + 3 ≤ List.length G + 1 := by rw [← hG]; simp
        have e1 : (sm d8 G ++ (h2 ++ [O.lst []]))[r2 + 1]? = some (O.lst (intsT b2)) := by
          show (G ++ (h2 ++ [O.lst []]))[r2]? = _
          rw [← List.append_assoc]
          exact at_l hr2
        have e2 : (sm d8 G ++ (h2 ++ [O.lst []]))[List.length G + (1 + List.length h2)]? = some (O.lst []) := by
          have : List.length G + (1 + List.length h2) = List.length (G ++ h2) + 1 := by rw [List.length_append]; omega
          rw [this]
          show (G ++ (h2 ++ [O.lst []]))[List.length (G ++ h2)]? = _
          rw [← List.append_assoc, List.getElem?_append_right (Nat.le_refl _), Nat.sub_self]
          rfl
        refine ⟨_, .lst (ts := intsT b2) (by unfold lstAt; simp only [e1]) (da_ints b2), _, .lst (ts := []) (by unfold lstAt; simp only [e2]) .nil, shaped_ints b2, shaped_ints [], ?_⟩
        rw [eqv_ints_nil]
        have eG : ∀ x, G ++ (h2 ++ x) = g ++ (O.lst (intsT (ck2 b)) :: O.lst (intsT oc) :: (h ++ (h2 ++ x))) := fun x => by rw [← hG]; simp
        have hb2l : belM (List.length (G ++ h2) + 1) (G ++ h2) = true := hc2
        by_cases hz : b2 = []
        · rw [if_neg (by rw [hz]; decide)]
          refine ⟨by rw [sizeLine_eq]; decide, ?_⟩
          have hX : belM (List.length (G ++ (h2 ++ [O.lst [], O.lst [Tr.int 0]])) + 1) (G ++ (h2 ++ [O.lst [], O.lst [Tr.int 0]])) = true := by
            rw [← List.append_assoc]
            exact cl_app hb2l rfl
          refine forget_w (L' := [some (.ref 0), some (.ref (List.length G + (1 + List.length h2) + 1)), some (.int br), some (.ref (List.length g + 2)), none, none, none]) (X := h2 ++ [O.lst [], O.lst [Tr.int 0]]) (by simp only [List.length_append]; omega) (LocLe.refl _) ⟨d8, hd8, h ++ (h2 ++ [O.lst [], O.lst [Tr.int 0]]), List.length G + (1 + List.length h2), rfl, by rw [eG]; rfl, [0], ?_, ?_, fun n hn => ?_, by simp, by show 1 ≤ _; omega, by rw [ntab_app, ntab_app, hnt, hnt2]; rfl⟩ ?_ hX
          · rw [← eG]
            have : List.length G + (1 + List.length h2) = List.length (G ++ h2) + 1 := by rw [List.length_append]; omega
            rw [this, ← List.append_assoc, at_k]
            rfl
          · rw [eG] at hX
            simpa [Nat.add_assoc] using hX
          · rw [List.mem_singleton.mp hn]
            exact ⟨by decide, by decide⟩
          · simp [belL, Tr.bel]
            omega
        · rw [if_pos (by rw [decide_eq_false hz])]
          have hX : belM (List.length (G ++ (h2 ++ [O.lst []])) + 1) (G ++ (h2 ++ [O.lst []])) = true := by
            rw [← List.append_assoc]
            exact cl_app hb2l rfl
          refine forget_w (X := h2 ++ [O.lst []]) (by simp only [List.length_append]; omega) (LocLe.refl _) ⟨d8, hd8, h ++ (h2 ++ [O.lst []]), r2, rfl, by rw [eG]; rfl, b2, ?_, ?_, hb2, hz, by omega, by rw [ntab_app, ntab_app, hnt, hnt2]; rfl⟩ ?_ hX
          · rw [← eG]
            exact e1
          · rw [eG] at hX
            simpa [Nat.add_assoc] using hX
          · have hr2l := (List.getElem?_eq_some_iff.mp hr2).1
            rw [List.length_append] at hr2l
            simp [belL, Tr.bel]
            omega
    · rintro L2 M2 ⟨d3, h, r0, bs, hd3, rfl, rfl, hr0, hc, hbs, hbn, hbl, hnt⟩
      have hgo2 : (g ++ (O.lst (intsT (ck2 b)) :: O.lst (intsT oc) :: h))[List.length g + 1]? = some (.lst (intsT oc)) := by rw [at_k]; rfl
      obtain ⟨G, hG⟩ : ∃ G, g ++ (O.lst (intsT (ck2 b)) :: O.lst (intsT oc) :: h) = G := ⟨_, rfl⟩
      rw [hG] at hr0 hc hgo2 ⊢
      walk_at "fd"
      have hbl3 : bs.length ≤ 303 := by rw [rngT_len] at hbl; omega
      by_cases hb2' : br = 2
      · rw [if_pos hb2']
        refine ⟨_, by rw [sm_g0 hgo2]; rfl, _, by rw [sm_g hr0]; rfl, ?_⟩
        rw [cut_2, intsT_len, intsT_len, sizeLine_eq, List.length_drop, ← ints_app]
        refine ⟨by omega, ?_⟩
        refine keep_resG hG (h := [O.lst (intsT (oc.drop (oc.length - 2))), O.lst (intsT (bs ++ oc.drop (oc.length - 2)))]) (r := List.length G + 1) q hd3 (b8_app hbs (b8_drop (k := oc.length - 2) hb2)) (by rw [List.length_append, List.length_drop]; omega) (by rw [ntab_app, show ntab (O.lst (intsT (ck2 b)) :: O.lst (intsT oc) :: h) = ntab h from rfl, hnt]; rfl) (cl_app hc (by simp only [belM, O.bel, bels_intsT, Bool.and_self])) (by rw [at_k]; rfl)
      · rw [if_neg hb2']
        refine ⟨_, bs, rfl, sm_g0 hr0, by omega, ?_⟩
        refine ⟨_, by rw [sm_g hr0]; rfl, ?_⟩
        have hl2 : (ck2 bs).length = 2 := rfl
        have e5 : (sm d3 G ++ [O.lst (intsT (ck2 bs))])[List.length (sm d3 G)]? = some (O.lst (intsT (ck2 bs))) := by
          rw [List.getElem?_append_right (Nat.le_refl _), Nat.sub_self]
          rfl
        refine ⟨intsT (ck2 bs), by unfold lstAt; simp only [e5], by rw [intsT_len, intsT_len, sizeLine_eq]; omega, ?_⟩
        rw [← ints_app, List.append_assoc, List.length_append, sm_len]
        exact keep_resG hG (h := [O.lst (intsT (ck2 bs)), O.lst (intsT (bs ++ ck2 bs))]) (r := List.length G + 1) q hd3 (b8_app hbs (ck2_oct (ns := bs))) (by rw [List.length_append, hl2]; omega) (by rw [ntab_app, show ntab (O.lst (intsT (ck2 b)) :: O.lst (intsT oc) :: h) = ntab h from rfl, hnt]; rfl) (cl_app hc (by simp only [belM, O.bel, bels_intsT, Bool.and_self])) (by rw [at_k]; rfl)
end
end T1

set_option Elab.async false
set_option linter.all false
set_option maxRecDepth 100000
namespace L2
open PySem PySem.Spec PyProof.Rows
/-! several except clauses, some with a name -/
abbrev Clause := Value × Option Nat × (Addr → Value → Option Addr → TS)
def offS (D : Ends) : Option Nat → Ends
  | none => D
  | some j => { nx := fun τ G => D.nx (τ.set j none) G, rt := D.rt, bk := fun τ G => D.bk (τ.set j none) G, ct := fun τ G => D.ct (τ.set j none) G }
def onS (τ : St) (e : Addr) : Option Nat → St
  | none => τ
  | some j => τ.set j (some (.ref e))
def wMix (K : PySem.W.Frag) (Wo : WX) (D : Ends) : List Clause → WX
  | [] => Wo
  | (c, o, ts) :: r => fun cl d τ G => ∃ yes, PySem.W.exmOne K cl c = some yes ∧
      (yes = true → ∀ e, G e = none → ts e cl d (offS D o) (onS τ e o) G) ∧ (yes = false → wMix K Wo D r cl d τ G)
inductive MixOk (X : Cx) : List ExceptHandler → List Clause → Prop
  | nil : MixOk X [] []
  | bare {y : Str} {c : Value} {ts : Addr → Value → Option Addr → TS} {st : Stmt} {sts : List Stmt} {q1 q2 : Pos} {hs : List ExceptHandler} {l : List Clause} (hc : Names X y c)
      (su : ∀ (e : Addr) (oe : Obj) (cl : Value) (d : Option Addr) (pn : List (Addr × Obj)), Zc cl d oe → (∃ vs, oe.data = .fields vs) → PSs (X.suite e ((e, oe) :: pn)) (st :: sts) (ts e cl d)) (r : MixOk X hs l) :
      MixOk X (.ExceptHandler (some (.Name y q1)) none (st :: sts) q2 :: hs) ((c, none, ts) :: l)
  | named {y n : Str} {j : Nat} {c : Value} {ts : Addr → Value → Option Addr → TS} {st : Stmt} {sts : List Stmt} {q1 q2 : Pos} {hs : List ExceptHandler} {l : List Clause} (hc : Names X y c) (hj : X.N[j]? = some n) (hl : X.env.kindOf n = some .local)
      (su : ∀ (e : Addr) (oe : Obj) (cl : Value) (d : Option Addr) (pn : List (Addr × Obj)), Zc cl d oe → (∃ vs, oe.data = .fields vs) → PSs (X.suite e ((e, oe) :: pn)) (st :: sts) (ts e cl d)) (r : MixOk X hs l) :
      MixOk X (.ExceptHandler (some (.Name y q1)) (some n) (st :: sts) q2 :: hs) ((c, some j, ts) :: l)
section
variable {X : Cx} {bd : List Stmt} {h0 : ExceptHandler} {hs : List ExceptHandler} {l : List Clause} {p : Pos} {tb : WX → TS} {Wo : WX}
theorem ps_try_mix (e1 : X.stack = X.env :: X.outer) (e2 : X.env.frame = some X.env.locals) (nd : X.N.Nodup) (tk : Takes X Wo)
    (hb : ∀ (W : WX) (pn : List (Addr × Obj)) (xe : Value → Shared → Prop), Takes (X.tr pn xe) W → PassesOwn (model X.prog X.w) X.A X.env xe → PSs (X.tr pn xe) bd (tb W))
    (mo : MixOk X (h0 :: hs) l) : PS X (.Try bd (h0 :: hs) [] [] p) (fun D τ G => tb (wMix X.K Wo D l) D τ G) := by
  refine ⟨fun pins s0 τ G D J0 w0 => ?_⟩
  have ok := J0.ok
  have fr : X.A.frames = some (X.env :: X.outer) := ok.frames.trans (congrArg some e1)
  refine wpAny_Try_except (wpAny_mono ((hb (wMix X.K Wo D l) (X.pn ++ pins) (fun u t1 => wpAny (model X.prog X.w) X.A (noteFrame u X.env) (fun _ t2 => wpAny (model X.prog X.w) X.A (setFlight u none)
    (fun _ t3 => wpAny (model X.prog X.w) X.A (handleBy u X.env (h0 :: hs)) (SP X pins D) X.xe t3) X.xe t2) X.xe t1) (fun u t xx => ?_) PassesOwn.looking).run [] s0 τ G D (J0.toTry _) w0) (fun fl t sp => ?_) (fun u t hu => hu))
  · obtain ⟨e, B, sI, pins', τ', G', cl, d, rfl, J1, nb, up, sky, ne, os, ag, w⟩ := xx
    have J : Inv X pins τ' G' sI := J1.ofTry ok
    have sky' : Sky B (X.env :: X.outer) e (Zc cl d) X.env.locals t.heap := e1 ▸ sky
    show wpAny (model X.prog X.w) X.A (noteFrame (.ref e) X.env) _ _ _
    refine Sky.land Zc.steady fr e2 sky' fun g3 fl3 up3 => ?_
    have J3 : Inv X pins τ' G' { t with heap := g3 } := J.landed nb fl3.1 (up.trans up3) os ag
    obtain ⟨o3, vs3, at3, z3, f3⟩ := fl3.there
    have nfr : e ∉ frs (X.env :: X.outer) := fun hm => by
      obtain ⟨_, o', at', nn⟩ := fl3.2.2.1.mem hm
      cases at3.symm.trans at'
      exact nn _ f3
    have nL : e ≠ X.env.locals := fun z => nfr (List.mem_filterMap.mpr ⟨X.env, .head _, e2.trans (congrArg some z.symm)⟩)
    have nF : e ∉ X.fs := fun hm => by
      obtain ⟨v, hv, q⟩ := List.mem_filterMap.mp hm
      exact nfr (List.mem_filterMap.mpr ⟨v, .tail _ hv, q⟩)
    have S3 := J3.suite at3 f3 ne nL nF
    have LT : PySem.W.Looks (model X.prog X.w) g3 (typeOf (.ref e)) cl := fun A Q E s k q => wpAny_typeOf_ref (k _ _ at3) (z3.1 ▸ q)
    have test : ∀ {y : Str} {c : Value} {q1 : Pos} {Q E : Value → Shared → Prop}, Names X y c → Q c { t with heap := g3 } → wpAny (model X.prog X.w) (X.A.mark (some (.ref e))) (eval (.Name y q1) X.env) Q E { t with heap := g3 } := by
      intro y c q1 Q E hc q
      obtain ⟨gl, db, m | ⟨m, v, n⟩⟩ := hc
      · exact ld_glob (X := X.suite e ((e, o3) :: (X.pn ++ pins))) S3 gl m q db
      · exact ld_blt (X := X.suite e ((e, o3) :: (X.pn ++ pins))) S3 gl m v q n db
    have go : ∀ {hs' : List ExceptHandler} {l' : List Clause}, MixOk X hs' l' → wMix X.K Wo D l' cl d τ' G' →
        wpAny (model X.prog X.w) X.A (handleBy (.ref e) X.env hs') (SP X pins D) X.xe { t with heap := g3 } := by
      intro hs' l' hk
      induction hk with
      | nil =>
        intro wo
        refine wpAny_handleBy_nil ?_
        obtain ⟨_, _, _, oe, vs, T, oT, ts', at4, z4, f4, x1, x2⟩ := id fl3
        unfold PySem.passOn
        refine wpAny_bind (wpAny_field at4 f4 x1 ?_)
        rw [if_neg (show ¬ ((Value.ref T == Value.none) = true) by simp)]
        have last : wpAny (model X.prog X.w) X.A (setFlight (.ref e) X.env.frame) (fun _ t4 => wpAny (model X.prog X.w) X.A (throw (.ref e) : Sem Flow) (SP X pins D) X.xe t4) X.xe { t with heap := g3 } := by
          rw [e2]
          exact HandSPX.setFlight_upZ fl3 fun g4 sk4 up4 => wpAny_throw (tk _ _ ⟨e, B, sI, pins, τ', G', cl, d, rfl, J, nb, (up.trans up3).trans up4, .inr (.inr (e1.symm ▸ sk4)), ne, os, ag, wo⟩)
        first
          | exact wpAny_bind (wpAny_pure (wpAny_bind last))
          | exact wpAny_bind last
      | @bare y c ts st sts q1 q2 hs2 l2 hc su r ih =>
        rintro ⟨yes, m1, w1, w2⟩
        refine wpAny_handleBy_cons (codeAny_handlers_test (test hc ((PySem.W.exm_one (M := model X.prog X.w) J3.kIn LT m1).here ?_))) (by intro q; cases q)
        cases yes with
        | false => exact ih (w2 rfl)
        | true =>
          refine codeAny_handlers_suite (HandSPX.lands_againZ fl3 fun g4 fl4 up4 => ?_)
          have J4 : Inv X pins τ' G' { t with heap := g4 } := J.landed nb fl4.1 ((up.trans up3).trans up4) os ag
          obtain ⟨o4, vs4, at4, z4, f4⟩ := fl4.there
          refine wpAny_mono ((su e o4 cl d (X.pn ++ pins) z4 ⟨_, f4⟩).run [] _ _ G' _ (J4.suite at4 f4 ne nL nF) (w1 rfl e ne)) (fun fl t6 sp => ?_) (fun _ _ z => False.elim z)
          cases fl with
          | ret u => obtain ⟨v, τ6, G6, S6, r6, q6⟩ := sp; exact ⟨v, τ6, G6, S6.unsuite ok, r6, q6⟩
          | next => obtain ⟨τ6, G6, S6, q6⟩ := sp; exact ⟨τ6, G6, S6.unsuite ok, q6⟩
          | brk => obtain ⟨τ6, G6, S6, q6⟩ := sp; exact ⟨τ6, G6, S6.unsuite ok, q6⟩
          | cont => obtain ⟨τ6, G6, S6, q6⟩ := sp; exact ⟨τ6, G6, S6.unsuite ok, q6⟩
      | @named y n j c ts st sts q1 q2 hs2 l2 hc hj hl su r ih =>
        rintro ⟨yes, m1, w1, w2⟩
        refine wpAny_handleBy_cons (codeAny_handlers_test (test hc ((PySem.W.exm_one (M := model X.prog X.w) J3.kIn LT m1).here ?_))) (by intro q; cases q)
        cases yes with
        | false => exact ih (w2 rfl)
        | true =>
          refine codeAny_handlers_suite_as (HandSPX.lands_againZ fl3 fun g4 fl4 up4 => ?_)
          have J4 : Inv X pins τ' G' { t with heap := g4 } := J.landed nb fl4.1 ((up.trans up3).trans up4) os ag
          obtain ⟨o4, vs4, at4, z4, f4⟩ := fl4.there
          refine store_ok (X := X.suite e ((e, o4) :: (X.pn ++ pins))) (v := .ref e) (J4.suite at4 f4 ne nL nF) nd hj (.inl hl) rfl (fun t5 S5 => ?_) (.inr hl)
          refine wpAny_mono ((su e o4 cl d (X.pn ++ pins) z4 ⟨_, f4⟩).run [] t5 _ G' _ S5 (w1 rfl e ne)) (fun fl t6 sp => ?_) (fun _ _ z => False.elim z)
          cases fl with
          | ret u => obtain ⟨v, τ6, G6, S6, r6, q6⟩ := sp; exact gone_ok (S6.unsuite ok) nd hj hl fun t7 J7 => ⟨v, _, G6, J7, r6, q6⟩
          | next => obtain ⟨τ6, G6, S6, q6⟩ := sp; exact gone_ok (S6.unsuite ok) nd hj hl fun t7 J7 => ⟨_, G6, J7, q6⟩
          | brk => obtain ⟨τ6, G6, S6, q6⟩ := sp; exact gone_ok (S6.unsuite ok) nd hj hl fun t7 J7 => ⟨_, G6, J7, q6⟩
          | cont => obtain ⟨τ6, G6, S6, q6⟩ := sp; exact gone_ok (S6.unsuite ok) nd hj hl fun t7 J7 => ⟨_, G6, J7, q6⟩
    exact go mo w
  · cases fl with
    | ret u => obtain ⟨v, τ', G', J', r, q⟩ := sp; exact ⟨v, τ', G', J'.ofTry ok, r, q⟩
    | next => obtain ⟨τ', G', J', q⟩ := sp; exact wpAny_execs_nil ⟨τ', G', J'.ofTry ok, q⟩
    | brk => obtain ⟨τ', G', J', q⟩ := sp; exact ⟨τ', G', J'.ofTry ok, q⟩
    | cont => obtain ⟨τ', G', J', q⟩ := sp; exact ⟨τ', G', J'.ofTry ok, q⟩
end
end L2

set_option Elab.async false
set_option linter.all false
set_option maxRecDepth 100000
set_option maxHeartbeats 4000000
namespace T1
open PySem PySem.Spec PyProof.Rows L2 C8
local macro_rules | `(tactic| walk_at "hf") => `(tactic| (fail_if_success (show (fun _ => none : Hp) _ = _)); first | assumption | with_reducible exact upd_same | ((with_reducible show upd _ _ _ _ = _); first | exact up_new' (by assumption) (by walk_at "hf") | exact up_set (by walk_at "ne") (by walk_at "hf")) | exact Same.at' (by assumption) (by walk_at "hf") | exact But.at' (by assumption) (by walk_at "ne") (by walk_at "ne") (by walk_at "hf"))
local macro_rules | `(tactic| walk_at "hf0") => `(tactic| (fail_if_success (show (fun _ => none : Hp) _ = _)); first | assumption | with_reducible exact upd_same | ((with_reducible show upd _ _ _ _ = _); exact up_new' (by assumption) (by walk_at "hf0")))
local macro_rules | `(tactic| walk_at "ne") => `(tactic| first | assumption | (apply Ne.symm; assumption) | exact ne_of_none' (by assumption) (by walk_at "hf0") | exact Ne.symm (ne_of_none' (by assumption) (by walk_at "hf0")) | exact LSt.f1 (by assumption) (by walk_at "lst") | exact LSt.f2 (by assumption) (by walk_at "lst"))
local macro_rules | `(tactic| walk_at "sqt") => `(tactic| (fail_if_success (show SqT _ (fun _ => none) _ _)); first | assumption | exact SqT.of' (by walk_at "hf") | ((with_reducible show SqT _ (upd _ _ _) _ _); first | exact SqT.new' (by assumption) (by walk_at "sqt") | exact SqT.put' (by walk_at "hf") (by walk_at "sqt")) | exact Same.tup (by assumption) (by walk_at "sqt") | exact But.tup (by assumption) (by walk_at "lst") (by walk_at "sqt"))
local macro_rules | `(tactic| walk_at "sql") => `(tactic| (fail_if_success (show SqL _ (fun _ => none) _ _)); first | assumption | exact SqL.of' (by walk_at "hf") | ((with_reducible show SqL _ (upd _ _ _) _ _); exact SqL.new' (by assumption) (by walk_at "sql")) | exact Same.sql' (by assumption) (by walk_at "sql"))
local macro_rules | `(tactic| walk_at "lst") => `(tactic| (fail_if_success (show LSt (fun _ => none) _ _)); first | assumption | ((with_reducible show LSt (upd _ _ _) _ _); first | exact LSt.new (by walk_at "lst") (by assumption) | exact LSt.put (by walk_at "lst") (by walk_at "ne") (by walk_at "ne")) | exact LSt.same' (by assumption) (by walk_at "lst"))
local macro_rules | `(tactic| walk_at "but") => `(tactic| first | assumption | exact But.refl _ _ _ | ((with_reducible show But _ _ _ (upd _ _ _)); exact But.nw (by assumption) (by walk_at "but")) | exact But.bu (by assumption) (by walk_at "but") | exact But.sm (by assumption) (by walk_at "but"))
local macro_rules | `(tactic| walk_at "ls") => `(tactic| first | assumption | exact Ls.same (by walk_at "ls") (Same.upd' (by assumption)))
local macro_rules | `(tactic| walk_at "ll") => `(tactic| first | assumption | exact LL.same (by walk_at "ll") (Same.upd' (by assumption)) | exact LL.same' (by assumption) (by walk_at "ll") | exact LL.but' (by assumption) (by walk_at "lst") (by walk_at "ll"))
local macro_rules | `(tactic| walk_at "sm") => `(tactic| first | assumption | exact Same.refl _ | ((with_reducible show Same _ (upd _ _ _)); first | exact Same.put' (by assumption) (by walk_at "sm") | exact Same.trans (by walk_at "sm") (Same.upd' (by assumption))) | exact Same.trans (by walk_at "sm") (by assumption))
/-- one step of a reading -/
local macro_rules | `(tactic| walk_at "rd") => `(tactic| first
  | with_reducible refine iteF ?_
  | with_reducible refine iteT ?_
  | with_reducible refine itNotF ?_
  | with_reducible refine itNotT ?_
  | refine ⟨_, rfl, ?_⟩
  | refine ⟨_, _, rfl, rfl, ?_⟩
  | refine ⟨_, _, rfl, ?_⟩
  | refine ⟨(_ : Addr), (_ : List V), (_ : Int), (_ : V), rfl, rfl, SqL.of' (by walk_at "hf"), (by first | assumption | rfl), ?_⟩
  | refine ⟨(_ : Addr), (_ : List V), (_ : Int), (_ : V), rfl, rfl, (by walk_at "sqt" : SqT _ _ _ _), (by first | assumption | rfl), ?_⟩
  | refine .inl ⟨_, rfl, ?_⟩
  | refine ⟨_, _, rfl, .inl (by walk_at "sql" : SqL _ _ _ _), ?_⟩
  | refine ⟨_, _, rfl, .inl ⟨(by walk_at "sql" : SqL _ _ _ _), fun p hp => ?_⟩⟩
  | refine ⟨_, _, rfl, .inr ⟨(by walk_at "sqt" : SqT _ _ _ _), ?_⟩⟩
  | refine fun (p : Addr) (hp : (_ : Hp) p = none) => ?_
  | refine ⟨_, _, rfl, .inr (by walk_at "sqt" : SqT _ _ _ _), ?_⟩
  | refine And.intro (by show _ ≤ sizeLine; first | decide | walk_at "sz") (fun p hp => ?_)
  | refine ⟨(_ : Addr), (_ : Addr), (_ : List V), (_ : List V), rfl, rfl, (by walk_at "hf"), (by walk_at "hf"), (by walk_at "sz"), fun p hp => ?_⟩
  | refine ⟨(_ : Addr), (_ : Addr), (_ : List V), (_ : List V), rfl, rfl, (by walk_at "hf"), (by walk_at "hf"), (by walk_at "sz"), ?_⟩
  | refine ⟨(_ : Addr), (_ : List V), (_ : Int), (_ : Nat), rfl, rfl, (by walk_at "hf"), (by rfl), ?_⟩
  | refine And.intro ⟨_, (by walk_at "sql" : SqL _ _ _ _)⟩ ?_
  | refine And.intro ⟨_, (by walk_at "sqt" : SqT _ _ _ _)⟩ ?_
  | refine And.intro (.inl ⟨rfl, _, SqL.of' (by walk_at "hf")⟩) ?_
  | refine And.intro (by walk_at "cond") ?_
  | exact .inl ⟨rfl, _, SqL.of' (by walk_at "hf")⟩
  | with_reducible refine iteT ?_
  | with_reducible refine iteF ?_
  | refine And.intro (by rfl : scal _ _ = true) ?_
  | refine And.intro (by rfl : _ = V.non) ?_
  | refine And.intro (by rfl : wipe _ _ = wipe _ _) ?_
  | refine And.intro (by rfl : (_ : List V) = []) ?_
  | refine ⟨(_ : Addr), (_ : List V), rfl, (by walk_at "sqt" : SqT _ _ _ _), (by rfl), ?_⟩)
/-- a test: known, or both ways -/
local macro_rules | `(tactic| walk_at "if") => `(tactic| first
  | with_reducible refine itD (by omega) ?_
  | with_reducible refine itN (by omega) ?_
  | with_reducible refine itnD (by omega) ?_
  | with_reducible refine itnN (by omega) ?_
  | with_reducible refine itE (by omega) ?_
  | with_reducible refine itEn (by omega) ?_
  | with_reducible refine itnE (by omega) ?_
  | with_reducible refine itnEn (by omega) ?_
  | with_reducible refine itN (by intro z; cases z) ?_
  | with_reducible refine itD (by decide) ?_
  | with_reducible refine itN (by decide) ?_
  | with_reducible refine itnD (by decide) ?_
  | with_reducible refine itnN (by decide) ?_)
local macro_rules | `(tactic| walk_at "if2") => `(tactic| first
  | with_reducible refine itS (fun z => ?_) (fun z => ?_)
  | with_reducible refine itS' (fun z => ?_) (fun z => ?_)
  | with_reducible refine itSE (fun z => ?_) (fun z => ?_)
  | with_reducible refine itnS (fun z => ?_) (fun z => ?_)
  | with_reducible refine itnS' (fun z => ?_) (fun z => ?_)
  | with_reducible refine itnSE (fun z => ?_) (fun z => ?_))
local macro_rules | `(tactic| walk_at "go") => `(tactic| repeat' (first | walk_at "rd" | walk_at "if" | walk_at "if2" | fail))
local macro_rules | `(tactic| walk_at "sz") => `(tactic| (rw [sizeLine_eq]; simp only [List.length_append, List.length_map, List.length_cons, List.length_nil]; omega))
local macro_rules | `(tactic| walk_at "cond") => `(tactic| first | assumption | (show (_ : Int) ≠ 0; first | omega | (split <;> omega)) | (show (0 : Int) < _; first | assumption | decide) | exact ⟨by decide, by decide, by decide⟩ | exact .inr ⟨by decide, by decide⟩ | exact wide_div (b := 64) (by assumption) (by omega) (by decide) (by decide) | exact ⟨by decide, by decide⟩)


/-! ### what the catcher makes of a call -/
structure Errs2 (K : PySem.W.Frag) (mg : Str → Option Value) (CN CX : Addr) : Prop where
  gN : mg "InvalidCount" = some (.ref CN)
  gX : mg "InvalidData" = some (.ref CX)
  nn : PySem.W.exmOne K (.ref CN) (.ref CN) = some true
  xn : PySem.W.exmOne K (.ref CX) (.ref CN) = some false
  xx : PySem.W.exmOne K (.ref CX) (.ref CX) = some true
  xf : XfC K CX
  nR : PySem.W.findIn K (.ref CX) "offset" = some none
def ErrOf2 (K : PySem.W.Frag) (CN CX : Addr) (Q : VK) : XK := fun cls d H' =>
  (cls = .ref CN ∧ ∀ b H'', Same H' H'' → SqT K H'' b [.str "InvalidCount"] → Q (.ref b) H'') ∨
  (cls = .ref CX ∧ ∃ dd i, d = some dd ∧ H' dd = some (.xd (ixF i)) ∧ ∀ b H'', Same H' H'' → SqT K H'' b [.str "InvalidData", .int i] → Q (.ref b) H'')
def TTout (K : PySem.W.Frag) (CN CX : Addr) : (XK → Hp → VK → Prop) → Hp → VK → Prop := fun tl H Q => tl (ErrOf2 K CN CX Q) H Q
def TCall2 (f c' : Addr) (q : Str) (tl : XK → Hp → VK → Prop) : WX → TS := fun W D σ H =>
  ∃ Ech : XK, (∀ cls d σ' H', Ech cls d H' → W cls d σ' H') ∧ σ[0]? = some (some (.ref f)) ∧ H c' = some (LamX.CodeO c' q) ∧ tl Ech H D.rt
def TSn (K : PySem.W.Frag) (CN : Addr) : Addr → Value → Option Addr → TS := fun _ _ _ D _ H => ∀ b H'', Same H H'' → SqT K H'' b [.str "InvalidCount"] → D.rt (.ref b) H''
def TSx (K : PySem.W.Frag) (CX : Addr) : Addr → Value → Option Addr → TS := fun a cls d D σ H => cls = .ref CX ∧ ∃ (τ : L2.St) (dd : Addr) (i : Int), σ = τ.set 1 (some (.ref a)) ∧ d = some dd ∧ H dd = some (.xd (ixF i)) ∧ ∀ b H'', Same H H'' → SqT K H'' b [.str "InvalidData", .int i] → D.rt (.ref b) H''
theorem scOutc : FnScope ["_law_work", "e"] ["_law_work"] (fnScope sOutc) := fnScope_by (by decide +kernel)
theorem outc_gives {X : Cx} {g CN CX : Addr} {cdg : Value} {q : Str} (T1 : Errs2 X.K X.mg CN CX) :
    LamX.GivesTo X ["_law_work", "e"] "_law_outcome" (fnScope sOutc) g cdg (fnBody sOutc) "_law_work" q (TTout X.K CN CX) := by
  intro f c' s H Q tl act hc h
  let X0 : Cx := (cxOf C8.CX0 X.prog X.w X.K X.mg X.base ["_law_work", "e"] "_law_outcome" (fnScope sOutc) g cdg X.A X.stack s H C8.E0).nox
  refine ⟨_, pss_one (ps_try_mix (X := X0) (l := [(.ref CN, none, TSn X.K CN), (.ref CX, some 1, TSx X.K CX)]) (tb := TCall2 f c' q tl) (Wo := fun _ _ _ _ => False) rfl rfl scOutc.nd LamX.takes0 (fun W pn xe tk _ => ?_)
    (.bare ⟨rfl, by decide, .inl T1.gN⟩ (fun a oe cls d pn hz hf => ?_) (.named (n := "e") (j := 1) ⟨rfl, by decide, .inl T1.gX⟩ rfl rfl (fun a oe cls d pn hz hf => ?_) .nil))), ?_⟩
  · refine ⟨fun pins s1 σ H1 D I h1 => ?_⟩
    obtain ⟨Ech, hW, e1, e2, e3⟩ := h1
    exact (pss_one (ps_ret (act W pn xe Ech _ _ tk hW))).run pins s1 σ H1 D I ⟨e1, e2, e3⟩
  · refine ⟨fun pins s1 σ H1 D I k => (pss_one (ps_ret (pe_tup (pa_cons pe_str pa_nil)))).run pins s1 σ H1 D I ?_⟩
    walk_at "go"
    exact k _ _ (by walk_at "sm") (SqT.of' upd_same)
  · refine ⟨fun pins s1 σ H1 D I h1 => ?_⟩
    obtain ⟨rfl, τ, dd, i, rfl, rfl, hdd, k⟩ := h1
    have two : τ.length = 2 := (List.length_set ..).symm.trans I.len
    match τ, two with
    | [v0, _], _ =>
      refine (pss_one (ps_ret (pe_tup (pa_cons pe_str (pa_cons (pe_xf (X := X0) T1.xf T1.nR hz hf (pv 1)) pa_nil))))).run pins s1 _ H1 D I ?_
      walk_at "go"
      exact ⟨rfl, rfl, dd, ixF i, .int i, rfl, hdd, rfl, by rw [sizeLine_eq]; exact (by decide : 2 ≤ 16777216), fun p hp => k p _ (by walk_at "sm") (SqT.of' upd_same)⟩
  · refine ⟨ErrOf2 X.K CN CX Q, fun cls d σ H1 h1 => ?_, rfl, hc, h⟩
    rcases h1 with ⟨rfl, k⟩ | ⟨rfl, dd, i, rfl, hdd, k⟩
    · exact ⟨true, T1.nn, fun _ a ha => k, fun z => Bool.noConfusion z⟩
    · refine ⟨false, T1.xn, (fun z => Bool.noConfusion z), fun _ => ⟨true, T1.xx, fun _ a ha => ⟨rfl, σ, dd, i, rfl, rfl, hdd, k⟩, fun z => Bool.noConfusion z⟩⟩
/-! ### the catcher with a lambda, said of trees -/
section
open Fm
def tabsAre (Pt : Addr) (q : Str) (M : Mem) : Prop := ∀ o ∈ M, ∀ P' q', o = O.tab P' q' → P' = Pt ∧ q' = q
theorem tabsAre.at {Pt : Addr} {q : Str} {M : Mem} {n : Nat} {P' : Addr} {q' : Str} (h : tabsAre Pt q M) (e : M[n]? = some (.tab P' q')) : P' = Pt ∧ q' = q := h _ (List.mem_of_getElem? e) _ _ rfl
theorem tabs_nt {Pt : Addr} {q : Str} {M : Mem} (h : ntab M = true) : tabsAre Pt q M := fun o ho P' q' e => by
  have := List.all_eq_true.mp h o ho
  rw [e] at this
  cases this
theorem tabs_app {Pt : Addr} {q : Str} {M N : Mem} (h : tabsAre Pt q M) (h2 : tabsAre Pt q N) : tabsAre Pt q (M ++ N) := fun o ho => (List.mem_append.mp ho).elim (h o) (h2 o)
theorem tabs_sm {Pt : Addr} {q : Str} {d : Ds} {g : Mem} (h : ntab g = true) : tabsAre Pt q (sm d (O.tab Pt q :: g)) := fun o ho P' q' e => by
  rcases List.mem_cons.mp ho with rfl | ho
  · cases e
  · rcases List.mem_cons.mp ho with rfl | ho
    · cases e
      exact ⟨rfl, rfl⟩
    · exact tabs_nt h o ho P' q' e
def outX (CN CX : Addr) (P : PF) : PXF := fun C fs M' => (C = CN ∧ fs = [] ∧ P (.tup [.str "InvalidCount"]) M') ∨ (C = CX ∧ ∃ i, fs = ixT i ∧ P (.tup [.str "InvalidData", .int i]) M')
def fOut (CN CX Pt : Addr) (q : Str) (fb : PXF → FE) : FE := fun L M P => ∃ n : Nat, M[n]? = some (O.tab Pt q) ∧ tabsAre Pt q M ∧ fb (outX CN CX P) L M P
variable {K : PySem.W.Frag} {B : Bs} {H H1 : Hp} {ρ : List Addr} {M : Mem} {CN CX Pt : Addr} {q : Str}
theorem sqT_ext (e : LamX.ExtN H H1) {a : Addr} {xs : List V} (h : SqT K H a xs) : SqT K H1 a xs := by
  rcases h with (h | ⟨u, h⟩) | h
  · exact .inl (.inl (e _ _ h fun ps z => nomatch z))
  · exact .inl (.inr ⟨u, e _ _ h fun ps z => nomatch z⟩)
  · exact .inr h
theorem ext_grow (e : LamX.ExtN H H1) (T : LamX.TabS H1 Pt q) (ta : tabsAre Pt q M) (m : RM K H ρ M) : Grow K H ρ H1 ρ ∧ RM K H1 ρ M := by
  have g : Grow K H ρ H1 ρ := ⟨⟨[], by simp⟩, fun _ _ t => sqT_ext e t, fun a o h _ nt => e a o h nt, fun _ h n => absurd h n, fun c q i h => e _ _ h fun ps z => i.ne.2.2.2.1 _ z⟩
  refine ⟨g, m.len, fun k o ek => ?_, m.nd⟩
  obtain ⟨a, h1, h2⟩ := m.at_ k o ek
  refine ⟨a, h1, ?_⟩
  cases o with
  | tab P' q' =>
    obtain ⟨rfl, _⟩ := h2
    obtain ⟨rfl, rfl⟩ := ta.at ek
    exact ⟨rfl, T⟩
  | lst ts => exact h2.mono g (by obtain ⟨xs, z, _⟩ := h2; rw [z]; exact e _ _ z (fun ps y => nomatch y)) fun d z => e _ _ z (fun ps y => nomatch y)
  | ins C fs => exact h2.mono g (by obtain ⟨dx, gs, z, _⟩ := h2; rw [z]; exact e _ _ z (fun ps y => nomatch y)) fun d z => e _ _ z (fun ps y => nomatch y)
  | scr ns k m r => exact h2.mono g (by obtain ⟨s, z, _⟩ := h2; rw [z]; exact e _ _ z (fun ps y => nomatch y)) fun d z => e _ _ z (fun ps y => nomatch y)
  | dic ps => exact h2.mono g (by obtain ⟨kvs, z, _⟩ := h2; rw [z]; exact e _ _ z (fun ps y => nomatch y)) fun d z => e _ _ z (fun ps y => nomatch y)
theorem xr_ix {i : Int} {d : Option Addr} (x : XR K H ρ (ixT i) d) : ∃ dd, d = some dd ∧ H dd = some (.xd (ixF i)) := by
  rcases x with ⟨x, _⟩ | ⟨dd, gs, rfl, h, y1, r1, rfl, h1, rfl⟩
  · cases x
  · rw [h1.int_inv] at h
    exact ⟨dd, rfl, h⟩
theorem sim_out {t : XK → TE} {fb : PXF → FE} (s : ∀ (B : Bs) (E : XK) (PX : PXF), OutX K B.1 B.2 PX E → SimE K B (t E) (fb PX)) : SimE K B (LamX.tLam [(Pt, q)] (TTout K CN CX) t) (fOut CN CX Pt q fb) := ⟨fun {σ H ρ L M P Q} hl hm h o => by
  obtain ⟨n, hn, ta, h⟩ := h
  obtain ⟨a, h1, rfl, hT⟩ := hm.at_ n _ hn
  refine ⟨fun p hp => by rw [List.mem_singleton.mp hp]; exact hT, fun H1 e1 T1 => ?_⟩
  obtain ⟨g1, m1⟩ := ext_grow e1 (T1 (a, q) (List.mem_singleton.mpr rfl)) ta hm
  have hE : OutX K H1 ρ (outX CN CX P) (ErrOf2 K CN CX Q) := fun C fs d H' ρ' M' g m x p => by
    rcases p with ⟨rfl, rfl, p1⟩ | ⟨rfl, i, rfl, p1⟩
    · refine .inl ⟨rfl, fun b H'' sm sq => ?_⟩
      obtain ⟨g2, m2⟩ := same_grow sm m
      exact o _ _ _ _ _ ((g1.trans g).trans g2) m2 (by unfold RT; exact ⟨b, _, rfl, sq, RTs.cons RT.str_ RTs.nil⟩) p1
    · obtain ⟨dd, rfl, hdd⟩ := xr_ix x
      refine .inr ⟨rfl, dd, i, rfl, hdd, fun b H'' sm sq => ?_⟩
      obtain ⟨g2, m2⟩ := same_grow sm m
      exact o _ _ _ _ _ ((g1.trans g).trans g2) m2 (by unfold RT; exact ⟨b, _, rfl, sq, RTs.cons RT.str_ (RTs.cons RT.int_ RTs.nil)⟩) p1
  exact (s (H1, ρ) _ _ hE).run ⟨(hl.mono g1).rl, Grow.refl⟩ m1 h (o.step g1)⟩
end
end T1

set_option Elab.async false
set_option linter.all false
set_option maxRecDepth 100000
set_option maxHeartbeats 4000000
namespace T1
open PySem PySem.Spec PyProof.Rows L2 C8 Fm T3
local macro_rules | `(tactic| walk_at "hf") => `(tactic| (fail_if_success (show (fun _ => none : Hp) _ = _)); first | assumption | with_reducible exact upd_same | ((with_reducible show upd _ _ _ _ = _); first | exact up_new' (by assumption) (by walk_at "hf") | exact up_set (by walk_at "ne") (by walk_at "hf")) | exact Same.at' (by assumption) (by walk_at "hf") | exact But.at' (by assumption) (by walk_at "ne") (by walk_at "ne") (by walk_at "hf"))
local macro_rules | `(tactic| walk_at "hf0") => `(tactic| (fail_if_success (show (fun _ => none : Hp) _ = _)); first | assumption | with_reducible exact upd_same | ((with_reducible show upd _ _ _ _ = _); exact up_new' (by assumption) (by walk_at "hf0")))
local macro_rules | `(tactic| walk_at "ne") => `(tactic| first | assumption | (apply Ne.symm; assumption) | exact ne_of_none' (by assumption) (by walk_at "hf0") | exact Ne.symm (ne_of_none' (by assumption) (by walk_at "hf0")) | exact LSt.f1 (by assumption) (by walk_at "lst") | exact LSt.f2 (by assumption) (by walk_at "lst"))
local macro_rules | `(tactic| walk_at "sqt") => `(tactic| (fail_if_success (show SqT _ (fun _ => none) _ _)); first | assumption | exact SqT.of' (by walk_at "hf") | ((with_reducible show SqT _ (upd _ _ _) _ _); first | exact SqT.new' (by assumption) (by walk_at "sqt") | exact SqT.put' (by walk_at "hf") (by walk_at "sqt")) | exact Same.tup (by assumption) (by walk_at "sqt") | exact But.tup (by assumption) (by walk_at "lst") (by walk_at "sqt"))
local macro_rules | `(tactic| walk_at "sql") => `(tactic| (fail_if_success (show SqL _ (fun _ => none) _ _)); first | assumption | exact SqL.of' (by walk_at "hf") | ((with_reducible show SqL _ (upd _ _ _) _ _); exact SqL.new' (by assumption) (by walk_at "sql")) | exact Same.sql' (by assumption) (by walk_at "sql"))
local macro_rules | `(tactic| walk_at "lst") => `(tactic| (fail_if_success (show LSt (fun _ => none) _ _)); first | assumption | ((with_reducible show LSt (upd _ _ _) _ _); first | exact LSt.new (by walk_at "lst") (by assumption) | exact LSt.put (by walk_at "lst") (by walk_at "ne") (by walk_at "ne")) | exact LSt.same' (by assumption) (by walk_at "lst"))
local macro_rules | `(tactic| walk_at "but") => `(tactic| first | assumption | exact But.refl _ _ _ | ((with_reducible show But _ _ _ (upd _ _ _)); exact But.nw (by assumption) (by walk_at "but")) | exact But.bu (by assumption) (by walk_at "but") | exact But.sm (by assumption) (by walk_at "but"))
local macro_rules | `(tactic| walk_at "ls") => `(tactic| first | assumption | exact Ls.same (by walk_at "ls") (Same.upd' (by assumption)))
local macro_rules | `(tactic| walk_at "ll") => `(tactic| first | assumption | exact LL.same (by walk_at "ll") (Same.upd' (by assumption)) | exact LL.same' (by assumption) (by walk_at "ll") | exact LL.but' (by assumption) (by walk_at "lst") (by walk_at "ll"))
local macro_rules | `(tactic| walk_at "sm") => `(tactic| first | assumption | exact Same.refl _ | ((with_reducible show Same _ (upd _ _ _)); first | exact Same.put' (by assumption) (by walk_at "sm") | exact Same.trans (by walk_at "sm") (Same.upd' (by assumption))) | exact Same.trans (by walk_at "sm") (by assumption))
/-- one step of a reading -/
local macro_rules | `(tactic| walk_at "rd") => `(tactic| first
  | with_reducible refine iteF ?_
  | with_reducible refine iteT ?_
  | with_reducible refine itNotF ?_
  | with_reducible refine itNotT ?_
  | refine ⟨_, rfl, ?_⟩
  | refine ⟨_, _, rfl, rfl, ?_⟩
  | refine ⟨_, _, rfl, ?_⟩
  | refine ⟨(_ : Addr), (_ : List V), (_ : Int), (_ : V), rfl, rfl, SqL.of' (by walk_at "hf"), (by first | assumption | rfl), ?_⟩
  | refine ⟨(_ : Addr), (_ : List V), (_ : Int), (_ : V), rfl, rfl, (by walk_at "sqt" : SqT _ _ _ _), (by first | assumption | rfl), ?_⟩
  | refine .inl ⟨_, rfl, ?_⟩
  | refine ⟨_, _, rfl, .inl (by walk_at "sql" : SqL _ _ _ _), ?_⟩
  | refine ⟨_, _, rfl, .inl ⟨(by walk_at "sql" : SqL _ _ _ _), fun p hp => ?_⟩⟩
  | refine ⟨_, _, rfl, .inr ⟨(by walk_at "sqt" : SqT _ _ _ _), ?_⟩⟩
  | refine fun (p : Addr) (hp : (_ : Hp) p = none) => ?_
  | refine ⟨_, _, rfl, .inr (by walk_at "sqt" : SqT _ _ _ _), ?_⟩
  | refine And.intro (by show _ ≤ sizeLine; first | decide | walk_at "sz") (fun p hp => ?_)
  | refine ⟨(_ : Addr), (_ : Addr), (_ : List V), (_ : List V), rfl, rfl, (by walk_at "hf"), (by walk_at "hf"), (by walk_at "sz"), fun p hp => ?_⟩
  | refine ⟨(_ : Addr), (_ : Addr), (_ : List V), (_ : List V), rfl, rfl, (by walk_at "hf"), (by walk_at "hf"), (by walk_at "sz"), ?_⟩
  | refine ⟨(_ : Addr), (_ : List V), (_ : Int), (_ : Nat), rfl, rfl, (by walk_at "hf"), (by rfl), ?_⟩
  | refine And.intro ⟨_, (by walk_at "sql" : SqL _ _ _ _)⟩ ?_
  | refine And.intro ⟨_, (by walk_at "sqt" : SqT _ _ _ _)⟩ ?_
  | refine And.intro (.inl ⟨rfl, _, SqL.of' (by walk_at "hf")⟩) ?_
  | refine And.intro (by walk_at "cond") ?_
  | exact .inl ⟨rfl, _, SqL.of' (by walk_at "hf")⟩
  | with_reducible refine iteT ?_
  | with_reducible refine iteF ?_
  | refine And.intro (by rfl : scal _ _ = true) ?_
  | refine And.intro (by rfl : _ = V.non) ?_
  | refine And.intro (by rfl : wipe _ _ = wipe _ _) ?_
  | refine And.intro (by rfl : (_ : List V) = []) ?_
  | refine ⟨(_ : Addr), (_ : List V), rfl, (by walk_at "sqt" : SqT _ _ _ _), (by rfl), ?_⟩)
/-- a test: known, or both ways -/
local macro_rules | `(tactic| walk_at "if") => `(tactic| first
  | with_reducible refine itD (by omega) ?_
  | with_reducible refine itN (by omega) ?_
  | with_reducible refine itnD (by omega) ?_
  | with_reducible refine itnN (by omega) ?_
  | with_reducible refine itE (by omega) ?_
  | with_reducible refine itEn (by omega) ?_
  | with_reducible refine itnE (by omega) ?_
  | with_reducible refine itnEn (by omega) ?_
  | with_reducible refine itN (by intro z; cases z) ?_
  | with_reducible refine itD (by decide) ?_
  | with_reducible refine itN (by decide) ?_
  | with_reducible refine itnD (by decide) ?_
  | with_reducible refine itnN (by decide) ?_)
local macro_rules | `(tactic| walk_at "if2") => `(tactic| first
  | with_reducible refine itS (fun z => ?_) (fun z => ?_)
  | with_reducible refine itS' (fun z => ?_) (fun z => ?_)
  | with_reducible refine itSE (fun z => ?_) (fun z => ?_)
  | with_reducible refine itnS (fun z => ?_) (fun z => ?_)
  | with_reducible refine itnS' (fun z => ?_) (fun z => ?_)
  | with_reducible refine itnSE (fun z => ?_) (fun z => ?_))
local macro_rules | `(tactic| walk_at "go") => `(tactic| repeat' (first | walk_at "rd" | walk_at "if" | walk_at "if2" | fail))
local macro_rules | `(tactic| walk_at "sz") => `(tactic| (rw [sizeLine_eq]; simp only [List.length_append, List.length_map, List.length_cons, List.length_nil]; omega))
local macro_rules | `(tactic| walk_at "cond") => `(tactic| first | assumption | (show (_ : Int) ≠ 0; first | omega | (split <;> omega)) | (show (0 : Int) < _; first | assumption | decide) | exact ⟨by decide, by decide, by decide⟩ | exact .inr ⟨by decide, by decide⟩ | exact wide_div (b := 64) (by assumption) (by omega) (by decide) (by decide) | exact ⟨by decide, by decide⟩)


local macro_rules | `(tactic| walk_at "sim1") => `(tactic| with_reducible first
  | exact sim_nil | exact sim_var | exact sim_int | exact sim_str | exact sim_bl | exact sim_non | exact sim_raw
  | apply sim_cons | apply sim_op | apply sim_un | apply sim_tup | apply sim_lst
  | apply sim_CB | apply sim_if | apply sim_test | apply sim_B | apply sim_not | apply sim_and | apply sim_or
  | apply sim_andV | apply sim_orV | apply sim_notV | apply sim_chain | exact sim_nopart | apply sim_part
  | apply sim_sl | apply sim_BML | apply sim_BMS | apply sim_BM0S | apply sim_M1 | apply sim_M0
  | apply sim_fmt | apply sim_joined | exact SimJ.nil | apply SimJ.cons
  | exact s_I0i | exact s_I0b | exact s_Ii | exact s_Ui | exact s_eq | exact s_ne | exact s_isN | exact s_notN | exact s_ixL | exact s_ixT | exact s_ixS
  | exact s_cat | exact s_catA | exact s_rep | exact s_repT | exact s_in | exact s_slL | exact s_slA | exact s_slS | exact s_addS | exact s_leS | exact s_ltS
  | exact c_len | exact c_lenS | exact c_list | exact c_tuple | exact c_int1 | exact c_intS | exact c_strI | exact c_max2 | exact c_min2
  | exact m_append | exact m_extend | exact m_split | exact m_join | exact m_0b | exact m_1b
  | apply sim_call | exact simSpF
  | exact sim_name | exact sim_gnil | apply sim_gcons | apply sim_gtup | apply sim_gsub | exact set_list
  | exact sim_next | apply sim_seq | apply sim_cut | exact sim_break | exact sim_cont | apply sim_drop | apply sim_ret | exact sim_retN
  | apply sim_ifS | exact sim_never | apply sim_asg | apply sim_par | apply sim_aug
  | apply sim_for | apply sim_while | apply i_list | apply i_tup | apply i_rng1 | apply i_rng2 | apply i_str | apply i_enum | apply i_zip
  | apply sim_lc | exact sim_yes | exact sim_namew (by decide) | exact sim_gnilw | apply sim_gconsw | apply sim_gtupw
  | apply sim_fld | apply sim_con | apply sim_setFld | apply sim_make | apply sim_prop | apply sim_meth | apply sim_cmeth | exact c_isi | apply sim_isiT | exact s_eqD | exact s_neD
  | walk_at "sim2")
local macro_rules | `(tactic| walk_at "sim2") => `(tactic| fail)
local macro_rules | `(tactic| walk_at "sim") => `(tactic| repeat' (walk_at "sim1"))
/-- open the trees' reading as far as it goes by itself -/
local macro_rules | `(tactic| walk_at "fm") => `(tactic| simp (config := { failIfUnchanged := false }) only [fVar, fC, fOp, fUn, fNil, fCons, fTup, fLst, fCB, fIf, fTest, fNot, fAnd, fOr, fAndV, fOrV, fNotV, fChain, fNoPart, fPart, fI, fI0, fU, fEq, fNe, fIsN, fNotN, fIxL, fIxT, fIxS,
  fCat, fCatA, fRep, fRepT, fSlL, fSlA, fSlS, fSl, fLen, fLenS, fList, fTuple, fIntS, fStrI, fMax2, fMin2, fAppend, fExtend, fIn, fBM, fMS, fBMS, fBM0S, fAddS, fLeS, fLtS, fM0b, fM1b, fSplit, fJoin, fJoined, fJs,
  fName, fGNil, fGCons, fGTup, fSetL, fGSub, fNext, fSeq, fCut, fBreak, fCont, fDrop, fRet, fRetN, fIfS, fAsg, fPar, fAug, fCall, fFld, fCon, fSetFld, fMake, fProp, fMeth, fCMeth, fIsi, fIsiT, fEqD, fNeD, insAt_ref, insO_ins, fFmt, fmtS_i, fmtS_s, fmtOk_i, fmtOk_s, fIL, fIT, fIR1, fIR2, fIS, fIEn, fIZ,
  startL, List.map_cons, List.map_nil, List.length_cons, List.length_nil, List.cons_append, List.nil_append, List.replicate, List.getElem?_cons_zero, List.getElem?_cons_succ, List.set_cons_zero, List.set_cons_succ, Nat.reduceSub, Nat.reduceAdd,
  Option.some.injEq, Tr.int.injEq, Tr.str.injEq, Tr.bl.injEq, Tr.tup.injEq, Tr.ref.injEq, List.cons.injEq, exists_eq_left, exists_eq_left', exists_eq_right, true_and, and_true, and_self, exists_and_left, tupOf_tup, eqS_ii, eqS_ss, eqS_bb, eqS_ni, eqS_in, eqS_nn, isStr_s, isN_n, isN_i, isN_b, isN_s, isN_t, isN_r, noRaw_n, noRaw_i, noRaw_b, noRaw_s, noRaw_t, noRaw_r, and_assoc, reduceIte, Bool.false_eq_true, exists_const, lstAt_ref, seqAt_ref, seqAt_tup, refAt_ref, lstO_lst, app_assoc2, len_app1, at_kk, at_00, set_k, set_00, Nat.add_assoc, Option.map_some, Prod.mk.injEq, int_cast_inj, Nat.zero_le, decide_eq_true_eq, Bool.not_eq_true', decide_eq_false_iff_not, Nat.add_zero, implies_true, forall_const, ite_true, ite_false, if_true, if_false, decide_true, decide_false, Bool.not_true, Bool.not_false, asg_len, Option.isSome_some])
local macro_rules | `(tactic| walk_at "bel") => `(tactic| first | rfl | (simp (config := { failIfUnchanged := false }) only [belM, O.bel, bels_strs, bels_ints, belL, Tr.bel, Tr.bels, Bool.and_true, Bool.true_and, Bool.and_self, decide_eq_true_eq, Bool.and_eq_true, true_and, and_true, List.length_cons, List.length_nil, Nat.reduceAdd]; try omega))

local macro_rules | `(tactic| walk_at "sim2") => `(tactic| first | exact simGet | exact simTi | exact simDrawn | assumption | apply sim_wo | apply sim_wa | apply sim_wb | apply sim_putA | apply sim_putB | exact sim_wnew | exact c_lenB | exact s_itemB | exact s_slB | exact s_neB | exact c_bytes | exact c_listB | exact c_divmod | exact s_and127 | apply i_revA | apply i_byt | apply sim_star | apply sim_fldAug | apply sim_cval | exact sim_nv | apply sim_raise0 | apply sim_raiseX)
local macro_rules | `(tactic| walk_at "sim1") => `(tactic| first | (with_reducible apply sim_callX; assumption) | (with_reducible apply sim_methX; assumption) | (with_reducible apply sim_makeX; assumption))
local macro_rules | `(tactic| walk_at "fm2") => `(tactic| simp (config := { failIfUnchanged := false }) only [sm_app, sm_len, sm_at, sm_at0, sm_set, sm_set0, List.getElem?_cons_zero, List.getElem?_cons_succ, List.set_cons_zero, List.set_cons_succ, lstO_lst, Option.isSome_some, Option.map_some, Option.some.injEq, Prod.mk.injEq, Nat.add_assoc, Nat.reduceAdd, exists_eq_left', exists_eq_left, true_and, and_assoc, fWo, fWa, fWb, fPutA, fPutB, fWnew, fLenB, fItemB, fSlB, fIB, fNeB, fBytes, fListB, fDivmod, fAnd127, fIRev, fStar, fFldAug, fRaise0, fRaiseX, fCVal, fNv, int1_i])
local macro_rules | `(tactic| walk_at "fd") => `(tactic| (walk_at "fm"; walk_at "fm2"; walk_at "fm"; walk_at "fm2"; walk_at "fm"))

/-! ### isinstance(x, tuple) of a Town -/
structure TyC (K : PySem.W.Frag) (C : Addr) : Prop where
  cl : Cls K C
  ha : PySem.W.findIn K (.ref C) "__class__" = some (some (.builtin "object.__class__"))
  hn : PySem.W.specialIn K (.builtin "object.__class__") "__get__" = some (some (.builtin "getset_descriptor.__get__"))
  htk : PySem.W.takesIn K (.builtin "object.__class__") = some true
  hm : PySem.W.mroIn K C (.type "object") = some true
  kt : PySem.W.kitOne K (.ref C) (.type "tuple") = some false
def fIsTup (C : Addr) (fe : FE) : FE := fun L M P => fe L M fun x M1 => (∃ ts, x = .tup ts ∧ P (.bl true) M1) ∨ (∃ n fs, insAt M1 x = some (n, C, fs) ∧ P (.bl false) M1)
theorem sim_isTup {K : PySem.W.Frag} {B : Bs} {C : Addr} {te : TE} {fe : FE} (TC : TyC K C) (a : SimE K B te fe) : SimE K B (tCB (rIsi K) (tCons te (tCons (tC (.ty "tuple")) tNil))) (fIsTup C fe) := ⟨fun hl hm h o => a.run hl hm h fun x xv H1 ρ1 M1 g1 m1 rx hh => by
  rcases hh with ⟨ts, rfl, p⟩ | ⟨n, fs, e, p⟩
  · exact ⟨_, _, .type "tuple", .type "tuple", true, rfl, .ty "tuple", ty_ok m1 rx rfl, kit_ty rfl, o _ _ _ _ _ g1 m1 RT.bl_ p⟩
  · obtain ⟨b, dx, gs, rfl, h1, h2, rfl, h3, h4, h5⟩ := insAt_ok m1 rx e
    exact ⟨_, _, _, _, _, rfl, .ty "tuple", .base (.ins h3 TC.cl TC.ha TC.hn TC.htk TC.hm), TC.kt, o _ _ _ _ _ g1 m1 RT.bl_ p⟩⟩
/-! ### data of the law's compares -/
theorem da_lk {M : Mem} (l : Lk) : Da M (lkT l) (ld l) := .tup (.cons (.int _) (.cons (.int _) (.cons (.int _) (.cons (.int _) .nil))))
theorem da_lks {M : Mem} : ∀ ls : List Lk, DaAll M (ls.map lkT) (ls.map ld)
  | [] => .nil
  | l :: ls => .cons (da_lk l) (da_lks ls)
theorem lay_lks : ∀ ls : List Lk, PyData.canLayAll0 (ls.map ld) = true
  | [] => by simp [PyData.canLayAll0]
  | l :: ls => by simp [PyData.canLayAll0, PyData.canLay0, ld, lay_lks ls]
theorem depth_lks : ∀ ls : List Lk, PyData.depthAll (ls.map ld) ≤ 2
  | [] => by simp [PyData.depthAll]
  | l :: ls => by
    have := depth_lks ls
    simp only [List.map_cons, PyData.depthAll, PyData.depth, ld]
    omega
theorem shaped_of {d : PyData} (h1 : d.canLay0 = true) (h2 : d.depth ≤ 64) : SeqAt.shaped d = true := by
  unfold SeqAt.shaped
  rw [h1, decide_eq_true h2]
  rfl
theorem shaped_lks (ls : List Lk) : SeqAt.shaped (.tuple (ls.map ld)) = true := shaped_of (by simp only [PyData.canLay0]; exact lay_lks ls) (by have := depth_lks ls; simp only [PyData.depth]; omega)
theorem shaped_cl (c : Int) (ls : List Lk) : SeqAt.shaped (.tuple [.int c, .tuple (ls.map ld)]) = true := shaped_of (by simp [PyData.canLay0, PyData.canLayAll0, lay_lks ls]) (by have := depth_lks ls; simp only [PyData.depth, PyData.depthAll]; omega)
theorem eqv_same {d : PyData} (h : SeqAt.shaped d = true) : PyData.eqv d d = true := SeqAt.eqv_refl d (Bool.and_eq_true_iff.mp h).1
theorem eqv_lks_nil : ∀ ls : List Lk, PyData.eqv (.tuple (ls.map ld)) (.tuple []) = decide (ls = [])
  | [] => rfl
  | y :: ys => by rw [decide_eq_false (by simp)]; rfl
/-! ### the start, of a script that nothing froze -/
def spStart2 (K : PySem.W.Frag) : Sp := fun vs H Q _ => ∃ (a : Addr) (ns : List Int), vs = [.ref a] ∧ SqL K H a (ns.map V.int) ∧
  ∀ h m H', H h = none → 0 ≤ m → m < 2147483647 → H' h = some (.lst [.ref a, .int 0, .int m, .int 0]) → Same H H' → Q (.ref h) H'
structure BT2 (mg : Str → Option Value) : Prop where
  t : BT mg
structure LawC (P : Program) (w : World) (K : PySem.W.Frag) (mg : Str → Option Value) (base : Heap) (CN C CX : Addr) : Prop where
  _law_start : Cal P w K mg base 1 "_law_start" (spStart2 K) []
  _law_drawn : Cal P w K mg base 1 "_law_drawn" (spDrawn K) []
  _law_bridges : Cal P w K mg base 2 "_law_bridges" (spF K fsLBr) []
  _law_body : Cal P w K mg base 10 "_law_body" (spF K fsLBody) []
  _law_checksum : Cal P w K mg base 1 "_law_checksum" (spF K fsCkL) []
  _law_damaged : Cal P w K mg base 2 "_law_damaged" (spF K fsLDam) []
  _law_read : Cal P w K mg base 2 "_law_read" (spF K fsLRead) []
  unpack_bytes : Cal P w K mg base 1 "unpack_bytes" (spF K fsUnpack) []
  encode_town : Cal P w K mg base 3 "encode_town" (spF K (fsEnc C)) []
  pack_bytes : CalX P w K mg base 1 "pack_bytes" (spF K (fsPack CN))
  decode_town : CalX P w K mg base 6 "decode_town" (spF K (fsDec C CX))
section
variable {P : Program} {w : World} {K : PySem.W.Frag} {mg : Str → Option Value} {base : Heap}
theorem ok_start2 {f : Addr} {fd : FuncData} (F : Def K mg "_law_start" sStart f fd) (b : Binds K fd ["_law_script"] []) (T : BT mg) : Cal P w K mg base 1 "_law_start" (spStart2 K) [] := by
  refine cal0 F b .nil scStart (fun vs H Q E h => ?_) (fun cdv A outer s H vs Q E hr h => ?_)
  · obtain ⟨h, ns, rfl, _⟩ := h; rfl
  · obtain ⟨a, ns, rfl, ha, q⟩ := h
    refine ⟨_, (pss_cons (ps_set (i := 1) scStart.nd rfl (Or.inl rfl) pe_int)
 (pss_cons (ps_for PassesOwn.never rfl (pi_list (pv 0)) (pg_name (i := 2) scStart.nd rfl (Or.inl rfl)) (pss_one (ps_set (i := 1) scStart.nd rfl (Or.inl rfl) (pe_op op_modN (pe_op op_add (pe_op op_add (pe_op op_mul (pv 1) pe_int) (pv 2)) pe_int) pe_int))))
 (pss_one (ps_ret (pe_lst (pa_cons (pv 0) (pa_cons pe_int (pa_cons (pv 1) (pa_cons pe_int pa_nil))))))))), ?_⟩
    repeat walk_at "rd"
    refine for_list (K := K) (a := a) (xs := ns.map V.int) (fun i σ H' => H' = H ∧ ∃ (m : Int) (v : Option V), σ = [some (.ref a), some (.int m), v] ∧ 0 ≤ m ∧ m < 2147483647)
      ⟨rfl, 1, none, rfl, by decide, by decide⟩ (fun i σ H' _ ⟨e, _⟩ => by rw [e]; exact ha) ?_ ?_
    · rintro i y σ H' hi ⟨rfl, m, v, rfl, m0, m1⟩
      obtain ⟨z, hz, rfl⟩ := int_get hi
      repeat walk_at "rd"
      obtain ⟨u0, u1⟩ := fdN (a := m * 48271 + z + 7) (b := 2147483647) (by decide)
      exact ⟨rfl, _, _, rfl, u0, u1⟩
    · rintro σ H' ⟨rfl, m, v, rfl, m0, m1⟩
      repeat walk_at "rd"
      rename_i p1 hp1
      exact q p1 _ _ hp1 m0 m1 upd_same fun b o e => by walk_at "hf"
theorem sm_start {H : Hp} {h a Pt : Addr} {q : Str} {ns : List Int} {m : Int} (h1 : H h = some (.lst [.ref a, .int 0, .int m, .int 0])) (fz : Fz K H a (ns.map V.int)) (T : LamX.TabS H Pt q) : RM K H [h, Pt] (sm ⟨ns, 0, m, 0⟩ [O.tab Pt q]) := by
  have hT := T
  obtain ⟨ps, h3, _⟩ := T
  have n2 : h ≠ Pt := ne_of h1 h3 (fun z => nomatch z)
  refine ⟨rfl, fun n o e => ?_, by simp [n2]⟩
  match n, e with
  | 0, e =>
    cases e
    exact ⟨h, rfl, a, h1, fz⟩
  | 1, e =>
    cases e
    exact ⟨Pt, rfl, rfl, hT⟩
  | n + 2, e => simp [sm] at e
end
/-- the catcher as it stands behind the top -/
structure CatchAt (K : PySem.W.Frag) (mg : Str → Option Value) (gE : Addr) (oc : Value) (od : Option Addr) (dV kV doc pm : Value) (an : Option Addr) (cdE ct : Value) (osl : Array (Option Value)) : Prop where
  mgE : mg "_law_outcome" = some (.ref gE)
  kE : PySem.W.keepIn K (.ref gE) = true
  lkE : K.lookup gE = some ⟨oc, od, .func (PySem.W.fnOf "_law_outcome" "_law_outcome" (fnArgs sOutc) (fnBody sOutc) (fnScope sOutc) dV kV doc pm an cdE ct), osl⟩
  coE : PySem.W.codeIn K cdE "_law_outcome" = true
  bE : L2.Binds K (PySem.W.fnOf "_law_outcome" "_law_outcome" (fnArgs sOutc) (fnBody sOutc) (fnScope sOutc) dV kV doc pm an cdE ct) ["_law_work"] []
def assignedE (s : Stmt) : Expr := match s with
  | .Assign _ e _ => e
  | _ => .Constant .none 0 ⟨0, 0, 0, 0⟩
def forBody (s : Stmt) : List Stmt := match s with
  | .For _ _ b _ _ => b
  | _ => []
def ifTest (s : Stmt) : Expr := match s with
  | .If e _ _ _ => e
  | _ => .Constant .none 0 ⟨0, 0, 0, 0⟩
def leftOf (e : Expr) : Expr := match e with
  | .Compare l _ _ _ => l
  | _ => .Constant .none 0 ⟨0, 0, 0, 0⟩
abbrev sPass0 : Stmt := .Pass ⟨0, 0, 0, 0⟩
abbrev sFor : Stmt := (fnBody sLaw).getD 1 sPass0
abbrev lamD : Expr := assignedE ((forBody sFor).getD 7 sPass0)
abbrev lamW : Expr := leftOf (ifTest ((forBody ((forBody sFor).getD 9 sPass0)).getD 0 sPass0))
abbrev lamQ : Str := (envOfC "law" (fnScope sLaw) 0 0 .none).qual ++ "<lambda>"
def lamTD (K : PySem.W.Frag) (C CX : Addr) : XK → TE := fun E => tCall (spF K (fsDec C CX)) [] E (tCons (tVar 9) tNil)
def lamTW (K : PySem.W.Frag) (CN : Addr) : XK → TE := fun E => tCall (spF K (fsPack CN)) [] E (tCons (tLst (tCons (tC (.int 0)) (tCons (tVar 12) tNil))) tNil)
end T1

set_option Elab.async false
set_option linter.all false
set_option maxRecDepth 100000
set_option maxHeartbeats 4000000
namespace T1
open PySem PySem.Spec PyProof.Rows L2 C8 Fm T3
local macro_rules | `(tactic| walk_at "hf") => `(tactic| (fail_if_success (show (fun _ => none : Hp) _ = _)); first | assumption | with_reducible exact upd_same | ((with_reducible show upd _ _ _ _ = _); first | exact up_new' (by assumption) (by walk_at "hf") | exact up_set (by walk_at "ne") (by walk_at "hf")) | exact Same.at' (by assumption) (by walk_at "hf") | exact But.at' (by assumption) (by walk_at "ne") (by walk_at "ne") (by walk_at "hf"))
local macro_rules | `(tactic| walk_at "hf0") => `(tactic| (fail_if_success (show (fun _ => none : Hp) _ = _)); first | assumption | with_reducible exact upd_same | ((with_reducible show upd _ _ _ _ = _); exact up_new' (by assumption) (by walk_at "hf0")))
local macro_rules | `(tactic| walk_at "ne") => `(tactic| first | assumption | (apply Ne.symm; assumption) | exact ne_of_none' (by assumption) (by walk_at "hf0") | exact Ne.symm (ne_of_none' (by assumption) (by walk_at "hf0")) | exact LSt.f1 (by assumption) (by walk_at "lst") | exact LSt.f2 (by assumption) (by walk_at "lst"))
local macro_rules | `(tactic| walk_at "sqt") => `(tactic| (fail_if_success (show SqT _ (fun _ => none) _ _)); first | assumption | exact SqT.of' (by walk_at "hf") | ((with_reducible show SqT _ (upd _ _ _) _ _); first | exact SqT.new' (by assumption) (by walk_at "sqt") | exact SqT.put' (by walk_at "hf") (by walk_at "sqt")) | exact Same.tup (by assumption) (by walk_at "sqt") | exact But.tup (by assumption) (by walk_at "lst") (by walk_at "sqt"))
local macro_rules | `(tactic| walk_at "sql") => `(tactic| (fail_if_success (show SqL _ (fun _ => none) _ _)); first | assumption | exact SqL.of' (by walk_at "hf") | ((with_reducible show SqL _ (upd _ _ _) _ _); exact SqL.new' (by assumption) (by walk_at "sql")) | exact Same.sql' (by assumption) (by walk_at "sql"))
local macro_rules | `(tactic| walk_at "lst") => `(tactic| (fail_if_success (show LSt (fun _ => none) _ _)); first | assumption | ((with_reducible show LSt (upd _ _ _) _ _); first | exact LSt.new (by walk_at "lst") (by assumption) | exact LSt.put (by walk_at "lst") (by walk_at "ne") (by walk_at "ne")) | exact LSt.same' (by assumption) (by walk_at "lst"))
local macro_rules | `(tactic| walk_at "but") => `(tactic| first | assumption | exact But.refl _ _ _ | ((with_reducible show But _ _ _ (upd _ _ _)); exact But.nw (by assumption) (by walk_at "but")) | exact But.bu (by assumption) (by walk_at "but") | exact But.sm (by assumption) (by walk_at "but"))
local macro_rules | `(tactic| walk_at "ls") => `(tactic| first | assumption | exact Ls.same (by walk_at "ls") (Same.upd' (by assumption)))
local macro_rules | `(tactic| walk_at "ll") => `(tactic| first | assumption | exact LL.same (by walk_at "ll") (Same.upd' (by assumption)) | exact LL.same' (by assumption) (by walk_at "ll") | exact LL.but' (by assumption) (by walk_at "lst") (by walk_at "ll"))
local macro_rules | `(tactic| walk_at "sm") => `(tactic| first | assumption | exact Same.refl _ | ((with_reducible show Same _ (upd _ _ _)); first | exact Same.put' (by assumption) (by walk_at "sm") | exact Same.trans (by walk_at "sm") (Same.upd' (by assumption))) | exact Same.trans (by walk_at "sm") (by assumption))
/-- one step of a reading -/
local macro_rules | `(tactic| walk_at "rd") => `(tactic| first
  | with_reducible refine iteF ?_
  | with_reducible refine iteT ?_
  | with_reducible refine itNotF ?_
  | with_reducible refine itNotT ?_
  | refine ⟨_, rfl, ?_⟩
  | refine ⟨_, _, rfl, rfl, ?_⟩
  | refine ⟨_, _, rfl, ?_⟩
  | refine ⟨(_ : Addr), (_ : List V), (_ : Int), (_ : V), rfl, rfl, SqL.of' (by walk_at "hf"), (by first | assumption | rfl), ?_⟩
  | refine ⟨(_ : Addr), (_ : List V), (_ : Int), (_ : V), rfl, rfl, (by walk_at "sqt" : SqT _ _ _ _), (by first | assumption | rfl), ?_⟩
  | refine .inl ⟨_, rfl, ?_⟩
  | refine ⟨_, _, rfl, .inl (by walk_at "sql" : SqL _ _ _ _), ?_⟩
  | refine ⟨_, _, rfl, .inl ⟨(by walk_at "sql" : SqL _ _ _ _), fun p hp => ?_⟩⟩
  | refine ⟨_, _, rfl, .inr ⟨(by walk_at "sqt" : SqT _ _ _ _), ?_⟩⟩
  | refine fun (p : Addr) (hp : (_ : Hp) p = none) => ?_
  | refine ⟨_, _, rfl, .inr (by walk_at "sqt" : SqT _ _ _ _), ?_⟩
  | refine And.intro (by show _ ≤ sizeLine; first | decide | walk_at "sz") (fun p hp => ?_)
  | refine ⟨(_ : Addr), (_ : Addr), (_ : List V), (_ : List V), rfl, rfl, (by walk_at "hf"), (by walk_at "hf"), (by walk_at "sz"), fun p hp => ?_⟩
  | refine ⟨(_ : Addr), (_ : Addr), (_ : List V), (_ : List V), rfl, rfl, (by walk_at "hf"), (by walk_at "hf"), (by walk_at "sz"), ?_⟩
  | refine ⟨(_ : Addr), (_ : List V), (_ : Int), (_ : Nat), rfl, rfl, (by walk_at "hf"), (by rfl), ?_⟩
  | refine And.intro ⟨_, (by walk_at "sql" : SqL _ _ _ _)⟩ ?_
  | refine And.intro ⟨_, (by walk_at "sqt" : SqT _ _ _ _)⟩ ?_
  | refine And.intro (.inl ⟨rfl, _, SqL.of' (by walk_at "hf")⟩) ?_
  | refine And.intro (by walk_at "cond") ?_
  | exact .inl ⟨rfl, _, SqL.of' (by walk_at "hf")⟩
  | with_reducible refine iteT ?_
  | with_reducible refine iteF ?_
  | refine And.intro (by rfl : scal _ _ = true) ?_
  | refine And.intro (by rfl : _ = V.non) ?_
  | refine And.intro (by rfl : wipe _ _ = wipe _ _) ?_
  | refine And.intro (by rfl : (_ : List V) = []) ?_
  | refine ⟨(_ : Addr), (_ : List V), rfl, (by walk_at "sqt" : SqT _ _ _ _), (by rfl), ?_⟩)
/-- a test: known, or both ways -/
local macro_rules | `(tactic| walk_at "if") => `(tactic| first
  | with_reducible refine itD (by omega) ?_
  | with_reducible refine itN (by omega) ?_
  | with_reducible refine itnD (by omega) ?_
  | with_reducible refine itnN (by omega) ?_
  | with_reducible refine itE (by omega) ?_
  | with_reducible refine itEn (by omega) ?_
  | with_reducible refine itnE (by omega) ?_
  | with_reducible refine itnEn (by omega) ?_
  | with_reducible refine itN (by intro z; cases z) ?_
  | with_reducible refine itD (by decide) ?_
  | with_reducible refine itN (by decide) ?_
  | with_reducible refine itnD (by decide) ?_
  | with_reducible refine itnN (by decide) ?_)
local macro_rules | `(tactic| walk_at "if2") => `(tactic| first
  | with_reducible refine itS (fun z => ?_) (fun z => ?_)
  | with_reducible refine itS' (fun z => ?_) (fun z => ?_)
  | with_reducible refine itSE (fun z => ?_) (fun z => ?_)
  | with_reducible refine itnS (fun z => ?_) (fun z => ?_)
  | with_reducible refine itnS' (fun z => ?_) (fun z => ?_)
  | with_reducible refine itnSE (fun z => ?_) (fun z => ?_))
local macro_rules | `(tactic| walk_at "go") => `(tactic| repeat' (first | walk_at "rd" | walk_at "if" | walk_at "if2" | fail))
local macro_rules | `(tactic| walk_at "sz") => `(tactic| (rw [sizeLine_eq]; simp only [List.length_append, List.length_map, List.length_cons, List.length_nil]; omega))
local macro_rules | `(tactic| walk_at "cond") => `(tactic| first | assumption | (show (_ : Int) ≠ 0; first | omega | (split <;> omega)) | (show (0 : Int) < _; first | assumption | decide) | exact ⟨by decide, by decide, by decide⟩ | exact .inr ⟨by decide, by decide⟩ | exact wide_div (b := 64) (by assumption) (by omega) (by decide) (by decide) | exact ⟨by decide, by decide⟩)


local macro_rules | `(tactic| walk_at "sim1") => `(tactic| with_reducible first
  | exact sim_nil | exact sim_var | exact sim_int | exact sim_str | exact sim_bl | exact sim_non | exact sim_raw
  | apply sim_cons | apply sim_op | apply sim_un | apply sim_tup | apply sim_lst
  | apply sim_CB | apply sim_if | apply sim_test | apply sim_B | apply sim_not | apply sim_and | apply sim_or
  | apply sim_andV | apply sim_orV | apply sim_notV | apply sim_chain | exact sim_nopart | apply sim_part
  | apply sim_sl | apply sim_BML | apply sim_BMS | apply sim_BM0S | apply sim_M1 | apply sim_M0
  | apply sim_fmt | apply sim_joined | exact SimJ.nil | apply SimJ.cons
  | exact s_I0i | exact s_I0b | exact s_Ii | exact s_Ui | exact s_eq | exact s_ne | exact s_isN | exact s_notN | exact s_ixL | exact s_ixT | exact s_ixS
  | exact s_cat | exact s_catA | exact s_rep | exact s_repT | exact s_in | exact s_slL | exact s_slA | exact s_slS | exact s_addS | exact s_leS | exact s_ltS
  | exact c_len | exact c_lenS | exact c_list | exact c_tuple | exact c_int1 | exact c_intS | exact c_strI | exact c_max2 | exact c_min2
  | exact m_append | exact m_extend | exact m_split | exact m_join | exact m_0b | exact m_1b
  | apply sim_call | exact simSpF
  | exact sim_name | exact sim_gnil | apply sim_gcons | apply sim_gtup | apply sim_gsub | exact set_list
  | exact sim_next | apply sim_seq | apply sim_cut | exact sim_break | exact sim_cont | apply sim_drop | apply sim_ret | exact sim_retN
  | apply sim_ifS | exact sim_never | apply sim_asg | apply sim_par | apply sim_aug
  | apply sim_for | apply sim_while | apply i_list | apply i_tup | apply i_rng1 | apply i_rng2 | apply i_str | apply i_enum | apply i_zip
  | apply sim_lc | exact sim_yes | exact sim_namew (by decide) | exact sim_gnilw | apply sim_gconsw | apply sim_gtupw
  | apply sim_fld | apply sim_con | apply sim_setFld | apply sim_make | apply sim_prop | apply sim_meth | apply sim_cmeth | exact c_isi | apply sim_isiT | exact s_eqD | exact s_neD
  | walk_at "sim2")
local macro_rules | `(tactic| walk_at "sim2") => `(tactic| fail)
local macro_rules | `(tactic| walk_at "sim") => `(tactic| repeat' (walk_at "sim1"))
/-- open the trees' reading as far as it goes by itself -/
local macro_rules | `(tactic| walk_at "fm") => `(tactic| simp (config := { failIfUnchanged := false }) only [fVar, fC, fOp, fUn, fNil, fCons, fTup, fLst, fCB, fIf, fTest, fNot, fAnd, fOr, fAndV, fOrV, fNotV, fChain, fNoPart, fPart, fI, fI0, fU, fEq, fNe, fIsN, fNotN, fIxL, fIxT, fIxS,
  fCat, fCatA, fRep, fRepT, fSlL, fSlA, fSlS, fSl, fLen, fLenS, fList, fTuple, fIntS, fStrI, fMax2, fMin2, fAppend, fExtend, fIn, fBM, fMS, fBMS, fBM0S, fAddS, fLeS, fLtS, fM0b, fM1b, fSplit, fJoin, fJoined, fJs,
  fName, fGNil, fGCons, fGTup, fSetL, fGSub, fNext, fSeq, fCut, fBreak, fCont, fDrop, fRet, fRetN, fIfS, fAsg, fPar, fAug, fCall, fFld, fCon, fSetFld, fMake, fProp, fMeth, fCMeth, fIsi, fIsiT, fEqD, fNeD, insAt_ref, insO_ins, fFmt, fmtS_i, fmtS_s, fmtOk_i, fmtOk_s, fIL, fIT, fIR1, fIR2, fIS, fIEn, fIZ,
  startL, List.map_cons, List.map_nil, List.length_cons, List.length_nil, List.cons_append, List.nil_append, List.replicate, List.getElem?_cons_zero, List.getElem?_cons_succ, List.set_cons_zero, List.set_cons_succ, Nat.reduceSub, Nat.reduceAdd,
  Option.some.injEq, Tr.int.injEq, Tr.str.injEq, Tr.bl.injEq, Tr.tup.injEq, Tr.ref.injEq, List.cons.injEq, exists_eq_left, exists_eq_left', exists_eq_right, true_and, and_true, and_self, exists_and_left, tupOf_tup, eqS_ii, eqS_ss, eqS_bb, eqS_ni, eqS_in, eqS_nn, isStr_s, isN_n, isN_i, isN_b, isN_s, isN_t, isN_r, noRaw_n, noRaw_i, noRaw_b, noRaw_s, noRaw_t, noRaw_r, and_assoc, reduceIte, Bool.false_eq_true, exists_const, lstAt_ref, seqAt_ref, seqAt_tup, refAt_ref, lstO_lst, app_assoc2, len_app1, at_kk, at_00, set_k, set_00, Nat.add_assoc, Option.map_some, Prod.mk.injEq, int_cast_inj, Nat.zero_le, decide_eq_true_eq, Bool.not_eq_true', decide_eq_false_iff_not, Nat.add_zero, implies_true, forall_const, ite_true, ite_false, if_true, if_false, decide_true, decide_false, Bool.not_true, Bool.not_false, asg_len, Option.isSome_some])
local macro_rules | `(tactic| walk_at "bel") => `(tactic| first | rfl | (simp (config := { failIfUnchanged := false }) only [belM, O.bel, bels_strs, bels_ints, belL, Tr.bel, Tr.bels, Bool.and_true, Bool.true_and, Bool.and_self, decide_eq_true_eq, Bool.and_eq_true, true_and, and_true, List.length_cons, List.length_nil, Nat.reduceAdd]; try omega))

local macro_rules | `(tactic| walk_at "sim2") => `(tactic| first | exact simGet | exact simTi | exact simDrawn | assumption | apply sim_wo | apply sim_wa | apply sim_wb | apply sim_putA | apply sim_putB | exact sim_wnew | exact c_lenB | exact s_itemB | exact s_slB | exact s_neB | exact c_bytes | exact c_listB | exact c_divmod | exact s_and127 | apply i_revA | apply i_byt | apply sim_star | apply sim_fldAug | apply sim_cval | exact sim_nv | apply sim_raise0 | apply sim_raiseX)
local macro_rules | `(tactic| walk_at "sim1") => `(tactic| first | (with_reducible apply sim_callX; assumption) | (with_reducible apply sim_methX; assumption) | (with_reducible apply sim_makeX; assumption))
local macro_rules | `(tactic| walk_at "fm2") => `(tactic| simp (config := { failIfUnchanged := false }) only [sm_app, sm_len, sm_at, sm_at0, sm_set, sm_set0, List.getElem?_cons_zero, List.getElem?_cons_succ, List.set_cons_zero, List.set_cons_succ, lstO_lst, Option.isSome_some, Option.map_some, Option.some.injEq, Prod.mk.injEq, Nat.add_assoc, Nat.reduceAdd, exists_eq_left', exists_eq_left, true_and, and_assoc, fWo, fWa, fWb, fPutA, fPutB, fWnew, fLenB, fItemB, fSlB, fIB, fNeB, fBytes, fListB, fDivmod, fAnd127, fIRev, fStar, fFldAug, fRaise0, fRaiseX, fCVal, fNv, int1_i])
local macro_rules | `(tactic| walk_at "fd") => `(tactic| (walk_at "fm"; walk_at "fm2"; walk_at "fm"; walk_at "fm2"; walk_at "fm"))

theorem sim_lamD {K : PySem.W.Frag} {B : Bs} {C CX CN Pt : Addr} {q : Str} : SimE K B (LamX.tLam [(Pt, q)] (TTout K CN CX) (lamTD K C CX)) (fOut CN CX Pt q fun PX => fCall (fsDec C CX) PX (fCons (fVar 9) fNil)) :=
  sim_out fun B E PX hE => by
    unfold lamTD
    exact sim_callX hE simSpF (sim_cons sim_var sim_nil)
theorem sim_lamW {K : PySem.W.Frag} {B : Bs} {CX CN Pt : Addr} {q : Str} : SimE K B (LamX.tLam [(Pt, q)] (TTout K CN CX) (lamTW K CN)) (fOut CN CX Pt q fun PX => fCall (fsPack CN) PX (fCons (fLst (fCons (fC (.int 0)) (fCons (fVar 12) fNil))) fNil)) :=
  sim_out fun B E PX hE => by
    unfold lamTW
    exact sim_callX hE simSpF (sim_cons (sim_lst (sim_cons sim_int (sim_cons sim_var sim_nil))) sim_nil)
local macro_rules | `(tactic| walk_at "sim1") => `(tactic| first | exact s_neB | exact sim_lamD | exact sim_lamW | (with_reducible apply sim_cutF) | (with_reducible apply sim_isTup; assumption))
theorem run_at {K : PySem.W.Frag} {B : Bs} {H : Hp} {ρ : List Addr} {L : Fm.Loc} {σ : L2.St} {M : Mem} {t : TS} {f : FS} {D' : FEnds} {D : Ends} (sim : SimS K B t f) (hl : RX K B H ρ L σ) (hm : RM K H ρ M) (p : f D' L M) (e : EndR K B H ρ D' D) : t D σ H := sim.run hl hm p e
theorem cp18 : CPow 10 18 := ⟨by decide, by decide, by decide⟩
theorem okE_of {c : Int} {l : Lk} (hc : c ≤ 12) (h : okB c (1000000000000000000 + 1) l) : okE l := by
  obtain ⟨h1, h2, h3, h4, _, h5, h6, h7, h8⟩ := h
  exact ⟨h1, by omega, h3, by omega, by omega, by omega, h7, by omega⟩
theorem okE_good {c : Int} {l : Lk} (hc : c ≤ 12) (h : goodL c l) : okE l := by
  obtain ⟨h1, h2, h3, h4, _, h5, h6, h7, h8⟩ := h
  unfold top18 at h8
  exact ⟨h1, by omega, h3, by omega, by omega, by omega, h7, by omega⟩
theorem cutT_1 {x : Tr} {xs : List Tr} : cutT (x :: xs) (some 1) none = xs := by
  unfold cutT HT.sIx
  simp only
  rw [if_neg (by decide), List.length_cons, show (1 : Int).toNat = 1 from rfl, Nat.min_eq_left (by omega), List.take_of_length_le (by simp)]
  rfl
theorem bel_sm {d : Ds} {Pt : Addr} {q : Str} {g : Mem} (h : belM (g.length + 2) g = true) : belM (List.length (sm d (O.tab Pt q :: g))) (sm d (O.tab Pt q :: g)) = true := by
  unfold sm
  simp only [belM, O.bel, List.length_cons, Bool.true_and, Bool.and_eq_true, decide_eq_true_eq]
  exact ⟨by omega, h⟩
theorem bel_rdO {n o k : Nat} {bad : Option Nat} (h : o < n) : O.bel n (rdO o k bad) = true := by
  unfold rdO wd
  cases bad <;> simp [O.bel, belK, Tr.bel, bdT, h]
theorem first_okB {c : Int} {ls : List Lk} (c0 : 1 ≤ c) (c1 : c ≤ 12) (hl : ls.length ≤ 24) (h : ∀ l ∈ ls, okB c (1000000000000000000 + 1) l) : firstBad c ls = none := good_ok c0 c1 hl fun l hm => by
  obtain ⟨h1, h2, h3, h4, h5, h6, h7, h8, h9⟩ := h l hm
  exact ⟨h1, h2, h3, h4, h5, h6, h7, h8, by unfold top18; omega⟩
def J3a (a Pt : Addr) (q : Str) (L' : Fm.Loc) (M' : Mem) : Prop := ∃ (d : Ds) (g : Mem) (n o k : Nat) (b : List Int) (ex : Tr) (bad : Option Nat), d.ok ∧ L' = [some (.raw (.ref a)), some (.ref 0), none, none, none, none, none, none, some (.ref (n + 1)), some (btT b), some ex, none, none] ∧ M' = sm d (O.tab Pt q :: g) ∧ (O.tab Pt q :: g)[n]? = some (rdO o k bad) ∧ ntab g = true ∧ belM (g.length + 2) g = true ∧ B8 b ∧ b.length ≤ 400 ∧ Tr.bel 0 ex = true ∧
  ((∃ i, dec b = .error i ∧ bad = some i) ∨ (∃ c ls, dec b = .ok (c, ls) ∧ bad = none ∧ ex = .tup [.int c, .tup (ls.map lkT)]))
def J3 (a Pt C : Addr) (q : Str) (L' : Fm.Loc) (M' : Mem) : Prop := ∃ (d : Ds) (g : Mem) (n o k : Nat) (b : List Int) (ex ac : Tr) (bad : Option Nat), d.ok ∧ L' = [some (.raw (.ref a)), some (.ref 0), none, none, none, none, none, none, some (.ref (n + 1)), some (btT b), some ex, some ac, none] ∧ M' = sm d (O.tab Pt q :: g) ∧ (O.tab Pt q :: g)[n]? = some (rdO o k bad) ∧ ntab g = true ∧ belM (g.length + 2) g = true ∧ B8 b ∧ b.length ≤ 400 ∧
  ((∃ i : Nat, bad = some i ∧ ac = .tup [.str "InvalidData", .int i]) ∨ (∃ c ls m, dec b = .ok (c, ls) ∧ bad = none ∧ ex = .tup [.int c, .tup (ls.map lkT)] ∧ ac = .ref (m + 1) ∧ (O.tab Pt q :: g)[m]? = some (.ins C (tFT c ls))))
def J4 (a Pt : Addr) (q : Str) (L' : Fm.Loc) (M' : Mem) : Prop := ∃ (d : Ds) (g : Mem), d.ok ∧ L' = [some (.raw (.ref a)), some (.ref 0), none, none, none, none, none, none, none, none, none, none, none] ∧ M' = sm d (O.tab Pt q :: g) ∧ ntab g = true ∧ belM (g.length + 2) g = true
def spLaw (K : PySem.W.Frag) (Pt : Addr) (q : Str) : Sp := fun vs H Q _ => ∃ (a : Addr) (ns : List Int), vs = [.ref a] ∧ SqL K H a (ns.map V.int) ∧ ns.length ≤ 63 ∧ LamX.Tabs [(Pt, q)] H ∧ ∀ H', Q (.bl true) H'
theorem scLaw : FnScope ["_law_script", "_law_state", "_law_turn", "_law_count", "_law_bridges_here", "_law_body_here", "_law_far", "_law_octets", "_law_w", "_law_data", "_law_expected", "_law_actual", "_law_wrong"] ["_law_script"] (fnScope sLaw) := fnScope_by (by decide +kernel)
section
variable {P : Program} {w : World} {K : PySem.W.Frag} {mg : Str → Option Value} {base : Heap} {CB CT fT C CN CX pS gS : Addr} {mB : Value}
theorem ok_law {f cl Pt fTi p1 p2 g1 g2 gE : Addr} {fdTi fd1 fd2 : FuncData} {oc dV kV doc pm ct oc' dV' kV' doc' pm' cdE ct' : Value} {od an od' an' : Option Addr} {osl osl' : Array (Option Value)}
    (lk : K.lookup f = some ⟨oc, od, .func (PySem.W.fnOf "law" "law" (fnArgs sLaw) (fnBody sLaw) (fnScope sLaw) dV kV doc pm an (.ref cl) ct), osl⟩) (cdL : PySem.W.codeIn K (.ref cl) "law" = true)
    (T0 : Prog K mg CB CT fT C mB) (TT : PTown K mg C pS gS) (T : BQ mg) (T1 : Errs2 K mg CN CX) (C9 : LawC P w K mg base CN C CX) (LH : CatchAt K mg gE oc' od' dV' kV' doc' pm' an' cdE ct' osl') (TB : LamX.TabB base mg cl Pt) (TC : TyC K C)
    (MT : Mk K C fTi) (GTi : FnOk P w K mg base (L2.CX P w) 3 fTi fdTi ["self", "count", "bridges"] (spTi K C CT)) (bTi : L2.Binds K fdTi ["self", "count", "bridges"] [])
    (P1 : PropOf K C "place_count" p1 g1) (G1 : FnOk P w K mg base L2.CX0 1 g1 fd1 ["self"] (spGet C "_count")) (b1 : L2.Binds K fd1 ["self"] [])
    (P2 : PropOf K C "bridges" p2 g2) (G2 : FnOk P w K mg base L2.CX0 1 g2 fd2 ["self"] (spGet C "_bridges")) (b2 : L2.Binds K fd2 ["self"] []) :
    FnOk P w K mg base C8.CX0 12 f (PySem.W.fnOf "law" "law" (fnArgs sLaw) (fnBody sLaw) (fnScope sLaw) dV kV doc pm an (.ref cl) ct) ["_law_script"] (spLaw K Pt lamQ) := by
  refine fn_of lk cdL scLaw (fun vs H Q E h => ?_) (fun A outer s H vs Q E hr h => ?_)
  · obtain ⟨a, ns, rfl, _⟩ := h; rfl
  obtain ⟨a, ns, rfl, ha, hl, hT, q⟩ := h
  let CC : Addr := C
  let X0 : Cx := (cxOf C8.CX0 P w K mg base ["_law_script", "_law_state", "_law_turn", "_law_count", "_law_bridges_here", "_law_body_here", "_law_far", "_law_octets", "_law_w", "_law_data", "_law_expected", "_law_actual", "_law_wrong"] "law" (fnScope sLaw) f (.ref cl) A outer s H E).nox
  have lamDE : PE X0 lamD (LamX.tLam [(Pt, lamQ)] (TTout K CN CX) (lamTD K C CX)) := (LamX.pe_lamcall (T := [(Pt, lamQ)]) (TT := TTout K CN CX) (a := "_law_work") (k := 6) (t := lamTD K C CX) (by rfl) LH.mgE LH.kE LH.lkE LH.coE LH.bE scOutc rfl (Or.inl rfl) (outc_gives T1) TB rfl (List.mem_singleton.mpr rfl) (fun p hp _ => by rw [List.mem_singleton.mp hp] <;> rfl) (hr.mono (by decide : 8 ≤ 11)) (LamX.lamS_by (sc := fnScope sLaw) (by decide +kernel)) rfl (fun _ _ _ _ _ => rfl) (fun A outer s H E f c' hr2 => pe_cX C9.decode_town hr2 (by decide) (by rfl) (L2.passes_call (takes_of rfl rfl rfl rfl) (fun _ _ _ _ z => z)) (pa_cons (pv 9) pa_nil)))
  have lamWE : PE X0 lamW (LamX.tLam [(Pt, lamQ)] (TTout K CN CX) (lamTW K CN)) := (LamX.pe_lamcall (T := [(Pt, lamQ)]) (TT := TTout K CN CX) (a := "_law_work") (k := 6) (t := lamTW K CN) (by rfl) LH.mgE LH.kE LH.lkE LH.coE LH.bE scOutc rfl (Or.inl rfl) (outc_gives T1) TB rfl (List.mem_singleton.mpr rfl) (fun p hp _ => by rw [List.mem_singleton.mp hp] <;> rfl) (hr.mono (by decide : 8 ≤ 11)) (LamX.lamS_by (sc := fnScope sLaw) (by decide +kernel)) rfl (fun _ _ _ _ _ => rfl) (fun A outer s H E f c' hr2 => pe_cX C9.pack_bytes hr2 (by decide) (by rfl) (L2.passes_call (takes_of rfl rfl rfl rfl) (fun _ _ _ _ z => z)) (pa_cons (pe_lst (pa_cons pe_int (pa_cons (pv 12) pa_nil))) pa_nil)))
  have forP : ∃ tF, PS X0 sFor tF ∧ ∀ (H1 : Hp) (h : Addr) (d : Ds), d.ok → RM K H1 [h, Pt] (sm d [O.tab Pt lamQ]) → ∀ D : Ends, (∀ σ' H', (∀ b o u, H1 b = some (.frz o u) → H' b = some (.frz o u)) → D.nx σ' H') →
      tF D ((L2.start ["_law_script", "_law_state", "_law_turn", "_law_count", "_law_bridges_here", "_law_body_here", "_law_far", "_law_octets", "_law_w", "_law_data", "_law_expected", "_law_actual", "_law_wrong"] [.ref a]).set 1 (some (.ref h))) H1 := by
    have C := C9
    refine ⟨_, (ps_for PassesOwn.never rfl (pi_range1 (by rfl) T.range (pa_cons pe_int pa_nil)) (pg_name (i := 2) scLaw.nd rfl (Or.inl rfl)) (pss_cons (ps_set (i := 3) scLaw.nd rfl (Or.inl rfl) (pe_op op_add pe_int (pe_c C._law_drawn hr (by first | decide | omega) (by rfl) (pa_cons (pv 1) (pa_cons pe_int pa_nil)))))
 (pss_cons (ps_set (i := 4) scLaw.nd rfl (Or.inl rfl) (pe_c C._law_bridges hr (by first | decide | omega) (by rfl) (pa_cons (pv 1) (pa_cons (pv 3) (pa_cons (pe_ix ix_list (pe_lst (pa_cons pe_int (pa_cons pe_int pa_nil))) (pe_c C._law_drawn hr (by first | decide | omega) (by rfl) (pa_cons (pv 1) (pa_cons pe_int pa_nil))) (fun _ _ => rfl)) (pa_cons (pe_op op_add (pe_op op_pow pe_int pe_int) pe_int) pa_nil))))))
 (pss_cons (ps_set (i := 5) scLaw.nd rfl (Or.inl rfl) (pe_c C._law_body hr (by first | decide | omega) (by rfl) (pa_cons (pv 3) (pa_cons (pv 4) pa_nil))))
 (pss_cut (ps_if (PW.pt (pw_and (pt_cmpR op_eq (pv 2) pe_int (nomark _)) (pw_and1 (pt_cmpR (op_neD hr.units) (pv 4) (pe_tup pa_nil) (nomark _))))) (pss_cons (ps_set (i := 6) scLaw.nd rfl (Or.inl rfl) (pe_op op_catA (pe_slice sl_tupA (pe_ix ix_tup (pv 4) pe_int (fun _ _ => rfl)) po_none (po_some pe_int)) (pe_tup (pa_cons (pe_op op_add (pe_op op_add (pe_op op_pow pe_int pe_int) pe_int) (pe_c C._law_drawn hr (by first | decide | omega) (by rfl) (pa_cons (pv 1) (pa_cons pe_int pa_nil)))) pa_nil))))
 (pss_one (ps_set (i := 5) scLaw.nd rfl (Or.inl rfl) (pe_c C._law_body hr (by first | decide | omega) (by rfl) (pa_cons (pv 3) (pa_cons (pe_op op_catA (pe_tup (pa_cons (pv 6) pa_nil)) (pe_slice sl_tupA (pv 4) (po_some pe_int) po_none)) pa_nil)))))) (pss_one (ps_if (pt_cmpR (op_neD hr.units) (pe_c C.unpack_bytes hr (by first | decide | omega) (by rfl) (pa_cons (pe_c C.encode_town hr (by first | decide | omega) (by rfl) (pa_cons (pe_make MT GTi (hr.mono (by decide : 4 ≤ 11)) (by rfl) T0.gC bTi .nil pass_no (pa_cons (pv 3) (pa_cons (pv 4) pa_nil))) pa_nil)) pa_nil)) (pe_op op_cat (pv 5) (pe_c C._law_checksum hr (by first | decide | omega) (by rfl) (pa_cons (pv 5) pa_nil))) (nomark _)) (pss_one (ps_ret pe_bl)) pss_nil)))
 (pss_cut (ps_set (i := 7) scLaw.nd rfl (Or.inl rfl) (pe_c C._law_damaged hr (by first | decide | omega) (by rfl) (pa_cons (pv 1) (pa_cons (pv 5) pa_nil))))
 (pss_cons (ps_asg (pe_tup (pa_cons (pe_disp (pps_cons pe_str (pv 7) (pps_cons pe_str pe_int (pps_cons pe_str pe_non pps_nil))) rfl rfl (by simp) (by decide)) (pa_cons (pe_cX C.pack_bytes hr (by first | decide | omega) (by rfl) pass_no (pa_cons (pv 7) pa_nil)) pa_nil))) (pg_tup rfl (pgs_cons (pg_name (i := 8) scLaw.nd rfl (Or.inl rfl)) (pgs_cons (pg_name (i := 9) scLaw.nd rfl (Or.inr rfl)) pgs_nil))))
 (pss_cut (ps_set (i := 10) scLaw.nd rfl (Or.inl rfl) (pe_c C._law_read hr (by first | decide | omega) (by rfl) (pa_cons (pv 8) pa_nil)))
 (pss_cut (ps_set (i := 11) scLaw.nd rfl (Or.inl rfl) lamDE)
 (pss_cut (ps_if (pt_cmpR op_notN (pe_dget (hu_of hr) (pv 8) pe_str (fun _ _ => rfl)) pe_non (nomark _)) (pss_one (ps_if (pt_cmpR (op_neD hr.units) (pv 11) (pe_tup (pa_cons pe_str (pa_cons (pe_dget (hu_of hr) (pv 8) pe_str (fun _ _ => rfl)) pa_nil))) (nomark _)) (pss_one (ps_ret pe_bl)) pss_nil)) (pss_one (ps_if (PW.pt (pw_or (pt_val (pe_callB call_isi (by rfl) T.isinstance (by decide +kernel) (pa_cons (pv 11) (pa_cons (pe_bltn (v := .ty "tuple") (by rfl) T.tuple (by decide +kernel) rfl) pa_nil)))) (pw_or1 (pt_cmpR (op_neD hr.units) (pe_tup (pa_cons (pe_prop (pv 11) TT.cl P1 G1 (hr.mono (by decide : 2 ≤ 11)) b1 .nil L2.pass0 rfl) (pa_cons (pe_prop (pv 11) TT.cl P2 G2 (hr.mono (by decide : 2 ≤ 11)) b2 .nil L2.pass0 rfl) pa_nil))) (pv 10) (nomark _))))) (pss_one (ps_ret pe_bl)) (pss_one (ps_if (pt_cmpR op_ne (pe_c C.encode_town hr (by first | decide | omega) (by rfl) (pa_cons (pv 11) pa_nil)) (pv 9) (nomark _)) (pss_one (ps_ret pe_bl)) pss_nil)))))
 (pss_one (ps_for PassesOwn.never rfl (pi_tup (pe_tup (pa_cons (pe_op op_sub pe_int pe_int) (pa_cons pe_int pa_nil)))) (pg_name (i := 12) scLaw.nd rfl (Or.inr rfl)) (pss_one (ps_if (pt_cmpR (op_neD hr.units) lamWE (pe_tup (pa_cons pe_str pa_nil)) (nomark _)) (pss_one (ps_ret pe_bl)) pss_nil)))))))))))))), fun H1 h d hd m0 D hD => ?_⟩
    have hl0 : RX K (H1, [h, Pt]) H1 [h, Pt] [some (.raw (.ref a)), some (.ref 0), none, none, none, none, none, none, none, none, none, none, none] ((L2.start ["_law_script", "_law_state", "_law_turn", "_law_count", "_law_bridges_here", "_law_body_here", "_law_far", "_law_octets", "_law_w", "_law_data", "_law_expected", "_law_actual", "_law_wrong"] [.ref a]).set 1 (some (.ref h))) := by
      refine ⟨?_, Grow.refl⟩
      refine ⟨_, _, rfl, ⟨_, rfl, by unfold RT; rfl⟩, _, _, rfl, ⟨_, rfl, by unfold RT; exact ⟨h, rfl, rfl⟩⟩, ?_⟩
      exact RL.nones 11 _ rfl
    have hfz : ∀ b o u, H1 b = some (.frz o u) → b ∉ [h, Pt] := by
      intro b o u e hb
      obtain ⟨h', e1, s', e2, _⟩ := m0.at_ 0 _ rfl
      obtain ⟨p', e3, e4, ps, e5, _⟩ := m0.at_ 1 _ rfl
      cases e1
      cases e3
      rcases List.mem_cons.mp hb with rfl | hb
      · rw [e] at e2
        cases e2
      · rw [List.mem_singleton.mp hb, e4] at e
        rw [e] at e5
        cases e5
    simp only [X0, nox_K, cx_K]
    try dsimp only [gName]
    refine run_at (D' := { nx := fun _ _ => True, rt := fun _ _ => False }) (by walk_at "sim") hl0 m0 ?_ ⟨fun L' σ' H' ρ' M' g lx m' p => hD _ _ ?_, fun _ _ _ _ _ _ _ _ p => p.elim, fun _ _ _ _ _ _ _ _ p => p.elim, fun _ _ _ _ _ _ _ _ p => p.elim⟩
    · unfold fFor
      walk_at "fd"
      refine ⟨by decide, by decide, fun i L2 M2 => ∃ (d : Ds) (v2 v3 v4 v5 v6 v7 v8 v9 v10 v11 v12 : Option Tr), d.ok ∧ L2 = [some (.raw (.ref a)), some (.ref 0), v2, v3, v4, v5, v6, v7, v8, v9, v10, v11, v12] ∧ M2 = sm d [O.tab Pt lamQ], ⟨d, none, none, none, none, none, none, none, none, none, none, none, hd, rfl, rfl⟩, ?_⟩
      rintro i y L2 M2 hy ⟨d0, v2, v3, v4, v5, v6, v7, v8, v9, v10, v11, v12, hd0, rfl, rfl⟩
      walk_at "fd"
      refine drawn_0 hd0 (by decide) (by decide) fun r1 d1 hd1 r10 r11 => ?_
      walk_at "fd"
      refine ⟨by rw [sizeLine_eq]; decide, drawn_at hd1 (by decide) (by decide) fun r2 d2 hd2 r20 r21 => ?_⟩
      obtain ⟨mx, hmx, mx0, mx1⟩ : ∃ v : Int, atI ([.int 4, .int 24] : List Tr) r2 = some (.int v) ∧ 0 ≤ v ∧ v ≤ 24 := by
        have hr : r2 = 0 ∨ r2 = 1 := by omega
        rcases hr with e | e <;> rw [e]
        · exact ⟨4, rfl, by decide, by decide⟩
        · exact ⟨24, rfl, by decide, by decide⟩
      have hpw : (10 : Int) ^ Int.toNat 18 = 1000000000000000000 := by decide +kernel
      refine ⟨_, rfl, _, rfl, _, hmx, cp18, ?_⟩
      rw [hpw]
      refine ⟨1 + r1, mx, 1000000000000000000 + 1, d2, [O.tab Pt lamQ, O.lst [.int 4, .int 24]], rfl, rfl, hd2, by omega, by omega, mx0, mx1, by decide, by decide, fun ls d3 hd3 hll hok => ?_⟩
      have hokE : ∀ l ∈ ls, okE l := fun l hl => okE_of (by omega) (hok l hl)
      have hl24 : ls.length ≤ 24 := by omega
      refine ⟨1 + r1, ls, rfl, hl24, hokE, fun h r hb hr => ?_⟩
      obtain ⟨_, rfl⟩ := rngT_get hy
      obtain ⟨c, hc⟩ : ∃ c, 1 + r1 = c := ⟨_, rfl⟩
      have hc0 : 1 ≤ c := by omega
      have hc1 : c ≤ 12 := by omega
      rw [hc] at hok hr ⊢
      have B1 := b8_body hc0 hc1 hl24 hokE
      have N1 := encT_len (c := c) hl24 hokE
      refine ⟨fun L' M' => ∃ (d : Ds) (g : Mem) (r : Nat) (b : List Int), d.ok ∧ L' = [some (.raw (.ref a)), some (.ref 0), none, none, none, some (.ref (r + 1)), none, none, none, none, none, none, none] ∧ M' = sm d (O.tab Pt lamQ :: g) ∧ (O.tab Pt lamQ :: g)[r]? = some (.lst (intsT b)) ∧ ntab g = true ∧ belM (g.length + 2) g = true ∧ B8 b ∧ b ≠ [] ∧ b.length ≤ 300, ?_, ?_⟩
      · have eG : ∀ d x, sm d [O.tab Pt lamQ, O.lst [.int 4, .int 24]] ++ h ++ x = sm d (O.tab Pt lamQ :: (O.lst [.int 4, .int 24] :: (h ++ x))) := fun d x => by rw [List.append_assoc]; rfl
        have eG0 : ∀ d, sm d [O.tab Pt lamQ, O.lst [.int 4, .int 24]] ++ h = sm d (O.tab Pt lamQ :: (O.lst [.int 4, .int 24] :: h)) := fun d => rfl
        have b0 : ∀ x, belM 0 x = true → belM 0 (O.lst [.int 4, .int 24] :: (h ++ x)) = true := fun x hx => by
          show (true && belM 0 (h ++ x)) = true
          rw [belM_app, hb, hx]
          rfl
        have b00 : belM 0 (O.lst [.int 4, .int 24] :: h) = true := by
          show (true && belM 0 h) = true
          rw [hb]
          rfl
        refine ifS_of (decide (i = 0) && !decide (ls = [])) (fun P hP => ?_) (fun hcd => ?_) (fun _ => ?_)
        · walk_at "fd"
          by_cases hi0 : i = 0
          · rw [if_pos (by omega)]
            refine ⟨_, .tup (da_lks ls), _, .tup .nil, shaped_lks ls, shaped_lks [], ?_⟩
            rw [eqv_lks_nil]
            rw [decide_eq_true hi0, Bool.true_and] at hP
            exact hP
          · rw [if_neg (by omega)]
            rw [decide_eq_false hi0, Bool.false_and] at hP
            exact hP
        · walk_at "fd"
          cases ls with
          | nil => simp at hcd
          | cons l ls =>
            refine ⟨lkT l, atI_nat (k := 0) rfl, _, rfl, cp18, drawn_at hd3 (by decide) (by decide) fun x d5 hd5 x0 x1 => ⟨x, rfl, by rw [sizeLine_eq]; decide, ?_⟩⟩
            have ec1 : cutT [Tr.int l.1, Tr.int l.2.1, Tr.int l.2.2.1, Tr.int l.2.2.2] none (some 3) = [Tr.int l.1, Tr.int l.2.1, Tr.int l.2.2.1] := rfl
            have ec2 : cutT (List.map lkT (l :: ls)) (some 1) none = List.map lkT ls := cutT_1
            rw [ec1, ec2, hpw]
            have hl0 := hokE l List.mem_cons_self
            have hE2 : ∀ m ∈ ((l.1, l.2.1, l.2.2.1, 1000000000000000000 + 1 + x) :: ls : List Lk), okE m := fun m hm => by
              rcases List.mem_cons.mp hm with rfl | hm
              · obtain ⟨h1, h2, h3, h4, h5, h6, _⟩ := hl0
                exact ⟨h1, h2, h3, h4, h5, h6, by show 0 ≤ 1000000000000000000 + 1 + x; omega, by show 1000000000000000000 + 1 + x < _; omega⟩
              · exact hokE m (List.mem_cons_of_mem _ hm)
            have hl24' : ((l.1, l.2.1, l.2.2.1, 1000000000000000000 + 1 + x) :: ls : List Lk).length ≤ 24 := hl24
            have N2 := encT_len (c := c) hl24' hE2
            have B2 := b8_body hc0 hc1 hl24' hE2
            rw [List.length_cons] at hl24
            refine ⟨by rw [sizeLine_eq]; exact (by decide : 4 ≤ 16777216), by rw [sizeLine_eq]; decide, by rw [sizeLine_eq, List.length_map]; omega, c, _, rfl, hl24', hE2, fun h2 r2 hb2 hr2 => ?_⟩
            rw [eG] at hr2 ⊢
            obtain ⟨r3, rfl⟩ : ∃ r3, r2 = r3 + 1 := by
              cases r2 with
              | zero => cases hr2
              | succ n => exact ⟨n, rfl⟩
            have hr2l := (List.getElem?_eq_some_iff.mp hr2).1
            refine forget_same (L' := [some (.raw (.ref a)), some (.ref 0), none, none, none, some (.ref (r3 + 1)), none, none, none, none, none, none, none]) ⟨_, rfl, _, rfl, _, _, rfl, _, _, rfl, _, _, rfl, _, rfl, _, _, rfl, _, _, rfl, _, _, rfl, _, _, rfl, _, _, rfl, _, _, rfl, _, _, rfl, rfl⟩ ⟨d5, hd5, _, r3, rfl, rfl, _, hr2, ntab_0 (b0 _ hb2), belM_mono (Nat.zero_le _) (b0 _ hb2), B2, by simp [body], by omega⟩ ⟨?_, ?_⟩ ?_
            · simp [sm_len]
              omega
            · simp [belL, Tr.bel]
              omega
            · exact bel_sm (belM_mono (Nat.zero_le _) (b0 _ hb2))
        · walk_at "fd"
          obtain ⟨M0, hM0⟩ : ∃ M0, sm d3 [O.tab Pt lamQ, O.lst [.int 4, .int 24]] ++ h = M0 := ⟨_, rfl⟩
          have eI : 2 + (1 + List.length h) = List.length M0 := by rw [← hM0]; simp [sm_len]; omega
          have hfb : firstBad c ls = none := first_okB hc0 hc1 (by omega) hok
          rw [← List.append_assoc, eI]
          rw [hM0] at hr ⊢
          obtain ⟨r3, rfl⟩ : ∃ r3, r = r3 + 1 := by
            cases r with
            | zero => rw [← hM0] at hr; cases hr
            | succ n => exact ⟨n, rfl⟩
          have hr2l := (List.getElem?_eq_some_iff.mp hr).1
          refine ⟨_, c, ls, rfl, at_00, by omega, fun r e => (by rw [hfb] at e; cases e), fun _ => ?_⟩
          rw [set_00]
          refine ⟨rfl, _, c, ls, rfl, at_00, hc0, hc1, hl24, hokE, encT c ls, rfl, b8_enc B1, by omega, _, body c ls, rfl, by rw [List.append_assoc]; exact at_l hr, by omega, ?_⟩
          simp only [List.set_cons_zero, List.append_assoc, List.cons_append, List.nil_append, List.length_append, List.length_cons, List.length_nil, Nat.zero_add, Nat.reduceAdd]
          have hk2 : (ck2 (body c ls)).length = 2 := rfl
          refine ⟨_, by rw [at_l hr]; rfl, intsT (ck2 (body c ls)), by rw [lstAt_ref, at_k]; rfl, by rw [intsT_len, intsT_len, sizeLine_eq]; omega, _, .lst (ts := intsT (encT c ls)) (by rw [lstAt_ref, at_k]; rfl) (da_ints _), _, .lst (ts := intsT (encT c ls)) (by rw [lstAt_ref, at_k]; show some (intsT (body c ls) ++ intsT (ck2 (body c ls))) = _; rw [← ints_app]; rfl) (da_ints _), shaped_ints _, shaped_ints _, ?_⟩
          rw [if_neg (by rw [eqv_same (shaped_ints _)]; decide)]
          refine forget_base (M := M0) (L' := [some (.raw (.ref a)), some (.ref 0), none, none, none, some (.ref (r3 + 1)), none, none, none, none, none, none, none]) (Nat.le_refl _) ⟨_, rfl, _, rfl, _, _, rfl, _, _, rfl, _, _, rfl, _, rfl, _, _, rfl, _, _, rfl, _, _, rfl, _, _, rfl, _, _, rfl, _, _, rfl, _, _, rfl, rfl⟩ ⟨d3, hd3, _, r3, rfl, hM0.symm, _, by rw [← hM0] at hr; exact hr, ntab_0 b00, belM_mono (Nat.zero_le _) b00, B1, by simp [body], by omega⟩ ?_ ?_
          · simp [belL, Tr.bel]
            omega
          · rw [← hM0]
            exact bel_sm (belM_mono (Nat.zero_le _) b00)
      · rintro L' M' ⟨d4, g, r', b, hd4, rfl, rfl, hr', hnt, hbg, hb8, hbn, hbl⟩
        walk_at "fd"
        refine ⟨fun L' M' => ∃ (d : Ds) (g : Mem) (r : Nat) (b : List Int), d.ok ∧ L' = [some (.raw (.ref a)), some (.ref 0), none, none, none, none, none, some (.ref (r + 1)), none, none, none, none, none] ∧ M' = sm d (O.tab Pt lamQ :: g) ∧ (O.tab Pt lamQ :: g)[r]? = some (.lst (intsT b)) ∧ ntab g = true ∧ belM (g.length + 2) g = true ∧ B8 b ∧ b.length ≤ 400, ?_, ?_⟩
        · walk_at "fd"
          refine ⟨d4, O.tab Pt lamQ :: g, r', b, rfl, rfl, hd4, hr', hb8, hbn, hbl, fun d5 h2 r2 b2 hd5 hb2 hl2 hnt2 hcl2 e2 => ?_⟩
          have hr2l := (List.getElem?_eq_some_iff.mp e2).1
          have hcl3 : belM ((g ++ h2).length + 2) (g ++ h2) = true := (Bool.and_eq_true_iff.mp hcl2).2
          refine forget_same (L' := [some (.raw (.ref a)), some (.ref 0), none, none, none, none, none, some (.ref (r2 + 1)), none, none, none, none, none]) ⟨_, rfl, _, rfl, _, _, rfl, _, _, rfl, _, _, rfl, _, _, rfl, _, _, rfl, _, rfl, _, _, rfl, _, _, rfl, _, _, rfl, _, _, rfl, _, _, rfl, rfl⟩ ⟨d5, hd5, g ++ h2, r2, rfl, rfl, _, e2, by rw [ntab_app, hnt, hnt2]; rfl, hcl3, hb2, hl2⟩ ⟨?_, ?_⟩ ?_
          · simp [sm_len]
          · simp [belL, Tr.bel, sm_len] at hr2l ⊢
            omega
          · show (true && belM _ _) = true
            rw [sm_len, hcl2]
            rfl
        · rintro L' M' ⟨d5, g, r', b, hd5, rfl, rfl, hr', hnt, hbg, hb8, hbl⟩
          walk_at "fd"
          have hr1 := (List.getElem?_eq_some_iff.mp hr').1
          rw [List.length_cons] at hr1
          refine ⟨_, b, rfl, sm_g hr', by omega, fun _ => ⟨by rw [sizeLine_eq]; decide, ?_⟩, fun nb => absurd hb8 nb⟩
          have eN : List.length g + 2 = List.length (sm d5 (O.tab Pt lamQ :: g)) := rfl
          have eS : ∀ u v : O, (sm d5 (O.tab Pt lamQ :: g) ++ [u]).set (List.length g + 2) v = sm d5 (O.tab Pt lamQ :: (g ++ [v])) := fun u v => by
            rw [eN, set_00]
            rfl
          refine ⟨J3a a Pt lamQ, ?_, ?_⟩
          · walk_at "fd"
            have put : ∀ (k : Nat) (bad : Option Nat) (v : Tr), Tr.bel 0 v = true → ((∃ i, dec b = .error i ∧ bad = some i) ∨ (∃ c ls, dec b = .ok (c, ls) ∧ bad = none ∧ v = .tup [.int c, .tup (ls.map lkT)])) → Forget (List.length g + 3) (J3a a Pt lamQ) [some (.raw (.ref a)), some (.ref 0), none, none, none, none, none, some (.ref (r' + 1)), some (.ref (List.length g + 2)), some (btT b), some v, none, none] ((sm d5 (O.tab Pt lamQ :: g) ++ [rdO (r' + 1) 0 none]).set (List.length g + 2) (rdO (r' + 1) k bad)) := by
              intro k bad v hv hh
              rw [eS]
              have hcl : belM ((g ++ [rdO (r' + 1) k bad]).length + 2) (g ++ [rdO (r' + 1) k bad]) = true := by
                rw [belM_app, belM_mono (by simp) hbg]
                show (true && (O.bel _ _ && true)) = true
                rw [bel_rdO (by simp; omega)]
                rfl
              refine forget_same (L' := [some (.raw (.ref a)), some (.ref 0), none, none, none, none, none, none, some (.ref (List.length g + 1 + 1)), some (btT b), some v, none, none]) ⟨_, rfl, _, rfl, _, _, rfl, _, _, rfl, _, _, rfl, _, _, rfl, _, _, rfl, _, _, rfl, _, rfl, _, rfl, _, rfl, _, _, rfl, _, _, rfl, rfl⟩ ⟨d5, g ++ [rdO (r' + 1) k bad], List.length g + 1, r' + 1, k, b, v, bad, hd5, rfl, rfl, ?_, by rw [ntab_app, hnt]; rfl, hcl, hb8, hbl, hv, hh⟩ ⟨?_, ?_⟩ (bel_sm hcl)
              · show (O.tab Pt lamQ :: g ++ [rdO (r' + 1) k bad])[List.length (O.tab Pt lamQ :: g)]? = _
                rw [at_00]
                rfl
              · simp [sm_len]
              · have := Tr.bel_mono (Nat.zero_le (List.length (sm d5 (O.tab Pt lamQ :: (g ++ [rdO (r' + 1) k bad]))))) hv
                simp [belL, Tr.bel, btT, sm_len] at this ⊢
                exact this
            refine ⟨_, _, b, rfl, by rw [eN, at_00]; rfl, sm_g hr', by omega, fun i e k v hv => put k (some i) v hv (.inl ⟨i, e, rfl⟩), fun c ls e k => put k none _ ?_ (.inr ⟨c, ls, e, rfl, rfl⟩)⟩
            simp [Tr.bel, Tr.bels, bel_lks]
          · rintro L' M' ⟨d6, g, n, o, k, b, ex, bad, hd6, rfl, rfl, hn, hnt, hbg, hb8, hbl, hex, hcase⟩
            refine ⟨J3 a Pt CC lamQ, ?_, ?_⟩
            · walk_at "fd"
              refine ⟨1, rfl, tabs_sm hnt, ?_⟩
              walk_at "fd"
              have hn1 := (List.getElem?_eq_some_iff.mp hn).1
              rw [List.length_cons] at hn1
              refine ⟨b, rfl, hb8, by omega, fun i e => ?_, fun c ls e x hx => ?_⟩
              · rcases hcase with ⟨i', e', rfl⟩ | ⟨c, ls, e', _⟩
                · rw [e] at e'
                  cases e'
                  refine Or.inr ⟨rfl, _, rfl, ?_⟩
                  refine forget_same (LocLe.refl _) ⟨d6, g, n, o, k, b, ex, _, _, hd6, rfl, rfl, hn, hnt, hbg, hb8, hbl, .inl ⟨i, rfl, rfl⟩⟩ ⟨Nat.le_refl _, ?_⟩ (bel_sm hbg)
                  have := Tr.bel_mono (Nat.zero_le (List.length (sm d6 (O.tab Pt lamQ :: g)))) hex
                  simp [belL, Tr.bel, Tr.bels, btT, sm_len] at this ⊢
                  exact ⟨by omega, this⟩
                · rw [e] at e'
                  cases e'
              · rcases hcase with ⟨i', e', rfl⟩ | ⟨c', ls', e', rfl, rfl⟩
                · rw [e] at e'
                  cases e'
                · rw [e] at e'
                  cases e'
                  have hcl : belM ((g ++ (x ++ [O.ins CC (tFT c ls)])).length + 2) (g ++ (x ++ [O.ins CC (tFT c ls)])) = true := by
                    rw [belM_app, belM_app, belM_mono (by simp) hbg, belM_mono (Nat.zero_le _) hx]
                    simp [belM, O.bel, belF, tFT, Tr.bel, bel_lks]
                  show Forget _ _ _ (sm d6 (O.tab Pt lamQ :: (g ++ (x ++ [O.ins CC (tFT c ls)]))))
                  refine forget_same (L' := [some (.raw (.ref a)), some (.ref 0), none, none, none, none, none, none, some (.ref (n + 1)), some (btT b), some (.tup [.int c, .tup (ls.map lkT)]), some (.ref (List.length g + List.length x + 1 + 1)), none]) ?_ ⟨d6, _, n, o, k, b, _, _, none, hd6, rfl, rfl, ?_, by rw [ntab_app, ntab_app, hnt, ntab_0 hx]; rfl, hcl, hb8, hbl, .inr ⟨c, ls, List.length g + List.length x + 1, e, rfl, rfl, rfl, ?_⟩⟩ ⟨?_, ?_⟩ (bel_sm hcl)
                  · have : List.length (sm d6 (O.tab Pt lamQ :: g)) + List.length x = List.length g + List.length x + 1 + 1 := by simp [sm_len]; omega
                    rw [this]
                    exact LocLe.refl _
                  · exact at_l (M := O.tab Pt lamQ :: g) hn
                  · show (O.tab Pt lamQ :: (g ++ (x ++ [O.ins CC (tFT c ls)])))[List.length g + List.length x + 1]? = _
                    rw [List.getElem?_cons_succ, ← List.append_assoc, show List.length g + List.length x = List.length (g ++ x) from List.length_append.symm, at_00]
                    rfl
                  · simp [sm_len]
                  · simp [belL, Tr.bel, Tr.bels, btT, sm_len, bel_lks]
                    omega
            · rintro L' M' ⟨d7, g, n, o, k, b, ex, ac, bad, hd7, rfl, rfl, hn, hnt, hbg, hb8, hbl, hcase⟩
              refine ⟨J4 a Pt lamQ, ?_, ?_⟩
              · rcases hcase with ⟨i, rfl, rfl⟩ | ⟨c, ls, m, hdc, rfl, rfl, rfl, hm⟩
                · walk_at "fd"
                  have hsh : SeqAt.shaped (.tuple [.str "InvalidData", .int (i : Int)]) = true := shaped_of (by simp [PyData.canLay0, PyData.canLayAll0]; decide +kernel) (by simp [PyData.depth, PyData.depthAll])
                  refine ⟨_, _, _, sm_g0 hn, rfl, ?_⟩
                  rw [if_pos (show isN (bdT (some i)) = false from rfl)]
                  refine ⟨_, _, _, sm_g0 hn, by rw [sizeLine_eq]; decide, _, .tup (.cons (.str _) (.cons (.int _) .nil)), _, .tup (.cons (.str _) (.cons (.int _) .nil)), hsh, hsh, ?_⟩
                  rw [if_neg (by rw [eqv_same hsh]; decide)]
                  exact forget_same (L' := [some (.raw (.ref a)), some (.ref 0), none, none, none, none, none, none, none, none, none, none, none]) ⟨_, rfl, _, rfl, _, _, rfl, _, _, rfl, _, _, rfl, _, _, rfl, _, _, rfl, _, _, rfl, _, _, rfl, _, _, rfl, _, _, rfl, _, _, rfl, _, _, rfl, rfl⟩ ⟨d7, g, hd7, rfl, rfl, hnt, hbg⟩ ⟨Nat.le_refl _, by simp [belL, Tr.bel, sm_len]⟩ (bel_sm hbg)
                · obtain ⟨k1, k2, k3, k4, k5⟩ := dec_ok hdc
                  have hE : ∀ l ∈ ls, okE l := fun l hl => okE_good k3 (k5 l hl)
                  have hm2 : (sm d7 (O.tab Pt lamQ :: g))[m + 1]? = some (O.ins CC (tFT c ls)) := sm_g0 hm
                  walk_at "fd"
                  refine ⟨_, _, _, sm_g0 hn, rfl, ?_⟩
                  rw [if_neg (show ¬ isN (bdT none) = false by decide)]
                  refine ⟨_, rfl, .inr ⟨_, _, insAt_of hm2, ?_⟩⟩
                  refine ⟨false, rfl, ?_⟩
                  rw [if_neg (by decide)]
                  refine ⟨_, _, insM_of hm2, ⟨_, _, _, _, rfl, insAt_of hm2, rfl, ?_⟩⟩
                  refine ⟨_, _, insM_of hm2, ⟨_, _, _, _, rfl, insAt_of hm2, rfl, ?_⟩⟩
                  refine ⟨by rw [sizeLine_eq]; decide, _, .tup (.cons (.int _) (.cons (.tup (da_lks _)) .nil)), _, .tup (.cons (.int _) (.cons (.tup (da_lks _)) .nil)), shaped_cl c ls, shaped_cl c ls, ?_⟩
                  rw [if_neg (by rw [eqv_same (shaped_cl c ls)]; decide)]
                  refine ⟨m + 1, c, ls, rfl, hm2, k2, k3, k4, hE, _, rfl, b, rfl, by rw [k1]; exact hb8, hb8, ?_⟩
                  rw [if_neg (fun z => z k1)]
                  exact forget_same (L' := [some (.raw (.ref a)), some (.ref 0), none, none, none, none, none, none, none, none, none, none, none]) ⟨_, rfl, _, rfl, _, _, rfl, _, _, rfl, _, _, rfl, _, _, rfl, _, _, rfl, _, _, rfl, _, _, rfl, _, _, rfl, _, _, rfl, _, _, rfl, _, _, rfl, rfl⟩ ⟨d7, g, hd7, rfl, rfl, hnt, hbg⟩ ⟨Nat.le_refl _, by simp [belL, Tr.bel, sm_len]⟩ (bel_sm hbg)
              · rintro L' M' ⟨d8, g, hd8, rfl, rfl, hnt, hbg⟩
                walk_at "fd"
                refine ⟨by rw [sizeLine_eq]; decide, fun i L2 M2 => ∃ v : Option Tr, L2 = [some (.raw (.ref a)), some (.ref 0), none, none, none, none, none, none, none, none, none, none, v] ∧ M2 = sm d8 (O.tab Pt lamQ :: g), ⟨none, rfl, rfl⟩, ?_, ?_⟩
                · rintro i t L2 M2 ht ⟨v, rfl, rfl⟩
                  obtain ⟨w, rfl, hw⟩ : ∃ w : Int, t = .int w ∧ ¬ (0 ≤ w ∧ w < 256) := by
                    match i, ht with
                    | 0, ht =>
                      cases ht
                      exact ⟨_, rfl, by decide⟩
                    | 1, ht =>
                      cases ht
                      exact ⟨_, rfl, by decide⟩
                  have hsh : SeqAt.shaped (.tuple [.str "InvalidCount"]) = true := shaped_of (by simp [PyData.canLay0, PyData.canLayAll0]; decide +kernel) (by simp [PyData.depth, PyData.depthAll])
                  refine ⟨1, rfl, tabs_sm hnt, ?_⟩
                  walk_at "fd"
                  refine ⟨by rw [sizeLine_eq]; decide, _, [0, w], rfl, by (have eN : List.length g + 2 = List.length (sm d8 (O.tab Pt lamQ :: g)) := rfl); rw [eN, at_00]; rfl, (by show 2 ≤ 100000; decide), fun hb => absurd (hb w (by simp)) hw, fun _ => Or.inl ⟨rfl, rfl, ?_⟩⟩
                  refine ⟨by rw [sizeLine_eq]; decide, _, .tup (.cons (.str _) .nil), _, .tup (.cons (.str _) .nil), hsh, hsh, ?_⟩
                  rw [if_neg (by rw [eqv_same hsh]; decide)]
                  exact forget_base (M := sm d8 (O.tab Pt lamQ :: g)) (L' := [some (.raw (.ref a)), some (.ref 0), none, none, none, none, none, none, none, none, none, none, none]) (Nat.le_refl _) ⟨_, rfl, _, rfl, _, _, rfl, _, _, rfl, _, _, rfl, _, _, rfl, _, _, rfl, _, _, rfl, _, _, rfl, _, _, rfl, _, _, rfl, _, _, rfl, _, _, rfl, rfl⟩ ⟨none, rfl, rfl⟩ (by simp [belL, Tr.bel, sm_len]) (bel_sm hbg)
                · rintro L2 M2 ⟨v, rfl, rfl⟩
                  show Forget _ _ _ (sm d8 [O.tab Pt lamQ] ++ g)
                  exact forget_base (M := sm d8 [O.tab Pt lamQ]) (L' := [some (.raw (.ref a)), some (.ref 0), none, none, none, none, none, none, none, none, none, none, none]) (Nat.le_refl _) ⟨_, rfl, _, rfl, _, _, rfl, _, _, rfl, _, _, rfl, _, _, rfl, _, _, rfl, _, _, rfl, _, _, rfl, _, _, rfl, _, _, rfl, _, _, rfl, _, _, rfl, rfl⟩ ⟨d8, hd8, none, none, none, none, none, none, none, none, none, none, none, rfl, rfl⟩ (by simp [belL, Tr.bel, sm_len]) (bel_sm rfl)
    · exact fun b o u e => g.oth _ _ e (hfz b o u e) (fun ps z => nomatch z)
  obtain ⟨tF, hF, rF⟩ := forP
  have C := C9
  have hand : ∃ t, PSs X0 (fnBody sLaw) t ∧ t { nx := fun _ H' => Q .non H', rt := Q } (L2.start ["_law_script", "_law_state", "_law_turn", "_law_count", "_law_bridges_here", "_law_body_here", "_law_far", "_law_octets", "_law_w", "_law_data", "_law_expected", "_law_actual", "_law_wrong"] [.ref a]) H := by
    have ha2 : H a = some (.lst (ns.map V.int)) ∨ Fz K H a (ns.map V.int) := by
      rcases ha with (e | e) | e
      · exact .inl e
      · exact .inr (.inl e)
      · exact .inr (.inr e)
    rcases ha2 with hA | hA
    · refine ⟨_, pss_cons (ps_set (i := 1) scLaw.nd rfl (Or.inl rfl) (pe_c C._law_start hr (by first | decide | omega) (by rfl) (pa_cons (pv 0) pa_nil))) (pss_cons (ps_lock hF) (pss_one (ps_ret pe_bl))), ?_⟩
      walk_at "go"
      refine ⟨a, ns, rfl, .inl (.inl hA), fun h m H1 hn m0 m1 eh sm1 => ?_⟩
      have tb1 : LamX.TabS H1 Pt lamQ := (hT.ext sm1) (Pt, lamQ) (List.mem_singleton.mpr rfl)
      have hA1 : H1 a = some (.lst (ns.map V.int)) := sm1 _ _ hA
      have nha : h ≠ a := fun z => by rw [z, hA] at hn; cases hn
      refine ⟨a, _, hA1, True.intro, fun od => rF _ h ⟨ns, 0, m, 0⟩ ⟨Int.le_refl 0, m0, m1, Int.le_refl 0, hl⟩ (sm_start (a := a) (by rw [upd_ne nha]; exact eh) (.inl ⟨od, upd_same⟩) ?_) _ fun σ' H' kp => ⟨kp _ _ _ upd_same, ?_⟩⟩
      · obtain ⟨ps, t1, t2, t3⟩ := tb1
        refine ⟨ps, by rw [upd_ne (ne_of t1 hA1 (fun z => nomatch z))]; exact t1, t2, fun pos cv hc => ?_⟩
        obtain ⟨c, e1, e2⟩ := t3 pos cv hc
        exact ⟨c, e1, by rw [upd_ne (ne_of e2 hA1 (fun z => by unfold LamX.CodeO at z; cases z))]; exact e2⟩
      · walk_at "go"
        exact q _
    · have fz : Fz K H a (ns.map V.int) := hA
      refine ⟨_, pss_cons (ps_set (i := 1) scLaw.nd rfl (Or.inl rfl) (pe_c C._law_start hr (by first | decide | omega) (by rfl) (pa_cons (pv 0) pa_nil))) (pss_cons hF (pss_one (ps_ret pe_bl))), ?_⟩
      walk_at "go"
      refine ⟨a, ns, rfl, fz.sql, fun h m H1 hn m0 m1 eh sm1 => ?_⟩
      have tb1 : LamX.TabS H1 Pt lamQ := (hT.ext sm1) (Pt, lamQ) (List.mem_singleton.mpr rfl)
      have fz1 : Fz K H1 a (ns.map V.int) := fz.imp (fun ⟨o, e⟩ => ⟨o, sm1 _ _ e⟩) id
      refine rF _ h ⟨ns, 0, m, 0⟩ ⟨Int.le_refl 0, m0, m1, Int.le_refl 0, hl⟩ (sm_start (a := a) eh fz1 tb1) _ fun σ' H' kp => ?_
      walk_at "go"
      exact q _
  obtain ⟨t, ht, hq⟩ := hand
  exact ⟨t, ht.nox, hq⟩
end
end T1

set_option Elab.async false
set_option linter.all false
set_option maxRecDepth 100000
set_option maxHeartbeats 4000000
namespace T1
open PySem PySem.Spec PyProof.Rows L2 C8 Fm T3
theorem tabs_new {P : Addr} {q : Str} {H : Hp} (h : H P = some (.tbl #[])) : LamX.Tabs [(P, q)] H := fun p hp => by
  rw [List.mem_singleton.mp hp]
  exact ⟨#[], h, trivial, fun pos cv hc => by cases hc⟩
set_option maxHeartbeats 8000000 in
theorem all_mk {l : PySem.W.OpenLaw} {w : World} {K : PySem.W.Frag} {h : Heap} {mg : Str → Option Value} {fa : Addr} (X : K.In h) (G : h.Ns mainGlobals mg) (hfa : mg "law" = some (.ref fa))
    {CB CT CX CN CR fT fX C pS gS fTi fR p1 p2 g1 g2 fL cl Pt mTa mTo mTl mTe fUnp fGof fChk fEnc fStart fDrawn fOutc fLBr fLCk fLGr fLBody fLGet fLFault fLRead fLDam fPack fReadB fDec : Addr} {nmT qT : Str} {NT : Addr} {bsT bmT : List Value} {snT : List Str} {subT : List Value} {abT : Bool} {colT : Option Bool} {ddT : Option Addr} {m0T m1T m2T m3T m5T : Option Value} {nmX qX : Str} {NX : Addr} {bsX bmX : List Value} {snX : List Str} {subX : List Value} {abX : Bool} {colX : Option Bool} {ddX : Option Addr} {m0X m1X m2X m3X m5X : Option Value} {mB : Value} {u1 u2 u3 u4 u5 w_MARK w_MAX_BYTE w_GROUP w_LOW_BITS w_MOST_GROUPS w_MAX_LENGTH : Tok} {rS r1 r2 : List Value}
    {ocUnp kVUnp dcUnp pmUnp cdUnp ctUnp ocGof kVGof dcGof pmGof cdGof ctGof ocChk kVChk dcChk pmChk cdChk ctChk ocEnc kVEnc dcEnc pmEnc cdEnc ctEnc ocStart kVStart dcStart pmStart cdStart ctStart ocDrawn kVDrawn dcDrawn pmDrawn cdDrawn ctDrawn ocOutc kVOutc dcOutc pmOutc cdOutc ctOutc ocLBr kVLBr dcLBr pmLBr cdLBr ctLBr ocLCk kVLCk dcLCk pmLCk cdLCk ctLCk ocLGr kVLGr dcLGr pmLGr cdLGr ctLGr ocLBody kVLBody dcLBody pmLBody cdLBody ctLBody ocLGet kVLGet dcLGet pmLGet cdLGet ctLGet ocLFault kVLFault dcLFault pmLFault cdLFault ctLFault ocLRead kVLRead dcLRead pmLRead cdLRead ctLRead ocLDam kVLDam dcLDam pmLDam cdLDam ctLDam ocPack kVPack dcPack pmPack cdPack ctPack ocReadB kVReadB dcReadB pmReadB cdReadB ctReadB ocDec kVDec dcDec pmDec cdDec ctDec ocL kVL dcL pmL ctL ocITi kVITi dcITi pmITi cdITi ctITi ocIXi kVIXi dcIXi pmIXi cdIXi ctIXi ocTi kVTi dcTi pmTi cdTi ctTi ocRi kVRi dcRi pmRi cdRi ctRi ocS kVS dcS pmS cdS ctS ocg1 kVg1 dcg1 pmg1 cdg1 ctg1 ocg2 kVg2 dcg2 pmg2 cdg2 ctg2 ocTa kVTa dcTa pmTa cdTa ctTa ocTo kVTo dcTo pmTo cdTo ctTo ocTl kVTl dcTl pmTl cdTl ctTl ocTe kVTe dcTe pmTe cdTe ctTe : Value} {odUnp anUnp odGof anGof odChk anChk odEnc anEnc odStart anStart odDrawn anDrawn odOutc anOutc odLBr anLBr odLCk anLCk odLGr anLGr odLBody anLBody odLGet anLGet odLFault anLFault odLRead anLRead odLDam anLDam odPack anPack odReadB anReadB odDec anDec odL anL odITi anITi odIXi anIXi odTi anTi odRi anRi odS anS odg1 ang1 odg2 ang2 odTa anTa odTo anTo odTl anTl odTe anTe : Option Addr} {slUnp slGof slChk slEnc slStart slDrawn slOutc slLBr slLCk slLGr slLBody slLGet slLFault slLRead slLDam slPack slReadB slDec slL slITi slIXi slTi slRi slS slg1 slg2 slTa slTo slTl slTe : Array (Option Value)}
    (aCB : PySem.W.nsIn K mainGlobals "BridgeError" = some (some (.ref CB)))
    (aCT : PySem.W.nsIn K mainGlobals "InvalidTown" = some (some (.ref CT)))
    (aCX : PySem.W.nsIn K mainGlobals "InvalidData" = some (some (.ref CX)))
    (aCN : PySem.W.nsIn K mainGlobals "InvalidCount" = some (some (.ref CN)))
    (aC : PySem.W.nsIn K mainGlobals "Town" = some (some (.ref C)))
    (aCR : PySem.W.nsIn K mainGlobals "Reader" = some (some (.ref CR)))
    (egT : PySem.W.findIn K (.ref CT) "__getattribute__" = some (some (.builtin "BaseException.__getattribute__")))
    (ekT : PySem.W.findIn K (.ref CT) "__getattr__" = some none)
    (esT : PySem.W.subIn K (.ref CT) (.type "BaseException") = some true)
    (edT : PySem.W.hasDictIn K CT = true)
    (olT : K.lookup CT = some (excClassObj nmT qT CT NT bsT bmT true snT subT abT colT ddT m0T m1T m2T m3T m5T "ValueError.__new__"))
    (osT : PySem.W.findIn K (.ref CT) "__setattr__" = some (some (.builtin "object.__setattr__")))
    (otT : PySem.W.typeIn K (.ref CT) = some (.type "type"))
    (okpT : PySem.W.keepIn K (.ref CT) = true)
    (egX : PySem.W.findIn K (.ref CX) "__getattribute__" = some (some (.builtin "BaseException.__getattribute__")))
    (ekX : PySem.W.findIn K (.ref CX) "__getattr__" = some none)
    (esX : PySem.W.subIn K (.ref CX) (.type "BaseException") = some true)
    (edX : PySem.W.hasDictIn K CX = true)
    (olX : K.lookup CX = some (excClassObj nmX qX CX NX bsX bmX true snX subX abX colX ddX m0X m1X m2X m3X m5X "ValueError.__new__"))
    (osX : PySem.W.findIn K (.ref CX) "__setattr__" = some (some (.builtin "object.__setattr__")))
    (otX : PySem.W.typeIn K (.ref CX) = some (.type "type"))
    (okpX : PySem.W.keepIn K (.ref CX) = true)
    (iX : PySem.W.findIn K (.ref CX) "__init__" = some (some (.ref fX)))
    (tX : PySem.W.typeIn K (.ref fX) = some (.type "function"))
    (nR : PySem.W.findIn K (.ref CX) "offset" = some none)
    (k_nn : PySem.W.exmOne K (.ref CN) (.ref CN) = some true)
    (k_xn : PySem.W.exmOne K (.ref CX) (.ref CN) = some false)
    (k_xx : PySem.W.exmOne K (.ref CX) (.ref CX) = some true)
    (nq : PySem.W.excIn K CN [.type "ValueError", .type "Exception", .type "BaseException", .type "object"] "ValueError.__new__" = true)
    (nk : PySem.W.keepIn K (.ref CN) = true)
    (ns : PySem.W.subIn K (.ref CN) (.type "BaseException") = some true)
    (nt : PySem.W.typeIn K (.ref CN) = some (.type "type"))
    (tca : PySem.W.findIn K (.ref C) "__class__" = some (some (.builtin "object.__class__")))
    (ehn : PySem.W.specialIn K (.builtin "object.__class__") "__get__" = some (some (.builtin "getset_descriptor.__get__")))
    (eht : PySem.W.takesIn K (.builtin "object.__class__") = some true)
    (tcm : PySem.W.mroIn K C (.type "object") = some true)
    (k_tt : PySem.W.kitOne K (.ref C) (.type "tuple") = some false)
    (nP : PySem.W.findIn K (.ref CT) "part" = some none)
    (nI : PySem.W.findIn K (.ref CT) "index" = some none)
    (rdB : PySem.W.readsIn K CB mB = true)
    (sgB : PySem.W.specialIn K (.ref CB) "__getattribute__" = some (some (.builtin "type.__getattribute__")))
    (inB : PySem.W.findCls K (.ref CB) mB "__init__" = some (.val (.builtin "ValueError.__init__")))
    (iT : PySem.W.findIn K (.ref CT) "__init__" = some (some (.ref fT)))
    (tT : PySem.W.typeIn K (.ref fT) = some (.type "function"))
    (crd : PySem.W.readsIn K C (.type "type") = true)
    (cga : PySem.W.specialIn K (.ref C) "__getattribute__" = some (some (.builtin "type.__getattribute__")))
    (vML : PySem.W.findCls K (.ref C) (.type "type") "MAX_LIFE" = some (.val (.int 1000000000000000000 u1)))
    (vMP : PySem.W.findCls K (.ref C) (.type "type") "MAX_PLACES" = some (.val (.int 12 u2)))
    (vMB : PySem.W.findCls K (.ref C) (.type "type") "MAX_BRIDGES" = some (.val (.int 24 u3)))
    (cpg : PySem.W.plainGet K C Str.empty = true)
    (chd : PySem.W.hasDictIn K C = true)
    (cpo : PySem.W.plainOver K C = true)
    (csa : PySem.W.findIn K (.ref C) "__setattr__" = some (some (.builtin "object.__setattr__")))
    (nC : PySem.W.findIn K (.ref C) "_count" = some none)
    (nB : PySem.W.findIn K (.ref C) "_bridges" = some none)
    (mpa : PySem.W.findIn K (.ref C) "MAX_PLACES" = some (some (.int 12 u4)))
    (mpg : PySem.W.specialIn K (.int 12 u4) "__get__" = some none)
    (mba : PySem.W.findIn K (.ref C) "MAX_BRIDGES" = some (some (.int 24 u5)))
    (mbg : PySem.W.specialIn K (.int 24 u5) "__get__" = some none)
    (sIc : PySem.W.isClsIn K C = true)
    (sIf : PySem.W.findIn K (.ref C) "is_bridge" = some (some (.ref pS)))
    (sIt : PySem.W.typeIn K (.ref pS) = some (.type "staticmethod"))
    (sIs : PySem.W.specialIn K (.ref pS) "__get__" = some (some (.builtin "staticmethod.__get__")))
    (sIk : PySem.W.takesIn K (.ref pS) = some false)
    (sIr : PySem.W.recIn K pS "staticmethod" = some (.ref gS :: rS))
    (cmk : PySem.W.makesIn K C = true)
    (iTi : PySem.W.findIn K (.ref C) "__init__" = some (some (.ref fTi)))
    (fTiF : PySem.W.isFn K (.ref fTi) = true)
    (ckp : PySem.W.keepIn K (.ref C) = true)
    (rpg : PySem.W.plainGet K CR Str.empty = true)
    (rhd : PySem.W.hasDictIn K CR = true)
    (rpo : PySem.W.plainOver K CR = true)
    (rsa : PySem.W.findIn K (.ref CR) "__setattr__" = some (some (.builtin "object.__setattr__")))
    (rnD : PySem.W.findIn K (.ref CR) "_data" = some none)
    (rnA : PySem.W.findIn K (.ref CR) "_at" = some none)
    (rmk : PySem.W.makesIn K CR = true)
    (iR : PySem.W.findIn K (.ref CR) "__init__" = some (some (.ref fR)))
    (fRF : PySem.W.isFn K (.ref fR) = true)
    (rkp : PySem.W.keepIn K (.ref CR) = true)
    (mfTa : PySem.W.findIn K (.ref CR) "take" = some (some (.ref mTa)))
    (miTa : PySem.W.isFn K (.ref mTa) = true)
    (mfTo : PySem.W.findIn K (.ref CR) "take_other" = some (some (.ref mTo)))
    (miTo : PySem.W.isFn K (.ref mTo) = true)
    (mfTl : PySem.W.findIn K (.ref CR) "take_life" = some (some (.ref mTl)))
    (miTl : PySem.W.isFn K (.ref mTl) = true)
    (mfTe : PySem.W.findIn K (.ref CR) "take_end" = some (some (.ref mTe)))
    (miTe : PySem.W.isFn K (.ref mTe) = true)
    (pa1 : PySem.W.findIn K (.ref C) "place_count" = some (some (.ref p1)))
    (pg1 : PySem.W.specialIn K (.ref p1) "__get__" = some (some (.builtin "property.__get__")))
    (pt1 : PySem.W.takesIn K (.ref p1) = some true)
    (pr1 : PySem.W.recIn K p1 "property" = some (.ref g1 :: r1))
    (pa2 : PySem.W.findIn K (.ref C) "bridges" = some (some (.ref p2)))
    (pg2 : PySem.W.specialIn K (.ref p2) "__get__" = some (some (.builtin "property.__get__")))
    (pt2 : PySem.W.takesIn K (.ref p2) = some true)
    (pr2 : PySem.W.recIn K p2 "property" = some (.ref g2 :: r2))
    (aUnp : PySem.W.nsIn K mainGlobals "unpack_bytes" = some (some (.ref fUnp)))
    (lUnp : K.lookup fUnp = some ⟨ocUnp, odUnp, .func (PySem.W.fnOf "unpack_bytes" "unpack_bytes" (fnArgs sUnpack) (fnBody sUnpack) (fnScope sUnpack) .none kVUnp dcUnp pmUnp anUnp cdUnp ctUnp), slUnp⟩)
    (ccUnp : PySem.W.codeIn K cdUnp "unpack_bytes" = true)
    (kkUnp : PySem.W.keepIn K (.ref fUnp) = true)
    (aGof : PySem.W.nsIn K mainGlobals "_groups_of" = some (some (.ref fGof)))
    (lGof : K.lookup fGof = some ⟨ocGof, odGof, .func (PySem.W.fnOf "_groups_of" "_groups_of" (fnArgs sGroupsOf) (fnBody sGroupsOf) (fnScope sGroupsOf) .none kVGof dcGof pmGof anGof cdGof ctGof), slGof⟩)
    (ccGof : PySem.W.codeIn K cdGof "_groups_of" = true)
    (kkGof : PySem.W.keepIn K (.ref fGof) = true)
    (aChk : PySem.W.nsIn K mainGlobals "_checksum" = some (some (.ref fChk)))
    (lChk : K.lookup fChk = some ⟨ocChk, odChk, .func (PySem.W.fnOf "_checksum" "_checksum" (fnArgs sCheck) (fnBody sCheck) (fnScope sCheck) .none kVChk dcChk pmChk anChk cdChk ctChk), slChk⟩)
    (ccChk : PySem.W.codeIn K cdChk "_checksum" = true)
    (kkChk : PySem.W.keepIn K (.ref fChk) = true)
    (aEnc : PySem.W.nsIn K mainGlobals "encode_town" = some (some (.ref fEnc)))
    (lEnc : K.lookup fEnc = some ⟨ocEnc, odEnc, .func (PySem.W.fnOf "encode_town" "encode_town" (fnArgs sEnc) (fnBody sEnc) (fnScope sEnc) .none kVEnc dcEnc pmEnc anEnc cdEnc ctEnc), slEnc⟩)
    (ccEnc : PySem.W.codeIn K cdEnc "encode_town" = true)
    (kkEnc : PySem.W.keepIn K (.ref fEnc) = true)
    (aStart : PySem.W.nsIn K mainGlobals "_law_start" = some (some (.ref fStart)))
    (lStart : K.lookup fStart = some ⟨ocStart, odStart, .func (PySem.W.fnOf "_law_start" "_law_start" (fnArgs sStart) (fnBody sStart) (fnScope sStart) .none kVStart dcStart pmStart anStart cdStart ctStart), slStart⟩)
    (ccStart : PySem.W.codeIn K cdStart "_law_start" = true)
    (kkStart : PySem.W.keepIn K (.ref fStart) = true)
    (aDrawn : PySem.W.nsIn K mainGlobals "_law_drawn" = some (some (.ref fDrawn)))
    (lDrawn : K.lookup fDrawn = some ⟨ocDrawn, odDrawn, .func (PySem.W.fnOf "_law_drawn" "_law_drawn" (fnArgs sDrawn) (fnBody sDrawn) (fnScope sDrawn) .none kVDrawn dcDrawn pmDrawn anDrawn cdDrawn ctDrawn), slDrawn⟩)
    (ccDrawn : PySem.W.codeIn K cdDrawn "_law_drawn" = true)
    (kkDrawn : PySem.W.keepIn K (.ref fDrawn) = true)
    (aOutc : PySem.W.nsIn K mainGlobals "_law_outcome" = some (some (.ref fOutc)))
    (lOutc : K.lookup fOutc = some ⟨ocOutc, odOutc, .func (PySem.W.fnOf "_law_outcome" "_law_outcome" (fnArgs sOutc) (fnBody sOutc) (fnScope sOutc) .none kVOutc dcOutc pmOutc anOutc cdOutc ctOutc), slOutc⟩)
    (ccOutc : PySem.W.codeIn K cdOutc "_law_outcome" = true)
    (kkOutc : PySem.W.keepIn K (.ref fOutc) = true)
    (aLBr : PySem.W.nsIn K mainGlobals "_law_bridges" = some (some (.ref fLBr)))
    (lLBr : K.lookup fLBr = some ⟨ocLBr, odLBr, .func (PySem.W.fnOf "_law_bridges" "_law_bridges" (fnArgs sLBr) (fnBody sLBr) (fnScope sLBr) .none kVLBr dcLBr pmLBr anLBr cdLBr ctLBr), slLBr⟩)
    (ccLBr : PySem.W.codeIn K cdLBr "_law_bridges" = true)
    (kkLBr : PySem.W.keepIn K (.ref fLBr) = true)
    (aLCk : PySem.W.nsIn K mainGlobals "_law_checksum" = some (some (.ref fLCk)))
    (lLCk : K.lookup fLCk = some ⟨ocLCk, odLCk, .func (PySem.W.fnOf "_law_checksum" "_law_checksum" (fnArgs sLCk) (fnBody sLCk) (fnScope sLCk) .none kVLCk dcLCk pmLCk anLCk cdLCk ctLCk), slLCk⟩)
    (ccLCk : PySem.W.codeIn K cdLCk "_law_checksum" = true)
    (kkLCk : PySem.W.keepIn K (.ref fLCk) = true)
    (aLGr : PySem.W.nsIn K mainGlobals "_law_groups" = some (some (.ref fLGr)))
    (lLGr : K.lookup fLGr = some ⟨ocLGr, odLGr, .func (PySem.W.fnOf "_law_groups" "_law_groups" (fnArgs sLGr) (fnBody sLGr) (fnScope sLGr) .none kVLGr dcLGr pmLGr anLGr cdLGr ctLGr), slLGr⟩)
    (ccLGr : PySem.W.codeIn K cdLGr "_law_groups" = true)
    (kkLGr : PySem.W.keepIn K (.ref fLGr) = true)
    (aLBody : PySem.W.nsIn K mainGlobals "_law_body" = some (some (.ref fLBody)))
    (lLBody : K.lookup fLBody = some ⟨ocLBody, odLBody, .func (PySem.W.fnOf "_law_body" "_law_body" (fnArgs sLBody) (fnBody sLBody) (fnScope sLBody) .none kVLBody dcLBody pmLBody anLBody cdLBody ctLBody), slLBody⟩)
    (ccLBody : PySem.W.codeIn K cdLBody "_law_body" = true)
    (kkLBody : PySem.W.keepIn K (.ref fLBody) = true)
    (aLGet : PySem.W.nsIn K mainGlobals "_law_get" = some (some (.ref fLGet)))
    (lLGet : K.lookup fLGet = some ⟨ocLGet, odLGet, .func (PySem.W.fnOf "_law_get" "_law_get" (fnArgs sLGet) (fnBody sLGet) (fnScope sLGet) .none kVLGet dcLGet pmLGet anLGet cdLGet ctLGet), slLGet⟩)
    (ccLGet : PySem.W.codeIn K cdLGet "_law_get" = true)
    (kkLGet : PySem.W.keepIn K (.ref fLGet) = true)
    (aLFault : PySem.W.nsIn K mainGlobals "_law_fault" = some (some (.ref fLFault)))
    (lLFault : K.lookup fLFault = some ⟨ocLFault, odLFault, .func (PySem.W.fnOf "_law_fault" "_law_fault" (fnArgs sLFault) (fnBody sLFault) (fnScope sLFault) .none kVLFault dcLFault pmLFault anLFault cdLFault ctLFault), slLFault⟩)
    (ccLFault : PySem.W.codeIn K cdLFault "_law_fault" = true)
    (kkLFault : PySem.W.keepIn K (.ref fLFault) = true)
    (aLRead : PySem.W.nsIn K mainGlobals "_law_read" = some (some (.ref fLRead)))
    (lLRead : K.lookup fLRead = some ⟨ocLRead, odLRead, .func (PySem.W.fnOf "_law_read" "_law_read" (fnArgs sLRead) (fnBody sLRead) (fnScope sLRead) .none kVLRead dcLRead pmLRead anLRead cdLRead ctLRead), slLRead⟩)
    (ccLRead : PySem.W.codeIn K cdLRead "_law_read" = true)
    (kkLRead : PySem.W.keepIn K (.ref fLRead) = true)
    (aLDam : PySem.W.nsIn K mainGlobals "_law_damaged" = some (some (.ref fLDam)))
    (lLDam : K.lookup fLDam = some ⟨ocLDam, odLDam, .func (PySem.W.fnOf "_law_damaged" "_law_damaged" (fnArgs sLDam) (fnBody sLDam) (fnScope sLDam) .none kVLDam dcLDam pmLDam anLDam cdLDam ctLDam), slLDam⟩)
    (ccLDam : PySem.W.codeIn K cdLDam "_law_damaged" = true)
    (kkLDam : PySem.W.keepIn K (.ref fLDam) = true)
    (aPack : PySem.W.nsIn K mainGlobals "pack_bytes" = some (some (.ref fPack)))
    (lPack : K.lookup fPack = some ⟨ocPack, odPack, .func (PySem.W.fnOf "pack_bytes" "pack_bytes" (L2.defArgs sPack) (L2.defBody sPack) (L2.defScope sPack) .none kVPack dcPack pmPack anPack cdPack ctPack), slPack⟩)
    (ccPack : PySem.W.codeIn K cdPack "pack_bytes" = true)
    (kkPack : PySem.W.keepIn K (.ref fPack) = true)
    (aReadB : PySem.W.nsIn K mainGlobals "_read_bridge" = some (some (.ref fReadB)))
    (lReadB : K.lookup fReadB = some ⟨ocReadB, odReadB, .func (PySem.W.fnOf "_read_bridge" "_read_bridge" (L2.defArgs sReadB) (L2.defBody sReadB) (L2.defScope sReadB) .none kVReadB dcReadB pmReadB anReadB cdReadB ctReadB), slReadB⟩)
    (ccReadB : PySem.W.codeIn K cdReadB "_read_bridge" = true)
    (kkReadB : PySem.W.keepIn K (.ref fReadB) = true)
    (aDec : PySem.W.nsIn K mainGlobals "decode_town" = some (some (.ref fDec)))
    (lDec : K.lookup fDec = some ⟨ocDec, odDec, .func (PySem.W.fnOf "decode_town" "decode_town" (L2.defArgs sDec) (L2.defBody sDec) (L2.defScope sDec) .none kVDec dcDec pmDec anDec cdDec ctDec), slDec⟩)
    (ccDec : PySem.W.codeIn K cdDec "decode_town" = true)
    (kkDec : PySem.W.keepIn K (.ref fDec) = true)
    (aL : PySem.W.nsIn K mainGlobals "law" = some (some (.ref fL)))
    (lL : K.lookup fL = some ⟨ocL, odL, .func (PySem.W.fnOf "law" "law" (fnArgs sLaw) (fnBody sLaw) (fnScope sLaw) .none kVL dcL pmL anL (.ref cl) ctL), slL⟩)
    (ccL : PySem.W.codeIn K (.ref cl) "law" = true)
    (kkL : PySem.W.keepIn K (.ref fL) = true)
    (lITi : K.lookup fT = some ⟨ocITi, odITi, .func (PySem.W.fnOf "__init__" "InvalidTown.__init__" (L2.defArgs sITi) (L2.defBody sITi) (L2.defScope sITi) .none kVITi dcITi pmITi anITi cdITi ctITi), slITi⟩)
    (ccITi : PySem.W.codeIn K cdITi "InvalidTown.__init__" = true)
    (kkITi : PySem.W.keepIn K (.ref fT) = true)
    (lIXi : K.lookup fX = some ⟨ocIXi, odIXi, .func (PySem.W.fnOf "__init__" "InvalidData.__init__" (L2.defArgs sIXi) (L2.defBody sIXi) (L2.defScope sIXi) .none kVIXi dcIXi pmIXi anIXi cdIXi ctIXi), slIXi⟩)
    (ccIXi : PySem.W.codeIn K cdIXi "InvalidData.__init__" = true)
    (kkIXi : PySem.W.keepIn K (.ref fX) = true)
    (lTi : K.lookup fTi = some ⟨ocTi, odTi, .func (PySem.W.fnOf "__init__" "Town.__init__" (L2.defArgs sTi) (L2.defBody sTi) (L2.defScope sTi) .none kVTi dcTi pmTi anTi cdTi ctTi), slTi⟩)
    (ccTi : PySem.W.codeIn K cdTi "Town.__init__" = true)
    (kkTi : PySem.W.keepIn K (.ref fTi) = true)
    (lRi : K.lookup fR = some ⟨ocRi, odRi, .func (PySem.W.fnOf "__init__" "Reader.__init__" (L2.defArgs sRInit) (L2.defBody sRInit) (L2.defScope sRInit) .none kVRi dcRi pmRi anRi cdRi ctRi), slRi⟩)
    (ccRi : PySem.W.codeIn K cdRi "Reader.__init__" = true)
    (kkRi : PySem.W.keepIn K (.ref fR) = true)
    (lS : K.lookup gS = some ⟨ocS, odS, .func (PySem.W.fnOf "is_bridge" "Town.is_bridge" (L2.defArgs sIsB) (L2.defBody sIsB) (L2.defScope sIsB) .none kVS dcS pmS anS cdS ctS), slS⟩)
    (ccS : PySem.W.codeIn K cdS "Town.is_bridge" = true)
    (kkS : PySem.W.keepIn K (.ref gS) = true)
    (lg1 : K.lookup g1 = some ⟨ocg1, odg1, .func (PySem.W.fnOf "place_count" "Town.place_count" (L2.defArgs sPc) (L2.defBody sPc) (L2.defScope sPc) .none kVg1 dcg1 pmg1 ang1 cdg1 ctg1), slg1⟩)
    (ccg1 : PySem.W.codeIn K cdg1 "Town.place_count" = true)
    (kkg1 : PySem.W.keepIn K (.ref g1) = true)
    (lg2 : K.lookup g2 = some ⟨ocg2, odg2, .func (PySem.W.fnOf "bridges" "Town.bridges" (L2.defArgs sBr) (L2.defBody sBr) (L2.defScope sBr) .none kVg2 dcg2 pmg2 ang2 cdg2 ctg2), slg2⟩)
    (ccg2 : PySem.W.codeIn K cdg2 "Town.bridges" = true)
    (kkg2 : PySem.W.keepIn K (.ref g2) = true)
    (lTa : K.lookup mTa = some ⟨ocTa, odTa, .func (PySem.W.fnOf "take" "Reader.take" (L2.defArgs sTake) (L2.defBody sTake) (L2.defScope sTake) .none kVTa dcTa pmTa anTa cdTa ctTa), slTa⟩)
    (ccTa : PySem.W.codeIn K cdTa "Reader.take" = true)
    (kkTa : PySem.W.keepIn K (.ref mTa) = true)
    (lTo : K.lookup mTo = some ⟨ocTo, odTo, .func (PySem.W.fnOf "take_other" "Reader.take_other" (L2.defArgs sTakeO) (L2.defBody sTakeO) (L2.defScope sTakeO) .none kVTo dcTo pmTo anTo cdTo ctTo), slTo⟩)
    (ccTo : PySem.W.codeIn K cdTo "Reader.take_other" = true)
    (kkTo : PySem.W.keepIn K (.ref mTo) = true)
    (lTl : K.lookup mTl = some ⟨ocTl, odTl, .func (PySem.W.fnOf "take_life" "Reader.take_life" (L2.defArgs sTakeL) (L2.defBody sTakeL) (L2.defScope sTakeL) .none kVTl dcTl pmTl anTl cdTl ctTl), slTl⟩)
    (ccTl : PySem.W.codeIn K cdTl "Reader.take_life" = true)
    (kkTl : PySem.W.keepIn K (.ref mTl) = true)
    (lTe : K.lookup mTe = some ⟨ocTe, odTe, .func (PySem.W.fnOf "take_end" "Reader.take_end" (L2.defArgs sTakeE) (L2.defBody sTakeE) (L2.defScope sTakeE) .none kVTe dcTe pmTe anTe cdTe ctTe), slTe⟩)
    (ccTe : PySem.W.codeIn K cdTe "Reader.take_end" = true)
    (kkTe : PySem.W.keepIn K (.ref mTe) = true)
    (z_bool : PySem.W.nsIn K mainGlobals "bool" = some none)
    (z_bytes : PySem.W.nsIn K mainGlobals "bytes" = some none)
    (z_dict : PySem.W.nsIn K mainGlobals "dict" = some none)
    (z_divmod : PySem.W.nsIn K mainGlobals "divmod" = some none)
    (z_enumerate : PySem.W.nsIn K mainGlobals "enumerate" = some none)
    (z_int : PySem.W.nsIn K mainGlobals "int" = some none)
    (z_isinstance : PySem.W.nsIn K mainGlobals "isinstance" = some none)
    (z_len : PySem.W.nsIn K mainGlobals "len" = some none)
    (z_list : PySem.W.nsIn K mainGlobals "list" = some none)
    (z_max : PySem.W.nsIn K mainGlobals "max" = some none)
    (z_range : PySem.W.nsIn K mainGlobals "range" = some none)
    (z_reversed : PySem.W.nsIn K mainGlobals "reversed" = some none)
    (z_str : PySem.W.nsIn K mainGlobals "str" = some none)
    (z_tuple : PySem.W.nsIn K mainGlobals "tuple" = some none)
    (v_MARK : PySem.W.nsIn K mainGlobals "MARK" = some (some (.int 84 w_MARK)))
    (v_MAX_BYTE : PySem.W.nsIn K mainGlobals "MAX_BYTE" = some (some (.int 255 w_MAX_BYTE)))
    (v_GROUP : PySem.W.nsIn K mainGlobals "GROUP" = some (some (.int 128 w_GROUP)))
    (v_LOW_BITS : PySem.W.nsIn K mainGlobals "LOW_BITS" = some (some (.int 127 w_LOW_BITS)))
    (v_MOST_GROUPS : PySem.W.nsIn K mainGlobals "MOST_GROUPS" = some (some (.int 9 w_MOST_GROUPS)))
    (v_MAX_LENGTH : PySem.W.nsIn K mainGlobals "MAX_LENGTH" = some (some (.int 99 w_MAX_LENGTH)))
    (ntP : K.lookup Pt = none)
    (cdH : PySem.W.codeHdIn K cl Pt = true)
    (oxrT : PySem.HandSPX.refsVE bmT = true) (oxrX : PySem.HandSPX.refsVE bmX = true) (tab : h.get? Pt = some { cls := .none, data := .fields #[] }) : LamX.LawAtS l w K C8.CX0 12 63 "_law_script" mg fa h := by
  have e := hfa.symm.trans (PySem.W.mg_of X G aL)
  cases e
  have T : BT mg := ⟨PySem.W.mg_none_of X G z_len, PySem.W.mg_none_of X G z_int, PySem.W.mg_none_of X G z_max, PySem.W.mg_none_of X G z_range, PySem.W.mg_none_of X G z_list, PySem.W.mg_none_of X G z_tuple, PySem.W.mg_none_of X G z_isinstance, PySem.W.mg_none_of X G z_enumerate, PySem.W.mg_none_of X G z_dict, PySem.W.mg_none_of X G z_str, PySem.W.mg_none_of X G z_bool⟩
  have U : BQ mg := ⟨PySem.W.mg_none_of X G z_len, PySem.W.mg_none_of X G z_int, PySem.W.mg_none_of X G z_range, PySem.W.mg_none_of X G z_list, PySem.W.mg_none_of X G z_tuple, PySem.W.mg_none_of X G z_isinstance, PySem.W.mg_none_of X G z_divmod, PySem.W.mg_none_of X G z_reversed, PySem.W.mg_none_of X G z_bytes, ⟨_, PySem.W.mg_of X G v_MARK, ⟨_, rfl⟩⟩, ⟨_, PySem.W.mg_of X G v_MAX_BYTE, ⟨_, rfl⟩⟩, ⟨_, PySem.W.mg_of X G v_GROUP, ⟨_, rfl⟩⟩, ⟨_, PySem.W.mg_of X G v_LOW_BITS, ⟨_, rfl⟩⟩, ⟨_, PySem.W.mg_of X G v_MOST_GROUPS, ⟨_, rfl⟩⟩, ⟨_, PySem.W.mg_of X G v_MAX_LENGTH, ⟨_, rfl⟩⟩⟩
  have oxT : OexC K CT := ⟨⟨nmT, qT, NT, bsT, bmT, snT, subT, abT, colT, ddT, m0T, m1T, m2T, m3T, m5T, olT, oxrT⟩, osT, esT, otT, okpT⟩
  have oxX : OexC K CX := ⟨⟨nmX, qX, NX, bsX, bmX, snX, subX, abX, colX, ddX, m0X, m1X, m2X, m3X, m5X, olX, oxrX⟩, osX, esX, otX, okpX⟩
  have T0 : Prog K mg CB CT fT C mB := ⟨PySem.W.mg_of X G aCB, rdB, sgB, inB, PySem.W.mg_of X G aCT, oxT, iT, tT, nP, nI, ⟨_, PySem.W.mg_of X G v_MAX_LENGTH⟩, PySem.W.mg_of X G aC, ⟨crd, cga⟩, ⟨_, ⟨vML, ⟨_, rfl⟩⟩⟩⟩
  have clC : L2.Cls K C := ⟨cpg, chd, cpo, csa⟩
  have clR : L2.Cls K CR := ⟨rpg, rhd, rpo, rsa⟩
  have TT : PTown K mg C pS gS := ⟨clC, nC, nB, ⟨_, ⟨mpa, ⟨_, rfl⟩, mpg, by decide +kernel⟩⟩, ⟨_, ⟨mba, ⟨_, rfl⟩, mbg, by decide +kernel⟩⟩, ⟨cpg, sIc, sIf, sIt, sIs, sIk, by decide +kernel, ⟨_, sIr⟩⟩, kkS⟩
  have TX : ProgX K mg CX fX := ⟨PySem.W.mg_of X G aCX, oxX, iX, tX, nR⟩
  have TN : OErr K mg "InvalidCount" CN := ⟨PySem.W.mg_of X G aCN, nq, nk, ns, nt⟩
  have T1 : Errs2 K mg CN CX := ⟨PySem.W.mg_of X G aCN, PySem.W.mg_of X G aCX, k_nn, k_xn, k_xx, ⟨egX, ekX, esX, edX⟩, nR⟩
  have TC : TyC K C := ⟨clC, tca, ehn, eht, tcm, k_tt⟩
  have RC : RdC K CR := ⟨clR, rnD, rnA⟩
  have FUnp : C8.Fun K "unpack_bytes" "unpack_bytes" sUnpack fUnp _ := ⟨_, _, _, _, _, _, _, _, _, _, rfl, lUnp, ccUnp⟩
  have DUnp : Def K mg "unpack_bytes" sUnpack fUnp _ := ⟨FUnp, PySem.W.mg_of X G aUnp, kkUnp⟩
  have bUnp := FUnp.binds rfl (ps := ["data"]) fun _ _ _ _ _ _ us hl => match us, hl with | [_], _ => rfl
  have FGof : C8.Fun K "_groups_of" "_groups_of" sGroupsOf fGof _ := ⟨_, _, _, _, _, _, _, _, _, _, rfl, lGof, ccGof⟩
  have DGof : Def K mg "_groups_of" sGroupsOf fGof _ := ⟨FGof, PySem.W.mg_of X G aGof, kkGof⟩
  have bGof := FGof.binds rfl (ps := ["life"]) fun _ _ _ _ _ _ us hl => match us, hl with | [_], _ => rfl
  have FChk : C8.Fun K "_checksum" "_checksum" sCheck fChk _ := ⟨_, _, _, _, _, _, _, _, _, _, rfl, lChk, ccChk⟩
  have DChk : Def K mg "_checksum" sCheck fChk _ := ⟨FChk, PySem.W.mg_of X G aChk, kkChk⟩
  have bChk := FChk.binds rfl (ps := ["numbers"]) fun _ _ _ _ _ _ us hl => match us, hl with | [_], _ => rfl
  have FEnc : C8.Fun K "encode_town" "encode_town" sEnc fEnc _ := ⟨_, _, _, _, _, _, _, _, _, _, rfl, lEnc, ccEnc⟩
  have DEnc : Def K mg "encode_town" sEnc fEnc _ := ⟨FEnc, PySem.W.mg_of X G aEnc, kkEnc⟩
  have bEnc := FEnc.binds rfl (ps := ["town"]) fun _ _ _ _ _ _ us hl => match us, hl with | [_], _ => rfl
  have FStart : C8.Fun K "_law_start" "_law_start" sStart fStart _ := ⟨_, _, _, _, _, _, _, _, _, _, rfl, lStart, ccStart⟩
  have DStart : Def K mg "_law_start" sStart fStart _ := ⟨FStart, PySem.W.mg_of X G aStart, kkStart⟩
  have bStart := FStart.binds rfl (ps := ["_law_script"]) fun _ _ _ _ _ _ us hl => match us, hl with | [_], _ => rfl
  have FDrawn : C8.Fun K "_law_drawn" "_law_drawn" sDrawn fDrawn _ := ⟨_, _, _, _, _, _, _, _, _, _, rfl, lDrawn, ccDrawn⟩
  have DDrawn : Def K mg "_law_drawn" sDrawn fDrawn _ := ⟨FDrawn, PySem.W.mg_of X G aDrawn, kkDrawn⟩
  have bDrawn := FDrawn.binds rfl (ps := ["_law_state", "_law_count"]) fun _ _ _ _ _ _ us hl => match us, hl with | [_, _], _ => rfl
  have FOutc : C8.Fun K "_law_outcome" "_law_outcome" sOutc fOutc _ := ⟨_, _, _, _, _, _, _, _, _, _, rfl, lOutc, ccOutc⟩
  have DOutc : Def K mg "_law_outcome" sOutc fOutc _ := ⟨FOutc, PySem.W.mg_of X G aOutc, kkOutc⟩
  have bOutc := FOutc.binds rfl (ps := ["_law_work"]) fun _ _ _ _ _ _ us hl => match us, hl with | [_], _ => rfl
  have FLBr : C8.Fun K "_law_bridges" "_law_bridges" sLBr fLBr _ := ⟨_, _, _, _, _, _, _, _, _, _, rfl, lLBr, ccLBr⟩
  have DLBr : Def K mg "_law_bridges" sLBr fLBr _ := ⟨FLBr, PySem.W.mg_of X G aLBr, kkLBr⟩
  have bLBr := FLBr.binds rfl (ps := ["_law_state", "_law_count", "_law_most", "_law_high"]) fun _ _ _ _ _ _ us hl => match us, hl with | [_, _, _, _], _ => rfl
  have FLCk : C8.Fun K "_law_checksum" "_law_checksum" sLCk fLCk _ := ⟨_, _, _, _, _, _, _, _, _, _, rfl, lLCk, ccLCk⟩
  have DLCk : Def K mg "_law_checksum" sLCk fLCk _ := ⟨FLCk, PySem.W.mg_of X G aLCk, kkLCk⟩
  have bLCk := FLCk.binds rfl (ps := ["_law_octets"]) fun _ _ _ _ _ _ us hl => match us, hl with | [_], _ => rfl
  have FLGr : C8.Fun K "_law_groups" "_law_groups" sLGr fLGr _ := ⟨_, _, _, _, _, _, _, _, _, _, rfl, lLGr, ccLGr⟩
  have DLGr : Def K mg "_law_groups" sLGr fLGr _ := ⟨FLGr, PySem.W.mg_of X G aLGr, kkLGr⟩
  have bLGr := FLGr.binds rfl (ps := ["_law_number"]) fun _ _ _ _ _ _ us hl => match us, hl with | [_], _ => rfl
  have FLBody : C8.Fun K "_law_body" "_law_body" sLBody fLBody _ := ⟨_, _, _, _, _, _, _, _, _, _, rfl, lLBody, ccLBody⟩
  have DLBody : Def K mg "_law_body" sLBody fLBody _ := ⟨FLBody, PySem.W.mg_of X G aLBody, kkLBody⟩
  have bLBody := FLBody.binds rfl (ps := ["_law_count", "_law_bridges_here"]) fun _ _ _ _ _ _ us hl => match us, hl with | [_, _], _ => rfl
  have FLGet : C8.Fun K "_law_get" "_law_get" sLGet fLGet _ := ⟨_, _, _, _, _, _, _, _, _, _, rfl, lLGet, ccLGet⟩
  have DLGet : Def K mg "_law_get" sLGet fLGet _ := ⟨FLGet, PySem.W.mg_of X G aLGet, kkLGet⟩
  have bLGet := FLGet.binds rfl (ps := ["_law_w", "_law_low", "_law_high"]) fun _ _ _ _ _ _ us hl => match us, hl with | [_, _, _], _ => rfl
  have FLFault : C8.Fun K "_law_fault" "_law_fault" sLFault fLFault _ := ⟨_, _, _, _, _, _, _, _, _, _, rfl, lLFault, ccLFault⟩
  have DLFault : Def K mg "_law_fault" sLFault fLFault _ := ⟨FLFault, PySem.W.mg_of X G aLFault, kkLFault⟩
  have bLFault := FLFault.binds rfl (ps := ["_law_w", "_law_wrong", "_law_start_here"]) fun _ _ _ _ _ _ us hl => match us, hl with | [_, _, _], _ => rfl
  have FLRead : C8.Fun K "_law_read" "_law_read" sLRead fLRead _ := ⟨_, _, _, _, _, _, _, _, _, _, rfl, lLRead, ccLRead⟩
  have DLRead : Def K mg "_law_read" sLRead fLRead _ := ⟨FLRead, PySem.W.mg_of X G aLRead, kkLRead⟩
  have bLRead := FLRead.binds rfl (ps := ["_law_w"]) fun _ _ _ _ _ _ us hl => match us, hl with | [_], _ => rfl
  have FLDam : C8.Fun K "_law_damaged" "_law_damaged" sLDam fLDam _ := ⟨_, _, _, _, _, _, _, _, _, _, rfl, lLDam, ccLDam⟩
  have DLDam : Def K mg "_law_damaged" sLDam fLDam _ := ⟨FLDam, PySem.W.mg_of X G aLDam, kkLDam⟩
  have bLDam := FLDam.binds rfl (ps := ["_law_state", "_law_body_here"]) fun _ _ _ _ _ _ us hl => match us, hl with | [_, _], _ => rfl
  have FITi := L2.fun_mk (st := sITi) lITi ccITi kkITi
  have FIXi := L2.fun_mk (st := sIXi) lIXi ccIXi kkIXi
  have FTi := L2.fun_mk (st := sTi) lTi ccTi kkTi
  have FRi := L2.fun_mk (st := sRInit) lRi ccRi kkRi
  have FS := L2.fun_mk (st := sIsB) lS ccS kkS
  have Fg1 := L2.fun_mk (st := sPc) lg1 ccg1 kkg1
  have Fg2 := L2.fun_mk (st := sBr) lg2 ccg2 kkg2
  have FPack := L2.fun_mk (st := sPack) lPack ccPack kkPack
  have FReadB := L2.fun_mk (st := sReadB) lReadB ccReadB kkReadB
  have FDec := L2.fun_mk (st := sDec) lDec ccDec kkDec
  have FTa := L2.fun_mk (st := sTake) lTa ccTa kkTa
  have FTo := L2.fun_mk (st := sTakeO) lTo ccTo kkTo
  have FTl := L2.fun_mk (st := sTakeL) lTl ccTl kkTl
  have FTe := L2.fun_mk (st := sTakeE) lTe ccTe kkTe
  have bITi := FITi.binds (ps := ["self", "part", "index"]) fun _ _ _ _ _ _ us hl => match us, hl with | [_, _, _], _ => rfl
  have bIXi := FIXi.binds (ps := ["self", "offset"]) fun _ _ _ _ _ _ us hl => match us, hl with | [_, _], _ => rfl
  have bTi := FTi.binds (ps := ["self", "count", "bridges"]) fun _ _ _ _ _ _ us hl => match us, hl with | [_, _, _], _ => rfl
  have bRi := FRi.binds (ps := ["self", "data"]) fun _ _ _ _ _ _ us hl => match us, hl with | [_, _], _ => rfl
  have bS := FS.binds (ps := ["count", "bridge"]) fun _ _ _ _ _ _ us hl => match us, hl with | [_, _], _ => rfl
  have bg1 := Fg1.binds (ps := ["self"]) fun _ _ _ _ _ _ us hl => match us, hl with | [_], _ => rfl
  have bg2 := Fg2.binds (ps := ["self"]) fun _ _ _ _ _ _ us hl => match us, hl with | [_], _ => rfl
  have bPack := FPack.binds (ps := ["numbers"]) fun _ _ _ _ _ _ us hl => match us, hl with | [_], _ => rfl
  have bReadB := FReadB.binds (ps := ["reader", "count"]) fun _ _ _ _ _ _ us hl => match us, hl with | [_, _], _ => rfl
  have bDec := FDec.binds (ps := ["data"]) fun _ _ _ _ _ _ us hl => match us, hl with | [_], _ => rfl
  have bTa := FTa.binds (ps := ["self", "low", "high"]) fun _ _ _ _ _ _ us hl => match us, hl with | [_, _, _], _ => rfl
  have bTo := FTo.binds (ps := ["self", "one", "high"]) fun _ _ _ _ _ _ us hl => match us, hl with | [_, _, _], _ => rfl
  have bTl := FTl.binds (ps := ["self"]) fun _ _ _ _ _ _ us hl => match us, hl with | [_], _ => rfl
  have bTe := FTe.binds (ps := ["self"]) fun _ _ _ _ _ _ us hl => match us, hl with | [_], _ => rfl
  refine ⟨PySem.W.fnOf "law" "law" (fnArgs sLaw) (fnBody sLaw) (fnScope sLaw) .none kVL dcL pmL anL (.ref cl) ctL, [(cl, Pt)], spLaw K Pt lamQ, fun p hp => ?_, fun p hp => ?_, fun p hp => ?_, fun s u => .of_eq rfl, fun H a ns hl _ hH hS => ⟨a, ns, rfl, hS, hl, tabs_new (hH _ (List.mem_singleton.mpr rfl)), fun _ => rfl⟩, fun base KX Gb TB => ?_⟩
  · rw [List.mem_singleton.mp hp]; exact tab
  · rw [List.mem_singleton.mp hp]; exact ntP
  · rw [List.mem_singleton.mp hp]; exact PySem.W.codeHd_of_K X cdH
  have OS := ok_isB (P := l.prog) (w := w) (base := base) FS T0 T
  have OIT := ok_ITi (P := l.prog) (w := w) (base := base) FITi T0
  have OIX := ok_IXi (P := l.prog) (w := w) (base := base) FIXi T0 TX
  have OTi := ok_Ti FTi T0 TT T OS bS OIT bITi
  have MK : L2.Mk K C fTi := ⟨cmk, iTi, fTiF, ckp⟩
  have MR : L2.Mk K CR fR := ⟨rmk, iR, fRF, rkp⟩
  have OP : CalX l.prog w K mg base 1 "pack_bytes" (spF K (fsPack CN)) := ⟨_, _, _, ok_pack FPack U TN, PySem.W.mg_of X G aPack, kkPack, bPack⟩
  have CkL := ok_ckL (P := l.prog) (w := w) (base := base) DChk bChk U
  have OE := ok_enc (P := l.prog) (w := w) (base := base) DEnc bEnc U TT ⟨OP, ok_groupsOf DGof bGof U, CkL⟩ ⟨pa1, pg1, pt1, ⟨_, pr1⟩⟩ (ok_Pc Fg1 TT) bg1 ⟨pa2, pg2, pt2, ⟨_, pr2⟩⟩ (ok_Br Fg2 TT) bg2
  have ORi := ok_rInit (P := l.prog) (w := w) (base := base) FRi U RC
  have MTa : MetX l.prog w K mg base 3 CR "take" (spF K (fsTake CR CX)) := ⟨_, _, _, clR, ⟨mfTa, miTa, kkTa⟩, ok_take FTa U RC TX OIX bIXi, bTa⟩
  have MTo : MetX l.prog w K mg base 4 CR "take_other" (spF K (fsTakeO CR CX)) := ⟨_, _, _, clR, ⟨mfTo, miTo, kkTo⟩, ok_takeO FTo U RC TX OIX bIXi MTa, bTo⟩
  have MTl : MetX l.prog w K mg base 4 CR "take_life" (spF K (fsTakeL CR CX)) := ⟨_, _, _, clR, ⟨mfTl, miTl, kkTl⟩, ok_takeL FTl U T0 RC TX OIX bIXi MTa, bTl⟩
  have MTe : MetX l.prog w K mg base 4 CR "take_end" (spF K (fsTakeE CR CX)) := ⟨_, _, _, clR, ⟨mfTe, miTe, kkTe⟩, ok_takeE FTe U RC TX OIX bIXi MTa ⟨ok_ckB DChk bChk U⟩, bTe⟩
  have CRB : CD l.prog w K mg base CR CX := ⟨⟨_, _, _, ok_readB FReadB U MTa MTo MTl, PySem.W.mg_of X G aReadB, kkReadB, bReadB⟩⟩
  have ODec : CalX l.prog w K mg base 6 "decode_town" (spF K (fsDec C CX)) := ⟨_, _, _, ok_dec FDec U T0 ⟨_, ⟨vMP, ⟨_, rfl⟩⟩⟩ ⟨_, ⟨vMB, ⟨_, rfl⟩⟩⟩ MR ORi bRi (PySem.W.mg_of X G aCR) MK OTi bTi MTa MTe CRB, PySem.W.mg_of X G aDec, kkDec, bDec⟩
  have CDr : Cal l.prog w K mg base 1 "_law_drawn" (spDrawn K) [] := ok_drawn DDrawn bDrawn T
  have CLk := ok_lck (P := l.prog) (w := w) (base := base) DLCk bLCk U
  have Cs : CS l.prog w K mg base := ⟨CDr, CLk⟩
  have C9 : LawC l.prog w K mg base CN C CX := ⟨ok_start2 DStart bStart T, CDr, ok_lbr DLBr bLBr U Cs, ok_lbody DLBody bLBody U ⟨ok_lgr DLGr bLGr U 8 (by decide)⟩, CLk, ok_ldam DLDam bLDam U Cs, ok_lread DLRead bLRead U ⟨ok_lget DLGet bLGet U, ok_lfault DLFault bLFault U, CLk⟩, ok_unpack DUnp bUnp U, OE, OP, ODec⟩
  exact ok_law lL ccL T0 TT U T1 C9 ⟨PySem.W.mg_of X G aOutc, kkOutc, lOutc, ccOutc, bOutc⟩ (TB _ (List.mem_singleton.mpr rfl)) TC MK OTi bTi ⟨pa1, pg1, pt1, ⟨_, pr1⟩⟩ (ok_Pc Fg1 TT) bg1 ⟨pa2, pg2, pt2, ⟨_, pr2⟩⟩ (ok_Br Fg2 TT) bg2
end T1
open PySem PySem.W PyProof.Rows
set_option maxRecDepth 100000 in
set_option maxHeartbeats 0 in
theorem PySem.Challenge.cw_wornbridges_k46_bytes_of_towns_holds : PySem.Challenge.rw_wornbridges_k46_bytes_of_towns.Holds := by
  w_on; o_law; k_head; (case hw => w_witness2)
  k_fill
  refine LamX.walk_ofTs (l := PySem.Challenge.rw_wornbridges_k46_bytes_of_towns) (n := 63) (k := 12) (CX := fun _ => C8.CX0) (x := "_law_script") rfl (by decide) rfl ⟨rfl, by decide, by decide⟩ (fun w h Y => PySem.W.km_in_of Y) ?F (fun _ _ _ _ _ z => z)
  case F =>
    intro w mg fa h Y KX G hmg
    have hT8 := PySem.W.km_tabs_of Y
    refine' T1.all_mk (mB := .type "type") KX G hmg ?aCB ?aCT ?aCX ?aCN ?aC ?aCR ?egT ?ekT ?esT ?edT ?olT ?osT ?otT ?okpT ?egX ?ekX ?esX ?edX ?olX ?osX ?otX ?okpX ?iX ?tX ?nR ?k_nn ?k_xn ?k_xx ?nq ?nk ?ns ?nt ?tca ?ehn ?eht ?tcm ?k_tt ?nP ?nI ?rdB ?sgB ?inB ?iT ?tT ?crd ?cga ?vML ?vMP ?vMB ?cpg ?chd ?cpo ?csa ?nC ?nB ?mpa ?mpg ?mba ?mbg ?sIc ?sIf ?sIt ?sIs ?sIk ?sIr ?cmk ?iTi ?fTiF ?ckp ?rpg ?rhd ?rpo ?rsa ?rnD ?rnA ?rmk ?iR ?fRF ?rkp ?mfTa ?miTa ?mfTo ?miTo ?mfTl ?miTl ?mfTe ?miTe ?pa1 ?pg1 ?pt1 ?pr1 ?pa2 ?pg2 ?pt2 ?pr2 ?aUnp ?lUnp ?ccUnp ?kkUnp ?aGof ?lGof ?ccGof ?kkGof ?aChk ?lChk ?ccChk ?kkChk ?aEnc ?lEnc ?ccEnc ?kkEnc ?aStart ?lStart ?ccStart ?kkStart ?aDrawn ?lDrawn ?ccDrawn ?kkDrawn ?aOutc ?lOutc ?ccOutc ?kkOutc ?aLBr ?lLBr ?ccLBr ?kkLBr ?aLCk ?lLCk ?ccLCk ?kkLCk ?aLGr ?lLGr ?ccLGr ?kkLGr ?aLBody ?lLBody ?ccLBody ?kkLBody ?aLGet ?lLGet ?ccLGet ?kkLGet ?aLFault ?lLFault ?ccLFault ?kkLFault ?aLRead ?lLRead ?ccLRead ?kkLRead ?aLDam ?lLDam ?ccLDam ?kkLDam ?aPack ?lPack ?ccPack ?kkPack ?aReadB ?lReadB ?ccReadB ?kkReadB ?aDec ?lDec ?ccDec ?kkDec ?aL ?lL ?ccL ?kkL ?lITi ?ccITi ?kkITi ?lIXi ?ccIXi ?kkIXi ?lTi ?ccTi ?kkTi ?lRi ?ccRi ?kkRi ?lS ?ccS ?kkS ?lg1 ?ccg1 ?kkg1 ?lg2 ?ccg2 ?kkg2 ?lTa ?ccTa ?kkTa ?lTo ?ccTo ?kkTo ?lTl ?ccTl ?kkTl ?lTe ?ccTe ?kkTe ?z_bool ?z_bytes ?z_dict ?z_divmod ?z_enumerate ?z_int ?z_isinstance ?z_len ?z_list ?z_max ?z_range ?z_reversed ?z_str ?z_tuple ?v_MARK ?v_MAX_BYTE ?v_GROUP ?v_LOW_BITS ?v_MOST_GROUPS ?v_MAX_LENGTH ?ntP ?cdH ?oxrT ?oxrX ?tab
    (case aCB => k_is)
    (case aCT => k_is)
    (case aCX => k_is)
    (case aCN => k_is)
    (case aC => k_is)
    (case aCR => k_is)
    (case egT => k_is)
    (case ekT => k_is)
    (case esT => k_is)
    (case edT => k_is)
    (case olT => k_is)
    (case osT => k_is)
    (case otT => k_is)
    (case okpT => k_is)
    (case egX => k_is)
    (case ekX => k_is)
    (case esX => k_is)
    (case edX => k_is)
    (case olX => k_is)
    (case osX => k_is)
    (case otX => k_is)
    (case okpX => k_is)
    (case iX => k_is)
    (case tX => k_is)
    (case nR => k_is)
    (case k_nn => kernel_rfl)
    (case k_xn => kernel_rfl)
    (case k_xx => kernel_rfl)
    (case nq => kernel_rfl)
    (case nk => k_is)
    (case ns => k_is)
    (case nt => k_is)
    (case tca => k_is)
    (case ehn => k_is)
    (case eht => k_is)
    (case tcm => k_is)
    (case k_tt => kernel_rfl)
    (case nP => k_is)
    (case nI => k_is)
    (case rdB => k_is)
    (case sgB => k_is)
    (case inB => k_is)
    (case iT => k_is)
    (case tT => k_is)
    (case crd => k_is)
    (case cga => k_is)
    (case vML => k_is)
    (case vMP => k_is)
    (case vMB => k_is)
    (case cpg => k_is)
    (case chd => k_is)
    (case cpo => k_is)
    (case csa => k_is)
    (case nC => k_is)
    (case nB => k_is)
    (case mpa => k_is)
    (case mpg => k_is)
    (case mba => k_is)
    (case mbg => k_is)
    (case sIc => k_is)
    (case sIf => k_is)
    (case sIt => k_is)
    (case sIs => k_is)
    (case sIk => k_is)
    (case sIr => k_is)
    (case cmk => k_is)
    (case iTi => k_is)
    (case fTiF => k_is)
    (case ckp => k_is)
    (case rpg => k_is)
    (case rhd => k_is)
    (case rpo => k_is)
    (case rsa => k_is)
    (case rnD => k_is)
    (case rnA => k_is)
    (case rmk => k_is)
    (case iR => k_is)
    (case fRF => k_is)
    (case rkp => k_is)
    (case mfTa => k_is)
    (case miTa => k_is)
    (case mfTo => k_is)
    (case miTo => k_is)
    (case mfTl => k_is)
    (case miTl => k_is)
    (case mfTe => k_is)
    (case miTe => k_is)
    (case pa1 => k_is)
    (case pg1 => k_is)
    (case pt1 => k_is)
    (case pr1 => k_is)
    (case pa2 => k_is)
    (case pg2 => k_is)
    (case pt2 => k_is)
    (case pr2 => k_is)
    (case aUnp => k_is)
    (case lUnp => k_is)
    (case ccUnp => k_is)
    (case kkUnp => k_is)
    (case aGof => k_is)
    (case lGof => k_is)
    (case ccGof => k_is)
    (case kkGof => k_is)
    (case aChk => k_is)
    (case lChk => k_is)
    (case ccChk => k_is)
    (case kkChk => k_is)
    (case aEnc => k_is)
    (case lEnc => k_is)
    (case ccEnc => k_is)
    (case kkEnc => k_is)
    (case aStart => k_is)
    (case lStart => k_is)
    (case ccStart => k_is)
    (case kkStart => k_is)
    (case aDrawn => k_is)
    (case lDrawn => k_is)
    (case ccDrawn => k_is)
    (case kkDrawn => k_is)
    (case aOutc => k_is)
    (case lOutc => k_is)
    (case ccOutc => k_is)
    (case kkOutc => k_is)
    (case aLBr => k_is)
    (case lLBr => k_is)
    (case ccLBr => k_is)
    (case kkLBr => k_is)
    (case aLCk => k_is)
    (case lLCk => k_is)
    (case ccLCk => k_is)
    (case kkLCk => k_is)
    (case aLGr => k_is)
    (case lLGr => k_is)
    (case ccLGr => k_is)
    (case kkLGr => k_is)
    (case aLBody => k_is)
    (case lLBody => k_is)
    (case ccLBody => k_is)
    (case kkLBody => k_is)
    (case aLGet => k_is)
    (case lLGet => k_is)
    (case ccLGet => k_is)
    (case kkLGet => k_is)
    (case aLFault => k_is)
    (case lLFault => k_is)
    (case ccLFault => k_is)
    (case kkLFault => k_is)
    (case aLRead => k_is)
    (case lLRead => k_is)
    (case ccLRead => k_is)
    (case kkLRead => k_is)
    (case aLDam => k_is)
    (case lLDam => k_is)
    (case ccLDam => k_is)
    (case kkLDam => k_is)
    (case aPack => k_is)
    (case lPack => k_is)
    (case ccPack => k_is)
    (case kkPack => k_is)
    (case aReadB => k_is)
    (case lReadB => k_is)
    (case ccReadB => k_is)
    (case kkReadB => k_is)
    (case aDec => k_is)
    (case lDec => k_is)
    (case ccDec => k_is)
    (case kkDec => k_is)
    (case aL => k_is)
    (case lL => k_is)
    (case ccL => k_is)
    (case kkL => k_is)
    (case lITi => k_is)
    (case ccITi => k_is)
    (case kkITi => k_is)
    (case lIXi => k_is)
    (case ccIXi => k_is)
    (case kkIXi => k_is)
    (case lTi => k_is)
    (case ccTi => k_is)
    (case kkTi => k_is)
    (case lRi => k_is)
    (case ccRi => k_is)
    (case kkRi => k_is)
    (case lS => k_is)
    (case ccS => k_is)
    (case kkS => k_is)
    (case lg1 => k_is)
    (case ccg1 => k_is)
    (case kkg1 => k_is)
    (case lg2 => k_is)
    (case ccg2 => k_is)
    (case kkg2 => k_is)
    (case lTa => k_is)
    (case ccTa => k_is)
    (case kkTa => k_is)
    (case lTo => k_is)
    (case ccTo => k_is)
    (case kkTo => k_is)
    (case lTl => k_is)
    (case ccTl => k_is)
    (case kkTl => k_is)
    (case lTe => k_is)
    (case ccTe => k_is)
    (case kkTe => k_is)
    (case z_bool => k_is)
    (case z_bytes => k_is)
    (case z_dict => k_is)
    (case z_divmod => k_is)
    (case z_enumerate => k_is)
    (case z_int => k_is)
    (case z_isinstance => k_is)
    (case z_len => k_is)
    (case z_list => k_is)
    (case z_max => k_is)
    (case z_range => k_is)
    (case z_reversed => k_is)
    (case z_str => k_is)
    (case z_tuple => k_is)
    (case v_MARK => k_is)
    (case v_MAX_BYTE => k_is)
    (case v_GROUP => k_is)
    (case v_LOW_BITS => k_is)
    (case v_MOST_GROUPS => k_is)
    (case v_MAX_LENGTH => k_is)
    (case tab => exact hT8 _ (by k_mem))
    (case ntP => kernel_rfl)
    (case cdH => kernel_rfl)
    (case oxrT => decide +kernel)
    (case oxrX => decide +kernel)

