import PyProof.Rows.All
import Wide.All
import OpenK.AllK
import Wide.FinOn
import HandS.ForMost
import HandS.ForExc
import HandS.Codes
import HandS.Wide
import HandS.Conv
import HandS.TupAny
import HandS.TupMul
import HandS.IsInst
import HandS.ExcInit
import HandS.ExcIs
import HandS.ExcField
import HandS.Lambda
import HandS.EndTab
import HandS.Property
import HandS.ClsMeth
import HandS.FStr
import HandS.Walk
import HandS.Evl
import HandS.Steps
import KE.GoesMore
import KE.KNestM
import PySem.Challenge.RW_wornbridges_k01_towns_validated
set_option Elab.async false
set_option linter.all false
set_option maxRecDepth 100000
set_option maxHeartbeats 4000000
namespace T1
open PySem PySem.Spec PyProof.Rows L2 C8

def top (i : Nat) : Stmt := PySem.Challenge.pw_wornbridges_k01_towns_validated.main.body.getD i (.Pass ⟨0, 0, 0, 0⟩)
abbrev sMix : Stmt := top 23
abbrev sNext : Stmt := top 24
abbrev sAlike : Stmt := top 25
abbrev sError : Stmt := top 26
abbrev sLife : Stmt := top 27
abbrev sLinks : Stmt := top 28
abbrev sIsLink : Stmt := top 30
abbrev sFirst : Stmt := top 31
abbrev sSpoilt : Stmt := top 32
abbrev sLaw : Stmt := top 33

/-- the built-in names that the module does not bind -/
structure BT (mg : Str → Option Value) : Prop where
  len : mg "len" = none
  int : mg "int" = none
  max : mg "max" = none
  range : mg "range" = none
  list : mg "list" = none
  tuple : mg "tuple" = none
  isinstance : mg "isinstance" = none
  enumerate : mg "enumerate" = none
  dict : mg "dict" = none
  str : mg "str" = none
  bool : mg "bool" = none

/-! ### the law's drawing state: h = [m, s, k], s the cells -/
structure LSt (H : Hp) (h s : Addr) : Prop where
  ex : ∃ (m k : Int) (xs : List Int), H h = some (.lst [.int m, .ref s, .int k]) ∧ H s = some (.lst (xs.map V.int)) ∧ 0 ≤ m ∧ m < 2147483647 ∧ 0 ≤ k ∧ xs.length ≤ 63
/-- all but the state stays -/
def But (h s : Addr) (H H' : Hp) : Prop := ∀ b o, b ≠ h → b ≠ s → H b = some o → H' b = some o
theorem But.refl (h s : Addr) (H : Hp) : But h s H H := fun _ _ _ _ e => e
theorem But.trans {h s : Addr} {H H1 H2 : Hp} (a : But h s H H1) (b : But h s H1 H2) : But h s H H2 := fun c o n1 n2 e => b c o n1 n2 (a c o n1 n2 e)
theorem But.of {h s : Addr} {H H' : Hp} (a : Same H H') : But h s H H' := fun c o _ _ e => a c o e
theorem Same.upd' {H : Hp} {p : Addr} {o : HO} (hp : H p = none) : Same H (upd H p o) := fun b u e => by rw [upd_ne (ne_of_none e hp)]; exact e
theorem LSt.ne {H : Hp} {h s : Addr} (x : LSt H h s) : h ≠ s := by
  obtain ⟨m, k, xs, h1, h2, _⟩ := x.ex
  refine ne_of h1 h2 fun z => ?_
  injection z with z
  match xs, z with
  | a :: b :: r, z => simp at z
theorem LSt.same {H H' : Hp} {h s : Addr} (x : LSt H h s) (e : Same H H') : LSt H' h s := by
  obtain ⟨m, k, xs, h1, h2, r⟩ := x.ex
  exact ⟨m, k, xs, e _ _ h1, e _ _ h2, r⟩
theorem LSt.notT {H : Hp} {h s a : Addr} {xs : List V} (x : LSt H h s) (r : Rd H a (.tup xs)) : a ≠ h ∧ a ≠ s := by
  obtain ⟨m, k, ys, h1, h2, _⟩ := x.ex
  rcases r with r | ⟨o, r⟩
  · exact ⟨ne_of r h1 (fun z => nomatch z), ne_of r h2 (fun z => nomatch z)⟩
  · exact ⟨ne_of r h1 (fun z => nomatch z), ne_of r h2 (fun z => nomatch z)⟩
theorem But.tup {K : PySem.W.Frag} {H H' : Hp} {h s a : Addr} {xs : List V} (e : But h s H H') (x : LSt H h s) (t : SqT K H a xs) : SqT K H' a xs := by
  rcases t with t | t
  · obtain ⟨n1, n2⟩ := x.notT t
    rcases t with t | ⟨o, t⟩
    · exact .inl (.inl (e _ _ n1 n2 t))
    · exact .inl (.inr ⟨o, e _ _ n1 n2 t⟩)
  · exact .inr t
theorem Same.tup {K : PySem.W.Frag} {H H' : Hp} {a : Addr} {xs : List V} (e : Same H H') (t : SqT K H a xs) : SqT K H' a xs := by
  rcases t with (t | ⟨o, t⟩) | t
  · exact .inl (.inl (e _ _ t))
  · exact .inl (.inr ⟨o, e _ _ t⟩)
  · exact .inr t


theorem up_new {X : Hp} {a p : Addr} {u o : HO} (h : X a = some u) (hp : X p = none) : upd X p o a = some u := by rw [upd_ne (ne_of_none h hp)]; exact h
theorem up_set {X : Hp} {a p : Addr} {u o : HO} (n : a ≠ p) (h : X a = some u) : upd X p o a = some u := by rw [upd_ne n]; exact h
theorem SqL.of' {K : PySem.W.Frag} {H : Hp} {a : Addr} {xs : List V} (h : H a = some (.lst xs)) : SqL K H a xs := .inl (.inl h)
theorem SqT.of' {K : PySem.W.Frag} {H : Hp} {a : Addr} {xs : List V} (h : H a = some (.tup xs)) : SqT K H a xs := .inl (.inl h)
theorem SqT.new {K : PySem.W.Frag} {H : Hp} {a p : Addr} {o : HO} {xs : List V} (h : SqT K H a xs) (hp : H p = none) : SqT K (upd H p o) a xs := Same.tup (Same.upd' hp) h
theorem SqT.put {K : PySem.W.Frag} {H : Hp} {a p : Addr} {o : HO} {xs ys : List V} (h : SqT K H a xs) (hp : H p = some (.lst ys)) : SqT K (upd H p o) a xs := by
  rcases h with (t | ⟨q, t⟩) | t
  · exact .inl (.inl (up_set (ne_of t hp (fun z => nomatch z)) t))
  · exact .inl (.inr ⟨q, up_set (ne_of t hp (fun z => nomatch z)) t⟩)
  · exact .inr t
theorem ne_of_none' {H : Hp} {a b : Addr} {o : HO} (h' : H b = none) (h : H a = some o) : a ≠ b := ne_of_none h h'
theorem up_new' {X : Hp} {a p : Addr} {u o : HO} (hp : X p = none) (h : X a = some u) : upd X p o a = some u := up_new h hp
theorem SqT.new' {K : PySem.W.Frag} {H : Hp} {a p : Addr} {o : HO} {xs : List V} (hp : H p = none) (h : SqT K H a xs) : SqT K (upd H p o) a xs := SqT.new h hp
theorem SqT.put' {K : PySem.W.Frag} {H : Hp} {a p : Addr} {xs ys zs : List V} (hp : H p = some (.lst ys)) (h : SqT K H a xs) : SqT K (upd H p (.lst zs)) a xs := SqT.put h hp
theorem SqL.new' {K : PySem.W.Frag} {H : Hp} {a p : Addr} {o : HO} {xs : List V} (hp : H p = none) (h : SqL K H a xs) : SqL K (upd H p o) a xs := (Same.upd' hp).seq h
theorem Same.at' {H H' : Hp} {a : Addr} {o : HO} (e : Same H H') (h : H a = some o) : H' a = some o := e _ _ h
theorem Same.sql' {K : PySem.W.Frag} {H H' : Hp} {a : Addr} {xs : List V} (e : Same H H') (t : SqL K H a xs) : SqL K H' a xs := e.seq t
theorem But.at' {H H' : Hp} {h s a : Addr} {o : HO} (e : But h s H H') (n1 : a ≠ h) (n2 : a ≠ s) (i : H a = some o) : H' a = some o := e _ _ n1 n2 i
theorem LSt.f1 {H : Hp} {h s p : Addr} (hp : H p = none) (x : LSt H h s) : p ≠ h := by
  obtain ⟨m, k, xs, h1, h2, r⟩ := x.ex
  exact Ne.symm (ne_of_none h1 hp)
theorem LSt.f2 {H : Hp} {h s p : Addr} (hp : H p = none) (x : LSt H h s) : p ≠ s := by
  obtain ⟨m, k, xs, h1, h2, r⟩ := x.ex
  exact Ne.symm (ne_of_none h2 hp)
theorem LSt.same' {H H' : Hp} {h s : Addr} (e : Same H H') (x : LSt H h s) : LSt H' h s := x.same e
theorem But.sm {h s : Addr} {H H' H2 : Hp} (e : Same H' H2) (x : But h s H H') : But h s H H2 := x.trans (But.of e)
theorem But.bu {h s : Addr} {H H' H2 : Hp} (e : But h s H' H2) (x : But h s H H') : But h s H H2 := x.trans e
theorem But.nw {h s : Addr} {H H' : Hp} {p : Addr} {o : HO} (hp : H' p = none) (x : But h s H H') : But h s H (upd H' p o) := x.trans (But.of (Same.upd' hp))
theorem Same.put' {H X : Hp} {p : Addr} {o : HO} (hp : H p = none) (e : Same H X) : Same H (upd X p o) := fun b u h => by rw [upd_ne (ne_of_none h hp)]; exact e b u h
theorem itD {c A B : Prop} [Decidable c] (h : c) (a : A) : if decide c = true then A else B := by rw [if_pos (decide_eq_true h)]; exact a
theorem itN {c A B : Prop} [Decidable c] (h : ¬ c) (a : B) : if decide c = true then A else B := by rw [if_neg (fun z => h (of_decide_eq_true z))]; exact a
theorem itnD {c A B : Prop} [Decidable c] (h : c) (a : B) : if (!decide c) = true then A else B := by rw [decide_eq_true h]; exact iteF a
theorem itnN {c A B : Prop} [Decidable c] (h : ¬ c) (a : A) : if (!decide c) = true then A else B := by rw [decide_eq_false h]; exact iteT a
theorem vint_inj {x y : Int} : V.int x = V.int y ↔ x = y := ⟨fun h => by injection h, fun h => by rw [h]⟩
theorem itE {x y : Int} {A B : Prop} (h : x = y) (a : A) : if decide (V.int x = V.int y) = true then A else B := itD (vint_inj.mpr h) a
theorem itEn {x y : Int} {A B : Prop} (h : x ≠ y) (a : B) : if decide (V.int x = V.int y) = true then A else B := itN (fun z => h (vint_inj.mp z)) a
theorem itnE {x y : Int} {A B : Prop} (h : x = y) (a : B) : if (!decide (V.int x = V.int y)) = true then A else B := itnD (vint_inj.mpr h) a
theorem itnEn {x y : Int} {A B : Prop} (h : x ≠ y) (a : A) : if (!decide (V.int x = V.int y)) = true then A else B := itnN (fun z => h (vint_inj.mp z)) a
theorem itS {x y : Int} {A B : Prop} (h1 : x ≤ y → A) (h2 : y < x → B) : if decide (x ≤ y) = true then A else B := by
  by_cases h : x ≤ y
  · exact itD h (h1 h)
  · exact itN h (h2 (Int.lt_of_not_ge h))
theorem itS' {x y : Int} {A B : Prop} (h1 : x < y → A) (h2 : y ≤ x → B) : if decide (x < y) = true then A else B := by
  by_cases h : x < y
  · exact itD h (h1 h)
  · exact itN h (h2 (Int.not_lt.mp h))
theorem itnS {x y : Int} {A B : Prop} (h1 : y < x → A) (h2 : x ≤ y → B) : if (!decide (x ≤ y)) = true then A else B := by
  by_cases h : x ≤ y
  · exact itnD h (h2 h)
  · exact itnN h (h1 (Int.lt_of_not_ge h))
theorem itnS' {x y : Int} {A B : Prop} (h1 : y ≤ x → A) (h2 : x < y → B) : if (!decide (x < y)) = true then A else B := by
  by_cases h : x < y
  · exact itnD h (h2 h)
  · exact itnN h (h1 (Int.not_lt.mp h))
theorem itSE {x y : Int} {A B : Prop} (h1 : x = y → A) (h2 : x ≠ y → B) : if decide (V.int x = V.int y) = true then A else B := by
  by_cases h : x = y
  · exact itE h (h1 h)
  · exact itEn h (h2 h)
theorem itnSE {x y : Int} {A B : Prop} (h1 : x ≠ y → A) (h2 : x = y → B) : if (!decide (V.int x = V.int y)) = true then A else B := by
  by_cases h : x = y
  · exact itnE h (h2 h)
  · exact itnEn h (h1 h)
theorem itNotF {A B : Prop} (a : A) : if (!false) = true then A else B := a
theorem itNotT {A B : Prop} (a : B) : if (!true) = true then A else B := a
theorem bl_as {b b' : Bool} {H : Hp} {Q : VK} (q : Q (.bl b') H) (e : b' = b) : Q (.bl b) H := by subst e; exact q
local macro_rules | `(tactic| walk_at "hf") => `(tactic| (fail_if_success (show (fun _ => none : Hp) _ = _)); first | assumption | with_reducible exact upd_same | ((with_reducible show upd _ _ _ _ = _); first | exact up_new' (by assumption) (by walk_at "hf") | exact up_set (by walk_at "ne") (by walk_at "hf")) | exact Same.at' (by assumption) (by walk_at "hf") | exact But.at' (by assumption) (by walk_at "ne") (by walk_at "ne") (by walk_at "hf"))
local macro_rules | `(tactic| walk_at "hf0") => `(tactic| (fail_if_success (show (fun _ => none : Hp) _ = _)); first | assumption | with_reducible exact upd_same | ((with_reducible show upd _ _ _ _ = _); exact up_new' (by assumption) (by walk_at "hf0")))
local macro_rules | `(tactic| walk_at "ne") => `(tactic| first | assumption | (apply Ne.symm; assumption) | exact ne_of_none' (by assumption) (by walk_at "hf0") | exact Ne.symm (ne_of_none' (by assumption) (by walk_at "hf0")) | exact LSt.f1 (by assumption) (by walk_at "lst") | exact LSt.f2 (by assumption) (by walk_at "lst"))
local macro_rules | `(tactic| walk_at "sqt") => `(tactic| (fail_if_success (show SqT _ (fun _ => none) _ _)); first | assumption | exact SqT.of' (by walk_at "hf") | ((with_reducible show SqT _ (upd _ _ _) _ _); first | exact SqT.new' (by assumption) (by walk_at "sqt") | exact SqT.put' (by walk_at "hf") (by walk_at "sqt")) | exact Same.tup (by assumption) (by walk_at "sqt") | exact But.tup (by assumption) (by walk_at "lst") (by walk_at "sqt"))
local macro_rules | `(tactic| walk_at "sql") => `(tactic| (fail_if_success (show SqL _ (fun _ => none) _ _)); first | assumption | exact SqL.of' (by walk_at "hf") | ((with_reducible show SqL _ (upd _ _ _) _ _); exact SqL.new' (by assumption) (by walk_at "sql")) | exact Same.sql' (by assumption) (by walk_at "sql"))
local macro_rules | `(tactic| walk_at "but") => `(tactic| first | assumption | exact But.refl _ _ _ | ((with_reducible show But _ _ _ (upd _ _ _)); exact But.nw (by assumption) (by walk_at "but")) | exact But.bu (by assumption) (by walk_at "but") | exact But.sm (by assumption) (by walk_at "but"))
local macro_rules | `(tactic| walk_at "sm") => `(tactic| first | assumption | exact Same.refl _ | ((with_reducible show Same _ (upd _ _ _)); first | exact Same.put' (by assumption) (by walk_at "sm") | exact Same.trans (by walk_at "sm") (Same.upd' (by assumption))) | exact Same.trans (by walk_at "sm") (by assumption))
/-- one step of a reading -/
local macro_rules | `(tactic| walk_at "rd") => `(tactic| first
  | with_reducible refine iteF ?_
  | with_reducible refine iteT ?_
  | with_reducible refine itNotF ?_
  | with_reducible refine itNotT ?_
  | refine ⟨_, rfl, ?_⟩
  | refine ⟨_, _, rfl, rfl, ?_⟩
  | refine ⟨_, _, rfl, ?_⟩
  | refine ⟨(_ : Addr), (_ : List V), (_ : Int), (_ : V), rfl, rfl, SqL.of' (by walk_at "hf"), (by first | assumption | rfl), ?_⟩
  | refine ⟨(_ : Addr), (_ : List V), (_ : Int), (_ : V), rfl, rfl, (by walk_at "sqt" : SqT _ _ _ _), (by first | assumption | rfl), ?_⟩
  | refine .inl ⟨_, rfl, ?_⟩
  | refine ⟨_, _, rfl, .inl (by walk_at "sql" : SqL _ _ _ _), ?_⟩
  | refine ⟨_, _, rfl, .inl ⟨(by walk_at "sql" : SqL _ _ _ _), fun p hp => ?_⟩⟩
  | refine ⟨_, _, rfl, .inr ⟨(by walk_at "sqt" : SqT _ _ _ _), ?_⟩⟩
  | refine fun (p : Addr) (hp : (_ : Hp) p = none) => ?_
  | refine ⟨_, _, rfl, .inr (by walk_at "sqt" : SqT _ _ _ _), ?_⟩
  | refine And.intro (by show _ ≤ sizeLine; first | decide | walk_at "sz") (fun p hp => ?_)
  | refine ⟨(_ : Addr), (_ : Addr), (_ : List V), (_ : List V), rfl, rfl, (by walk_at "hf"), (by walk_at "hf"), (by walk_at "sz"), fun p hp => ?_⟩
  | refine ⟨(_ : Addr), (_ : Addr), (_ : List V), (_ : List V), rfl, rfl, (by walk_at "hf"), (by walk_at "hf"), (by walk_at "sz"), ?_⟩
  | refine ⟨(_ : Addr), (_ : List V), (_ : Int), (_ : Nat), rfl, rfl, (by walk_at "hf"), (by rfl), ?_⟩
  | refine And.intro ⟨_, (by walk_at "sql" : SqL _ _ _ _)⟩ ?_
  | refine And.intro ⟨_, (by walk_at "sqt" : SqT _ _ _ _)⟩ ?_
  | refine And.intro (.inl ⟨rfl, _, SqL.of' (by walk_at "hf")⟩) ?_
  | refine And.intro (by walk_at "cond") ?_
  | exact .inl ⟨rfl, _, SqL.of' (by walk_at "hf")⟩
  | with_reducible refine iteT ?_
  | with_reducible refine iteF ?_
  | refine And.intro (by rfl : scal _ _ = true) ?_
  | refine And.intro (by rfl : _ = V.non) ?_
  | refine And.intro (by rfl : wipe _ _ = wipe _ _) ?_
  | refine And.intro (by rfl : (_ : List V) = []) ?_
  | refine ⟨(_ : Addr), (_ : List V), rfl, (by walk_at "sqt" : SqT _ _ _ _), (by rfl), ?_⟩)
/-- a test: known, or both ways -/
local macro_rules | `(tactic| walk_at "if") => `(tactic| first
  | with_reducible refine itD (by omega) ?_
  | with_reducible refine itN (by omega) ?_
  | with_reducible refine itnD (by omega) ?_
  | with_reducible refine itnN (by omega) ?_
  | with_reducible refine itE (by omega) ?_
  | with_reducible refine itEn (by omega) ?_
  | with_reducible refine itnE (by omega) ?_
  | with_reducible refine itnEn (by omega) ?_
  | with_reducible refine itN (by intro z; cases z) ?_
  | with_reducible refine itD (by decide) ?_
  | with_reducible refine itN (by decide) ?_
  | with_reducible refine itnD (by decide) ?_
  | with_reducible refine itnN (by decide) ?_)
local macro_rules | `(tactic| walk_at "if2") => `(tactic| first
  | with_reducible refine itS (fun z => ?_) (fun z => ?_)
  | with_reducible refine itS' (fun z => ?_) (fun z => ?_)
  | with_reducible refine itSE (fun z => ?_) (fun z => ?_)
  | with_reducible refine itnS (fun z => ?_) (fun z => ?_)
  | with_reducible refine itnS' (fun z => ?_) (fun z => ?_)
  | with_reducible refine itnSE (fun z => ?_) (fun z => ?_))
local macro_rules | `(tactic| walk_at "go") => `(tactic| repeat' (first | walk_at "rd" | walk_at "if" | walk_at "if2" | fail))
local macro_rules | `(tactic| walk_at "sz") => `(tactic| (rw [sizeLine_eq]; simp only [List.length_append, List.length_map, List.length_cons, List.length_nil]; omega))
local macro_rules | `(tactic| walk_at "cond") => `(tactic| first | assumption | (show (_ : Int) ≠ 0; first | omega | (split <;> omega)) | (show (0 : Int) < _; first | assumption | decide) | exact ⟨by decide, by decide, by decide⟩ | exact .inr ⟨by decide, by decide⟩ | exact wide_div (b := 64) (by assumption) (by omega) (by decide) (by decide) | exact ⟨by decide, by decide⟩)


def spNext : Sp := fun vs H Q _ => ∃ (h s : Addr) (n : Int), vs = [.ref h, .int n] ∧ LSt H h s ∧ 0 < n ∧ n ≤ 2000000000000000000 ∧
  ∀ (r : Int) (H' : Hp), 0 ≤ r → r < n → LSt H' h s → But h s H H' → Q (.int r) H'

section
variable {P : Program} {w : World} {K : PySem.W.Frag} {mg : Str → Option Value} {base : Heap}

theorem scNext : FnScope ["_law_h", "_law_limit", "_law_cell"] ["_law_h", "_law_limit"] (fnScope sNext) := fnScope_by (by decide +kernel)
theorem fdN {a b : Int} (hb : 0 < b) : 0 ≤ Int.fmod a b ∧ Int.fmod a b < b := ⟨Int.fmod_nonneg_of_pos a hb, Int.fmod_lt_of_pos a hb⟩
theorem atI_get {xs : List V} {i : Int} {v : V} (h0 : 0 ≤ i) (h : xs[i.toNat]? = some v) : atI xs i = some v := by
  have e : i = ((i.toNat : Nat) : Int) := by omega
  rw [e]; exact atI_nat h
theorem ixN_pos {n : Nat} {i : Int} (h0 : 0 ≤ i) (h1 : i < n) : ixN n i = some i.toNat := by unfold ixN; rw [if_pos h0, if_pos h1]
theorem ok_next {f : Addr} {fd : FuncData} (F : Def K mg "_law_next" sNext f fd) (b : Binds K fd ["_law_h", "_law_limit"] []) (T : BT mg) : Cal P w K mg base 1 "_law_next" spNext [] := by
  refine cal0 F b .nil scNext (fun vs H Q E h => ?_) (fun cdv A outer s H vs Q E hr h => ?_)
  · obtain ⟨h, s, n, rfl, _⟩ := h; rfl
  · obtain ⟨h, s, n, rfl, ⟨m, k, xs, e1, e2, m0, m1, k0, xl⟩, n0, n1, q⟩ := h
    have hsne : h ≠ s := LSt.ne ⟨m, k, xs, e1, e2, m0, m1, k0, xl⟩
    refine ⟨_, pss_cons (ps_set (i := 2) scNext.nd rfl (Or.inl rfl) (pe_ix ix_list (pe_op op_cat (pe_ix ix_list (pv 0) pe_int (fun _ _ => rfl)) (pe_lst (pa_cons pe_int pa_nil)))
      (pe_op op_modN (pe_callTy call_int1 (by rfl) T.int (by decide +kernel) (pa_cons (pe_ix ix_list (pv 0) pe_int (fun _ _ => rfl)) pa_nil))
        (pe_callB (call_max2 rfl) (by rfl) T.max (by decide +kernel) (pa_cons pe_int (pa_cons (pe_callB call_len_seq (by rfl) T.len PySem.boot_len (pa_cons (pe_ix ix_list (pv 0) pe_int (fun _ _ => rfl)) pa_nil)) pa_nil)))) (fun _ _ => rfl)))
      (pss_cons (ps_if (pt_cmpR op_ge (pv 2) (pe_op op_pow pe_int pe_int) (nomark _))
        (pss_cons (ps_asg (pe_op op_fdivW (pv 2) (pv 1)) (pg_sub (pe_ix ix_list (pv 0) pe_int (fun _ _ => rfl)) (pe_op op_modN (pe_callTy call_int1 (by rfl) T.int (by decide +kernel) (pa_cons (pe_ix ix_list (pv 0) pe_int (fun _ _ => rfl)) pa_nil)) (pe_callB call_len_seq (by rfl) T.len PySem.boot_len (pa_cons (pe_ix ix_list (pv 0) pe_int (fun _ _ => rfl)) pa_nil))) set_list))
          (pss_one (ps_ret (pe_op op_modN (pe_callTy call_int1 (by rfl) T.int (by decide +kernel) (pa_cons (pv 2) pa_nil)) (pv 1))))) pss_nil)
      (pss_cons (ps_asg (pe_op op_modN (pe_op op_add (pe_op op_add (pe_op op_mul (pe_ix ix_list (pv 0) pe_int (fun _ _ => rfl)) pe_int) (pe_op op_mul (pv 2) pe_int)) pe_int) pe_int) (pg_sub (pv 0) pe_int set_list))
      (pss_cons (ps_asg (pe_op op_add (pe_ix ix_list (pv 0) pe_int (fun _ _ => rfl)) pe_int) (pg_sub (pv 0) pe_int set_list))
      (pss_one (ps_ret (pe_op op_modN (pe_op op_fdiv (pe_ix ix_list (pv 0) pe_int (fun _ _ => rfl)) pe_int) (pv 1))))))), ?_⟩
    have xl' : (xs.map V.int).length = xs.length := List.length_map ..
    have hmx : (0 : Int) < if ((xs.map V.int).length : Int) > 1 then ((xs.map V.int).length : Int) else 1 := by split <;> omega
    obtain ⟨j0, j1⟩ := fdN (a := k) hmx
    have hj : (k.fmod (if ((xs.map V.int).length : Int) > 1 then ((xs.map V.int).length : Int) else 1)).toNat < (xs ++ [0]).length := by
      rw [List.length_append, List.length_singleton]
      rw [xl'] at j0 j1 ⊢
      split at j1 <;> simp only [*, if_true, if_false] at j0 j1 ⊢ <;> omega
    obtain ⟨c, hc⟩ : ∃ c, (xs ++ [0])[(k.fmod (if ((xs.map V.int).length : Int) > 1 then ((xs.map V.int).length : Int) else 1)).toNat]? = some c := ⟨_, List.getElem?_eq_getElem hj⟩
    have hc' : (xs.map V.int ++ [V.int 0])[(k.fmod (if ((xs.map V.int).length : Int) > 1 then ((xs.map V.int).length : Int) else 1)).toNat]? = some (V.int c) := by
      have e : xs.map V.int ++ [V.int 0] = (xs ++ [0]).map V.int := by simp
      rw [e, List.getElem?_map, hc]; rfl
    have hcx : c ≠ 0 → c ∈ xs := fun h0 => by
      have := List.mem_of_getElem? hc
      rcases List.mem_append.mp this with h | h
      · exact h
      · exact absurd (List.mem_singleton.mp h) h0
    repeat walk_at "rd"
    refine ⟨_, _, _, _, rfl, rfl, SqL.of' (by walk_at "hf"), atI_get j0 hc', ?_⟩
    repeat walk_at "rd"
    refine ite2 (fun c1 => ?_) (fun c1 => ?_)
    · have c1 : (10 : Int) ^ 18 ≤ c := of_decide_eq_true c1
      have cx : c ∈ xs := hcx (by omega)
      have xp : 0 < xs.length := List.length_pos_of_mem cx
      have hne : ((xs.map V.int).length : Int) ≠ 0 := by omega
      repeat walk_at "rd"
      obtain ⟨i0, i1⟩ := fdN (a := k) (b := ((xs.map V.int).length : Int)) (by omega)
      refine ⟨_, _, _, _, rfl, rfl, (by walk_at "hf"), ixN_pos i0 i1, ?_⟩
      repeat walk_at "rd"
      obtain ⟨r0, r1⟩ := fdN (a := c) n0
      refine q _ _ r0 r1 ⟨m, k, xs.set (k.fmod ((xs.map V.int).length : Int)).toNat (c / n), by walk_at "hf", ?_, m0, m1, k0, by rw [List.length_set]; exact xl⟩ fun b o nh ns e => by walk_at "hf"
      rw [upd_same, List.map_set]
    · have c1 : ¬ (10 : Int) ^ 18 ≤ c := fun z => c1 (decide_eq_true z)
      repeat walk_at "rd"
      obtain ⟨r0, r1⟩ := fdN (a := (m * 48271 + c * 69621 + 11).fmod 2147483647 / 7) n0
      obtain ⟨u0, u1⟩ := fdN (a := m * 48271 + c * 69621 + 11) (b := 2147483647) (by decide)
      refine q _ _ r0 r1 ⟨_, k + 1, xs, upd_same, by walk_at "hf", u0, u1, by omega, xl⟩ fun b o nh ns e => by walk_at "hf"
end
end T1

set_option Elab.async false
set_option linter.all false
set_option maxRecDepth 100000
set_option maxHeartbeats 4000000
namespace T1
open PySem PySem.Spec PyProof.Rows L2 C8
/-! ### links: tuples of four ints -/
abbrev Lk := Int × Int × Int × Int
def lv (l : Lk) : List V := [.int l.1, .int l.2.1, .int l.2.2.1, .int l.2.2.2]
def LL (K : PySem.W.Frag) (H : Hp) (vs : List V) (ls : List Lk) : Prop := vs.length = ls.length ∧ ∀ (j : Nat) (l : Lk), ls[j]? = some l → ∃ a, vs[j]? = some (.ref a) ∧ SqT K H a (lv l)
def Ls (K : PySem.W.Frag) (H : Hp) (t : Addr) (ls : List Lk) : Prop := ∃ vs, SqT K H t vs ∧ LL K H vs ls
section
variable {K : PySem.W.Frag} {H H' : Hp} {h s t : Addr} {vs : List V} {ls : List Lk}
theorem LL.but (x : LL K H vs ls) (e : But h s H H') (z : LSt H h s) : LL K H' vs ls := ⟨x.1, fun j l q => let ⟨a, e1, e2⟩ := x.2 j l q; ⟨a, e1, e.tup z e2⟩⟩
theorem LL.same (x : LL K H vs ls) (e : Same H H') : LL K H' vs ls := ⟨x.1, fun j l q => let ⟨a, e1, e2⟩ := x.2 j l q; ⟨a, e1, Same.tup e e2⟩⟩
theorem LL.put {p : Addr} {xs ys : List V} (x : LL K H vs ls) (hp : H p = some (.lst xs)) : LL K (upd H p (.lst ys)) vs ls := ⟨x.1, fun j l q => let ⟨a, e1, e2⟩ := x.2 j l q; ⟨a, e1, SqT.put e2 hp⟩⟩
theorem LL.same' (e : Same H H') (x : LL K H vs ls) : LL K H' vs ls := x.same e
theorem LL.but' (e : But h s H H') (z : LSt H h s) (x : LL K H vs ls) : LL K H' vs ls := x.but e z
theorem LL.nil : LL K H [] [] := ⟨rfl, fun j l q => by simp at q⟩
theorem LL.snoc {a : Addr} {l : Lk} (x : LL K H vs ls) (e : SqT K H a (lv l)) : LL K H (vs ++ [.ref a]) (ls ++ [l]) := by
  refine ⟨by simp [x.1], fun j m q => ?_⟩
  by_cases hj : j < ls.length
  · rw [List.getElem?_append_left hj] at q
    obtain ⟨b, e1, e2⟩ := x.2 j m q
    exact ⟨b, by rw [List.getElem?_append_left (by rw [x.1]; exact hj)]; exact e1, e2⟩
  · have hj' : ls.length ≤ j := Nat.le_of_not_lt hj
    rw [List.getElem?_append_right hj'] at q
    have e0 : j - ls.length = 0 := by
      match hz : j - ls.length, q with
      | 0, _ => rfl
      | n + 1, q => rw [hz] at *; simp at q
    rw [e0] at q
    have em : l = m := by simpa using q
    subst em
    exact ⟨a, by rw [List.getElem?_append_right (by rw [x.1]; exact hj'), x.1, e0]; rfl, e⟩
theorem Ls.but (x : Ls K H t ls) (e : But h s H H') (z : LSt H h s) : Ls K H' t ls := let ⟨vs, a, b⟩ := x; ⟨vs, e.tup z a, b.but e z⟩
theorem Ls.same (x : Ls K H t ls) (e : Same H H') : Ls K H' t ls := let ⟨vs, a, b⟩ := x; ⟨vs, Same.tup e a, b.same e⟩
theorem LSt.new {p : Addr} {o : HO} (x : LSt H h s) (hp : H p = none) : LSt (upd H p o) h s := x.same (Same.upd' hp)
theorem LSt.put {p : Addr} {o : HO} (x : LSt H h s) (n1 : p ≠ h) (n2 : p ≠ s) : LSt (upd H p o) h s := by
  obtain ⟨m, k, xs, h1, h2, r⟩ := x.ex
  exact ⟨m, k, xs, up_set (Ne.symm n1) h1, up_set (Ne.symm n2) h2, r⟩
theorem But.new {p : Addr} {o : HO} (x : But h s H H') (hp : H' p = none) : But h s H (upd H' p o) := x.trans (But.of (Same.upd' hp))
theorem LSt.fresh {p : Addr} (x : LSt H h s) (hp : H p = none) : p ≠ h ∧ p ≠ s := by
  obtain ⟨m, k, xs, h1, h2, r⟩ := x.ex
  exact ⟨Ne.symm (ne_of_none h1 hp), Ne.symm (ne_of_none h2 hp)⟩
theorem LL.get (x : LL K H vs ls) {j : Nat} {l : Lk} (q : ls[j]? = some l) : ∃ a, vs[j]? = some (.ref a) ∧ SqT K H a (lv l) := x.2 j l q
end
local macro_rules | `(tactic| walk_at "hf") => `(tactic| (fail_if_success (show (fun _ => none : Hp) _ = _)); first | assumption | with_reducible exact upd_same | ((with_reducible show upd _ _ _ _ = _); first | exact up_new' (by assumption) (by walk_at "hf") | exact up_set (by walk_at "ne") (by walk_at "hf")) | exact Same.at' (by assumption) (by walk_at "hf") | exact But.at' (by assumption) (by walk_at "ne") (by walk_at "ne") (by walk_at "hf"))
local macro_rules | `(tactic| walk_at "hf0") => `(tactic| (fail_if_success (show (fun _ => none : Hp) _ = _)); first | assumption | with_reducible exact upd_same | ((with_reducible show upd _ _ _ _ = _); exact up_new' (by assumption) (by walk_at "hf0")))
local macro_rules | `(tactic| walk_at "ne") => `(tactic| first | assumption | (apply Ne.symm; assumption) | exact ne_of_none' (by assumption) (by walk_at "hf0") | exact Ne.symm (ne_of_none' (by assumption) (by walk_at "hf0")) | exact LSt.f1 (by assumption) (by walk_at "lst") | exact LSt.f2 (by assumption) (by walk_at "lst"))
local macro_rules | `(tactic| walk_at "sqt") => `(tactic| (fail_if_success (show SqT _ (fun _ => none) _ _)); first | assumption | exact SqT.of' (by walk_at "hf") | ((with_reducible show SqT _ (upd _ _ _) _ _); first | exact SqT.new' (by assumption) (by walk_at "sqt") | exact SqT.put' (by walk_at "hf") (by walk_at "sqt")) | exact Same.tup (by assumption) (by walk_at "sqt") | exact But.tup (by assumption) (by walk_at "lst") (by walk_at "sqt"))
local macro_rules | `(tactic| walk_at "sql") => `(tactic| (fail_if_success (show SqL _ (fun _ => none) _ _)); first | assumption | exact SqL.of' (by walk_at "hf") | ((with_reducible show SqL _ (upd _ _ _) _ _); exact SqL.new' (by assumption) (by walk_at "sql")) | exact Same.sql' (by assumption) (by walk_at "sql"))
local macro_rules | `(tactic| walk_at "lst") => `(tactic| (fail_if_success (show LSt (fun _ => none) _ _)); first | assumption | ((with_reducible show LSt (upd _ _ _) _ _); first | exact LSt.new (by walk_at "lst") (by assumption) | exact LSt.put (by walk_at "lst") (by walk_at "ne") (by walk_at "ne")) | exact LSt.same' (by assumption) (by walk_at "lst"))
local macro_rules | `(tactic| walk_at "but") => `(tactic| first | assumption | exact But.refl _ _ _ | ((with_reducible show But _ _ _ (upd _ _ _)); exact But.nw (by assumption) (by walk_at "but")) | exact But.bu (by assumption) (by walk_at "but") | exact But.sm (by assumption) (by walk_at "but"))
local macro_rules | `(tactic| walk_at "ls") => `(tactic| first | assumption | exact Ls.same (by walk_at "ls") (Same.upd' (by assumption)))
local macro_rules | `(tactic| walk_at "ll") => `(tactic| first | assumption | exact LL.same (by walk_at "ll") (Same.upd' (by assumption)) | exact LL.same' (by assumption) (by walk_at "ll") | exact LL.but' (by assumption) (by walk_at "lst") (by walk_at "ll"))
local macro_rules | `(tactic| walk_at "sm") => `(tactic| first | assumption | exact Same.refl _ | ((with_reducible show Same _ (upd _ _ _)); first | exact Same.put' (by assumption) (by walk_at "sm") | exact Same.trans (by walk_at "sm") (Same.upd' (by assumption))) | exact Same.trans (by walk_at "sm") (by assumption))
/-- one step of a reading -/
local macro_rules | `(tactic| walk_at "rd") => `(tactic| first
  | with_reducible refine iteF ?_
  | with_reducible refine iteT ?_
  | with_reducible refine itNotF ?_
  | with_reducible refine itNotT ?_
  | refine ⟨_, rfl, ?_⟩
  | refine ⟨_, _, rfl, rfl, ?_⟩
  | refine ⟨_, _, rfl, ?_⟩
  | refine ⟨(_ : Addr), (_ : List V), (_ : Int), (_ : V), rfl, rfl, SqL.of' (by walk_at "hf"), (by first | assumption | rfl), ?_⟩
  | refine ⟨(_ : Addr), (_ : List V), (_ : Int), (_ : V), rfl, rfl, (by walk_at "sqt" : SqT _ _ _ _), (by first | assumption | rfl), ?_⟩
  | refine .inl ⟨_, rfl, ?_⟩
  | refine ⟨_, _, rfl, .inl (by walk_at "sql" : SqL _ _ _ _), ?_⟩
  | refine ⟨_, _, rfl, .inl ⟨(by walk_at "sql" : SqL _ _ _ _), fun p hp => ?_⟩⟩
  | refine ⟨_, _, rfl, .inr ⟨(by walk_at "sqt" : SqT _ _ _ _), ?_⟩⟩
  | refine fun (p : Addr) (hp : (_ : Hp) p = none) => ?_
  | refine ⟨_, _, rfl, .inr (by walk_at "sqt" : SqT _ _ _ _), ?_⟩
  | refine And.intro (by show _ ≤ sizeLine; first | decide | walk_at "sz") (fun p hp => ?_)
  | refine ⟨(_ : Addr), (_ : Addr), (_ : List V), (_ : List V), rfl, rfl, (by walk_at "hf"), (by walk_at "hf"), (by walk_at "sz"), fun p hp => ?_⟩
  | refine ⟨(_ : Addr), (_ : Addr), (_ : List V), (_ : List V), rfl, rfl, (by walk_at "hf"), (by walk_at "hf"), (by walk_at "sz"), ?_⟩
  | refine ⟨(_ : Addr), (_ : List V), (_ : Int), (_ : Nat), rfl, rfl, (by walk_at "hf"), (by rfl), ?_⟩
  | refine And.intro ⟨_, (by walk_at "sql" : SqL _ _ _ _)⟩ ?_
  | refine And.intro ⟨_, (by walk_at "sqt" : SqT _ _ _ _)⟩ ?_
  | refine And.intro (.inl ⟨rfl, _, SqL.of' (by walk_at "hf")⟩) ?_
  | refine And.intro (by walk_at "cond") ?_
  | exact .inl ⟨rfl, _, SqL.of' (by walk_at "hf")⟩
  | with_reducible refine iteT ?_
  | with_reducible refine iteF ?_
  | refine And.intro (by rfl : scal _ _ = true) ?_
  | refine And.intro (by rfl : _ = V.non) ?_
  | refine And.intro (by rfl : wipe _ _ = wipe _ _) ?_
  | refine And.intro (by rfl : (_ : List V) = []) ?_
  | refine ⟨(_ : Addr), (_ : List V), rfl, (by walk_at "sqt" : SqT _ _ _ _), (by rfl), ?_⟩)
/-- a test: known, or both ways -/
local macro_rules | `(tactic| walk_at "if") => `(tactic| first
  | with_reducible refine itD (by omega) ?_
  | with_reducible refine itN (by omega) ?_
  | with_reducible refine itnD (by omega) ?_
  | with_reducible refine itnN (by omega) ?_
  | with_reducible refine itE (by omega) ?_
  | with_reducible refine itEn (by omega) ?_
  | with_reducible refine itnE (by omega) ?_
  | with_reducible refine itnEn (by omega) ?_
  | with_reducible refine itN (by intro z; cases z) ?_
  | with_reducible refine itD (by decide) ?_
  | with_reducible refine itN (by decide) ?_
  | with_reducible refine itnD (by decide) ?_
  | with_reducible refine itnN (by decide) ?_)
local macro_rules | `(tactic| walk_at "if2") => `(tactic| first
  | with_reducible refine itS (fun z => ?_) (fun z => ?_)
  | with_reducible refine itS' (fun z => ?_) (fun z => ?_)
  | with_reducible refine itSE (fun z => ?_) (fun z => ?_)
  | with_reducible refine itnS (fun z => ?_) (fun z => ?_)
  | with_reducible refine itnS' (fun z => ?_) (fun z => ?_)
  | with_reducible refine itnSE (fun z => ?_) (fun z => ?_))
local macro_rules | `(tactic| walk_at "go") => `(tactic| repeat' (first | walk_at "rd" | walk_at "if" | walk_at "if2" | fail))
local macro_rules | `(tactic| walk_at "sz") => `(tactic| (rw [sizeLine_eq]; simp only [List.length_append, List.length_map, List.length_cons, List.length_nil]; omega))
local macro_rules | `(tactic| walk_at "cond") => `(tactic| first | assumption | (show (_ : Int) ≠ 0; first | omega | (split <;> omega)) | (show (0 : Int) < _; first | assumption | decide) | exact ⟨by decide, by decide, by decide⟩ | exact .inr ⟨by decide, by decide⟩ | exact wide_div (b := 64) (by assumption) (by omega) (by decide) (by decide) | exact ⟨by decide, by decide⟩)


/-! ### the helpers' promises -/
def spMix (K : PySem.W.Frag) : Sp := fun vs H Q _ => ∃ (a : Addr) (ns : List Int), vs = [.ref a, .int 1] ∧ SqL K H a (ns.map V.int) ∧ ns.length ≤ 63 ∧
  ∀ (h s : Addr) (H' : Hp), LSt H' h s → Same H H' → Q (.ref h) H'
def spLife : Sp := fun vs H Q _ => ∃ (h s : Addr) (b : Bool), vs = [.ref h, .bl b] ∧ LSt H h s ∧ ∀ (r : Int) (H' : Hp), LSt H' h s → But h s H H' → Q (.int r) H'
def spLinks (K : PySem.W.Frag) : Sp := fun vs H Q _ => ∃ (h s : Addr) (c m : Int) (b : Bool), vs = [.ref h, .int c, .int m, .bl b] ∧ LSt H h s ∧ 1 ≤ c ∧ c ≤ 100 ∧ 0 ≤ m ∧ m ≤ 100 ∧
  ∀ (t : Addr) (ls : List Lk) (H' : Hp), LSt H' h s → But h s H H' → Ls K H' t ls → (ls.length : Int) ≤ m → Q (.ref t) H'

structure Cs (P : Program) (w : World) (K : PySem.W.Frag) (mg : Str → Option Value) (base : Heap) : Prop where
  _law_next : Cal P w K mg base 1 "_law_next" spNext []

section
variable {P : Program} {w : World} {K : PySem.W.Frag} {mg : Str → Option Value} {base : Heap}
theorem int_get {ns : List Int} {i : Nat} {y : V} (hi : (ns.map V.int)[i]? = some y) : ∃ z, ns[i]? = some z ∧ y = V.int z := by
  rw [List.getElem?_map] at hi
  cases e : ns[i]? with
  | none => rw [e] at hi; cases hi
  | some z => rw [e] at hi; exact ⟨z, rfl, (Option.some.inj hi).symm⟩

theorem scMix : FnScope ["_law_script", "_law_seed", "_law_mixed", "_law_cell"] ["_law_script", "_law_seed"] (fnScope sMix) := fnScope_by (by decide +kernel)
theorem ok_mix {f : Addr} {fd : FuncData} (F : Def K mg "_law_mix" sMix f fd) (b : Binds K fd ["_law_script", "_law_seed"] []) (T : BT mg) : Cal P w K mg base 1 "_law_mix" (spMix K) [] := by
  refine cal0 F b .nil scMix (fun vs H Q E h => ?_) (fun cdv A outer s H vs Q E hr h => ?_)
  · obtain ⟨h, ns, rfl, _⟩ := h; rfl
  · obtain ⟨a, ns, rfl, ha, hl, q⟩ := h
    refine ⟨_, (pss_cons (ps_set (i := 2) scMix.nd rfl (Or.inl rfl) (pv 1))
 (pss_cons (ps_for PassesOwn.never rfl (pi_list (pv 0)) (pg_name (i := 3) scMix.nd rfl (Or.inl rfl)) (pss_one (ps_set (i := 2) scMix.nd rfl (Or.inl rfl) (pe_op op_modN (pe_op op_add (pe_op op_add (pe_op op_mul (pv 2) pe_int) (pe_op op_modN (pv 3) pe_int)) pe_int) pe_int))))
 (pss_one (ps_ret (pe_lst (pa_cons (pv 2) (pa_cons (pe_callTy call_list_of (by rfl) T.list (by decide +kernel) (pa_cons (pv 0) pa_nil)) (pa_cons pe_int pa_nil)))))))), ?_⟩
    repeat walk_at "rd"
    refine for_list (K := K) (a := a) (xs := ns.map V.int) (fun i σ H' => H' = H ∧ ∃ (m : Int) (v : Option V), σ = [some (.ref a), some (.int 1), some (.int m), v] ∧ 0 ≤ m ∧ m < 2147483647)
      ⟨rfl, 1, none, rfl, by decide, by decide⟩ (fun i σ H' _ ⟨e, _⟩ => by rw [e]; exact ha) ?_ ?_
    · rintro i y σ H' hi ⟨rfl, m, v, rfl, m0, m1⟩
      obtain ⟨z, hz, rfl⟩ := int_get hi
      repeat walk_at "rd"
      obtain ⟨u0, u1⟩ := fdN (a := m * 48271 + z.fmod 2147483629 + 1) (b := 2147483647) (by decide)
      exact ⟨rfl, _, _, rfl, u0, u1⟩
    · rintro σ H' ⟨rfl, m, v, rfl, m0, m1⟩
      repeat walk_at "rd"
      rename_i p1 hp1 p2 hp2
      exact q p2 p1 _ ⟨m, 0, ns, upd_same, by walk_at "hf", m0, m1, Int.le_refl 0, hl⟩ fun b o e => by walk_at "hf"

theorem scLife : FnScope ["_law_h", "_law_wide"] ["_law_h", "_law_wide"] (fnScope sLife) := fnScope_by (by decide +kernel)
theorem ok_life {f : Addr} {fd : FuncData} (F : Def K mg "_law_life" sLife f fd) (b : Binds K fd ["_law_h", "_law_wide"] []) (T : BT mg) (C : Cs P w K mg base) : Cal P w K mg base 2 "_law_life" spLife [] := by
  refine cal0 F b .nil scLife (fun vs H Q E h => ?_) (fun cdv A outer s H vs Q E hr h => ?_)
  · obtain ⟨h, s, b, rfl, _⟩ := h; rfl
  · obtain ⟨h, s, b, rfl, hs, q⟩ := h
    refine ⟨_, (pss_one (ps_ret (pe_c C._law_next hr (by first | decide | omega) (by rfl) (pa_cons (pv 0) (pa_cons (pe_ix ix_list (pe_lst (pa_cons pe_int (pa_cons pe_int (pa_cons (pe_op op_pow pe_int pe_int) (pa_cons (pe_op op_add (pe_op op_pow pe_int pe_int) pe_int) pa_nil))))) (pe_c C._law_next hr (by first | decide | omega) (by rfl) (pa_cons (pv 0) (pa_cons (pe_ifExp (pt_val (pv 1)) pe_int pe_int) pa_nil))) (fun _ _ => rfl)) pa_nil))))), ?_⟩
    have key : ∀ (r : Int), 0 ≤ r → r < 4 → ∃ v : Int, atI ([.int 9, .int 40, .int ((10 : Int) ^ (6 : Int).toNat), .int ((10 : Int) ^ (18 : Int).toNat + 1)] : List V) r = some (.int v) ∧ 0 < v ∧ v ≤ 2000000000000000000 := fun r r0 r1 => by
      have hr : r = 0 ∨ r = 1 ∨ r = 2 ∨ r = 3 := by omega
      rcases hr with rfl | rfl | rfl | rfl
      · exact ⟨9, rfl, by decide, by decide⟩
      · exact ⟨40, rfl, by decide, by decide⟩
      · exact ⟨_, rfl, by decide, by decide⟩
      · exact ⟨_, rfl, by decide, by decide⟩
    cases b <;> repeat walk_at "rd"
    all_goals
      refine ⟨h, s, _, rfl, by walk_at "lst", by decide, by decide, fun r H1 r0 r1 st1 bu1 => ?_⟩
      obtain ⟨v, hv, v0, v1⟩ := key r r0 (by omega)
      rename_i p1 hp1
      have hL := bu1 _ _ (hs.fresh hp1).1 (hs.fresh hp1).2 upd_same
      refine ⟨_, _, _, _, rfl, rfl, (by walk_at "sql" : SqL _ _ _ _), hv, ?_⟩
      repeat walk_at "rd"
      exact ⟨h, s, _, rfl, by walk_at "lst", v0, v1, fun r' H2 _ _ st2 bu2 => q _ _ st2 ((But.of (Same.upd' hp1)).trans (bu1.trans bu2))⟩
end
end T1

set_option Elab.async false
set_option linter.all false
set_option maxRecDepth 100000
set_option maxHeartbeats 4000000
namespace T1
open PySem PySem.Spec PyProof.Rows L2 C8
local macro_rules | `(tactic| walk_at "hf") => `(tactic| (fail_if_success (show (fun _ => none : Hp) _ = _)); first | assumption | with_reducible exact upd_same | ((with_reducible show upd _ _ _ _ = _); first | exact up_new' (by assumption) (by walk_at "hf") | exact up_set (by walk_at "ne") (by walk_at "hf")) | exact Same.at' (by assumption) (by walk_at "hf") | exact But.at' (by assumption) (by walk_at "ne") (by walk_at "ne") (by walk_at "hf"))
local macro_rules | `(tactic| walk_at "hf0") => `(tactic| (fail_if_success (show (fun _ => none : Hp) _ = _)); first | assumption | with_reducible exact upd_same | ((with_reducible show upd _ _ _ _ = _); exact up_new' (by assumption) (by walk_at "hf0")))
local macro_rules | `(tactic| walk_at "ne") => `(tactic| first | assumption | (apply Ne.symm; assumption) | exact ne_of_none' (by assumption) (by walk_at "hf0") | exact Ne.symm (ne_of_none' (by assumption) (by walk_at "hf0")) | exact LSt.f1 (by assumption) (by walk_at "lst") | exact LSt.f2 (by assumption) (by walk_at "lst"))
local macro_rules | `(tactic| walk_at "sqt") => `(tactic| (fail_if_success (show SqT _ (fun _ => none) _ _)); first | assumption | exact SqT.of' (by walk_at "hf") | ((with_reducible show SqT _ (upd _ _ _) _ _); first | exact SqT.new' (by assumption) (by walk_at "sqt") | exact SqT.put' (by walk_at "hf") (by walk_at "sqt")) | exact Same.tup (by assumption) (by walk_at "sqt") | exact But.tup (by assumption) (by walk_at "lst") (by walk_at "sqt"))
local macro_rules | `(tactic| walk_at "sql") => `(tactic| (fail_if_success (show SqL _ (fun _ => none) _ _)); first | assumption | exact SqL.of' (by walk_at "hf") | ((with_reducible show SqL _ (upd _ _ _) _ _); exact SqL.new' (by assumption) (by walk_at "sql")) | exact Same.sql' (by assumption) (by walk_at "sql"))
local macro_rules | `(tactic| walk_at "lst") => `(tactic| (fail_if_success (show LSt (fun _ => none) _ _)); first | assumption | ((with_reducible show LSt (upd _ _ _) _ _); first | exact LSt.new (by walk_at "lst") (by assumption) | exact LSt.put (by walk_at "lst") (by walk_at "ne") (by walk_at "ne")) | exact LSt.same' (by assumption) (by walk_at "lst"))
local macro_rules | `(tactic| walk_at "but") => `(tactic| first | assumption | exact But.refl _ _ _ | ((with_reducible show But _ _ _ (upd _ _ _)); exact But.nw (by assumption) (by walk_at "but")) | exact But.bu (by assumption) (by walk_at "but") | exact But.sm (by assumption) (by walk_at "but"))
local macro_rules | `(tactic| walk_at "ls") => `(tactic| first | assumption | exact Ls.same (by walk_at "ls") (Same.upd' (by assumption)))
local macro_rules | `(tactic| walk_at "ll") => `(tactic| first | assumption | exact LL.same (by walk_at "ll") (Same.upd' (by assumption)) | exact LL.same' (by assumption) (by walk_at "ll") | exact LL.but' (by assumption) (by walk_at "lst") (by walk_at "ll"))
local macro_rules | `(tactic| walk_at "sm") => `(tactic| first | assumption | exact Same.refl _ | ((with_reducible show Same _ (upd _ _ _)); first | exact Same.put' (by assumption) (by walk_at "sm") | exact Same.trans (by walk_at "sm") (Same.upd' (by assumption))) | exact Same.trans (by walk_at "sm") (by assumption))
/-- one step of a reading -/
local macro_rules | `(tactic| walk_at "rd") => `(tactic| first
  | with_reducible refine iteF ?_
  | with_reducible refine iteT ?_
  | with_reducible refine itNotF ?_
  | with_reducible refine itNotT ?_
  | refine ⟨_, rfl, ?_⟩
  | refine ⟨_, _, rfl, rfl, ?_⟩
  | refine ⟨_, _, rfl, ?_⟩
  | refine ⟨(_ : Addr), (_ : List V), (_ : Int), (_ : V), rfl, rfl, SqL.of' (by walk_at "hf"), (by first | assumption | rfl), ?_⟩
  | refine ⟨(_ : Addr), (_ : List V), (_ : Int), (_ : V), rfl, rfl, (by walk_at "sqt" : SqT _ _ _ _), (by first | assumption | rfl), ?_⟩
  | refine .inl ⟨_, rfl, ?_⟩
  | refine ⟨_, _, rfl, .inl (by walk_at "sql" : SqL _ _ _ _), ?_⟩
  | refine ⟨_, _, rfl, .inl ⟨(by walk_at "sql" : SqL _ _ _ _), fun p hp => ?_⟩⟩
  | refine ⟨_, _, rfl, .inr ⟨(by walk_at "sqt" : SqT _ _ _ _), ?_⟩⟩
  | refine fun (p : Addr) (hp : (_ : Hp) p = none) => ?_
  | refine ⟨_, _, rfl, .inr (by walk_at "sqt" : SqT _ _ _ _), ?_⟩
  | refine And.intro (by show _ ≤ sizeLine; first | decide | walk_at "sz") (fun p hp => ?_)
  | refine ⟨(_ : Addr), (_ : Addr), (_ : List V), (_ : List V), rfl, rfl, (by walk_at "hf"), (by walk_at "hf"), (by walk_at "sz"), fun p hp => ?_⟩
  | refine ⟨(_ : Addr), (_ : Addr), (_ : List V), (_ : List V), rfl, rfl, (by walk_at "hf"), (by walk_at "hf"), (by walk_at "sz"), ?_⟩
  | refine ⟨(_ : Addr), (_ : List V), (_ : Int), (_ : Nat), rfl, rfl, (by walk_at "hf"), (by rfl), ?_⟩
  | refine And.intro ⟨_, (by walk_at "sql" : SqL _ _ _ _)⟩ ?_
  | refine And.intro ⟨_, (by walk_at "sqt" : SqT _ _ _ _)⟩ ?_
  | refine And.intro (.inl ⟨rfl, _, SqL.of' (by walk_at "hf")⟩) ?_
  | refine And.intro (by walk_at "cond") ?_
  | exact .inl ⟨rfl, _, SqL.of' (by walk_at "hf")⟩
  | with_reducible refine iteT ?_
  | with_reducible refine iteF ?_
  | refine And.intro (by rfl : scal _ _ = true) ?_
  | refine And.intro (by rfl : _ = V.non) ?_
  | refine And.intro (by rfl : wipe _ _ = wipe _ _) ?_
  | refine And.intro (by rfl : (_ : List V) = []) ?_
  | refine ⟨(_ : Addr), (_ : List V), rfl, (by walk_at "sqt" : SqT _ _ _ _), (by rfl), ?_⟩)
/-- a test: known, or both ways -/
local macro_rules | `(tactic| walk_at "if") => `(tactic| first
  | with_reducible refine itD (by omega) ?_
  | with_reducible refine itN (by omega) ?_
  | with_reducible refine itnD (by omega) ?_
  | with_reducible refine itnN (by omega) ?_
  | with_reducible refine itE (by omega) ?_
  | with_reducible refine itEn (by omega) ?_
  | with_reducible refine itnE (by omega) ?_
  | with_reducible refine itnEn (by omega) ?_
  | with_reducible refine itN (by intro z; cases z) ?_
  | with_reducible refine itD (by decide) ?_
  | with_reducible refine itN (by decide) ?_
  | with_reducible refine itnD (by decide) ?_
  | with_reducible refine itnN (by decide) ?_)
local macro_rules | `(tactic| walk_at "if2") => `(tactic| first
  | with_reducible refine itS (fun z => ?_) (fun z => ?_)
  | with_reducible refine itS' (fun z => ?_) (fun z => ?_)
  | with_reducible refine itSE (fun z => ?_) (fun z => ?_)
  | with_reducible refine itnS (fun z => ?_) (fun z => ?_)
  | with_reducible refine itnS' (fun z => ?_) (fun z => ?_)
  | with_reducible refine itnSE (fun z => ?_) (fun z => ?_))
local macro_rules | `(tactic| walk_at "go") => `(tactic| repeat' (first | walk_at "rd" | walk_at "if" | walk_at "if2" | fail))
local macro_rules | `(tactic| walk_at "sz") => `(tactic| (rw [sizeLine_eq]; simp only [List.length_append, List.length_map, List.length_cons, List.length_nil]; omega))
local macro_rules | `(tactic| walk_at "cond") => `(tactic| first | assumption | (show (_ : Int) ≠ 0; first | omega | (split <;> omega)) | (show (0 : Int) < _; first | assumption | decide) | exact ⟨by decide, by decide, by decide⟩ | exact .inr ⟨by decide, by decide⟩ | exact wide_div (b := 64) (by assumption) (by omega) (by decide) (by decide) | exact ⟨by decide, by decide⟩)


structure C2 (P : Program) (w : World) (K : PySem.W.Frag) (mg : Str → Option Value) (base : Heap) : Prop extends Cs P w K mg base where
  _law_life : Cal P w K mg base 2 "_law_life" spLife []
section
variable {P : Program} {w : World} {K : PySem.W.Frag} {mg : Str → Option Value} {base : Heap}
theorem tC_as {v w : V} {σ : L2.St} {H : Hp} {Q : VK} (e : v = w) (q : Q w H) : tC v σ H Q := by subst e; exact q
theorem if_use {t : TT} {ta tb : TE} {σ : L2.St} {H : Hp} {Q : VK} (Z : Int → Hp → Prop) (loop : ∀ n H1, Z n H1 → Q (.int n) H1) (k : (∀ n H1, Z n H1 → Q (.int n) H1) → tIf t ta tb σ H Q) : tIf t ta tb σ H Q := k loop
theorem scLinks : FnScope ["_law_h", "_law_count", "_law_most", "_law_wide", "_law_found", "_law_k", "_law_one", "_law_other"] ["_law_h", "_law_count", "_law_most", "_law_wide"] (fnScope sLinks) := fnScope_by (by decide +kernel)
theorem ok_links {f : Addr} {fd : FuncData} (F : Def K mg "_law_links" sLinks f fd) (b : Binds K fd ["_law_h", "_law_count", "_law_most", "_law_wide"] []) (T : BT mg) (C : C2 P w K mg base) : Cal P w K mg base 3 "_law_links" (spLinks K) [] := by
  refine cal0 F b .nil scLinks (fun vs H Q E h => ?_) (fun cdv A outer s H vs Q E hr h => ?_)
  · obtain ⟨h, s, c, m, b, rfl, _⟩ := h; rfl
  · obtain ⟨h, s, c, m, b, rfl, hs, c0, c1, m0, m1, q⟩ := h
    refine ⟨_, (pss_cons (ps_set (i := 4) scLinks.nd rfl (Or.inl rfl) (pe_lst pa_nil))
 (pss_cons (ps_for PassesOwn.never rfl (pi_range1 (by rfl) T.range (pa_cons (pe_ifExp (pt_cmpR op_gt (pv 1) pe_int (nomark _)) (pe_c C._law_next hr (by first | decide | omega) (by rfl) (pa_cons (pv 0) (pa_cons (pe_op op_add (pv 2) pe_int) pa_nil))) pe_int) pa_nil)) (pg_name (i := 5) scLinks.nd rfl (Or.inl rfl)) (pss_cons (ps_set (i := 6) scLinks.nd rfl (Or.inl rfl) (pe_c C._law_next hr (by first | decide | omega) (by rfl) (pa_cons (pv 0) (pa_cons (pv 1) pa_nil))))
 (pss_cons (ps_set (i := 7) scLinks.nd rfl (Or.inl rfl) (pe_op op_modN (pe_op op_add (pe_op op_add (pv 6) pe_int) (pe_c C._law_next hr (by first | decide | omega) (by rfl) (pa_cons (pv 0) (pa_cons (pe_op op_sub (pv 1) pe_int) pa_nil)))) (pv 1)))
 (pss_one (ps_expr (pe_bm PySem.F.plainAttrs_list PySem.F.slot_list_append PySem.F.type_list_append mt_append (pv 4) (pa_cons (pe_tup (pa_cons (pv 6) (pa_cons (pv 7) (pa_cons (pe_op op_add pe_int (pe_c C._law_next hr (by first | decide | omega) (by rfl) (pa_cons (pv 0) (pa_cons (pe_ix ix_list (pe_lst (pa_cons pe_int (pa_cons pe_int pa_nil))) (pe_op op_fdiv (pe_c C._law_next hr (by first | decide | omega) (by rfl) (pa_cons (pv 0) (pa_cons pe_int pa_nil))) pe_int) (fun _ _ => rfl)) pa_nil)))) (pa_cons (pe_c C._law_life hr (by first | decide | omega) (by rfl) (pa_cons (pv 0) (pa_cons (pv 3) pa_nil))) pa_nil))))) pa_nil)))))))
 (pss_one (ps_ret (pe_callTy call_tuple_of (by rfl) T.tuple (by decide +kernel) (pa_cons (pv 4) pa_nil)))))), ?_⟩
    refine ⟨Nat.zero_le _, fun p hp => ?_⟩
    obtain ⟨pnh, pns⟩ := hs.fresh hp
    repeat walk_at "rd"
    refine ite2 (fun z => ?pa) (fun z => ?pb)
    case' pa =>
      have c2 : 1 < c := of_decide_eq_true z
      repeat walk_at "rd"
      refine ⟨h, s, _, rfl, (by walk_at "lst"), by omega, by omega, fun n H1 n0 n1' st1 bu1' => ?_⟩
      have n1 : n ≤ m := by omega
      have nc : n = 0 ∨ 1 < c := .inr c2
      have bu1 : But h s H H1 := (But.of (Same.upd' hp)).trans bu1'
      have f1 : H1 p = some (.lst []) := bu1' _ _ pnh pns upd_same
    case' pb =>
      obtain ⟨n, hn⟩ : ∃ n : Int, n = 0 := ⟨_, rfl⟩
      refine tC_as (congrArg V.int hn.symm) ?_
      have n0 : 0 ≤ n := by omega
      have n1 : n ≤ m := by omega
      have nc : n = 0 ∨ 1 < c := .inl hn
      have st1 : LSt (upd H p (.lst [])) h s := hs.new hp
      have bu1 : But h s H (upd H p (.lst [])) := But.of (Same.upd' hp)
      have f1 : upd H p (.lst []) p = some (.lst []) := upd_same
      generalize upd H p (.lst []) = H1 at st1 bu1 f1 ⊢
    all_goals
      repeat walk_at "rd"
      refine ⟨by omega, by omega, for_range (lo := 0) (n := n.toNat) (fun i σ H' => ∃ (ls : List Lk) (vs : List V) (v5 v6 v7 : Option V), σ = [some (.ref h), some (.int c), some (.int m), some (.bl b), some (.ref p), v5, v6, v7] ∧ LSt H' h s ∧ But h s H H' ∧ H' p = some (.lst vs) ∧ LL K H' vs ls ∧ ls.length = i)
        ⟨[], [], none, none, none, rfl, st1, bu1, f1, LL.nil, rfl⟩ ?_ ?_⟩
      · rintro i σ H2 hi ⟨ls, vs, v5, v6, v7, rfl, st2, bu2, f2, ll2, hl⟩
        have c2 : 1 < c := by omega
        repeat walk_at "rd"
        refine ⟨h, s, _, rfl, st2, by omega, by omega, fun r3 H3 r30 r31 st3 bu3 => ?_⟩
        repeat walk_at "rd"
        refine ⟨h, s, _, rfl, st3, by omega, by omega, fun r4 H4 r40 r41 st4 bu4 => ?_⟩
        have f4 : H4 p = some (.lst vs) := bu4 _ _ pnh pns (bu3 _ _ pnh pns f2)
        repeat walk_at "rd"
        rename_i p5 hp5
        refine ⟨h, s, _, rfl, (by walk_at "lst"), by decide, by decide, fun r5 H5 r50 r51 st5 bu5 => ?_⟩
        have st4' : LSt (upd H4 p5 (.lst [.int 3, .int 99])) h s := st4.new hp5
        have e5 : H5 p5 = some (.lst [.int 3, .int 99]) := bu5 _ _ (st4.fresh hp5).1 (st4.fresh hp5).2 upd_same
        repeat walk_at "rd"
        obtain ⟨v, hv, v0, v1⟩ : ∃ v : Int, atI ([.int 3, .int 99] : List V) (r5 / 3) = some (.int v) ∧ 0 < v ∧ v ≤ 99 := by
          have hr : r5 / 3 = 0 ∨ r5 / 3 = 1 := by omega
          rcases hr with e | e <;> rw [e]
          · exact ⟨3, rfl, by decide, by decide⟩
          · exact ⟨99, rfl, by decide, by decide⟩
        refine ⟨_, _, _, _, rfl, rfl, (by walk_at "sql" : SqL _ _ _ _), hv, ?_⟩
        repeat walk_at "rd"
        refine ⟨h, s, _, rfl, (by walk_at "lst"), v0, by omega, fun r6 H6 r60 r61 st6 bu6 => ?_⟩
        repeat walk_at "rd"
        refine ⟨h, s, _, rfl, (by walk_at "lst"), fun r7 H7 st7 bu7 => ?_⟩
        repeat walk_at "rd"
        rename_i p8 hp8
        have bu47 : But h s H4 H7 := (But.of (Same.upd' hp5)).trans (bu5.trans (bu6.trans bu7))
        have bu27 : But h s H2 H7 := bu3.trans (bu4.trans bu47)
        have f7 : H7 p = some (.lst vs) := bu47 _ _ pnh pns f4
        have ll7 : LL K H7 vs ls := ll2.but bu27 st2
        refine ⟨p, vs, _, rfl, rfl, (by walk_at "hf"), ?_, ?_⟩
        · rw [sizeLine_eq]; have := ll2.1; omega
        · obtain ⟨n1h, n1s⟩ := st7.fresh hp8
          have f8 : upd H7 p8 (.tup (lv (r3, (r3 + 1 + r4).fmod c, 1 + r6, r7))) p = some (.lst vs) := up_new f7 hp8
          refine ⟨ls ++ [(r3, (r3 + 1 + r4).fmod c, 1 + r6, r7)], vs ++ [.ref p8], _, _, _, rfl, (LSt.put (st7.new hp8) pnh pns), ?_, upd_same, ?_, by simp [hl]⟩
          · refine fun b o nh ns e => ?_
            have ebp : b ≠ p := ne_of_none e hp
            exact up_set ebp (up_new ((bu2.trans bu27) b o nh ns e) hp8)
          · exact ((ll7.same (Same.upd' hp8)).put f8).snoc (SqT.put (SqT.of' upd_same) f8)
      · rintro σ H' ⟨ls, vs, v5, v6, v7, rfl, st2, bu2, f2, ll2, hl⟩
        repeat walk_at "rd"
        rename_i p9 hp9
        exact q _ ls _ (st2.new hp9) (bu2.new hp9) ⟨vs, SqT.of' upd_same, ll2.same (Same.upd' hp9)⟩ (by omega)
end
end T1

set_option Elab.async false
set_option linter.all false
set_option maxRecDepth 100000
set_option maxHeartbeats 4000000
namespace T1
open PySem PySem.Spec PyProof.Rows L2 C8
local macro_rules | `(tactic| walk_at "hf") => `(tactic| (fail_if_success (show (fun _ => none : Hp) _ = _)); first | assumption | with_reducible exact upd_same | ((with_reducible show upd _ _ _ _ = _); first | exact up_new' (by assumption) (by walk_at "hf") | exact up_set (by walk_at "ne") (by walk_at "hf")) | exact Same.at' (by assumption) (by walk_at "hf") | exact But.at' (by assumption) (by walk_at "ne") (by walk_at "ne") (by walk_at "hf"))
local macro_rules | `(tactic| walk_at "hf0") => `(tactic| (fail_if_success (show (fun _ => none : Hp) _ = _)); first | assumption | with_reducible exact upd_same | ((with_reducible show upd _ _ _ _ = _); exact up_new' (by assumption) (by walk_at "hf0")))
local macro_rules | `(tactic| walk_at "ne") => `(tactic| first | assumption | (apply Ne.symm; assumption) | exact ne_of_none' (by assumption) (by walk_at "hf0") | exact Ne.symm (ne_of_none' (by assumption) (by walk_at "hf0")) | exact LSt.f1 (by assumption) (by walk_at "lst") | exact LSt.f2 (by assumption) (by walk_at "lst"))
local macro_rules | `(tactic| walk_at "sqt") => `(tactic| (fail_if_success (show SqT _ (fun _ => none) _ _)); first | assumption | exact SqT.of' (by walk_at "hf") | ((with_reducible show SqT _ (upd _ _ _) _ _); first | exact SqT.new' (by assumption) (by walk_at "sqt") | exact SqT.put' (by walk_at "hf") (by walk_at "sqt")) | exact Same.tup (by assumption) (by walk_at "sqt") | exact But.tup (by assumption) (by walk_at "lst") (by walk_at "sqt"))
local macro_rules | `(tactic| walk_at "sql") => `(tactic| (fail_if_success (show SqL _ (fun _ => none) _ _)); first | assumption | exact SqL.of' (by walk_at "hf") | ((with_reducible show SqL _ (upd _ _ _) _ _); exact SqL.new' (by assumption) (by walk_at "sql")) | exact Same.sql' (by assumption) (by walk_at "sql"))
local macro_rules | `(tactic| walk_at "lst") => `(tactic| (fail_if_success (show LSt (fun _ => none) _ _)); first | assumption | ((with_reducible show LSt (upd _ _ _) _ _); first | exact LSt.new (by walk_at "lst") (by assumption) | exact LSt.put (by walk_at "lst") (by walk_at "ne") (by walk_at "ne")) | exact LSt.same' (by assumption) (by walk_at "lst"))
local macro_rules | `(tactic| walk_at "but") => `(tactic| first | assumption | exact But.refl _ _ _ | ((with_reducible show But _ _ _ (upd _ _ _)); exact But.nw (by assumption) (by walk_at "but")) | exact But.bu (by assumption) (by walk_at "but") | exact But.sm (by assumption) (by walk_at "but"))
local macro_rules | `(tactic| walk_at "ls") => `(tactic| first | assumption | exact Ls.same (by walk_at "ls") (Same.upd' (by assumption)))
local macro_rules | `(tactic| walk_at "ll") => `(tactic| first | assumption | exact LL.same (by walk_at "ll") (Same.upd' (by assumption)) | exact LL.same' (by assumption) (by walk_at "ll") | exact LL.but' (by assumption) (by walk_at "lst") (by walk_at "ll"))
local macro_rules | `(tactic| walk_at "sm") => `(tactic| first | assumption | exact Same.refl _ | ((with_reducible show Same _ (upd _ _ _)); first | exact Same.put' (by assumption) (by walk_at "sm") | exact Same.trans (by walk_at "sm") (Same.upd' (by assumption))) | exact Same.trans (by walk_at "sm") (by assumption))
/-- one step of a reading -/
local macro_rules | `(tactic| walk_at "rd") => `(tactic| first
  | with_reducible refine iteF ?_
  | with_reducible refine iteT ?_
  | with_reducible refine itNotF ?_
  | with_reducible refine itNotT ?_
  | refine ⟨_, rfl, ?_⟩
  | refine ⟨_, _, rfl, rfl, ?_⟩
  | refine ⟨_, _, rfl, ?_⟩
  | refine ⟨(_ : Addr), (_ : List V), (_ : Int), (_ : V), rfl, rfl, SqL.of' (by walk_at "hf"), (by first | assumption | rfl), ?_⟩
  | refine ⟨(_ : Addr), (_ : List V), (_ : Int), (_ : V), rfl, rfl, (by walk_at "sqt" : SqT _ _ _ _), (by first | assumption | rfl), ?_⟩
  | refine .inl ⟨_, rfl, ?_⟩
  | refine ⟨_, _, rfl, .inl (by walk_at "sql" : SqL _ _ _ _), ?_⟩
  | refine ⟨_, _, rfl, .inl ⟨(by walk_at "sql" : SqL _ _ _ _), fun p hp => ?_⟩⟩
  | refine ⟨_, _, rfl, .inr ⟨(by walk_at "sqt" : SqT _ _ _ _), ?_⟩⟩
  | refine fun (p : Addr) (hp : (_ : Hp) p = none) => ?_
  | refine ⟨_, _, rfl, .inr (by walk_at "sqt" : SqT _ _ _ _), ?_⟩
  | refine And.intro (by show _ ≤ sizeLine; first | decide | walk_at "sz") (fun p hp => ?_)
  | refine ⟨(_ : Addr), (_ : Addr), (_ : List V), (_ : List V), rfl, rfl, (by walk_at "hf"), (by walk_at "hf"), (by walk_at "sz"), fun p hp => ?_⟩
  | refine ⟨(_ : Addr), (_ : Addr), (_ : List V), (_ : List V), rfl, rfl, (by walk_at "hf"), (by walk_at "hf"), (by walk_at "sz"), ?_⟩
  | refine ⟨(_ : Addr), (_ : List V), (_ : Int), (_ : Nat), rfl, rfl, (by walk_at "hf"), (by rfl), ?_⟩
  | refine And.intro ⟨_, (by walk_at "sql" : SqL _ _ _ _)⟩ ?_
  | refine And.intro ⟨_, (by walk_at "sqt" : SqT _ _ _ _)⟩ ?_
  | refine And.intro (.inl ⟨rfl, _, SqL.of' (by walk_at "hf")⟩) ?_
  | refine And.intro (by walk_at "cond") ?_
  | exact .inl ⟨rfl, _, SqL.of' (by walk_at "hf")⟩
  | with_reducible refine iteT ?_
  | with_reducible refine iteF ?_
  | refine And.intro (by rfl : scal _ _ = true) ?_
  | refine And.intro (by rfl : _ = V.non) ?_
  | refine And.intro (by rfl : wipe _ _ = wipe _ _) ?_
  | refine And.intro (by rfl : (_ : List V) = []) ?_
  | refine ⟨(_ : Addr), (_ : List V), rfl, (by walk_at "sqt" : SqT _ _ _ _), (by rfl), ?_⟩)
/-- a test: known, or both ways -/
local macro_rules | `(tactic| walk_at "if") => `(tactic| first
  | with_reducible refine itD (by omega) ?_
  | with_reducible refine itN (by omega) ?_
  | with_reducible refine itnD (by omega) ?_
  | with_reducible refine itnN (by omega) ?_
  | with_reducible refine itE (by omega) ?_
  | with_reducible refine itEn (by omega) ?_
  | with_reducible refine itnE (by omega) ?_
  | with_reducible refine itnEn (by omega) ?_
  | with_reducible refine itN (by intro z; cases z) ?_
  | with_reducible refine itD (by decide) ?_
  | with_reducible refine itN (by decide) ?_
  | with_reducible refine itnD (by decide) ?_
  | with_reducible refine itnN (by decide) ?_)
local macro_rules | `(tactic| walk_at "if2") => `(tactic| first
  | with_reducible refine itS (fun z => ?_) (fun z => ?_)
  | with_reducible refine itS' (fun z => ?_) (fun z => ?_)
  | with_reducible refine itSE (fun z => ?_) (fun z => ?_)
  | with_reducible refine itnS (fun z => ?_) (fun z => ?_)
  | with_reducible refine itnS' (fun z => ?_) (fun z => ?_)
  | with_reducible refine itnSE (fun z => ?_) (fun z => ?_))
local macro_rules | `(tactic| walk_at "go") => `(tactic| repeat' (first | walk_at "rd" | walk_at "if" | walk_at "if2" | fail))
local macro_rules | `(tactic| walk_at "sz") => `(tactic| (rw [sizeLine_eq]; simp only [List.length_append, List.length_map, List.length_cons, List.length_nil]; omega))
local macro_rules | `(tactic| walk_at "cond") => `(tactic| first | assumption | (show (_ : Int) ≠ 0; first | omega | (split <;> omega)) | (show (0 : Int) < _; first | assumption | decide) | exact ⟨by decide, by decide, by decide⟩ | exact .inr ⟨by decide, by decide⟩ | exact wide_div (b := 64) (by assumption) (by omega) (by decide) (by decide) | exact ⟨by decide, by decide⟩)


/-! ### the plain check here -/
def isLink (c : Int) (l : Lk) : Bool := !(decide (l.1 < 0) || decide (c ≤ l.1) || decide (l.2.1 < 0) || decide (c ≤ l.2.1) || decide (l.1 = l.2.1)) && (decide (1 ≤ l.2.2.1) && decide (l.2.2.1 ≤ 99) && (decide (0 ≤ l.2.2.2) && decide (l.2.2.2 ≤ 1000000000000000000)))
def spIsLink (K : PySem.W.Frag) : Sp := fun vs H Q _ => ∃ (a : Addr) (c : Int) (l : Lk), vs = [.int c, .ref a] ∧ SqT K H a (lv l) ∧ Q (.bl (isLink c l)) H
section
variable {P : Program} {w : World} {K : PySem.W.Frag} {mg : Str → Option Value} {base : Heap}
theorem scIsLink : FnScope ["_law_count", "_law_link"] ["_law_count", "_law_link"] (fnScope sIsLink) := fnScope_by (by decide +kernel)
theorem ok_isLink {f : Addr} {fd : FuncData} (F : Def K mg "_law_is_link" sIsLink f fd) (b : Binds K fd ["_law_count", "_law_link"] []) (T : BT mg) : Cal P w K mg base 1 "_law_is_link" (spIsLink K) [] := by
  refine cal0 F b .nil scIsLink (fun vs H Q E h => ?_) (fun cdv A outer s H vs Q E hr h => ?_)
  · obtain ⟨a, c, l, rfl, _⟩ := h; rfl
  · obtain ⟨a, c, ⟨x, y, z, v⟩, rfl, ha, q⟩ := h
    refine ⟨_, (pss_cons (ps_if (PW.pt (pw_or (pt_cmpR op_ne (pe_callB call_len_seq (by rfl) T.len PySem.boot_len (pa_cons (pv 1) pa_nil)) pe_int (nomark _)) (pw_or (pt_not (pt_chain op_le op_lt pe_int (pe_ix ix_tup (pv 1) pe_int (fun _ _ => rfl)) (pv 0))) (pw_or (pt_not (pt_chain op_le op_lt pe_int (pe_ix ix_tup (pv 1) pe_int (fun _ _ => rfl)) (pv 0))) (pw_or1 (pt_cmpR op_eq (pe_ix ix_tup (pv 1) pe_int (fun _ _ => rfl)) (pe_ix ix_tup (pv 1) pe_int (fun _ _ => rfl)) (nomark _))))))) (pss_one (ps_ret pe_bl)) pss_nil)
 (pss_one (ps_ret (pe_and (pe_chain op_le op_le pe_int (pe_ix ix_tup (pv 1) pe_int (fun _ _ => rfl)) pe_int) (pe_one (pe_chain op_le op_le pe_int (pe_ix ix_tup (pv 1) pe_int (fun _ _ => rfl)) (pe_op op_pow pe_int pe_int))))))), ?_⟩
    have ha : SqT K H a [.int x, .int y, .int z, .int v] := ha
    walk_at "go"
    all_goals
      have e18 : (10 : Int) ^ (18 : Int).toNat = 1000000000000000000 := by decide
      refine bl_as q ?_
      rw [Bool.eq_iff_iff]
      simp only [isLink, e18, Bool.and_eq_true, Bool.or_eq_true, Bool.not_eq_true', Bool.or_eq_false_iff, decide_eq_true_eq, decide_eq_false_iff_not, Bool.false_eq_true, iff_false, reduceCtorEq]
      omega
end
end T1

set_option Elab.async false
set_option linter.all false
set_option maxRecDepth 100000
set_option maxHeartbeats 4000000
namespace T1
open PySem PySem.Spec PyProof.Rows L2 C8
local macro_rules | `(tactic| walk_at "hf") => `(tactic| (fail_if_success (show (fun _ => none : Hp) _ = _)); first | assumption | with_reducible exact upd_same | ((with_reducible show upd _ _ _ _ = _); first | exact up_new' (by assumption) (by walk_at "hf") | exact up_set (by walk_at "ne") (by walk_at "hf")) | exact Same.at' (by assumption) (by walk_at "hf") | exact But.at' (by assumption) (by walk_at "ne") (by walk_at "ne") (by walk_at "hf"))
local macro_rules | `(tactic| walk_at "hf0") => `(tactic| (fail_if_success (show (fun _ => none : Hp) _ = _)); first | assumption | with_reducible exact upd_same | ((with_reducible show upd _ _ _ _ = _); exact up_new' (by assumption) (by walk_at "hf0")))
local macro_rules | `(tactic| walk_at "ne") => `(tactic| first | assumption | (apply Ne.symm; assumption) | exact ne_of_none' (by assumption) (by walk_at "hf0") | exact Ne.symm (ne_of_none' (by assumption) (by walk_at "hf0")) | exact LSt.f1 (by assumption) (by walk_at "lst") | exact LSt.f2 (by assumption) (by walk_at "lst"))
local macro_rules | `(tactic| walk_at "sqt") => `(tactic| (fail_if_success (show SqT _ (fun _ => none) _ _)); first | assumption | exact SqT.of' (by walk_at "hf") | ((with_reducible show SqT _ (upd _ _ _) _ _); first | exact SqT.new' (by assumption) (by walk_at "sqt") | exact SqT.put' (by walk_at "hf") (by walk_at "sqt")) | exact Same.tup (by assumption) (by walk_at "sqt") | exact But.tup (by assumption) (by walk_at "lst") (by walk_at "sqt"))
local macro_rules | `(tactic| walk_at "sql") => `(tactic| (fail_if_success (show SqL _ (fun _ => none) _ _)); first | assumption | exact SqL.of' (by walk_at "hf") | ((with_reducible show SqL _ (upd _ _ _) _ _); exact SqL.new' (by assumption) (by walk_at "sql")) | exact Same.sql' (by assumption) (by walk_at "sql"))
local macro_rules | `(tactic| walk_at "lst") => `(tactic| (fail_if_success (show LSt (fun _ => none) _ _)); first | assumption | ((with_reducible show LSt (upd _ _ _) _ _); first | exact LSt.new (by walk_at "lst") (by assumption) | exact LSt.put (by walk_at "lst") (by walk_at "ne") (by walk_at "ne")) | exact LSt.same' (by assumption) (by walk_at "lst"))
local macro_rules | `(tactic| walk_at "but") => `(tactic| first | assumption | exact But.refl _ _ _ | ((with_reducible show But _ _ _ (upd _ _ _)); exact But.nw (by assumption) (by walk_at "but")) | exact But.bu (by assumption) (by walk_at "but") | exact But.sm (by assumption) (by walk_at "but"))
local macro_rules | `(tactic| walk_at "ls") => `(tactic| first | assumption | exact Ls.same (by walk_at "ls") (Same.upd' (by assumption)))
local macro_rules | `(tactic| walk_at "ll") => `(tactic| first | assumption | exact LL.same (by walk_at "ll") (Same.upd' (by assumption)) | exact LL.same' (by assumption) (by walk_at "ll") | exact LL.but' (by assumption) (by walk_at "lst") (by walk_at "ll"))
local macro_rules | `(tactic| walk_at "sm") => `(tactic| first | assumption | exact Same.refl _ | ((with_reducible show Same _ (upd _ _ _)); first | exact Same.put' (by assumption) (by walk_at "sm") | exact Same.trans (by walk_at "sm") (Same.upd' (by assumption))) | exact Same.trans (by walk_at "sm") (by assumption))
/-- one step of a reading -/
local macro_rules | `(tactic| walk_at "rd") => `(tactic| first
  | with_reducible refine iteF ?_
  | with_reducible refine iteT ?_
  | with_reducible refine itNotF ?_
  | with_reducible refine itNotT ?_
  | refine ⟨_, rfl, ?_⟩
  | refine ⟨_, _, rfl, rfl, ?_⟩
  | refine ⟨_, _, rfl, ?_⟩
  | refine ⟨(_ : Addr), (_ : List V), (_ : Int), (_ : V), rfl, rfl, SqL.of' (by walk_at "hf"), (by first | assumption | rfl), ?_⟩
  | refine ⟨(_ : Addr), (_ : List V), (_ : Int), (_ : V), rfl, rfl, (by walk_at "sqt" : SqT _ _ _ _), (by first | assumption | rfl), ?_⟩
  | refine .inl ⟨_, rfl, ?_⟩
  | refine ⟨_, _, rfl, .inl (by walk_at "sql" : SqL _ _ _ _), ?_⟩
  | refine ⟨_, _, rfl, .inl ⟨(by walk_at "sql" : SqL _ _ _ _), fun p hp => ?_⟩⟩
  | refine ⟨_, _, rfl, .inr ⟨(by walk_at "sqt" : SqT _ _ _ _), ?_⟩⟩
  | refine fun (p : Addr) (hp : (_ : Hp) p = none) => ?_
  | refine ⟨_, _, rfl, .inr (by walk_at "sqt" : SqT _ _ _ _), ?_⟩
  | refine And.intro (by show _ ≤ sizeLine; first | decide | walk_at "sz") (fun p hp => ?_)
  | refine ⟨(_ : Addr), (_ : Addr), (_ : List V), (_ : List V), rfl, rfl, (by walk_at "hf"), (by walk_at "hf"), (by walk_at "sz"), fun p hp => ?_⟩
  | refine ⟨(_ : Addr), (_ : Addr), (_ : List V), (_ : List V), rfl, rfl, (by walk_at "hf"), (by walk_at "hf"), (by walk_at "sz"), ?_⟩
  | refine ⟨(_ : Addr), (_ : List V), (_ : Int), (_ : Nat), rfl, rfl, (by walk_at "hf"), (by rfl), ?_⟩
  | refine And.intro ⟨_, (by walk_at "sql" : SqL _ _ _ _)⟩ ?_
  | refine And.intro ⟨_, (by walk_at "sqt" : SqT _ _ _ _)⟩ ?_
  | refine And.intro (.inl ⟨rfl, _, SqL.of' (by walk_at "hf")⟩) ?_
  | refine And.intro (by walk_at "cond") ?_
  | exact .inl ⟨rfl, _, SqL.of' (by walk_at "hf")⟩
  | with_reducible refine iteT ?_
  | with_reducible refine iteF ?_
  | refine And.intro (by rfl : scal _ _ = true) ?_
  | refine And.intro (by rfl : _ = V.non) ?_
  | refine And.intro (by rfl : wipe _ _ = wipe _ _) ?_
  | refine And.intro (by rfl : (_ : List V) = []) ?_
  | refine ⟨(_ : Addr), (_ : List V), rfl, (by walk_at "sqt" : SqT _ _ _ _), (by rfl), ?_⟩)
/-- a test: known, or both ways -/
local macro_rules | `(tactic| walk_at "if") => `(tactic| first
  | with_reducible refine itD (by omega) ?_
  | with_reducible refine itN (by omega) ?_
  | with_reducible refine itnD (by omega) ?_
  | with_reducible refine itnN (by omega) ?_
  | with_reducible refine itE (by omega) ?_
  | with_reducible refine itEn (by omega) ?_
  | with_reducible refine itnE (by omega) ?_
  | with_reducible refine itnEn (by omega) ?_
  | with_reducible refine itN (by intro z; cases z) ?_
  | with_reducible refine itD (by decide) ?_
  | with_reducible refine itN (by decide) ?_
  | with_reducible refine itnD (by decide) ?_
  | with_reducible refine itnN (by decide) ?_)
local macro_rules | `(tactic| walk_at "if2") => `(tactic| first
  | with_reducible refine itS (fun z => ?_) (fun z => ?_)
  | with_reducible refine itS' (fun z => ?_) (fun z => ?_)
  | with_reducible refine itSE (fun z => ?_) (fun z => ?_)
  | with_reducible refine itnS (fun z => ?_) (fun z => ?_)
  | with_reducible refine itnS' (fun z => ?_) (fun z => ?_)
  | with_reducible refine itnSE (fun z => ?_) (fun z => ?_))
local macro_rules | `(tactic| walk_at "go") => `(tactic| repeat' (first | walk_at "rd" | walk_at "if" | walk_at "if2" | fail))
local macro_rules | `(tactic| walk_at "sz") => `(tactic| (rw [sizeLine_eq]; simp only [List.length_append, List.length_map, List.length_cons, List.length_nil]; omega))
local macro_rules | `(tactic| walk_at "cond") => `(tactic| first | assumption | (show (_ : Int) ≠ 0; first | omega | (split <;> omega)) | (show (0 : Int) < _; first | assumption | decide) | exact ⟨by decide, by decide, by decide⟩ | exact .inr ⟨by decide, by decide⟩ | exact wide_div (b := 64) (by assumption) (by omega) (by decide) (by decide) | exact ⟨by decide, by decide⟩)


def badAt (c : Int) (l : Lk) (k : Nat) : Bool := decide (k = 24) || !isLink c l
def firstFrom (c : Int) : List Lk → Nat → Option Nat
  | [], _ => none
  | l :: r, k => if badAt c l k = true then some k else firstFrom c r (k + 1)
theorem firstFrom_none {c : Int} : ∀ {ls : List Lk} {k : Nat}, (∀ j l, ls[j]? = some l → badAt c l (k + j) = false) → firstFrom c ls k = none
  | [], k, _ => rfl
  | l :: r, k, h => by
    have h0 : badAt c l k = false := h 0 l rfl
    unfold firstFrom
    rw [if_neg (by rw [h0]; decide)]
    exact firstFrom_none fun j m e => by have := h (j + 1) m e; rw [← this]; congr 1; omega
theorem firstFrom_some {c : Int} : ∀ {ls : List Lk} {k i : Nat} {m : Lk}, (∀ j l, j < i → ls[j]? = some l → badAt c l (k + j) = false) → ls[i]? = some m → badAt c m (k + i) = true → firstFrom c ls k = some (k + i)
  | [], k, i, m, _, e, _ => by simp at e
  | l :: r, k, 0, m, _, e, hb => by
    have el : l = m := by simpa using e
    subst el
    have hb : badAt c l k = true := hb
    unfold firstFrom
    rw [if_pos hb] <;> rfl
  | l :: r, k, i + 1, m, h, e, hb => by
    have h0 : badAt c l k = false := h 0 l (Nat.succ_pos _) rfl
    unfold firstFrom
    rw [if_neg (by rw [h0]; decide)]
    have := firstFrom_some (k := k + 1) (i := i) (m := m) (fun j l' hj e' => by have := h (j + 1) l' (by omega) e'; rw [← this]; congr 1; omega) (by simpa using e) (by rw [← hb]; congr 1; omega)
    rw [this]; congr 1; omega
def firstBad (c : Int) (ls : List Lk) : Option (Str × Int) := if 1 ≤ c ∧ c ≤ 12 then (firstFrom c ls 0).map (fun k => (("bridges" : Str), (k : Int))) else some ("count", 0)
def BadV (K : PySem.W.Frag) (H : Hp) (v : V) : Option (Str × Int) → Prop
  | none => v = .non
  | some r => ∃ a, v = .ref a ∧ SqT K H a [.str r.1, .int r.2]
def spFirst (K : PySem.W.Frag) : Sp := fun vs H Q _ => ∃ (t : Addr) (c : Int) (ls : List Lk), vs = [.int c, .ref t] ∧ Ls K H t ls ∧ ls.length ≤ 1000 ∧ ∀ (v : V) (H' : Hp), Same H H' → BadV K H' v (firstBad c ls) → Q v H'
structure C4 (P : Program) (w : World) (K : PySem.W.Frag) (mg : Str → Option Value) (base : Heap) : Prop where
  _law_is_link : Cal P w K mg base 1 "_law_is_link" (spIsLink K) []
section
variable {P : Program} {w : World} {K : PySem.W.Frag} {mg : Str → Option Value} {base : Heap}
theorem scFirst : FnScope ["_law_count", "_law_links_here", "_law_k"] ["_law_count", "_law_links_here"] (fnScope sFirst) := fnScope_by (by decide +kernel)
theorem ok_first {f : Addr} {fd : FuncData} (F : Def K mg "_law_first_bad" sFirst f fd) (b : Binds K fd ["_law_count", "_law_links_here"] []) (T : BT mg) (C : C4 P w K mg base) : Cal P w K mg base 2 "_law_first_bad" (spFirst K) [] := by
  refine cal0 F b .nil scFirst (fun vs H Q E h => ?_) (fun cdv A outer s H vs Q E hr h => ?_)
  · obtain ⟨t, c, ls, rfl, _⟩ := h; rfl
  · obtain ⟨t, c, ls, rfl, ⟨vs, ht, ll⟩, hlen, q⟩ := h
    refine ⟨_, (pss_cons (ps_if (pt_not (pt_chain op_le op_le pe_int (pv 0) pe_int)) (pss_one (ps_ret (pe_tup (pa_cons pe_str (pa_cons pe_int pa_nil))))) pss_nil)
 (pss_cons (ps_for PassesOwn.never rfl (pi_range1 (by rfl) T.range (pa_cons (pe_callB call_len_seq (by rfl) T.len PySem.boot_len (pa_cons (pv 1) pa_nil)) pa_nil)) (pg_name (i := 2) scFirst.nd rfl (Or.inl rfl)) (pss_one (ps_if (PW.pt (pw_or (pt_cmpR op_eq (pv 2) pe_int (nomark _)) (pw_or1 (pt_not (pt_val (pe_c C._law_is_link hr (by first | decide | omega) (by rfl) (pa_cons (pv 0) (pa_cons (pe_ix ix_tup (pv 1) (pv 2) (fun _ _ => rfl)) pa_nil)))))))) (pss_one (ps_ret (pe_tup (pa_cons pe_str (pa_cons (pv 2) pa_nil))))) pss_nil)))
 (pss_one (ps_ret pe_non)))), ?_⟩
    have first_out : ∀ (p : Addr), H p = none → ¬ (1 ≤ c ∧ c ≤ 12) → Q (.ref p) (upd H p (.tup [.str "count", .int 0])) := fun p hp hc => q _ _ (Same.upd' hp) (by
      unfold firstBad
      rw [if_neg hc]
      exact ⟨p, rfl, SqT.of' upd_same⟩)
    have hv := ll.1
    walk_at "go"
    · exact first_out _ (by assumption) (by omega)
    · have hc : 1 ≤ c ∧ c ≤ 12 := by omega
      refine ⟨by omega, by omega, for_range (lo := 0) (n := (vs.length : Int).toNat) (fun i σ H' => Same H H' ∧ (∃ v, σ = [some (.int c), some (.ref t), v]) ∧ ∀ j l, j < i → ls[j]? = some l → badAt c l j = false)
        ⟨Same.refl H, ⟨none, rfl⟩, fun j l hj _ => absurd hj (Nat.not_lt_zero _)⟩ ?_ ?_⟩
      · rintro i σ H' hi ⟨sm, ⟨v, rfl⟩, hb⟩
        have hi' : i < ls.length := by omega
        obtain ⟨l, hl⟩ : ∃ l, ls[i]? = some l := ⟨_, List.getElem?_eq_getElem hi'⟩
        obtain ⟨a, ha, hta⟩ := ll.2 i l hl
        have ht' : SqT K H' t vs := Same.tup sm ht
        have hta' : SqT K H' a (lv l) := Same.tup sm hta
        have hat : atI vs (0 + (i : Int)) = some (.ref a) := by rw [Int.zero_add]; exact atI_nat ha
        have out : ∀ (p : Addr), H' p = none → badAt c l i = true → Q (.ref p) (upd H' p (.tup [.str "bridges", .int (0 + i)])) := fun p hp hbad => q _ _ (sm.trans (Same.upd' hp)) (by
          unfold firstBad
          rw [if_pos hc, firstFrom_some (k := 0) (i := i) (m := l) (fun j l' hj e => by rw [Nat.zero_add]; exact hb j l' hj e) hl (by rw [Nat.zero_add]; exact hbad), Nat.zero_add]
          exact ⟨p, rfl, SqT.of' (by rw [upd_same, Int.zero_add])⟩)
        walk_at "go"
        · exact out _ (by assumption) (by unfold badAt; rw [decide_eq_true (show i = 24 by omega)]; rfl)
        · refine ⟨a, c, l, rfl, hta', ?_⟩
          have i24 : decide (i = 24) = false := decide_eq_false (by omega)
          cases hk : isLink c l
          · walk_at "go"
            exact out _ (by assumption) (by unfold badAt; rw [hk, i24]; rfl)
          · walk_at "go"
            refine ⟨⟨_, rfl⟩, fun j l' hj e => ?_⟩
            by_cases hji : j = i
            · subst hji
              rw [hl] at e
              cases e
              unfold badAt
              rw [hk, i24]; rfl
            · exact hb j l' (by omega) e
      · rintro σ H' ⟨sm, ⟨v, rfl⟩, hb⟩
        walk_at "go"
        refine q _ _ sm ?_
        unfold firstBad
        rw [if_pos hc, firstFrom_none (fun j l e => by rw [Nat.zero_add]; exact hb j l (by have := (List.getElem?_eq_some_iff.mp e).1; omega) e)]
        rfl
    · exact first_out _ (by assumption) (by omega)
end
end T1

set_option Elab.async false
set_option linter.all false
set_option maxRecDepth 100000
set_option maxHeartbeats 4000000
namespace T1
open PySem PySem.Spec PyProof.Rows L2 C8
local macro_rules | `(tactic| walk_at "hf") => `(tactic| (fail_if_success (show (fun _ => none : Hp) _ = _)); first | assumption | with_reducible exact upd_same | ((with_reducible show upd _ _ _ _ = _); first | exact up_new' (by assumption) (by walk_at "hf") | exact up_set (by walk_at "ne") (by walk_at "hf")) | exact Same.at' (by assumption) (by walk_at "hf") | exact But.at' (by assumption) (by walk_at "ne") (by walk_at "ne") (by walk_at "hf"))
local macro_rules | `(tactic| walk_at "hf0") => `(tactic| (fail_if_success (show (fun _ => none : Hp) _ = _)); first | assumption | with_reducible exact upd_same | ((with_reducible show upd _ _ _ _ = _); exact up_new' (by assumption) (by walk_at "hf0")))
local macro_rules | `(tactic| walk_at "ne") => `(tactic| first | assumption | (apply Ne.symm; assumption) | exact ne_of_none' (by assumption) (by walk_at "hf0") | exact Ne.symm (ne_of_none' (by assumption) (by walk_at "hf0")) | exact LSt.f1 (by assumption) (by walk_at "lst") | exact LSt.f2 (by assumption) (by walk_at "lst"))
local macro_rules | `(tactic| walk_at "sqt") => `(tactic| (fail_if_success (show SqT _ (fun _ => none) _ _)); first | assumption | exact SqT.of' (by walk_at "hf") | ((with_reducible show SqT _ (upd _ _ _) _ _); first | exact SqT.new' (by assumption) (by walk_at "sqt") | exact SqT.put' (by walk_at "hf") (by walk_at "sqt")) | exact Same.tup (by assumption) (by walk_at "sqt") | exact But.tup (by assumption) (by walk_at "lst") (by walk_at "sqt"))
local macro_rules | `(tactic| walk_at "sql") => `(tactic| (fail_if_success (show SqL _ (fun _ => none) _ _)); first | assumption | exact SqL.of' (by walk_at "hf") | ((with_reducible show SqL _ (upd _ _ _) _ _); exact SqL.new' (by assumption) (by walk_at "sql")) | exact Same.sql' (by assumption) (by walk_at "sql"))
local macro_rules | `(tactic| walk_at "lst") => `(tactic| (fail_if_success (show LSt (fun _ => none) _ _)); first | assumption | ((with_reducible show LSt (upd _ _ _) _ _); first | exact LSt.new (by walk_at "lst") (by assumption) | exact LSt.put (by walk_at "lst") (by walk_at "ne") (by walk_at "ne")) | exact LSt.same' (by assumption) (by walk_at "lst"))
local macro_rules | `(tactic| walk_at "but") => `(tactic| first | assumption | exact But.refl _ _ _ | ((with_reducible show But _ _ _ (upd _ _ _)); exact But.nw (by assumption) (by walk_at "but")) | exact But.bu (by assumption) (by walk_at "but") | exact But.sm (by assumption) (by walk_at "but"))
local macro_rules | `(tactic| walk_at "ls") => `(tactic| first | assumption | exact Ls.same (by walk_at "ls") (Same.upd' (by assumption)))
local macro_rules | `(tactic| walk_at "ll") => `(tactic| first | assumption | exact LL.same (by walk_at "ll") (Same.upd' (by assumption)) | exact LL.same' (by assumption) (by walk_at "ll") | exact LL.but' (by assumption) (by walk_at "lst") (by walk_at "ll"))
local macro_rules | `(tactic| walk_at "sm") => `(tactic| first | assumption | exact Same.refl _ | ((with_reducible show Same _ (upd _ _ _)); first | exact Same.put' (by assumption) (by walk_at "sm") | exact Same.trans (by walk_at "sm") (Same.upd' (by assumption))) | exact Same.trans (by walk_at "sm") (by assumption))
/-- one step of a reading -/
local macro_rules | `(tactic| walk_at "rd") => `(tactic| first
  | with_reducible refine iteF ?_
  | with_reducible refine iteT ?_
  | with_reducible refine itNotF ?_
  | with_reducible refine itNotT ?_
  | refine ⟨_, rfl, ?_⟩
  | refine ⟨_, _, rfl, rfl, ?_⟩
  | refine ⟨_, _, rfl, ?_⟩
  | refine ⟨(_ : Addr), (_ : List V), (_ : Int), (_ : V), rfl, rfl, SqL.of' (by walk_at "hf"), (by first | assumption | rfl), ?_⟩
  | refine ⟨(_ : Addr), (_ : List V), (_ : Int), (_ : V), rfl, rfl, (by walk_at "sqt" : SqT _ _ _ _), (by first | assumption | rfl), ?_⟩
  | refine .inl ⟨_, rfl, ?_⟩
  | refine ⟨_, _, rfl, .inl (by walk_at "sql" : SqL _ _ _ _), ?_⟩
  | refine ⟨_, _, rfl, .inl ⟨(by walk_at "sql" : SqL _ _ _ _), fun p hp => ?_⟩⟩
  | refine ⟨_, _, rfl, .inr ⟨(by walk_at "sqt" : SqT _ _ _ _), ?_⟩⟩
  | refine fun (p : Addr) (hp : (_ : Hp) p = none) => ?_
  | refine ⟨_, _, rfl, .inr (by walk_at "sqt" : SqT _ _ _ _), ?_⟩
  | refine And.intro (by show _ ≤ sizeLine; first | decide | walk_at "sz") (fun p hp => ?_)
  | refine ⟨(_ : Addr), (_ : Addr), (_ : List V), (_ : List V), rfl, rfl, (by walk_at "hf"), (by walk_at "hf"), (by walk_at "sz"), fun p hp => ?_⟩
  | refine ⟨(_ : Addr), (_ : Addr), (_ : List V), (_ : List V), rfl, rfl, (by walk_at "hf"), (by walk_at "hf"), (by walk_at "sz"), ?_⟩
  | refine ⟨(_ : Addr), (_ : List V), (_ : Int), (_ : Nat), rfl, rfl, (by walk_at "hf"), (by rfl), ?_⟩
  | refine And.intro ⟨_, (by walk_at "sql" : SqL _ _ _ _)⟩ ?_
  | refine And.intro ⟨_, (by walk_at "sqt" : SqT _ _ _ _)⟩ ?_
  | refine And.intro (.inl ⟨rfl, _, SqL.of' (by walk_at "hf")⟩) ?_
  | refine And.intro (by walk_at "cond") ?_
  | exact .inl ⟨rfl, _, SqL.of' (by walk_at "hf")⟩
  | with_reducible refine iteT ?_
  | with_reducible refine iteF ?_
  | refine And.intro (by rfl : scal _ _ = true) ?_
  | refine And.intro (by rfl : _ = V.non) ?_
  | refine And.intro (by rfl : wipe _ _ = wipe _ _) ?_
  | refine And.intro (by rfl : (_ : List V) = []) ?_
  | refine ⟨(_ : Addr), (_ : List V), rfl, (by walk_at "sqt" : SqT _ _ _ _), (by rfl), ?_⟩)
/-- a test: known, or both ways -/
local macro_rules | `(tactic| walk_at "if") => `(tactic| first
  | with_reducible refine itD (by omega) ?_
  | with_reducible refine itN (by omega) ?_
  | with_reducible refine itnD (by omega) ?_
  | with_reducible refine itnN (by omega) ?_
  | with_reducible refine itE (by omega) ?_
  | with_reducible refine itEn (by omega) ?_
  | with_reducible refine itnE (by omega) ?_
  | with_reducible refine itnEn (by omega) ?_
  | with_reducible refine itN (by intro z; cases z) ?_
  | with_reducible refine itD (by decide) ?_
  | with_reducible refine itN (by decide) ?_
  | with_reducible refine itnD (by decide) ?_
  | with_reducible refine itnN (by decide) ?_)
local macro_rules | `(tactic| walk_at "if2") => `(tactic| first
  | with_reducible refine itS (fun z => ?_) (fun z => ?_)
  | with_reducible refine itS' (fun z => ?_) (fun z => ?_)
  | with_reducible refine itSE (fun z => ?_) (fun z => ?_)
  | with_reducible refine itnS (fun z => ?_) (fun z => ?_)
  | with_reducible refine itnS' (fun z => ?_) (fun z => ?_)
  | with_reducible refine itnSE (fun z => ?_) (fun z => ?_))
local macro_rules | `(tactic| walk_at "go") => `(tactic| repeat' (first | walk_at "rd" | walk_at "if" | walk_at "if2" | fail))
local macro_rules | `(tactic| walk_at "sz") => `(tactic| (rw [sizeLine_eq]; simp only [List.length_append, List.length_map, List.length_cons, List.length_nil]; omega))
local macro_rules | `(tactic| walk_at "cond") => `(tactic| first | assumption | (show (_ : Int) ≠ 0; first | omega | (split <;> omega)) | (show (0 : Int) < _; first | assumption | decide) | exact ⟨by decide, by decide, by decide⟩ | exact .inr ⟨by decide, by decide⟩ | exact wide_div (b := 64) (by assumption) (by omega) (by decide) (by decide) | exact ⟨by decide, by decide⟩)


/-! ### data -/
def ld (l : Lk) : PyData := .tuple [.int l.1, .int l.2.1, .int l.2.2.1, .int l.2.2.2]
theorem Dp.link {K : PySem.W.Frag} {H : Hp} {a : Addr} {l : Lk} (h : SqT K H a (lv l)) : Dp K H (.ref a) (ld l) := .tup h (.cons (.int _) (.cons (.int _) (.cons (.int _) (.cons (.int _) .nil))))
theorem DpAll.links {K : PySem.W.Frag} {H : Hp} : ∀ {vs : List V} {ls : List Lk}, LL K H vs ls → DpAll K H vs (ls.map ld)
  | [], [], _ => .nil
  | v :: vs, l :: ls, h => by
    obtain ⟨a, e1, e2⟩ := h.2 0 l rfl
    have ev : v = .ref a := by simpa using e1
    subst ev
    exact .cons (Dp.link e2) (DpAll.links ⟨by have := h.1; simpa using this, fun j m e => by
      obtain ⟨b, e3, e4⟩ := h.2 (j + 1) m (by simpa using e)
      exact ⟨b, by simpa using e3, e4⟩⟩)
  | [], _ :: _, h => by have := h.1; simp at this
  | _ :: _, [], h => by have := h.1; simp at this
theorem Dp.links {K : PySem.W.Frag} {H : Hp} {t : Addr} {ls : List Lk} (h : Ls K H t ls) : Dp K H (.ref t) (.tuple (ls.map ld)) := let ⟨vs, h1, h2⟩ := h; .tup h1 (DpAll.links h2)
theorem lay_links : ∀ ls : List Lk, PyData.canLayAll0 (ls.map ld) = true
  | [] => by simp [PyData.canLayAll0]
  | l :: ls => by simp [PyData.canLayAll0, PyData.canLay0, ld, lay_links ls]
theorem depth_links : ∀ ls : List Lk, PyData.depthAll (ls.map ld) ≤ 1
  | [] => by simp [PyData.depthAll]
  | l :: ls => by
    have := depth_links ls
    simp only [List.map_cons, PyData.depthAll, PyData.depth, ld]
    omega
theorem shaped_links (ls : List Lk) : SeqAt.shaped (.tuple (ls.map ld)) = true := by
  have h := depth_links ls
  have hd : PyData.depth (.tuple (ls.map ld)) ≤ 64 := by simp only [PyData.depth]; omega
  have hc : PyData.canLay0 (.tuple (ls.map ld)) = true := by simp only [PyData.canLay0]; exact lay_links ls
  unfold SeqAt.shaped
  rw [hc, decide_eq_true hd] <;> rfl
theorem eqv_links_nil (ls : List Lk) : PyData.eqv (.tuple (ls.map ld)) (.tuple []) = ls.isEmpty := by
  cases ls <;> simp [PyData.eqv, PyData.eqvAll]
/-! ### + and slices of tuples, whichever object comes out -/
theorem catA_i {K : PySem.W.Frag} {H : Hp} {a b : Addr} {xs ys : List V} {Q : VK} (ha : SqT K H a xs) (hb : SqT K H b ys) (hz : xs.length + ys.length ≤ sizeLine)
    (q : ∀ p H', Same H H' → SqT K H' p (xs ++ ys) → Q (.ref p) H') : rCatA K (.ref a) (.ref b) H Q := by
  refine ⟨a, b, xs, ys, rfl, rfl, ha, hb, hz, fun e => q b H (Same.refl H) (by rw [e]; exact hb), fun _ e => q a H (Same.refl H) (by rw [e, List.append_nil]; exact ha), fun _ _ p hp => q p _ (Same.upd' hp) (SqT.of' upd_same)⟩
theorem slA_i {K : PySem.W.Frag} {H : Hp} {a : Addr} {xs : List V} {lo hi : Option Int} {Q : VK} (ha : SqT K H a xs) (q : ∀ p H', Same H H' → SqT K H' p (cutV xs lo hi) → Q (.ref p) H') : rSlA K (.ref a) lo hi H Q := by
  refine ⟨a, xs, rfl, ha, fun h => q a H (Same.refl H) ?_, fun _ p hp => q p _ (Same.upd' hp) (SqT.of' upd_same)⟩
  unfold cutV
  rw [h.1, h.2, List.drop_zero, Nat.sub_zero, List.take_length]
  exact ha
theorem cut_to {xs : List V} {k : Nat} (h : k ≤ xs.length) : cutV xs none (some (k : Int)) = xs.take k := by
  unfold cutV
  rw [HT.sIx_none, HT.sIx_nat, List.drop_zero, Nat.min_eq_left h, Nat.sub_zero]
theorem cut_from {xs : List V} {k : Nat} (h : k ≤ xs.length) : cutV xs (some (k : Int)) none = xs.drop k := by
  unfold cutV
  rw [HT.sIx_none, HT.sIx_nat, Nat.min_eq_left h]
  exact List.take_of_length_le (by rw [List.length_drop]; omega)
theorem LL.setAt {K : PySem.W.Frag} {H : Hp} {vs : List V} {ls : List Lk} {k : Nat} {a : Addr} {l : Lk} (x : LL K H vs ls) (hk : k < ls.length) (e : SqT K H a (lv l)) : LL K H (vs.take k ++ [.ref a] ++ vs.drop (k + 1)) (ls.set k l) := by
  have hk' : k < vs.length := by rw [x.1]; exact hk
  have es : vs.take k ++ [.ref a] ++ vs.drop (k + 1) = vs.set k (.ref a) := by
    rw [List.set_eq_take_append_cons_drop, if_pos hk', List.append_assoc]; rfl
  rw [es]
  refine ⟨by rw [List.length_set, List.length_set]; exact x.1, fun j m q => ?_⟩
  by_cases hj : k = j
  · subst hj
    rw [List.getElem?_set_self hk] at q
    cases q
    exact ⟨a, List.getElem?_set_self hk', e⟩
  · rw [List.getElem?_set_ne hj] at q
    rw [List.getElem?_set_ne hj]
    exact x.2 j m q
theorem ixL_any {K : PySem.W.Frag} {H : Hp} {p : Addr} {xs : List V} {i : Int} {Q : VK} (hl : SqL K H p xs) (ha : ∀ v ∈ xs, ∃ x, v = V.int x) (h0 : 0 ≤ i) (h1 : i < (xs.length : Int)) (q : ∀ x, Q (.int x) H) : rIxL K (.ref p) (.int i) H Q := by
  have hi : i.toNat < xs.length := by omega
  obtain ⟨x, hx⟩ := ha _ (List.getElem_mem hi)
  exact ⟨p, xs, i, .int x, rfl, rfl, hl, atI_get h0 (by rw [List.getElem?_eq_getElem hi, hx]), q x⟩
def spSpoilt (K : PySem.W.Frag) : Sp := fun vs H Q _ => ∃ (h s t : Addr) (c : Int) (ls : List Lk), vs = [.ref h, .int c, .ref t] ∧ LSt H h s ∧ Ls K H t ls ∧ ls.length ≤ 1000 ∧
  ∀ (t' : Addr) (ls' : List Lk) (H' : Hp), LSt H' h s → But h s H H' → Ls K H' t' ls' → ls'.length = ls.length → Q (.ref t') H'
section
variable {P : Program} {w : World} {K : PySem.W.Frag} {mg : Str → Option Value} {base : Heap}
theorem scSpoilt : FnScope ["_law_h", "_law_count", "_law_links_here", "_law_k", "_law_j", "_law_odd", "_law_link"] ["_law_h", "_law_count", "_law_links_here"] (fnScope sSpoilt) := fnScope_by (by decide +kernel)
theorem ok_spoilt {f : Addr} {fd : FuncData} (F : Def K mg "_law_spoilt" sSpoilt f fd) (b : Binds K fd ["_law_h", "_law_count", "_law_links_here"] []) (T : BT mg) (C : Cs P w K mg base) : Cal P w K mg base 2 "_law_spoilt" (spSpoilt K) [] := by
  refine cal0 F b .nil scSpoilt (fun vs H Q E h => ?_) (fun cdv A outer s H vs Q E hr h => ?_)
  · obtain ⟨h, s, t, c, ls, rfl, _⟩ := h; rfl
  · obtain ⟨h, s, t, c, ls, rfl, hs, hls, hlen, q⟩ := h
    refine ⟨_, (pss_cons (ps_if (pt_cmpR (op_eqD hr.units) (pv 2) (pe_tup pa_nil) (nomark _)) (pss_one (ps_ret (pv 2))) pss_nil)
 (pss_cons (ps_par (i := 3) (j := 4) (by rfl) scSpoilt.nd rfl rfl (by decide) rfl rfl (pa_cons (pe_c C._law_next hr (by first | decide | omega) (by rfl) (pa_cons (pv 0) (pa_cons (pe_callB call_len_seq (by rfl) T.len PySem.boot_len (pa_cons (pv 2) pa_nil)) pa_nil))) (pa_cons (pe_c C._law_next hr (by first | decide | omega) (by rfl) (pa_cons (pv 0) (pa_cons pe_int pa_nil))) pa_nil)) (by rfl))
 (pss_cons (ps_set (i := 5) scSpoilt.nd rfl (Or.inl rfl) (pe_ix ix_list (pe_lst (pa_cons (pe_lst (pa_cons (pe_un un_neg pe_int) (pa_cons (pv 1) (pa_cons (pe_ix ix_tup (pe_ix ix_tup (pv 2) (pv 3) (fun _ _ => rfl)) pe_int (fun _ _ => rfl)) pa_nil)))) (pa_cons (pe_lst (pa_cons (pe_un un_neg pe_int) (pa_cons (pv 1) (pa_cons (pe_ix ix_tup (pe_ix ix_tup (pv 2) (pv 3) (fun _ _ => rfl)) pe_int (fun _ _ => rfl)) pa_nil)))) (pa_cons (pe_lst (pa_cons pe_int (pa_cons pe_int (pa_cons (pe_un un_neg pe_int) (pa_cons pe_int pa_nil))))) (pa_cons (pe_lst (pa_cons (pe_un un_neg pe_int) (pa_cons (pe_op op_add (pe_op op_pow pe_int pe_int) pe_int) (pa_cons (pe_op op_pow pe_int pe_int) pa_nil)))) pa_nil))))) (pv 4) (fun _ _ => rfl)))
 (pss_cons (ps_set (i := 6) scSpoilt.nd rfl (Or.inl rfl) (pe_op op_catA (pe_op op_catA (pe_slice sl_tupA (pe_ix ix_tup (pv 2) (pv 3) (fun _ _ => rfl)) po_none (po_some (pv 4))) (pe_tup (pa_cons (pe_ix ix_list (pv 5) (pe_c C._law_next hr (by first | decide | omega) (by rfl) (pa_cons (pv 0) (pa_cons (pe_callB call_len_seq (by rfl) T.len PySem.boot_len (pa_cons (pv 5) pa_nil)) pa_nil))) (fun _ _ => rfl)) pa_nil))) (pe_slice sl_tupA (pe_ix ix_tup (pv 2) (pv 3) (fun _ _ => rfl)) (po_some (pe_op op_add (pv 4) pe_int)) po_none)))
 (pss_one (ps_ret (pe_op op_catA (pe_op op_catA (pe_slice sl_tupA (pv 2) po_none (po_some (pv 3))) (pe_tup (pa_cons (pv 6) pa_nil))) (pe_slice sl_tupA (pv 2) (po_some (pe_op op_add (pv 3) pe_int)) po_none)))))))), ?_⟩
    walk_at "go"
    rename_i p hp
    refine ⟨_, _, Dp.links (hls.same (Same.upd' hp)), .tup (SqT.of' upd_same) .nil, shaped_links ls, by decide +kernel, ?_⟩
    walk_at "go"
    rw [eqv_links_nil]
    cases ls with
    | nil =>
      walk_at "go"
      exact q t [] _ (hs.new hp) (But.of (Same.upd' hp)) (hls.same (Same.upd' hp)) rfl
    | cons l0 lr =>
      generalize hls0 : l0 :: lr = ls at *
      have hpos : 0 < ls.length := by rw [← hls0]; simp
      obtain ⟨vs, ht, ll⟩ := hls.same (Same.upd' hp (o := .tup []))
      have hs1 : LSt (upd H p (.tup [])) h s := hs.new hp
      have bu1 : But h s H (upd H p (.tup [])) := But.of (Same.upd' hp)
      generalize upd H p (.tup []) = H1 at ht ll hs1 bu1 ⊢
      have hvl := ll.1
      have he : ls.isEmpty = false := by rw [← hls0]; rfl
      rw [he]
      walk_at "go"
      refine ⟨h, s, _, rfl, hs1, by omega, by omega, fun k H2 k0 k1 hs2 bu2 => ?_⟩
      walk_at "go"
      refine ⟨h, s, _, rfl, hs2, by omega, by omega, fun j H3 j0 j1 hs3 bu3 => ?_⟩
      have ht3 := (bu2.trans bu3).tup hs1 ht
      have ll3 := ll.but (bu2.trans bu3) hs1
      clear ht ll
      obtain ⟨kn, rfl⟩ : ∃ n : Nat, k = (n : Int) := ⟨k.toNat, by omega⟩
      have hkn : kn < ls.length := by omega
      obtain ⟨l, hl⟩ : ∃ l, ls[kn]? = some l := ⟨_, List.getElem?_eq_getElem hkn⟩
      obtain ⟨a, ha, hta⟩ := ll3.2 kn l hl
      have hat : atI vs (kn : Int) = some (.ref a) := atI_nat ha
      have hta : SqT K H3 a [.int l.1, .int l.2.1, .int l.2.2.1, .int l.2.2.2] := hta
      have hkv : kn ≤ vs.length := by omega
      have hvz : vs.length ≤ 1000 := by omega
      have hj : j = ((0 : Nat) : Int) ∨ j = ((1 : Nat) : Int) ∨ j = ((2 : Nat) : Int) ∨ j = ((3 : Nat) : Int) := by omega
      -- links[:k] + (link,) + links[k + 1:]
      rcases hj with rfl | rfl | rfl | rfl
      · walk_at "go"
        refine slA_i (by walk_at "sqt") (fun p6 H6 sm6 t6 => ?_)
        rw [cut_to (k := 0) (by show 0 ≤ 4; decide)] at t6
        have t6 : SqT K H6 p6 [] := t6
        walk_at "go"
        refine ⟨h, s, _, rfl, (by walk_at "lst"), by show (0 : Int) < ((3 : Nat) : Int); decide, by show ((3 : Nat) : Int) ≤ _; decide, fun o H7 o0 o1 hs7 bu7 => ?_⟩
        refine ixL_any (by walk_at "sql") (by simp) o0 o1 fun x => ?_
        walk_at "go"
        rename_i p8 hp8
        refine catA_i (xs := []) (ys := [.int x]) (by walk_at "sqt") (by walk_at "sqt") (by rw [sizeLine_eq]; simp only [List.length_cons, List.length_nil]; omega) (fun p9 H9 sm9 t9 => ?_)
        walk_at "go"
        dsimp only [tNoPart]
        refine slA_i (by walk_at "sqt") (fun p10 H10 sm10 t10 => ?_)
        have t10 : SqT K H10 p10 [.int l.2.1, .int l.2.2.1, .int l.2.2.2] := by
          have e := cut_from (xs := [.int l.1, .int l.2.1, .int l.2.2.1, .int l.2.2.2]) (k := 1) (by show 1 ≤ 4; decide)
          have t10 : SqT K H10 p10 (cutV [.int l.1, .int l.2.1, .int l.2.2.1, .int l.2.2.2] (some ((1 : Nat) : Int)) none) := t10
          rw [e] at t10
          exact t10
        walk_at "go"
        refine catA_i (xs := [.int x]) (ys := [.int l.2.1, .int l.2.2.1, .int l.2.2.2]) (by walk_at "sqt") (by walk_at "sqt") (by rw [sizeLine_eq]; simp only [List.length_cons, List.length_nil]; omega) (fun p11 H11 sm11 t11 => ?_)
        have t11 : SqT K H11 p11 (lv (x, l.2.1, l.2.2.1, l.2.2.2)) := t11
        have hs11 : LSt H11 h s := by walk_at "lst"
        have bu11 : But h s H H11 := by walk_at "but"
        have ll11 : LL K H11 vs ls := by walk_at "ll"
        have ht11 : SqT K H11 t vs := by walk_at "sqt"
        clear sm6 t6 sm9 t9 sm10 t10 sm11 bu7 hs7 hs3 bu3 bu2 hs2 hs1 bu1 hta ll3 ht3 hp8 hs
        walk_at "go"
        refine slA_i ht11 (fun p12 H12 sm12 t12 => ?_)
        rw [cut_to hkv] at t12
        walk_at "go"
        rename_i p13 hp13
        refine catA_i (SqT.new' hp13 t12) (SqT.of' upd_same) (by rw [sizeLine_eq]; simp only [List.length_cons, List.length_nil, List.length_take]; omega) (fun p14 H14 sm14 t14 => ?_)
        have sm1214 : Same H12 H14 := (Same.upd' hp13).trans sm14
        have ht14 : SqT K H14 t vs := Same.tup (sm12.trans sm1214) ht11
        walk_at "go"
        dsimp only [tNoPart]
        refine slA_i ht14 (fun p15 H15 sm15 t15 => ?_)
        have t15 : SqT K H15 p15 (vs.drop (kn + 1)) := by
          have e := cut_from (xs := vs) (k := kn + 1) (by omega)
          have t15 : SqT K H15 p15 (cutV vs (some ((kn + 1 : Nat) : Int)) none) := t15
          rw [e] at t15
          exact t15
        refine catA_i (Same.tup sm15 t14) t15 (by rw [sizeLine_eq]; simp only [List.length_append, List.length_cons, List.length_nil, List.length_take, List.length_drop]; omega) (fun p16 H16 sm16 t16 => ?_)
        have smT : Same H11 H16 := sm12.trans (sm1214.trans (sm15.trans sm16))
        exact q p16 _ H16 (hs11.same smT) (bu11.trans (But.of smT)) ⟨_, t16, (ll11.same smT).setAt hkn (Same.tup smT t11)⟩ (by simp)
      · walk_at "go"
        refine slA_i (by walk_at "sqt") (fun p6 H6 sm6 t6 => ?_)
        rw [cut_to (k := 1) (by show 1 ≤ 4; decide)] at t6
        have t6 : SqT K H6 p6 [.int l.1] := t6
        walk_at "go"
        refine ⟨h, s, _, rfl, (by walk_at "lst"), by show (0 : Int) < ((3 : Nat) : Int); decide, by show ((3 : Nat) : Int) ≤ _; decide, fun o H7 o0 o1 hs7 bu7 => ?_⟩
        refine ixL_any (by walk_at "sql") (by simp) o0 o1 fun x => ?_
        walk_at "go"
        rename_i p8 hp8
        refine catA_i (xs := [.int l.1]) (ys := [.int x]) (by walk_at "sqt") (by walk_at "sqt") (by rw [sizeLine_eq]; simp only [List.length_cons, List.length_nil]; omega) (fun p9 H9 sm9 t9 => ?_)
        walk_at "go"
        dsimp only [tNoPart]
        refine slA_i (by walk_at "sqt") (fun p10 H10 sm10 t10 => ?_)
        have t10 : SqT K H10 p10 [.int l.2.2.1, .int l.2.2.2] := by
          have e := cut_from (xs := [.int l.1, .int l.2.1, .int l.2.2.1, .int l.2.2.2]) (k := 2) (by show 2 ≤ 4; decide)
          have t10 : SqT K H10 p10 (cutV [.int l.1, .int l.2.1, .int l.2.2.1, .int l.2.2.2] (some ((2 : Nat) : Int)) none) := t10
          rw [e] at t10
          exact t10
        walk_at "go"
        refine catA_i (xs := [.int l.1, .int x]) (ys := [.int l.2.2.1, .int l.2.2.2]) (by walk_at "sqt") (by walk_at "sqt") (by rw [sizeLine_eq]; simp only [List.length_cons, List.length_nil]; omega) (fun p11 H11 sm11 t11 => ?_)
        have t11 : SqT K H11 p11 (lv (l.1, x, l.2.2.1, l.2.2.2)) := t11
        have hs11 : LSt H11 h s := by walk_at "lst"
        have bu11 : But h s H H11 := by walk_at "but"
        have ll11 : LL K H11 vs ls := by walk_at "ll"
        have ht11 : SqT K H11 t vs := by walk_at "sqt"
        clear sm6 t6 sm9 t9 sm10 t10 sm11 bu7 hs7 hs3 bu3 bu2 hs2 hs1 bu1 hta ll3 ht3 hp8 hs
        walk_at "go"
        refine slA_i ht11 (fun p12 H12 sm12 t12 => ?_)
        rw [cut_to hkv] at t12
        walk_at "go"
        rename_i p13 hp13
        refine catA_i (SqT.new' hp13 t12) (SqT.of' upd_same) (by rw [sizeLine_eq]; simp only [List.length_cons, List.length_nil, List.length_take]; omega) (fun p14 H14 sm14 t14 => ?_)
        have sm1214 : Same H12 H14 := (Same.upd' hp13).trans sm14
        have ht14 : SqT K H14 t vs := Same.tup (sm12.trans sm1214) ht11
        walk_at "go"
        dsimp only [tNoPart]
        refine slA_i ht14 (fun p15 H15 sm15 t15 => ?_)
        have t15 : SqT K H15 p15 (vs.drop (kn + 1)) := by
          have e := cut_from (xs := vs) (k := kn + 1) (by omega)
          have t15 : SqT K H15 p15 (cutV vs (some ((kn + 1 : Nat) : Int)) none) := t15
          rw [e] at t15
          exact t15
        refine catA_i (Same.tup sm15 t14) t15 (by rw [sizeLine_eq]; simp only [List.length_append, List.length_cons, List.length_nil, List.length_take, List.length_drop]; omega) (fun p16 H16 sm16 t16 => ?_)
        have smT : Same H11 H16 := sm12.trans (sm1214.trans (sm15.trans sm16))
        exact q p16 _ H16 (hs11.same smT) (bu11.trans (But.of smT)) ⟨_, t16, (ll11.same smT).setAt hkn (Same.tup smT t11)⟩ (by simp)
      · walk_at "go"
        refine slA_i (by walk_at "sqt") (fun p6 H6 sm6 t6 => ?_)
        rw [cut_to (k := 2) (by show 2 ≤ 4; decide)] at t6
        have t6 : SqT K H6 p6 [.int l.1, .int l.2.1] := t6
        walk_at "go"
        refine ⟨h, s, _, rfl, (by walk_at "lst"), by show (0 : Int) < ((4 : Nat) : Int); decide, by show ((4 : Nat) : Int) ≤ _; decide, fun o H7 o0 o1 hs7 bu7 => ?_⟩
        refine ixL_any (by walk_at "sql") (by simp) o0 o1 fun x => ?_
        walk_at "go"
        rename_i p8 hp8
        refine catA_i (xs := [.int l.1, .int l.2.1]) (ys := [.int x]) (by walk_at "sqt") (by walk_at "sqt") (by rw [sizeLine_eq]; simp only [List.length_cons, List.length_nil]; omega) (fun p9 H9 sm9 t9 => ?_)
        walk_at "go"
        dsimp only [tNoPart]
        refine slA_i (by walk_at "sqt") (fun p10 H10 sm10 t10 => ?_)
        have t10 : SqT K H10 p10 [.int l.2.2.2] := by
          have e := cut_from (xs := [.int l.1, .int l.2.1, .int l.2.2.1, .int l.2.2.2]) (k := 3) (by show 3 ≤ 4; decide)
          have t10 : SqT K H10 p10 (cutV [.int l.1, .int l.2.1, .int l.2.2.1, .int l.2.2.2] (some ((3 : Nat) : Int)) none) := t10
          rw [e] at t10
          exact t10
        walk_at "go"
        refine catA_i (xs := [.int l.1, .int l.2.1, .int x]) (ys := [.int l.2.2.2]) (by walk_at "sqt") (by walk_at "sqt") (by rw [sizeLine_eq]; simp only [List.length_cons, List.length_nil]; omega) (fun p11 H11 sm11 t11 => ?_)
        have t11 : SqT K H11 p11 (lv (l.1, l.2.1, x, l.2.2.2)) := t11
        have hs11 : LSt H11 h s := by walk_at "lst"
        have bu11 : But h s H H11 := by walk_at "but"
        have ll11 : LL K H11 vs ls := by walk_at "ll"
        have ht11 : SqT K H11 t vs := by walk_at "sqt"
        clear sm6 t6 sm9 t9 sm10 t10 sm11 bu7 hs7 hs3 bu3 bu2 hs2 hs1 bu1 hta ll3 ht3 hp8 hs
        walk_at "go"
        refine slA_i ht11 (fun p12 H12 sm12 t12 => ?_)
        rw [cut_to hkv] at t12
        walk_at "go"
        rename_i p13 hp13
        refine catA_i (SqT.new' hp13 t12) (SqT.of' upd_same) (by rw [sizeLine_eq]; simp only [List.length_cons, List.length_nil, List.length_take]; omega) (fun p14 H14 sm14 t14 => ?_)
        have sm1214 : Same H12 H14 := (Same.upd' hp13).trans sm14
        have ht14 : SqT K H14 t vs := Same.tup (sm12.trans sm1214) ht11
        walk_at "go"
        dsimp only [tNoPart]
        refine slA_i ht14 (fun p15 H15 sm15 t15 => ?_)
        have t15 : SqT K H15 p15 (vs.drop (kn + 1)) := by
          have e := cut_from (xs := vs) (k := kn + 1) (by omega)
          have t15 : SqT K H15 p15 (cutV vs (some ((kn + 1 : Nat) : Int)) none) := t15
          rw [e] at t15
          exact t15
        refine catA_i (Same.tup sm15 t14) t15 (by rw [sizeLine_eq]; simp only [List.length_append, List.length_cons, List.length_nil, List.length_take, List.length_drop]; omega) (fun p16 H16 sm16 t16 => ?_)
        have smT : Same H11 H16 := sm12.trans (sm1214.trans (sm15.trans sm16))
        exact q p16 _ H16 (hs11.same smT) (bu11.trans (But.of smT)) ⟨_, t16, (ll11.same smT).setAt hkn (Same.tup smT t11)⟩ (by simp)
      · walk_at "go"
        refine slA_i (by walk_at "sqt") (fun p6 H6 sm6 t6 => ?_)
        rw [cut_to (k := 3) (by show 3 ≤ 4; decide)] at t6
        have t6 : SqT K H6 p6 [.int l.1, .int l.2.1, .int l.2.2.1] := t6
        walk_at "go"
        refine ⟨h, s, _, rfl, (by walk_at "lst"), by show (0 : Int) < ((3 : Nat) : Int); decide, by show ((3 : Nat) : Int) ≤ _; decide, fun o H7 o0 o1 hs7 bu7 => ?_⟩
        refine ixL_any (by walk_at "sql") (by simp) o0 o1 fun x => ?_
        walk_at "go"
        rename_i p8 hp8
        refine catA_i (xs := [.int l.1, .int l.2.1, .int l.2.2.1]) (ys := [.int x]) (by walk_at "sqt") (by walk_at "sqt") (by rw [sizeLine_eq]; simp only [List.length_cons, List.length_nil]; omega) (fun p9 H9 sm9 t9 => ?_)
        walk_at "go"
        dsimp only [tNoPart]
        refine slA_i (by walk_at "sqt") (fun p10 H10 sm10 t10 => ?_)
        have t10 : SqT K H10 p10 [] := by
          have e := cut_from (xs := [.int l.1, .int l.2.1, .int l.2.2.1, .int l.2.2.2]) (k := 4) (by show 4 ≤ 4; decide)
          have t10 : SqT K H10 p10 (cutV [.int l.1, .int l.2.1, .int l.2.2.1, .int l.2.2.2] (some ((4 : Nat) : Int)) none) := t10
          rw [e] at t10
          exact t10
        walk_at "go"
        refine catA_i (xs := [.int l.1, .int l.2.1, .int l.2.2.1, .int x]) (ys := []) (by walk_at "sqt") (by walk_at "sqt") (by rw [sizeLine_eq]; simp only [List.length_cons, List.length_nil]; omega) (fun p11 H11 sm11 t11 => ?_)
        have t11 : SqT K H11 p11 (lv (l.1, l.2.1, l.2.2.1, x)) := t11
        have hs11 : LSt H11 h s := by walk_at "lst"
        have bu11 : But h s H H11 := by walk_at "but"
        have ll11 : LL K H11 vs ls := by walk_at "ll"
        have ht11 : SqT K H11 t vs := by walk_at "sqt"
        clear sm6 t6 sm9 t9 sm10 t10 sm11 bu7 hs7 hs3 bu3 bu2 hs2 hs1 bu1 hta ll3 ht3 hp8 hs
        walk_at "go"
        refine slA_i ht11 (fun p12 H12 sm12 t12 => ?_)
        rw [cut_to hkv] at t12
        walk_at "go"
        rename_i p13 hp13
        refine catA_i (SqT.new' hp13 t12) (SqT.of' upd_same) (by rw [sizeLine_eq]; simp only [List.length_cons, List.length_nil, List.length_take]; omega) (fun p14 H14 sm14 t14 => ?_)
        have sm1214 : Same H12 H14 := (Same.upd' hp13).trans sm14
        have ht14 : SqT K H14 t vs := Same.tup (sm12.trans sm1214) ht11
        walk_at "go"
        dsimp only [tNoPart]
        refine slA_i ht14 (fun p15 H15 sm15 t15 => ?_)
        have t15 : SqT K H15 p15 (vs.drop (kn + 1)) := by
          have e := cut_from (xs := vs) (k := kn + 1) (by omega)
          have t15 : SqT K H15 p15 (cutV vs (some ((kn + 1 : Nat) : Int)) none) := t15
          rw [e] at t15
          exact t15
        refine catA_i (Same.tup sm15 t14) t15 (by rw [sizeLine_eq]; simp only [List.length_append, List.length_cons, List.length_nil, List.length_take, List.length_drop]; omega) (fun p16 H16 sm16 t16 => ?_)
        have smT : Same H11 H16 := sm12.trans (sm1214.trans (sm15.trans sm16))
        exact q p16 _ H16 (hs11.same smT) (bu11.trans (But.of smT)) ⟨_, t16, (ll11.same smT).setAt hkn (Same.tup smT t11)⟩ (by simp)
end
end T1

set_option Elab.async false
set_option linter.all false
set_option maxRecDepth 100000
set_option maxHeartbeats 4000000
namespace T1
open PySem PySem.Spec PyProof.Rows L2 C8
local macro_rules | `(tactic| walk_at "hf") => `(tactic| (fail_if_success (show (fun _ => none : Hp) _ = _)); first | assumption | with_reducible exact upd_same | ((with_reducible show upd _ _ _ _ = _); first | exact up_new' (by assumption) (by walk_at "hf") | exact up_set (by walk_at "ne") (by walk_at "hf")) | exact Same.at' (by assumption) (by walk_at "hf") | exact But.at' (by assumption) (by walk_at "ne") (by walk_at "ne") (by walk_at "hf"))
local macro_rules | `(tactic| walk_at "hf0") => `(tactic| (fail_if_success (show (fun _ => none : Hp) _ = _)); first | assumption | with_reducible exact upd_same | ((with_reducible show upd _ _ _ _ = _); exact up_new' (by assumption) (by walk_at "hf0")))
local macro_rules | `(tactic| walk_at "ne") => `(tactic| first | assumption | (apply Ne.symm; assumption) | exact ne_of_none' (by assumption) (by walk_at "hf0") | exact Ne.symm (ne_of_none' (by assumption) (by walk_at "hf0")) | exact LSt.f1 (by assumption) (by walk_at "lst") | exact LSt.f2 (by assumption) (by walk_at "lst"))
local macro_rules | `(tactic| walk_at "sqt") => `(tactic| (fail_if_success (show SqT _ (fun _ => none) _ _)); first | assumption | exact SqT.of' (by walk_at "hf") | ((with_reducible show SqT _ (upd _ _ _) _ _); first | exact SqT.new' (by assumption) (by walk_at "sqt") | exact SqT.put' (by walk_at "hf") (by walk_at "sqt")) | exact Same.tup (by assumption) (by walk_at "sqt") | exact But.tup (by assumption) (by walk_at "lst") (by walk_at "sqt"))
local macro_rules | `(tactic| walk_at "sql") => `(tactic| (fail_if_success (show SqL _ (fun _ => none) _ _)); first | assumption | exact SqL.of' (by walk_at "hf") | ((with_reducible show SqL _ (upd _ _ _) _ _); exact SqL.new' (by assumption) (by walk_at "sql")) | exact Same.sql' (by assumption) (by walk_at "sql"))
local macro_rules | `(tactic| walk_at "lst") => `(tactic| (fail_if_success (show LSt (fun _ => none) _ _)); first | assumption | ((with_reducible show LSt (upd _ _ _) _ _); first | exact LSt.new (by walk_at "lst") (by assumption) | exact LSt.put (by walk_at "lst") (by walk_at "ne") (by walk_at "ne")) | exact LSt.same' (by assumption) (by walk_at "lst"))
local macro_rules | `(tactic| walk_at "but") => `(tactic| first | assumption | exact But.refl _ _ _ | ((with_reducible show But _ _ _ (upd _ _ _)); exact But.nw (by assumption) (by walk_at "but")) | exact But.bu (by assumption) (by walk_at "but") | exact But.sm (by assumption) (by walk_at "but"))
local macro_rules | `(tactic| walk_at "ls") => `(tactic| first | assumption | exact Ls.same (by walk_at "ls") (Same.upd' (by assumption)))
local macro_rules | `(tactic| walk_at "ll") => `(tactic| first | assumption | exact LL.same (by walk_at "ll") (Same.upd' (by assumption)) | exact LL.same' (by assumption) (by walk_at "ll") | exact LL.but' (by assumption) (by walk_at "lst") (by walk_at "ll"))
local macro_rules | `(tactic| walk_at "sm") => `(tactic| first | assumption | exact Same.refl _ | ((with_reducible show Same _ (upd _ _ _)); first | exact Same.put' (by assumption) (by walk_at "sm") | exact Same.trans (by walk_at "sm") (Same.upd' (by assumption))) | exact Same.trans (by walk_at "sm") (by assumption))
/-- one step of a reading -/
local macro_rules | `(tactic| walk_at "rd") => `(tactic| first
  | with_reducible refine iteF ?_
  | with_reducible refine iteT ?_
  | with_reducible refine itNotF ?_
  | with_reducible refine itNotT ?_
  | refine ⟨_, rfl, ?_⟩
  | refine ⟨_, _, rfl, rfl, ?_⟩
  | refine ⟨_, _, rfl, ?_⟩
  | refine ⟨(_ : Addr), (_ : List V), (_ : Int), (_ : V), rfl, rfl, SqL.of' (by walk_at "hf"), (by first | assumption | rfl), ?_⟩
  | refine ⟨(_ : Addr), (_ : List V), (_ : Int), (_ : V), rfl, rfl, (by walk_at "sqt" : SqT _ _ _ _), (by first | assumption | rfl), ?_⟩
  | refine .inl ⟨_, rfl, ?_⟩
  | refine ⟨_, _, rfl, .inl (by walk_at "sql" : SqL _ _ _ _), ?_⟩
  | refine ⟨_, _, rfl, .inl ⟨(by walk_at "sql" : SqL _ _ _ _), fun p hp => ?_⟩⟩
  | refine ⟨_, _, rfl, .inr ⟨(by walk_at "sqt" : SqT _ _ _ _), ?_⟩⟩
  | refine fun (p : Addr) (hp : (_ : Hp) p = none) => ?_
  | refine ⟨_, _, rfl, .inr (by walk_at "sqt" : SqT _ _ _ _), ?_⟩
  | refine And.intro (by show _ ≤ sizeLine; first | decide | walk_at "sz") (fun p hp => ?_)
  | refine ⟨(_ : Addr), (_ : Addr), (_ : List V), (_ : List V), rfl, rfl, (by walk_at "hf"), (by walk_at "hf"), (by walk_at "sz"), fun p hp => ?_⟩
  | refine ⟨(_ : Addr), (_ : Addr), (_ : List V), (_ : List V), rfl, rfl, (by walk_at "hf"), (by walk_at "hf"), (by walk_at "sz"), ?_⟩
  | refine ⟨(_ : Addr), (_ : List V), (_ : Int), (_ : Nat), rfl, rfl, (by walk_at "hf"), (by rfl), ?_⟩
  | refine And.intro ⟨_, (by walk_at "sql" : SqL _ _ _ _)⟩ ?_
  | refine And.intro ⟨_, (by walk_at "sqt" : SqT _ _ _ _)⟩ ?_
  | refine And.intro (.inl ⟨rfl, _, SqL.of' (by walk_at "hf")⟩) ?_
  | refine And.intro (by walk_at "cond") ?_
  | exact .inl ⟨rfl, _, SqL.of' (by walk_at "hf")⟩
  | with_reducible refine iteT ?_
  | with_reducible refine iteF ?_
  | refine And.intro (by rfl : scal _ _ = true) ?_
  | refine And.intro (by rfl : _ = V.non) ?_
  | refine And.intro (by rfl : wipe _ _ = wipe _ _) ?_
  | refine And.intro (by rfl : (_ : List V) = []) ?_
  | refine ⟨(_ : Addr), (_ : List V), rfl, (by walk_at "sqt" : SqT _ _ _ _), (by rfl), ?_⟩)
/-- a test: known, or both ways -/
local macro_rules | `(tactic| walk_at "if") => `(tactic| first
  | with_reducible refine itD (by omega) ?_
  | with_reducible refine itN (by omega) ?_
  | with_reducible refine itnD (by omega) ?_
  | with_reducible refine itnN (by omega) ?_
  | with_reducible refine itE (by omega) ?_
  | with_reducible refine itEn (by omega) ?_
  | with_reducible refine itnE (by omega) ?_
  | with_reducible refine itnEn (by omega) ?_
  | with_reducible refine itN (by intro z; cases z) ?_
  | with_reducible refine itD (by decide) ?_
  | with_reducible refine itN (by decide) ?_
  | with_reducible refine itnD (by decide) ?_
  | with_reducible refine itnN (by decide) ?_)
local macro_rules | `(tactic| walk_at "if2") => `(tactic| first
  | with_reducible refine itS (fun z => ?_) (fun z => ?_)
  | with_reducible refine itS' (fun z => ?_) (fun z => ?_)
  | with_reducible refine itSE (fun z => ?_) (fun z => ?_)
  | with_reducible refine itnS (fun z => ?_) (fun z => ?_)
  | with_reducible refine itnS' (fun z => ?_) (fun z => ?_)
  | with_reducible refine itnSE (fun z => ?_) (fun z => ?_))
local macro_rules | `(tactic| walk_at "go") => `(tactic| repeat' (first | walk_at "rd" | walk_at "if" | walk_at "if2" | fail))
local macro_rules | `(tactic| walk_at "sz") => `(tactic| (rw [sizeLine_eq]; simp only [List.length_append, List.length_map, List.length_cons, List.length_nil]; omega))
local macro_rules | `(tactic| walk_at "cond") => `(tactic| first | assumption | (show (_ : Int) ≠ 0; first | omega | (split <;> omega)) | (show (0 : Int) < _; first | assumption | decide) | exact ⟨by decide, by decide, by decide⟩ | exact .inr ⟨by decide, by decide⟩ | exact wide_div (b := 64) (by assumption) (by omega) (by decide) (by decide) | exact ⟨by decide, by decide⟩)


/-! ### data alike -/
def okd : Nat → PyData → Prop
  | 0, d => (∃ i, d = .int i) ∨ ∃ b, d = .bool b
  | n + 1, d => ((∃ i, d = .int i) ∨ ∃ b, d = .bool b) ∨ ∃ ds, (d = .list ds ∨ d = .tuple ds) ∧ ds.length ≤ 1000 ∧ ∀ e ∈ ds, okd n e
theorem SqT.ty {K : PySem.W.Frag} {H : Hp} {a : Addr} {xs : List V} (h : SqT K H a xs) : TyX K H (.ref a) (.type "tuple") := by
  rcases h with (h | ⟨o, h⟩) | ⟨o, its, n, h, c, _⟩
  · exact .base (.tup h)
  · exact .fTuple h
  · exact .kTuple h c
theorem SqL.ty {K : PySem.W.Frag} {H : Hp} {a : Addr} {xs : List V} (h : SqL K H a xs) : TyX K H (.ref a) (.type "list") := by
  rcases h with (h | ⟨o, h⟩) | ⟨o, its, n, h, c, _⟩
  · exact .base (.lst h)
  · exact .base (.frz h)
  · exact .kList h c
mutual
theorem Dp.same {K : PySem.W.Frag} {H H' : Hp} (e : Same H H') : ∀ {v : V} {d : PyData}, Dp K H v d → Dp K H' v d
  | _, _, .non => .non
  | _, _, .bl b => .bl b
  | _, _, .int i => .int i
  | _, _, .str x => .str x
  | _, _, .lst h a => .lst (e.seq h) (DpAll.same e a)
  | _, _, .tup h a => .tup (Same.tup e h) (DpAll.same e a)
theorem DpAll.same {K : PySem.W.Frag} {H H' : Hp} (e : Same H H') : ∀ {vs : List V} {ds : List PyData}, DpAll K H vs ds → DpAll K H' vs ds
  | _, _, .nil => .nil
  | _, _, .cons a b => .cons (Dp.same e a) (DpAll.same e b)
end
theorem DpAll.len {K : PySem.W.Frag} {H : Hp} : ∀ {vs : List V} {ds : List PyData}, DpAll K H vs ds → vs.length = ds.length
  | _, _, .nil => rfl
  | _, _, .cons _ b => by simp [DpAll.len b]
theorem DpAll.get {K : PySem.W.Frag} {H : Hp} : ∀ {vs : List V} {ds : List PyData} {i : Nat} {d : PyData}, DpAll K H vs ds → ds[i]? = some d → ∃ v, vs[i]? = some v ∧ Dp K H v d
  | _, _, _, _, .nil, e => by simp at e
  | _, _, 0, d, .cons a b, e => by
    cases e
    exact ⟨_, rfl, a⟩
  | _, _, i + 1, d, .cons a b, e => by
    obtain ⟨v, h1, h2⟩ := DpAll.get (i := i) b (by simpa using e)
    exact ⟨v, by simpa using h1, h2⟩
def spAlike (K : PySem.W.Frag) (n : Nat) : Sp := fun vs H Q _ => ∃ (x y : V) (d : PyData), vs = [x, y] ∧ Dp K H x d ∧ Dp K H y d ∧ okd n d ∧ ∀ H', Same H H' → Q (.bl true) H'
/-- what isinstance asks: the type's name is known -/
theorem isi_i {K : PySem.W.Frag} {H : Hp} {x : V} {a b : String} {r : Bool} {Q : VK} (ty : TyX K H x (.type a)) (k : kitB a b = some r) (q : Q (.bl r) H) : rIsi K [x, .ty b] H Q :=
  ⟨x, .ty b, .type a, .type b, r, rfl, .ty b, ty, kit_ty k, q⟩
theorem isiT_i {K : PySem.W.Frag} {H : Hp} {x : V} {t : Addr} {a b c : String} {r : Bool} {Q : VK} (ht : H t = some (.tup [.ty b, .ty c])) (ty : TyX K H x (.type a)) (k : PySem.W.kitAny K (.type a) [.type b, .type c] = some r) (q : Q (.bl r) H) : rIsiT K [x, .ref t] H Q :=
  ⟨x, t, [.ty b, .ty c], .type a, [.type b, .type c], r, rfl, ht, .cons (.ty b) (.cons (.ty c) .nil), ty, k, q⟩
theorem kitAny2 {K : PySem.W.Frag} {a b c : String} {r s : Bool} (h1 : kitB a b = some r) (h2 : kitB a c = some s) : PySem.W.kitAny K (.type a) [.type b, .type c] = some (r || s) := by
  refine kitAny_cons (kit_ty h1) (fun e => ?_) fun e => by rw [e] <;> rfl
  subst e
  refine kitAny_cons (kit_ty h2) (fun e => ?_) fun e => by rw [e] <;> rfl
  subst e
  exact kitAny_nil
theorem kb_int_dict : kitB "int" "dict" = some false := by decide +kernel
theorem kb_int_tuple : kitB "int" "tuple" = some false := by decide +kernel
theorem kb_int_list : kitB "int" "list" = some false := by decide +kernel
theorem kb_int_str : kitB "int" "str" = some false := by decide +kernel
theorem kb_int_int : kitB "int" "int" = some true := by decide +kernel
theorem kb_int_bool : kitB "int" "bool" = some false := by decide +kernel
theorem kb_bool_dict : kitB "bool" "dict" = some false := by decide +kernel
theorem kb_bool_tuple : kitB "bool" "tuple" = some false := by decide +kernel
theorem kb_bool_list : kitB "bool" "list" = some false := by decide +kernel
theorem kb_bool_str : kitB "bool" "str" = some false := by decide +kernel
theorem kb_bool_int : kitB "bool" "int" = some true := by decide +kernel
theorem kb_bool_bool : kitB "bool" "bool" = some true := by decide +kernel
theorem kb_tuple_dict : kitB "tuple" "dict" = some false := by decide +kernel
theorem kb_tuple_tuple : kitB "tuple" "tuple" = some true := by decide +kernel
theorem kb_tuple_list : kitB "tuple" "list" = some false := by decide +kernel
theorem kb_tuple_str : kitB "tuple" "str" = some false := by decide +kernel
theorem kb_tuple_int : kitB "tuple" "int" = some false := by decide +kernel
theorem kb_tuple_bool : kitB "tuple" "bool" = some false := by decide +kernel
theorem kb_list_dict : kitB "list" "dict" = some false := by decide +kernel
theorem kb_list_tuple : kitB "list" "tuple" = some false := by decide +kernel
theorem kb_list_list : kitB "list" "list" = some true := by decide +kernel
theorem kb_list_str : kitB "list" "str" = some false := by decide +kernel
theorem kb_list_int : kitB "list" "int" = some false := by decide +kernel
theorem kb_list_bool : kitB "list" "bool" = some false := by decide +kernel
theorem ka_int {K : PySem.W.Frag} : PySem.W.kitAny K (.type "int") [.type "tuple", .type "list"] = some false := kitAny2 kb_int_tuple kb_int_list
theorem ka_bool {K : PySem.W.Frag} : PySem.W.kitAny K (.type "bool") [.type "tuple", .type "list"] = some false := kitAny2 kb_bool_tuple kb_bool_list
theorem ka_tuple {K : PySem.W.Frag} : PySem.W.kitAny K (.type "tuple") [.type "tuple", .type "list"] = some true := kitAny2 kb_tuple_tuple kb_tuple_list
theorem ka_list {K : PySem.W.Frag} : PySem.W.kitAny K (.type "list") [.type "tuple", .type "list"] = some true := kitAny2 kb_list_tuple kb_list_list
local macro_rules | `(tactic| walk_at "kb") => `(tactic| with_reducible first | exact kb_int_dict | exact kb_int_tuple | exact kb_int_list | exact kb_int_str | exact kb_int_int | exact kb_int_bool | exact kb_bool_dict | exact kb_bool_tuple | exact kb_bool_list | exact kb_bool_str | exact kb_bool_int | exact kb_bool_bool | exact kb_tuple_dict | exact kb_tuple_tuple | exact kb_tuple_list | exact kb_tuple_str | exact kb_tuple_int | exact kb_tuple_bool | exact kb_list_dict | exact kb_list_tuple | exact kb_list_list | exact kb_list_str | exact kb_list_int | exact kb_list_bool)
local macro_rules | `(tactic| walk_at "ka") => `(tactic| with_reducible first | exact ka_int | exact ka_bool | exact ka_tuple | exact ka_list)
local macro_rules | `(tactic| walk_at "tyx") => `(tactic| first | exact .base (.int _) | exact .base (.bl _) | exact SqT.ty (by walk_at "sqt") | exact SqL.ty (by walk_at "sql"))
local macro_rules | `(tactic| walk_at "isi") => `(tactic| first
  | refine ⟨_, _, _, _, _, rfl, .ty _, (by walk_at "tyx"), kit_ty (by walk_at "kb"), ?_⟩
  | refine ⟨_, _, _, _, _, _, rfl, (by walk_at "hf"), .cons (.ty _) (.cons (.ty _) .nil), (by walk_at "tyx"), (by walk_at "ka"), ?_⟩)
local macro_rules | `(tactic| walk_at "go2") => `(tactic| repeat' (first | walk_at "rd" | walk_at "if" | walk_at "isi" | fail))
section
variable {P : Program} {w : World} {K : PySem.W.Frag} {mg : Str → Option Value} {base : Heap}
theorem scAlike : FnScope ["_law_found", "_law_due", "_law_k"] ["_law_found", "_law_due"] (fnScope sAlike) := fnScope_by (by decide +kernel)
structure CA (P : Program) (w : World) (K : PySem.W.Frag) (mg : Str → Option Value) (base : Heap) (n : Nat) : Prop where
  _law_alike : Cal P w K mg base (n + 1) "_law_alike" (spAlike K n) []
theorem ok_alike {f : Addr} {fd : FuncData} (F : Def K mg "_law_alike" sAlike f fd) (b : Binds K fd ["_law_found", "_law_due"] []) (T : BT mg) : ∀ n : Nat, Cal P w K mg base (n + 1) "_law_alike" (spAlike K n) [] := by
  intro n
  induction n with
  | zero =>
    refine cal0 F b .nil scAlike (fun vs H Q E h => ?_) (fun cdv A outer s H vs Q E hr h => ?_)
    · obtain ⟨x, y, d, rfl, _⟩ := h; rfl
    · obtain ⟨x, y, d, rfl, hx, hy, ok, q⟩ := h
      refine ⟨_, (pss_cons (ps_if (pt_val (pe_callB call_isi (by rfl) T.isinstance (by decide +kernel) (pa_cons (pv 1) (pa_cons (pe_bltn (v := .ty "dict") (by rfl) T.dict (by decide +kernel) rfl) pa_nil)))) (pss_one ps_never) pss_nil)
 (pss_cons (ps_if (pt_val (pe_callB call_isiT (by rfl) T.isinstance (by decide +kernel) (pa_cons (pv 1) (pa_cons (pe_tup (pa_cons (pe_bltn (v := .ty "tuple") (by rfl) T.tuple (by decide +kernel) rfl) (pa_cons (pe_bltn (v := .ty "list") (by rfl) T.list (by decide +kernel) rfl) pa_nil))) pa_nil)))) (pss_cons (ps_if (PW.pt (pw_or (pt_not (pt_val (pe_callB call_isiT (by rfl) T.isinstance (by decide +kernel) (pa_cons (pv 0) (pa_cons (pe_tup (pa_cons (pe_bltn (v := .ty "tuple") (by rfl) T.tuple (by decide +kernel) rfl) (pa_cons (pe_bltn (v := .ty "list") (by rfl) T.list (by decide +kernel) rfl) pa_nil))) pa_nil))))) (pw_or1 (pt_cmpR op_ne (pe_callB call_isi (by rfl) T.isinstance (by decide +kernel) (pa_cons (pv 0) (pa_cons (pe_bltn (v := .ty "list") (by rfl) T.list (by decide +kernel) rfl) pa_nil))) (pe_callB call_isi (by rfl) T.isinstance (by decide +kernel) (pa_cons (pv 1) (pa_cons (pe_bltn (v := .ty "list") (by rfl) T.list (by decide +kernel) rfl) pa_nil))) (nomark _))))) (pss_one (ps_ret pe_bl)) pss_nil)
 (pss_cons (ps_if (pt_cmpR op_ne (pe_callB call_len_seq (by rfl) T.len PySem.boot_len (pa_cons (pv 0) pa_nil)) (pe_callB call_len_seq (by rfl) T.len PySem.boot_len (pa_cons (pv 1) pa_nil)) (nomark _)) (pss_one (ps_ret pe_bl)) pss_nil)
 (pss_one ps_never))) pss_nil)
 (pss_cons (ps_if (PW.pt (pw_or (pt_cmpR op_isN (pv 1) pe_non (nomark _)) (pw_or1 (pt_val (pe_callB call_isi (by rfl) T.isinstance (by decide +kernel) (pa_cons (pv 1) (pa_cons (pe_bltn (v := .ty "str") (by rfl) T.str (by decide +kernel) rfl) pa_nil))))))) (pss_one (ps_ret (pe_and (pe_cmpR op_eq (pv 0) (pv 1) (nomark _)) (pe_one (pe_cmpR op_eq (pe_callB call_isi (by rfl) T.isinstance (by decide +kernel) (pa_cons (pv 0) (pa_cons (pe_bltn (v := .ty "str") (by rfl) T.str (by decide +kernel) rfl) pa_nil))) (pe_callB call_isi (by rfl) T.isinstance (by decide +kernel) (pa_cons (pv 1) (pa_cons (pe_bltn (v := .ty "str") (by rfl) T.str (by decide +kernel) rfl) pa_nil))) (nomark _)))))) pss_nil)
 (pss_one (ps_ret (pe_and (pe_callB call_isi (by rfl) T.isinstance (by decide +kernel) (pa_cons (pv 0) (pa_cons (pe_bltn (v := .ty "int") (by rfl) T.int (by decide +kernel) rfl) pa_nil))) (pe_and (pe_cmpR op_eq (pe_callB call_isi (by rfl) T.isinstance (by decide +kernel) (pa_cons (pv 0) (pa_cons (pe_bltn (v := .ty "bool") (by rfl) T.bool (by decide +kernel) rfl) pa_nil))) (pe_callB call_isi (by rfl) T.isinstance (by decide +kernel) (pa_cons (pv 1) (pa_cons (pe_bltn (v := .ty "bool") (by rfl) T.bool (by decide +kernel) rfl) pa_nil))) (nomark _)) (pe_one (pe_cmpR op_eq (pv 0) (pv 1) (nomark _)))))))))), ?_⟩
      rcases ok with ⟨i, rfl⟩ | ⟨b, rfl⟩
      · cases hx; cases hy
        have ty : ∀ H', TyX K H' (.int i) (.type "int") := fun _ => .base (.int i)
        walk_at "go2"
        exact bl_as (q _ (Same.upd' (by assumption))) (by simp)
      · cases hx; cases hy
        walk_at "go2"
        exact bl_as (q _ (Same.upd' (by assumption))) (by simp)
  | succ n ih =>
    have C : CA P w K mg base n := ⟨ih⟩
    refine cal0 F b .nil scAlike (fun vs H Q E h => ?_) (fun cdv A outer s H vs Q E hr h => ?_)
    · obtain ⟨x, y, d, rfl, _⟩ := h; rfl
    · obtain ⟨x, y, d, rfl, hx, hy, ok, q⟩ := h
      refine ⟨_, (pss_cons (ps_if (pt_val (pe_callB call_isi (by rfl) T.isinstance (by decide +kernel) (pa_cons (pv 1) (pa_cons (pe_bltn (v := .ty "dict") (by rfl) T.dict (by decide +kernel) rfl) pa_nil)))) (pss_one ps_never) pss_nil)
 (pss_cons (ps_if (pt_val (pe_callB call_isiT (by rfl) T.isinstance (by decide +kernel) (pa_cons (pv 1) (pa_cons (pe_tup (pa_cons (pe_bltn (v := .ty "tuple") (by rfl) T.tuple (by decide +kernel) rfl) (pa_cons (pe_bltn (v := .ty "list") (by rfl) T.list (by decide +kernel) rfl) pa_nil))) pa_nil)))) (pss_cons (ps_if (PW.pt (pw_or (pt_not (pt_val (pe_callB call_isiT (by rfl) T.isinstance (by decide +kernel) (pa_cons (pv 0) (pa_cons (pe_tup (pa_cons (pe_bltn (v := .ty "tuple") (by rfl) T.tuple (by decide +kernel) rfl) (pa_cons (pe_bltn (v := .ty "list") (by rfl) T.list (by decide +kernel) rfl) pa_nil))) pa_nil))))) (pw_or1 (pt_cmpR op_ne (pe_callB call_isi (by rfl) T.isinstance (by decide +kernel) (pa_cons (pv 0) (pa_cons (pe_bltn (v := .ty "list") (by rfl) T.list (by decide +kernel) rfl) pa_nil))) (pe_callB call_isi (by rfl) T.isinstance (by decide +kernel) (pa_cons (pv 1) (pa_cons (pe_bltn (v := .ty "list") (by rfl) T.list (by decide +kernel) rfl) pa_nil))) (nomark _))))) (pss_one (ps_ret pe_bl)) pss_nil)
 (pss_cons (ps_if (pt_cmpR op_ne (pe_callB call_len_seq (by rfl) T.len PySem.boot_len (pa_cons (pv 0) pa_nil)) (pe_callB call_len_seq (by rfl) T.len PySem.boot_len (pa_cons (pv 1) pa_nil)) (nomark _)) (pss_one (ps_ret pe_bl)) pss_nil)
 (pss_one (ps_ret (pe_cmpR (op_eqD hr.units) (pe_lc (own := [("_law_k", 2)]) (g := gName 2) rfl scAlike.nd (pi_range1 (by rfl) T.range (pa_cons (pe_callB call_len_seq (by rfl) T.len PySem.boot_len (pa_cons (pv 1) pa_nil)) pa_nil)) (blkOk_by (N := ["_law_found", "_law_due", "_law_k"]) (sc := fnScope sAlike) (by decide +kernel)) (fun _ _ _ _ _ => pg_name (i := 2) scAlike.nd rfl (Or.inl rfl)) (fun _ _ _ _ _ => (pts_one (pt_not (pt_val (pe_c C._law_alike hr (by first | decide | omega) (by rfl) (pa_cons (pe_ix (show IxR _ (rIx K) from ix_seq) (pv 0) (pv 2) (fun _ _ => rfl)) (pa_cons (pe_ix (show IxR _ (rIx K) from ix_seq) (pv 1) (pv 2) (fun _ _ => rfl)) pa_nil))))))) (fun _ _ _ _ _ => (pv 2))) (pe_lst pa_nil) (nomark _)))))) pss_nil)
 (pss_cons (ps_if (PW.pt (pw_or (pt_cmpR op_isN (pv 1) pe_non (nomark _)) (pw_or1 (pt_val (pe_callB call_isi (by rfl) T.isinstance (by decide +kernel) (pa_cons (pv 1) (pa_cons (pe_bltn (v := .ty "str") (by rfl) T.str (by decide +kernel) rfl) pa_nil))))))) (pss_one (ps_ret (pe_and (pe_cmpR op_eq (pv 0) (pv 1) (nomark _)) (pe_one (pe_cmpR op_eq (pe_callB call_isi (by rfl) T.isinstance (by decide +kernel) (pa_cons (pv 0) (pa_cons (pe_bltn (v := .ty "str") (by rfl) T.str (by decide +kernel) rfl) pa_nil))) (pe_callB call_isi (by rfl) T.isinstance (by decide +kernel) (pa_cons (pv 1) (pa_cons (pe_bltn (v := .ty "str") (by rfl) T.str (by decide +kernel) rfl) pa_nil))) (nomark _)))))) pss_nil)
 (pss_one (ps_ret (pe_and (pe_callB call_isi (by rfl) T.isinstance (by decide +kernel) (pa_cons (pv 0) (pa_cons (pe_bltn (v := .ty "int") (by rfl) T.int (by decide +kernel) rfl) pa_nil))) (pe_and (pe_cmpR op_eq (pe_callB call_isi (by rfl) T.isinstance (by decide +kernel) (pa_cons (pv 0) (pa_cons (pe_bltn (v := .ty "bool") (by rfl) T.bool (by decide +kernel) rfl) pa_nil))) (pe_callB call_isi (by rfl) T.isinstance (by decide +kernel) (pa_cons (pv 1) (pa_cons (pe_bltn (v := .ty "bool") (by rfl) T.bool (by decide +kernel) rfl) pa_nil))) (nomark _)) (pe_one (pe_cmpR op_eq (pv 0) (pv 1) (nomark _)))))))))), ?_⟩
      rcases ok with (⟨i, rfl⟩ | ⟨b, rfl⟩) | ⟨ds, hd, hlen, hall⟩
      · cases hx; cases hy
        walk_at "go2"
        exact bl_as (q _ (Same.upd' (by assumption))) (by simp)
      · cases hx; cases hy
        walk_at "go2"
        exact bl_as (q _ (Same.upd' (by assumption))) (by simp)
      · rcases hd with rfl | rfl
        · obtain _ | _ | _ | _ | ⟨hxs, hxa⟩ | _ := hx
          obtain _ | _ | _ | _ | ⟨hys, hya⟩ | _ := hy
          rename_i a xs b' ys
          have lx := DpAll.len hxa
          have ly := DpAll.len hya
          walk_at "go2"
          refine ⟨by omega, by omega, fun D hD => lc_range (lo := 0) (n := (ys.length : Int).toNat) (fun i H' => H' D = some (.lst []) ∧ Same H H') ⟨upd_same, by walk_at "sm"⟩ (fun i H' hi ⟨hD', sm⟩ => ?_) (fun H' ⟨hD', sm⟩ => ?_)⟩
          · obtain ⟨e, he⟩ : ∃ e, ds[i]? = some e := ⟨_, List.getElem?_eq_getElem (by omega)⟩
            obtain ⟨v1, h1, d1⟩ := DpAll.get hxa he
            obtain ⟨v2, h2, d2⟩ := DpAll.get hya he
            have a1 : atI xs (0 + (i : Int)) = some v1 := by rw [Int.zero_add]; exact atI_nat h1
            have a2 : atI ys (0 + (i : Int)) = some v2 := by rw [Int.zero_add]; exact atI_nat h2
            walk_at "go2"
            refine .inl ⟨_, _, _, _, rfl, rfl, (by walk_at "sql" : SqL _ _ _ _), a1, ?_⟩
            walk_at "go2"
            refine .inl ⟨_, _, _, _, rfl, rfl, (by walk_at "sql" : SqL _ _ _ _), a2, ?_⟩
            walk_at "go2"
            refine ⟨v1, v2, e, rfl, Dp.same sm d1, Dp.same sm d2, hall e (List.mem_of_getElem? he), fun H2 sm2 => ?_⟩
            walk_at "go2"
            exact ⟨sm2 _ _ hD', sm.trans sm2⟩
          · walk_at "go2"
            rename_i p9 hp9
            refine ⟨_, _, .lst (SqL.of' (up_new hD' hp9)) .nil, .lst (SqL.of' upd_same) .nil, by decide +kernel, by decide +kernel, ?_⟩
            exact bl_as (q _ (sm.trans (Same.upd' hp9))) (by simp [PyData.eqv, PyData.eqvAll])
        · obtain _ | _ | _ | _ | ⟨hxs, hxa⟩ | ⟨hxs, hxa⟩ := hx
          obtain _ | _ | _ | _ | ⟨hys, hya⟩ | ⟨hys, hya⟩ := hy
          rename_i a xs b' ys
          have lx := DpAll.len hxa
          have ly := DpAll.len hya
          walk_at "go2"
          refine ⟨by omega, by omega, fun D hD => lc_range (lo := 0) (n := (ys.length : Int).toNat) (fun i H' => H' D = some (.lst []) ∧ Same H H') ⟨upd_same, by walk_at "sm"⟩ (fun i H' hi ⟨hD', sm⟩ => ?_) (fun H' ⟨hD', sm⟩ => ?_)⟩
          · obtain ⟨e, he⟩ : ∃ e, ds[i]? = some e := ⟨_, List.getElem?_eq_getElem (by omega)⟩
            obtain ⟨v1, h1, d1⟩ := DpAll.get hxa he
            obtain ⟨v2, h2, d2⟩ := DpAll.get hya he
            have a1 : atI xs (0 + (i : Int)) = some v1 := by rw [Int.zero_add]; exact atI_nat h1
            have a2 : atI ys (0 + (i : Int)) = some v2 := by rw [Int.zero_add]; exact atI_nat h2
            walk_at "go2"
            refine .inr (.inl ⟨_, _, _, _, rfl, rfl, (by walk_at "sqt" : SqT _ _ _ _), a1, ?_⟩)
            walk_at "go2"
            refine .inr (.inl ⟨_, _, _, _, rfl, rfl, (by walk_at "sqt" : SqT _ _ _ _), a2, ?_⟩)
            walk_at "go2"
            refine ⟨v1, v2, e, rfl, Dp.same sm d1, Dp.same sm d2, hall e (List.mem_of_getElem? he), fun H2 sm2 => ?_⟩
            walk_at "go2"
            exact ⟨sm2 _ _ hD', sm.trans sm2⟩
          · walk_at "go2"
            rename_i p9 hp9
            refine ⟨_, _, .lst (SqL.of' (up_new hD' hp9)) .nil, .lst (SqL.of' upd_same) .nil, by decide +kernel, by decide +kernel, ?_⟩
            exact bl_as (q _ (sm.trans (Same.upd' hp9))) (by simp [PyData.eqv, PyData.eqvAll])
end
end T1

set_option Elab.async false
set_option linter.all false
set_option maxRecDepth 100000
set_option maxHeartbeats 4000000
namespace T1
open PySem PySem.Spec PyProof.Rows L2 C8
/-! ### displays of data, evaluated at one go -/
theorem sz4 {n : Nat} (h : n ≤ 100) : n ≤ sizeLine := Nat.le_trans h (by rw [sizeLine_eq]; decide)
def ED (K : PySem.W.Frag) (te : TE) (d : PyData) : Prop := ∀ (σ : L2.St) (H : Hp) (Q : VK), (∀ v H', Same H H' → Dp K H' v d → Q v H') → te σ H Q
def EDs (K : PySem.W.Frag) (ta : TA) (ds : List PyData) : Prop := ∀ (σ : L2.St) (H : Hp) (Q : List V → Hp → Prop), (∀ vs H', Same H H' → DpAll K H' vs ds → Q vs H') → ta σ H Q
section
variable {K : PySem.W.Frag} {te : TE} {ta : TA} {d : PyData} {ds : List PyData}
theorem ed_int {i : Int} : ED K (tC (.int i)) (.int i) := fun _ H _ k => k _ H (Same.refl H) (.int i)
theorem ed_neg {i : Int} : ED K (tUn (rU fun i => .int (-i)) (tC (.int i))) (.int (-i)) := fun _ H _ k => ⟨i, rfl, k _ H (Same.refl H) (.int (-i))⟩
theorem eds_nil : EDs K tNil [] := fun _ H _ k => k _ H (Same.refl H) .nil
theorem eds_cons (a : ED K te d) (b : EDs K ta ds) : EDs K (tCons te ta) (d :: ds) := fun σ H _ k =>
  a σ H _ fun _ H1 s1 e1 => b σ H1 _ fun _ H2 s2 e2 => k _ _ (s1.trans s2) (.cons (Dp.same s2 e1) e2)
theorem ed_tup (a : EDs K ta ds) (h : ds.length ≤ sizeLine) : ED K (tTup ta) (.tuple ds) := fun σ H _ k =>
  a σ H _ fun _ H1 s1 e1 => ⟨by rw [DpAll.len e1]; exact h, fun p hp => k _ _ (s1.trans (Same.upd' hp)) (.tup (SqT.of' upd_same) (DpAll.same (Same.upd' hp) e1))⟩
theorem ed_lst (a : EDs K ta ds) (h : ds.length ≤ sizeLine) : ED K (tLst ta) (.list ds) := fun σ H _ k =>
  a σ H _ fun _ H1 s1 e1 => ⟨by rw [DpAll.len e1]; exact h, fun p hp => k _ _ (s1.trans (Same.upd' hp)) (.lst (SqL.of' upd_same) (DpAll.same (Same.upd' hp) e1))⟩
theorem DpAll.app {H : Hp} : ∀ {xs ys : List V} {ds es : List PyData}, DpAll K H xs ds → DpAll K H ys es → DpAll K H (xs ++ ys) (ds ++ es)
  | _, _, _, _, .nil, b => b
  | _, _, _, _, .cons a r, b => .cons a (DpAll.app r b)
theorem DpAll.rep {H : Hp} {xs : List V} {ds : List PyData} (h : DpAll K H xs ds) : ∀ n : Nat, DpAll K H (List.replicate n xs).flatten (List.replicate n ds).flatten
  | 0 => .nil
  | n + 1 => by
    rw [List.replicate_succ, List.replicate_succ, List.flatten_cons, List.flatten_cons]
    exact DpAll.app h (DpAll.rep h n)
theorem ed_rep {k : Int} (a : EDs K ta ds) (h : ds.length ≤ 1000) (h0 : ds ≠ []) (k0 : 2 ≤ k) (k1 : k ≤ 1000) : ED K (tOp (rRepT K) (tTup ta) (tC (.int k))) (.tuple (List.replicate k.toNat ds).flatten) := fun σ H _ z =>
  a σ H _ fun xs H1 s1 e1 => ⟨by rw [DpAll.len e1, sizeLine_eq]; omega, fun p hp => by
    have n0 : xs ≠ [] := fun e => h0 (List.length_eq_zero_iff.mp (by rw [← DpAll.len e1, e]; rfl))
    exact ⟨p, k, xs, rfl, rfl, SqT.of' upd_same, n0, k0, k1, by rw [DpAll.len e1]; exact h, fun q hq =>
      z _ _ ((s1.trans (Same.upd' hp)).trans (Same.upd' hq)) (.tup (SqT.of' upd_same) (DpAll.rep (DpAll.same (Same.upd' hq) (DpAll.same (Same.upd' hp) e1)) _))⟩⟩

/-- a display of data, by what it comes to; a list display: the list is new -/
def tED (K : PySem.W.Frag) (d : PyData) : TE := fun _ H Q => ∀ v H', Same H H' → Dp K H' v d → Q v H'
def tEL (K : PySem.W.Frag) (ds : List PyData) : TE := fun _ H Q => ∀ p xs H', H p = none → Same H H' → H' p = some (.lst xs) → DpAll K H' xs ds → Q (.ref p) H'
theorem pe_ed {X : Cx} {e : Expr} (h : PE X e te) (x : ED X.K te d) : PE X e (tED X.K d) := ⟨fun pins s σ H Q I k => h.run pins s σ H Q I (x σ H Q k)⟩
theorem pe_el {X : Cx} {e : Expr} (h : PE X e (tLst ta)) (x : EDs X.K ta ds) (hs : ds.length ≤ sizeLine) : PE X e (tEL X.K ds) := ⟨fun pins s σ H Q I k => h.run pins s σ H Q I
  (x σ H _ fun xs H1 s1 e1 => ⟨by rw [DpAll.len e1]; exact hs, fun p hp => k p xs _ (by
    cases q : H p with
    | none => rfl
    | some o => rw [s1 p o q] at hp; cases hp) (s1.trans (Same.upd' hp)) upd_same (DpAll.same (Same.upd' hp) e1)⟩)⟩
variable {H H' : Hp} {h s : Addr}
theorem Dp.i {v : V} {i : Int} (x : Dp K H v (.int i)) : v = .int i := by cases x; rfl
theorem Dp.t {v : V} (x : Dp K H v (.tuple ds)) : ∃ a xs, v = .ref a ∧ SqT K H a xs ∧ DpAll K H xs ds := by
  cases x with
  | tup a b => exact ⟨_, _, rfl, a, b⟩
theorem DpAll.c {vs : List V} (x : DpAll K H vs (d :: ds)) : ∃ v ws, vs = v :: ws ∧ Dp K H v d ∧ DpAll K H ws ds := by
  cases x with
  | cons a b => exact ⟨_, _, rfl, a, b⟩
theorem DpAll.n {vs : List V} (x : DpAll K H vs []) : vs = [] := by cases x; rfl
theorem LL.of : ∀ {ls : List Lk} {vs : List V}, DpAll K H vs (ls.map ld) → LL K H vs ls
  | [], _, x => by rw [DpAll.n x]; exact LL.nil
  | l :: ls, _, x => by
    obtain ⟨v, ws, rfl, a, b⟩ := DpAll.c x
    obtain ⟨p, xs, rfl, hp, q⟩ := Dp.t a
    obtain ⟨x1, w1, rfl, e1, q⟩ := DpAll.c q
    obtain ⟨x2, w2, rfl, e2, q⟩ := DpAll.c q
    obtain ⟨x3, w3, rfl, e3, q⟩ := DpAll.c q
    obtain ⟨x4, w4, rfl, e4, q⟩ := DpAll.c q
    cases DpAll.n q; cases Dp.i e1; cases Dp.i e2; cases Dp.i e3; cases Dp.i e4
    have r := LL.of (ls := ls) b
    refine ⟨by simp [r.1], fun j m g => ?_⟩
    match j, g with
    | 0, g =>
      cases g
      exact ⟨p, rfl, hp⟩
    | j + 1, g =>
      obtain ⟨c, g1, g2⟩ := r.2 j m (by simpa using g)
      exact ⟨c, by simpa using g1, g2⟩
/-- an item of the menu -/
def MI (K : PySem.W.Frag) (H : Hp) (v : V) : Prop := ∃ q c t ls, v = .ref q ∧ SqT K H q [.int c, .ref t] ∧ Ls K H t ls ∧ ls.length ≤ 25 ∧ -1 ≤ c ∧ c ≤ 13
theorem MI.but {v : V} (x : MI K H v) (e : But h s H H') (z : LSt H h s) : MI K H' v := by
  obtain ⟨q, c, t, ls, rfl, h1, h2, r⟩ := x
  exact ⟨q, c, t, ls, rfl, e.tup z h1, h2.but e z, r⟩
theorem MI.of {v : V} {c : Int} {ls : List Lk} (x : Dp K H v (.tuple [.int c, .tuple (ls.map ld)])) (hl : ls.length ≤ 25) (c0 : -1 ≤ c) (c1 : c ≤ 13) : MI K H v := by
  obtain ⟨q, xs, rfl, hq, x⟩ := Dp.t x
  obtain ⟨x1, w1, rfl, e1, x⟩ := DpAll.c x
  obtain ⟨x2, w2, rfl, e2, x⟩ := DpAll.c x
  cases DpAll.n x; cases Dp.i e1
  obtain ⟨t, ys, rfl, ht, y⟩ := Dp.t e2
  exact ⟨q, c, t, ls, rfl, hq, ⟨ys, ht, LL.of y⟩, hl, c0, c1⟩
abbrev menuD : List PyData := [.tuple [.int 0, .tuple []], .tuple [.int 13, .tuple []], .tuple [.int 2, .tuple (List.replicate (25 : Int).toNat [PyData.tuple [.int 0, .int 1, .int 1, .int 0]]).flatten], .tuple [.int (-1), .tuple []]]
theorem menu_pick {xs : List V} (x : DpAll K H xs menuD) : ∀ i : Int, 0 ≤ i → i < 4 → ∃ v, atI xs i = some v ∧ MI K H v := by
  obtain ⟨x1, w1, rfl, e1, x⟩ := DpAll.c x
  obtain ⟨x2, w2, rfl, e2, x⟩ := DpAll.c x
  obtain ⟨x3, w3, rfl, e3, x⟩ := DpAll.c x
  obtain ⟨x4, w4, rfl, e4, x⟩ := DpAll.c x
  cases DpAll.n x
  intro i i0 i1
  have hi : i = 0 ∨ i = 1 ∨ i = 2 ∨ i = 3 := by omega
  rcases hi with rfl | rfl | rfl | rfl
  · exact ⟨_, rfl, MI.of (ls := []) e1 (by decide) (by decide) (by decide)⟩
  · exact ⟨_, rfl, MI.of (ls := []) e2 (by decide) (by decide) (by decide)⟩
  · exact ⟨_, rfl, MI.of (ls := List.replicate 25 (0, 1, 1, 0)) e3 (by decide) (by decide) (by decide)⟩
  · exact ⟨_, rfl, MI.of (ls := []) e4 (by decide) (by decide) (by decide)⟩
end
end T1

set_option Elab.async false
set_option linter.all false
set_option maxRecDepth 100000
set_option maxHeartbeats 4000000
/-! rules of our own: enumerate of a tuple, static methods, the base's __init__ read off the class, isinstance of a caught error that has fields -/
namespace T1
open PySem
open AutoSeq1 (wpAny_loadPart')
/-- an iterator of the tuple at t, at its start; an enumerate over the iterator at q -/
abbrev itO (t : Addr) : Obj := { cls := .type "tuple_iterator", data := .fields #[.ref t, .int 0 0] }
abbrev enO (q : Addr) : Obj := { cls := .type "enumerate", data := .fields #[.none, .bool false, .ref q, rawInt 0, .none, .none] }
abbrev enHeap (h : Heap) (t : Addr) : Heap := (h.push (itO t)).push (enO h.objs.size)
theorem meets_enumT (t : Addr) (vs : Array Value) :
    Meets (Builtin.«enumerate.__new__» ⟨[.type "enumerate", .ref t], []⟩) (fun _ R s => s.heap.IsTuple t vs ∧ R (.ok (.ret (.ref (s.heap.push (itO t)).objs.size))) { s with heap := enHeap s.heap t }) := by
  refine .of_wp fun prog w A R ⟨hp, g, d, tk, os⟩ ⟨tup, fin⟩ => ?_
  have sub := sub_enumerate
  have tup' : Heap.IsTuple (Shared.heap ⟨hp, g, d, tk, os⟩) t vs := tup
  obtain ⟨ot, hot, _⟩ := id tup
  wp_walk using wpAny_loadPart' hot
  refine wpAny_stack_any fun _ => wpAny_pure ?_
  split
  case' h_1 k _ _ _ _ _ => cases (k == Value.type "enumerate")
  all_goals
    wp_walk using wpAny_loadPart' hot, wpAny_pyIter_tuple tup'
    exact ⟨_, rfl, fin⟩
theorem t1_call_enumT {prog : Program} {w : World} {A : Around} {E : Value → Shared → Prop} {s : Shared} {t : Addr} {vs : Array Value} {Q : Value → Shared → Prop} (tup : s.heap.IsTuple t vs)
    (k : ∀ h', IsEnum h' (s.heap.objs.size + 1) s.heap.objs.size 0 .none → h'.IsTupleIter s.heap.objs.size t 0 → True → (∀ b o, s.heap.get? b = some o → h'.get? b = some o) → Q (.ref (s.heap.objs.size + 1)) { s with heap := h' }) :
    wpAny (model prog w) A (call (.type "enumerate") [.ref t]) Q E s := by
  have sz : (s.heap.push (itO t)).objs.size = s.heap.objs.size + 1 := Heap.size_push ..
  have en : IsEnum (enHeap s.heap t) (s.heap.objs.size + 1) s.heap.objs.size 0 .none := by
    have z := Heap.get?_push_size (s.heap.push (itO t)) (o := enO s.heap.objs.size) rfl
    rwa [sz] at z
  refine callType_new F.called_enumerate (by decide) (F.typeCall_enumerate_1 _) (F.newCall_enumerate_1 _) (fun _ => F.args_object_init_2 ..) F.entry_enumerate_new (meets_enumT t vs) ⟨tup, ?_⟩
  rw [sz]
  exact ⟨⟨_, en, rfl⟩, k _ en ⟨_, Heap.get?_push_of_some _ (Heap.get?_push_size _ rfl), rfl, rfl⟩ trivial fun _ _ z => Heap.get?_push_of_some _ (Heap.get?_push_of_some _ z)⟩
end T1
namespace T1
open PySem PySem.Spec PyProof.Rows L2 C8
/-! ### enumerate of a tuple -/
/-- what a turn hands out: a pair that is new at T, of the turn's number and the tuple's item -/
def PairOut (K : PySem.W.Frag) (a : Addr) (i : Nat) (H : Hp) (v : V) (H' : Hp) : Prop :=
  ∃ T y, v = .ref T ∧ H T = none ∧ H' = upd H T (.tup [.int (i : Nat), y]) ∧ ∀ ys, SqT K H a ys → ys[i]? = some y
def IteT (K : PySem.W.Frag) (a : Addr) : It where
  go i H := ∃ ys y, SqT K H a ys ∧ ys[i]? = some y
  yld i H v H' := PairOut K a i H v H'
  stop i H := ∃ ys, SqT K H a ys ∧ ys.length = i
/-- where the two records stand, the enumerate at e over the iterator at q -/
structure EnAt (a e q : Addr) (i : Nat) (h : Heap) : Prop where
  en : ∃ u, IsEnum h e q (i : Int) u
  tu : h.IsTupleIter q a i
  eq : e ≠ q
  aq : a ≠ q
theorem EnAt.big {a e q : Addr} {i : Nat} {h : Heap} (x : EnAt a e q i h) : e < h.objs.size ∧ q < h.objs.size := by
  obtain ⟨⟨u, hu⟩, ⟨o, ho, _⟩, _, _⟩ := x
  exact ⟨Heap.lt_size hu, Heap.lt_size ho⟩
theorem two {α : Type} {x y b : α} (h : b ∈ [x, y]) : b = x ∨ b = y := by simpa using h
theorem turn_enumT {P : Program} {w : World} {K : PySem.W.Frag} {es : List Expr} {n : Nat} {tp : Pos} (a e q : Addr) : Turn P w K (.Tuple es n tp) (IteT K a) [e, q] e (EnAt a e q) where
  mem := List.mem_cons_self
  obj := fun i h x b hb => by
    obtain ⟨⟨u, hu⟩, ⟨o, ho, _, hd⟩, _, _⟩ := x
    rcases two hb with rfl | rfl
    · exact ⟨_, hu, fun _ z => nomatch z⟩
    · exact ⟨o, ho, fun _ z => by rw [hd] at z; cases z⟩
  keep := fun i h h' x k => by
    obtain ⟨⟨u, hu⟩, ht, n1, n2⟩ := x
    exact ⟨⟨u, k e List.mem_cons_self _ hu⟩, ht.at fun o z => k q (List.mem_cons_of_mem _ List.mem_cons_self) o z, n1, n2⟩
  item := by
    rintro X rfl rfl rfl hc i pins s σ H E I ff x ⟨ys, y, hys, hy⟩
    obtain ⟨be, bq⟩ := x.big
    obtain ⟨⟨u, hu⟩, ht, n1, n2⟩ := x
    obtain ⟨vs, rv, tup, _⟩ := I.tuple hys
    obtain ⟨v, hv, ry⟩ := rv.get hy
    have nea : a ≠ e := by
      rintro rfl
      obtain ⟨o, ho, _, _, hd⟩ := tup
      rw [hu] at ho
      cases ho
      cases hd
    have hlt : i < vs.toArray.size := by
      have := (List.getElem?_eq_some_iff.mp hv).1
      simpa using this
    have DT := PySem.Draws.tuple (prog := X.prog) (w := X.w) (A := X.A.in1) (I.ok.hd hc) q a n2 vs.toArray
    refine wpAny_pyNext_enum_itemD DT hu ⟨ht, tup⟩ hlt n1 (fun z => (two z).elim n1 (Ne.symm nea)) fun v' h1 tk hv' out st at1 _ keep1 => ?_
    obtain rfl : v' = v := by
      have z : vs.toArray[i]? = some v := by simpa using hv
      exact Option.some.inj (hv'.symm.trans z)
    refine ⟨_, rfl, wpAny_letOwnedTupleGo_enum (s := { s with heap := h1, toks := tk + 1 }) out fun h2 hu2 sb => ?_⟩
    -- the new pair's address
    generalize hT : s.heap.objs.size = T at *
    have freshT : H T = none := I.hok.fresh (Nat.le_of_eq hT)
    have at2 := (sb.2 T (Nat.ne_of_gt be)).trans at1
    have okT : ObjOk X.prog X.w (upd H T (.tup [.int (i : Nat), y])) h2 T (.tup [.int (i : Nat), y]) := ⟨by show 2 ≤ sizeLine; decide, _, .cons ⟨tk, rfl⟩ (.cons ry .nil), _, at2, rfl, _, rfl⟩
    have J : Inv X pins σ (upd H T (.tup [.int (i : Nat), y])) { s with heap := h2, toks := tk + 1 } := by
      refine I.turnedNew (ch := [e, q]) (fun b o nb ho => ?_) ff (Nat.le_of_eq hT) okT
      have b1 : b ≠ e := fun z => nb (by rw [z]; exact List.mem_cons_self)
      have b2 : b ≠ q := fun z => nb (by rw [z]; exact List.mem_cons_of_mem _ List.mem_cons_self)
      exact (sb.2 b b1).trans (keep1 b o b1 b2 ho)
    refine ⟨.ref T, _, J, rfl, ⟨T, y, rfl, freshT, rfl, fun zs hz => by rw [I.tuple_inj hz hys]; exact hy⟩, ⟨⟨v', ?_⟩, st.1.at fun o z => (sb.2 q (Ne.symm n1)).trans z, n1, n2⟩, fun b hb => ?_⟩
    · rw [show ((i + 1 : Nat) : Int) = (i : Int) + 1 from rfl]
      exact hu2
    · have bT : b ≠ T := by
        rcases two hb with rfl | rfl
        · exact Nat.ne_of_lt be
        · exact Nat.ne_of_lt bq
      rw [upd_ne bT]
      exact (ff b hb).1
  done := by
    rintro X rfl rfl rfl hc i pins s σ H E I ff x ⟨ys, hys, hi⟩
    obtain ⟨⟨u, hu⟩, ht, n1, n2⟩ := x
    obtain ⟨vs, rv, tup, _⟩ := I.tuple hys
    obtain ⟨g0, g1, _, g3, g4, g5⟩ := ff q (List.mem_cons_of_mem _ List.mem_cons_self)
    obtain rfl : i = vs.toArray.size := by
      have := rv.length
      simp; omega
    have DT := PySem.Draws.tuple (prog := X.prog) (w := X.w) (A := X.A.in1) (I.ok.hd hc) q a n2 vs.toArray
    exact wpAny_pyNext_enum_endD DT hu ⟨ht, tup⟩ fun h1 eb => ⟨rfl, I.turned (t' := s.toks) (fun b o nb z => eb b o nb z) g0 g1 g3 g4 g5⟩
  self := fun _ _ _ _ _ x hq => by
    obtain ⟨⟨u, hu⟩, _⟩ := x
    exact wpAny_pyIter_enum hu hq
def iEnumT (K : PySem.W.Frag) (ta : TA) : TI := fun σ H R => ta σ H fun vs H1 => ∃ a ys, vs = [.ref a] ∧ SqT K H1 a ys ∧ R (IteT K a) H1
theorem pi_enumT {X : Cx} {x : Expr} {ta : TA} {p1 p2 p3 : Pos} {es : List Expr} {n : Nat} (hg : Gl X "enumerate") (hm : X.mg "enumerate" = none) (ha : PA X [x] ta) (st : starEach [x] X.env = [(false, eval x X.env)] := by rfl) :
    PI X (.Tuple es n p3) (.Call (.Name "enumerate" p1) [x] [] p2) (iEnumT X.K ta) where
  run := fun pins s σ H R I h => by
    refine Call_ (ld_blt I hg hm boot_enumerate (PyProof.Rows.callWith_type1 (thn (ha.run p2 pins s σ H _ I h) ?_) st rfl))
    rintro us s1 ⟨vs, H1, I1, rvs, a, ys, rfl, hys, q⟩
    obtain _ | ⟨ra, _ | _⟩ := rvs
    cases ra
    obtain ⟨_, _, tup, _⟩ := I1.tuple hys
    obtain ⟨o, ho, _⟩ := id tup
    generalize hz : s1.heap.objs.size = z
    refine t1_call_enumT tup fun h' he ht _ keep => wpAny_pyIter_enum he ?_
    rw [hz] at he ht
    rw [hz]
    have far : ∀ b ∈ [z + 1, z], s1.heap.objs.size ≤ b := fun b hb => by rcases two hb with rfl | rfl <;> omega
    refine ⟨z + 1, [z + 1, z], _, _, H1, rfl, I1.kept (t' := s1.toks) keep, turn_enumT a (z + 1) z, ⟨⟨.none, he⟩, ht, Nat.succ_ne_self z, Nat.ne_of_lt (by rw [← hz]; exact Heap.lt_size ho)⟩, fun b hb => ?_, q⟩
    exact I1.fpOk (far b hb) (I1.hok.fresh (far b hb))
/-- for i, x in enumerate(t): Pv by the turn; the pair of a turn is new at T -/
theorem for_enumT {K : PySem.W.Frag} {a : Addr} {ys : List V} {g : TG} {tb : TS} {D : Ends} {σ : L2.St} {H : Hp} (Pv : Nat → L2.St → Hp → Prop) (h0 : Pv 0 σ H) (hl : ∀ i σ H, Pv i σ H → SqT K H a ys)
    (hs : ∀ i y T σ H, ys[i]? = some y → H T = none → Pv i σ H → g (.ref T) σ (upd H T (.tup [.int (i : Nat), y])) (tb { nx := Pv (i + 1), rt := D.rt, bk := D.nx, ct := Pv (i + 1) }))
    (hd : ∀ σ H, Pv ys.length σ H → D.nx σ H) :
    ∃ W : Nat → Nat → L2.St → Hp → Prop, (∃ m, W 0 m σ H) ∧ ∀ j m τ G, W j m τ G →
      ((IteT K a).stop j G ∧ D.nx τ G) ∨ ((IteT K a).go j G ∧ ∃ N : L2.St → Hp → Prop, (∀ τ' G', N τ' G' → ∃ m', m' < m ∧ W (j + 1) m' τ' G') ∧ ∀ v G', (IteT K a).yld j G v G' → g v τ G' fun τ2 G2 => tb { nx := N, rt := D.rt, bk := D.nx, ct := N } τ2 G2) := by
  refine ⟨fun j m τ G => j + m = ys.length ∧ Pv j τ G, ⟨ys.length, Nat.zero_add _, h0⟩, fun j m τ G ⟨hm, pv⟩ => ?_⟩
  have tup := hl _ _ _ pv
  match m, hm with
  | 0, hm =>
    obtain rfl : j = ys.length := by omega
    exact .inl ⟨⟨ys, tup, rfl⟩, hd _ _ pv⟩
  | m + 1, hm =>
    have hlt : j < ys.length := by omega
    refine .inr ⟨⟨ys, ys[j], tup, List.getElem?_eq_getElem hlt⟩, Pv (j + 1), fun _ _ z => ⟨m, Nat.lt_succ_self m, by omega, z⟩, ?_⟩
    rintro v G' ⟨T, y, rfl, hT, rfl, hy⟩
    exact hs j y T τ G (hy ys tup) hT pv
/-! ### methods that are handed out unbound -/
/-- the call of a method, as the model unfolds it -/
abbrev MCall (X : Cx) (o : Expr) (m : Str) (args : List Expr) (p1 p2 : Pos) (pl : Sem Bool) : Prop :=
  eval (.Call (.Attribute o m p1) args [] p2) X.env =
    (eval o X.env >>= fun ov => standAt p1.atName >>= fun _ => holding [ov] (getMethod ov m pl) >>= fun r => callWith p2 r.1 r.2 (backTo p2 (starEach args X.env)) (backToKw p2 (keywordEach [] X.env)))
/-- m of what G tells is f, nothing bound to it -/
def Hands (X : Cx) (m : Str) (pl : Sem Bool) (G : V → Hp → Prop) (f : Value) : Prop :=
  ∀ (pins : List (Addr × Obj)) (σ : L2.St) (H : Hp) (s : Shared) (x : V) (u : Value) (Q : Value × List Value → Shared → Prop), Inv X pins σ H s → RelV x u → G x H → Q (f, []) { s with toks := s.toks + 1 } → wpAny (model X.prog X.w) X.A (getMethod u m pl) Q X.xe s
/-- o.m(..), m a def that is not bound -/
def tPlain (G : V → Hp → Prop) (sp : Sp) (E : XK) (ta : TE) (t : TA) : TE := fun σ H Q => ta σ H fun x H1 => G x H1 ∧ t σ H1 fun vs H2 => sp (vs ++ []) H2 Q E
section
variable {X : Cx} {CX : CXT} {k : Nat} {C CB p g : Addr} {mc : Value} {m : Str} {fd : FuncData} {ps : List Str} {sp : Sp} {E : XK} {o x : Expr} {xs : List Expr} {p1 p2 p3 : Pos} {ta : TE} {t : TA} {pl : Sem Bool} {G : V → Hp → Prop}
theorem pe_plain (ho : PE X o ta) (hh : Hands X m pl G (.ref g)) (kp : PySem.W.keepIn X.K (.ref g) = true) (F : FnOk X.prog X.w X.K X.mg X.base CX k g fd ps sp) (hr : Room k X.A) (hb : Binds X.K fd ps []) (hx : Passes CX X E) (ha : PA X (x :: xs) t)
    (s1 : starEach (x :: xs) X.env = (false, eval x X.env) :: starEach xs X.env := by rfl) (s2 : (backTo p2 (starEach xs X.env)).any (·.1) = false := by rfl) (hc : MCall X o m (x :: xs) p1 p2 pl := by rfl) :
    PE X (.Call (.Attribute o m p1) (x :: xs) [] p2) (tPlain G sp E ta t) where
  run := fun pins s σ H Q I h => by
    refine PySem.W.methodCall_KW (pl := pl) (thn (ho.run pins s σ H _ I h) ?_) hc
    rintro u z ⟨y, H1, I1, ry, gy, q⟩
    refine hh pins σ H1 z y u _ I1 ry gy (PySem.W.callWith_K (first := []) (h₀ := X.base) I1.ok.mod.kin kp (thn (ha.run p2 pins _ σ H1 _ (I1.tok _) q) ?_) s1 s2)
    rintro us z' ⟨vs, H2, I2, rv, q2⟩
    exact ⟨I2.kIn, run_fn F hr hb .nil hx I2 rv q2⟩
/-- what is asked of a static method of the class at C, read off an object -/
structure SInst (K : PySem.W.Frag) (C : Addr) (m : Str) (p g : Addr) : Prop where
  plain : PySem.W.plainGet K C Str.empty = true
  isC : PySem.W.isClsIn K C = true
  find : PySem.W.findIn K (.ref C) m = some (some (.ref p))
  ty : PySem.W.typeIn K (.ref p) = some (.type "staticmethod")
  sp : PySem.W.specialIn K (.ref p) "__get__" = some (some (.builtin "staticmethod.__get__"))
  tk : PySem.W.takesIn K (.ref p) = some false
  cn : PySem.W.copiedNames.contains m = false
  fn : ∃ l, PySem.W.recIn K p "staticmethod" = some (.ref g :: l)
theorem hands_inst (c : SInst X.K C m p g) : Hands X m pl (fun x H => ∃ a dx fs, x = .ref a ∧ H a = some (.ins C dx fs) ∧ fs.lookup m = none) (.ref g) := by
  rintro pins σ H s x u Q I ru ⟨a, dx, fs, rfl, ha, nm⟩ q
  cases ru
  obtain ⟨mA, O, hr, _⟩ := ins_get I.hok ha
  obtain ⟨od, J, look⟩ := O.look
  obtain ⟨l, hl⟩ := c.fn
  have pg := PySem.W.plainGet_of (show PySem.W.plainGet X.K C m = true from c.plain)
  have own : PySem.W.lookIn m od = some none := by
    rw [look m]
    exact congrArg some (RelO.none_of (by rw [← nm]; exact hr m))
  refine PySem.W.method_usual (r := some (.ref p)) I.kIn J pg.1 pg.2 c.find (by rw [Option.all_some, c.ty]; decide +kernel) ?_
  exact PySem.W.get_bind I.kIn J pg.1 (ClX.find_cm c.isC c.find c.sp c.tk c.cn own) pg.2 (wpAny_call (PySem.W.sm_get (s := { s with toks := s.toks + 1 }) I.kIn hl (PySem.W.handed_on rfl q)))
/-- .. read off the class -/
structure SCls (K : PySem.W.Frag) (C : Addr) (mc : Value) (m : Str) (p g : Addr) : Prop where
  reads : PySem.W.readsIn K C mc = true
  sga : PySem.W.specialIn K (.ref C) "__getattribute__" = some (some (.builtin "type.__getattribute__"))
  find : PySem.W.findCls K (.ref C) mc m = some (.get (.builtin "staticmethod.__get__") (.ref p) .none (.ref C))
  fn : ∃ l, PySem.W.recIn K p "staticmethod" = some (.ref g :: l)
theorem hands_cls (c : SCls X.K C mc m p g) : Hands X m pl (fun x _ => x = .ref C) (.ref g) := by
  rintro pins σ H s x u Q I ru rfl q
  cases ru
  obtain ⟨l, hl⟩ := c.fn
  exact PySem.W.method_cls I.kIn c.sga (PySem.W.cls_bind I.kIn c.reads c.find (wpAny_call (PySem.W.sm_get (s := { s with toks := s.toks + 1 }) I.kIn hl (PySem.W.handed_on rfl q))))
/-- B.__init__(self, ..), B an own error class that has none of its own -/
theorem pe_beinit {B : Str} (hg : Gl X B) (hm : X.mg B = some (.ref CB)) (rd : PySem.W.readsIn X.K CB mc = true) (sga : PySem.W.specialIn X.K (.ref CB) "__getattribute__" = some (some (.builtin "type.__getattribute__")))
    (at_ : PySem.W.findCls X.K (.ref CB) mc "__init__" = some (.val (.builtin "ValueError.__init__"))) (ha : PA X (x :: xs) t)
    (s1 : starEach (x :: xs) X.env = (false, eval x X.env) :: starEach xs X.env := by rfl) (s2 : (backTo p2 (starEach xs X.env)).any (·.1) = false := by rfl) (hc : MCall X (.Name B p3) "__init__" (x :: xs) p1 p2 pl := by rfl) (hd : (B == ("__debug__" : Str)) = false := by decide) :
    PE X (.Call (.Attribute (.Name B p3) "__init__" p1) (x :: xs) [] p2) (tVeI X.K t) where
  run := fun pins s σ H Q I h => by
    refine PySem.W.methodCall_KW (pl := pl) (ld_glob I hg hm (PySem.W.method_cls I.kIn sga (PySem.W.cls_value I.kIn rd at_ rfl (PyProof.Rows.callWith_method1 (thn (ha.run p2 pins _ σ H _ (I.tok _) h) ?_) s1 s2))) hd) hc
    rintro us z ⟨vs, H1, I1, rvs, a, C', ws, rfl, few, T, ea, q⟩
    obtain _ | ⟨ra, rest⟩ := rvs
    cases ra
    exact oinit_ok T I1 ea (by rw [sizeLine_eq, ← Paired.length rest]; omega) fun z' J => ⟨.non, H1, J, rfl, q⟩
end
end T1

set_option Elab.async false
set_option linter.all false
set_option maxRecDepth 100000
set_option maxHeartbeats 4000000
namespace T1
open PySem PySem.Spec PyProof.Rows L2 C8
open PySem.W in
/-- e.__class__ of an error that has a dict of its own -/
theorem exc_class {prog : Program} {w : World} {A : Around} {E : Value → Shared → Prop} {s : Shared} {K : Frag} {e D : Addr} {ob od : Obj} {Q : Option Value → Shared → Prop} (T : ExcC K D) (X : K.In s.heap) (I : InstAt s.heap e ob D (some od))
    (fin : Q (some (.ref D)) { s with toks := s.toks + 1 }) : wpAny (model prog w) A (getAttr? (.ref e) "__class__") Q E s := by
  have isC : (clsIn K D).isSome = true := by
    obtain ⟨c, hc, _⟩ := any_some T.hd
    rw [hc] <;> rfl
  obtain ⟨hp, gn, dr, tk, os⟩ := s
  have lt := I.type (M := model prog w)
  have lg := looks_findIn (M := model prog w) X T.hg
  have lk := looks_findIn (M := model prog w) X T.hk
  have lf := looks_find (M := model prog w) X I (findObj_data isC T.ha T.hn T.ht)
  have isB : Looks (model prog w) hp (isInstance (.ref e) (.type "BaseException")) true := lt.andThen (looks_subIn X T.hs)
  have other : (onTheHeap (Value.ref D) && Value.builtin "BaseException.__getattribute__" == Value.builtin "object.__getattribute__") = false := by
    rw [show (Value.builtin "BaseException.__getattribute__" == Value.builtin "object.__getattribute__") = false from by decide +kernel, Bool.and_false]
  unfold getAttr? getAttrBy? getAttrBy
  refine wpAny_bind (wpAny_mkText (wpAny_bind (wpAny_attempt (wpAny_holding (wpAny_bind (lt.at (wpAny_bind (lg.at ?_))))))))
  dsimp only
  rw [other, if_neg Bool.false_ne_true]
  unfold getAttrByItsOwn hookBefore
  rw [if_pos (show onTheHeap (Value.ref D) = true from rfl)]
  refine wpAny_bind (lk.at (wpAny_bind (wpAny_attempt (wpAny_holding ?_))))
  unfold callGetattribute
  rw [if_neg (show ¬ (false && onTheHeap (Value.builtin "BaseException.__getattribute__")) = true from Bool.false_ne_true)]
  unfold boundAndCalled
  rw [PySem.F.excAttr_ValueError.ga.bind (.ref e)]
  refine wpAny_bind (wpAny_pure (wpAny_call (codeAny_call_builtin PySem.F.excAttr_ValueError.ga.plain PySem.F.entry_bexc_ga
    (@check_slot (model prog w) _ _ ⟨hp, gn, dr, tk + 1, os⟩ "BaseException.__getattribute__" "BaseException" "__getattribute__" (.ref e) [.str "__class__" tk] [] _ (by decide +kernel) (by decide +kernel) isB (PySem.F.args_bexc_ga _ _) ?_))))
  unfold Builtin.«object.__getattribute__»
  refine wpAny_bind (wpAny_of_eq (a := ((Value.ref e : Value), [Value.str "__class__" tk])) (by first | rfl | (simp only [slotArgs]; rfl)) (wpAny_bind (wpAny_pure (wpAny_bind (lt.at (wpAny_bind (lf.at ?_)))))))
  refine wpAny_bind (wpAny_holding (wpAny_call (class_get (s := ⟨hp, gn, dr, tk + 1, os⟩) (ox := ob) (od := some od) X I T.hm (wpAny_pure ?_))))
  show wpAny _ _ (handedOut (.ref D)) _ _ _
  rw [handedOut_of (v := .ref D) rfl]
  first
    | exact wpAny_pure (wpAny_pure fin)
    | exact wpAny_pure fin
    | exact wpAny_pure (wpAny_bind (wpAny_pure (wpAny_pure fin)))
/-- isinstance(e, c), e the error that the suite holds, its dict at dd -/
theorem call_isD {X : Cx} {a D dd : Addr} {oe : Obj} {pn : List (Addr × Obj)} (T : ExcC X.K D) (hz : Zc (.ref D) (some dd) oe) (hf : ∃ vs, oe.data = .fields vs) :
    CallR (X.suite a ((a, oe) :: pn)) (.builtin "isinstance") (fun xs H Q => ∃ (c : V) (cv : Value) (b : Bool) (fs : List (Str × V)), xs = [.ref a, c] ∧ H dd = some (.xd fs) ∧ (∀ u, RelV c u → u = cv) ∧ PySem.W.kitOne X.K (.ref D) cv = some b ∧ Q (.bl b) H) := by
  rintro pins s σ H _ us Q I r ⟨c, cv, b, fs, rfl, hdd, hc, kit, fin⟩
  obtain _ | ⟨ra, _ | ⟨rc, _ | _⟩⟩ := r
  cases ra
  obtain rfl := hc _ rc
  have at_ := (I.pin (a, oe) (List.mem_append_left _ List.mem_cons_self)).1
  obtain ⟨mA, ns, _⟩ := (I.hok dd _ hdd : ObjOk _ _ _ _ dd (.xd fs))
  obtain ⟨od, hod, _⟩ := lookIn_ns ns
  obtain ⟨vs, hv⟩ := hf
  have J : PySem.W.InstAt s.heap a oe D (some od) := ⟨at_, hz.1, by unfold PySem.W.notCls; rw [hv] <;> rfl, by rw [hz.2]; exact hod⟩
  have old := PySem.W.handS_kitx_exc (x := a) (ox := oe) T.hg T.hk T.hs T.hd T.ha T.hn T.ht T.hm
  have Z : PySem.W.KitX X.K (.ref a) (.ref D) (fun h => ∃ od, PySem.W.InstAt h a oe D (some od)) := {
    ty := fun _ _ _ ⟨_, z⟩ => z.type
    it := fun M h x ⟨_, z⟩ => by
      obtain ⟨cd, hcd, _⟩ := PySem.W.any_some T.hd
      unfold PySem.W.clsIn at hcd
      split at hcd
      · rename_i ho
        exact fun _ _ _ _ keep q => wpAny_bind (wpAny_loadPart (keep _ _ (x _ _ ho)) (wpAny_pure q))
      · cases hcd
    ne := fun h tp dt its n sl x htp => by
      refine Bool.eq_false_iff.mpr fun q => ?_
      obtain rfl : D = tp := Value.ref.inj (beq_iff_eq.mp q)
      obtain ⟨cd, hcd, _⟩ := PySem.W.any_some T.hd
      unfold PySem.W.clsIn at hcd
      split at hcd
      · rename_i ho
        cases (x _ _ ho).symm.trans htp
      · cases hcd
    ca := fun x ⟨_, z⟩ q => exc_class T x z q }
  exact PySem.W.kia_one Z I.kIn ⟨od, J⟩ kit (fun z => nomatch z) fun tk => ⟨.bl b, H, I.kept (t' := tk) fun _ _ z => z, rfl, fin⟩
end T1

set_option Elab.async false
set_option linter.all false
set_option maxRecDepth 100000
set_option maxHeartbeats 4000000
namespace T1
open PySem PySem.Spec PyProof.Rows L2 C8
local macro_rules | `(tactic| walk_at "hf") => `(tactic| (fail_if_success (show (fun _ => none : Hp) _ = _)); first | assumption | with_reducible exact upd_same | ((with_reducible show upd _ _ _ _ = _); first | exact up_new' (by assumption) (by walk_at "hf") | exact up_set (by walk_at "ne") (by walk_at "hf")) | exact Same.at' (by assumption) (by walk_at "hf") | exact But.at' (by assumption) (by walk_at "ne") (by walk_at "ne") (by walk_at "hf"))
local macro_rules | `(tactic| walk_at "hf0") => `(tactic| (fail_if_success (show (fun _ => none : Hp) _ = _)); first | assumption | with_reducible exact upd_same | ((with_reducible show upd _ _ _ _ = _); exact up_new' (by assumption) (by walk_at "hf0")))
local macro_rules | `(tactic| walk_at "ne") => `(tactic| first | assumption | (apply Ne.symm; assumption) | exact ne_of_none' (by assumption) (by walk_at "hf0") | exact Ne.symm (ne_of_none' (by assumption) (by walk_at "hf0")) | exact LSt.f1 (by assumption) (by walk_at "lst") | exact LSt.f2 (by assumption) (by walk_at "lst"))
local macro_rules | `(tactic| walk_at "sqt") => `(tactic| (fail_if_success (show SqT _ (fun _ => none) _ _)); first | assumption | exact SqT.of' (by walk_at "hf") | ((with_reducible show SqT _ (upd _ _ _) _ _); first | exact SqT.new' (by assumption) (by walk_at "sqt") | exact SqT.put' (by walk_at "hf") (by walk_at "sqt")) | exact Same.tup (by assumption) (by walk_at "sqt") | exact But.tup (by assumption) (by walk_at "lst") (by walk_at "sqt"))
local macro_rules | `(tactic| walk_at "sql") => `(tactic| (fail_if_success (show SqL _ (fun _ => none) _ _)); first | assumption | exact SqL.of' (by walk_at "hf") | ((with_reducible show SqL _ (upd _ _ _) _ _); exact SqL.new' (by assumption) (by walk_at "sql")) | exact Same.sql' (by assumption) (by walk_at "sql"))
local macro_rules | `(tactic| walk_at "lst") => `(tactic| (fail_if_success (show LSt (fun _ => none) _ _)); first | assumption | ((with_reducible show LSt (upd _ _ _) _ _); first | exact LSt.new (by walk_at "lst") (by assumption) | exact LSt.put (by walk_at "lst") (by walk_at "ne") (by walk_at "ne")) | exact LSt.same' (by assumption) (by walk_at "lst"))
local macro_rules | `(tactic| walk_at "but") => `(tactic| first | assumption | exact But.refl _ _ _ | ((with_reducible show But _ _ _ (upd _ _ _)); exact But.nw (by assumption) (by walk_at "but")) | exact But.bu (by assumption) (by walk_at "but") | exact But.sm (by assumption) (by walk_at "but"))
local macro_rules | `(tactic| walk_at "ls") => `(tactic| first | assumption | exact Ls.same (by walk_at "ls") (Same.upd' (by assumption)))
local macro_rules | `(tactic| walk_at "ll") => `(tactic| first | assumption | exact LL.same (by walk_at "ll") (Same.upd' (by assumption)) | exact LL.same' (by assumption) (by walk_at "ll") | exact LL.but' (by assumption) (by walk_at "lst") (by walk_at "ll"))
local macro_rules | `(tactic| walk_at "sm") => `(tactic| first | assumption | exact Same.refl _ | ((with_reducible show Same _ (upd _ _ _)); first | exact Same.put' (by assumption) (by walk_at "sm") | exact Same.trans (by walk_at "sm") (Same.upd' (by assumption))) | exact Same.trans (by walk_at "sm") (by assumption))
/-- one step of a reading -/
local macro_rules | `(tactic| walk_at "rd") => `(tactic| first
  | with_reducible refine iteF ?_
  | with_reducible refine iteT ?_
  | with_reducible refine itNotF ?_
  | with_reducible refine itNotT ?_
  | refine ⟨_, rfl, ?_⟩
  | refine ⟨_, _, rfl, rfl, ?_⟩
  | refine ⟨_, _, rfl, ?_⟩
  | refine ⟨(_ : Addr), (_ : List V), (_ : Int), (_ : V), rfl, rfl, SqL.of' (by walk_at "hf"), (by first | assumption | rfl), ?_⟩
  | refine ⟨(_ : Addr), (_ : List V), (_ : Int), (_ : V), rfl, rfl, (by walk_at "sqt" : SqT _ _ _ _), (by first | assumption | rfl), ?_⟩
  | refine .inl ⟨_, rfl, ?_⟩
  | refine ⟨_, _, rfl, .inl (by walk_at "sql" : SqL _ _ _ _), ?_⟩
  | refine ⟨_, _, rfl, .inl ⟨(by walk_at "sql" : SqL _ _ _ _), fun p hp => ?_⟩⟩
  | refine ⟨_, _, rfl, .inr ⟨(by walk_at "sqt" : SqT _ _ _ _), ?_⟩⟩
  | refine fun (p : Addr) (hp : (_ : Hp) p = none) => ?_
  | refine ⟨_, _, rfl, .inr (by walk_at "sqt" : SqT _ _ _ _), ?_⟩
  | refine And.intro (by show _ ≤ sizeLine; first | decide | walk_at "sz") (fun p hp => ?_)
  | refine ⟨(_ : Addr), (_ : Addr), (_ : List V), (_ : List V), rfl, rfl, (by walk_at "hf"), (by walk_at "hf"), (by walk_at "sz"), fun p hp => ?_⟩
  | refine ⟨(_ : Addr), (_ : Addr), (_ : List V), (_ : List V), rfl, rfl, (by walk_at "hf"), (by walk_at "hf"), (by walk_at "sz"), ?_⟩
  | refine ⟨(_ : Addr), (_ : List V), (_ : Int), (_ : Nat), rfl, rfl, (by walk_at "hf"), (by rfl), ?_⟩
  | refine And.intro ⟨_, (by walk_at "sql" : SqL _ _ _ _)⟩ ?_
  | refine And.intro ⟨_, (by walk_at "sqt" : SqT _ _ _ _)⟩ ?_
  | refine And.intro (.inl ⟨rfl, _, SqL.of' (by walk_at "hf")⟩) ?_
  | refine And.intro (by walk_at "cond") ?_
  | exact .inl ⟨rfl, _, SqL.of' (by walk_at "hf")⟩
  | with_reducible refine iteT ?_
  | with_reducible refine iteF ?_
  | refine And.intro (by rfl : scal _ _ = true) ?_
  | refine And.intro (by rfl : _ = V.non) ?_
  | refine And.intro (by rfl : wipe _ _ = wipe _ _) ?_
  | refine And.intro (by rfl : (_ : List V) = []) ?_
  | refine ⟨(_ : Addr), (_ : List V), rfl, (by walk_at "sqt" : SqT _ _ _ _), (by rfl), ?_⟩)
/-- a test: known, or both ways -/
local macro_rules | `(tactic| walk_at "if") => `(tactic| first
  | with_reducible refine itD (by omega) ?_
  | with_reducible refine itN (by omega) ?_
  | with_reducible refine itnD (by omega) ?_
  | with_reducible refine itnN (by omega) ?_
  | with_reducible refine itE (by omega) ?_
  | with_reducible refine itEn (by omega) ?_
  | with_reducible refine itnE (by omega) ?_
  | with_reducible refine itnEn (by omega) ?_
  | with_reducible refine itN (by intro z; cases z) ?_
  | with_reducible refine itD (by decide) ?_
  | with_reducible refine itN (by decide) ?_
  | with_reducible refine itnD (by decide) ?_
  | with_reducible refine itnN (by decide) ?_)
local macro_rules | `(tactic| walk_at "if2") => `(tactic| first
  | with_reducible refine itS (fun z => ?_) (fun z => ?_)
  | with_reducible refine itS' (fun z => ?_) (fun z => ?_)
  | with_reducible refine itSE (fun z => ?_) (fun z => ?_)
  | with_reducible refine itnS (fun z => ?_) (fun z => ?_)
  | with_reducible refine itnS' (fun z => ?_) (fun z => ?_)
  | with_reducible refine itnSE (fun z => ?_) (fun z => ?_))
local macro_rules | `(tactic| walk_at "go") => `(tactic| repeat' (first | walk_at "rd" | walk_at "if" | walk_at "if2" | fail))
local macro_rules | `(tactic| walk_at "sz") => `(tactic| (rw [sizeLine_eq]; simp only [List.length_append, List.length_map, List.length_cons, List.length_nil]; omega))
local macro_rules | `(tactic| walk_at "cond") => `(tactic| first | assumption | (show (_ : Int) ≠ 0; first | omega | (split <;> omega)) | (show (0 : Int) < _; first | assumption | decide) | exact ⟨by decide, by decide, by decide⟩ | exact .inr ⟨by decide, by decide⟩ | exact wide_div (b := 64) (by assumption) (by omega) (by decide) (by decide) | exact ⟨by decide, by decide⟩)


abbrev sITi : Stmt := L2.inClass (top 2) 0
abbrev sTi : Stmt := L2.inClass (top 21) 3
abbrev sPc : Stmt := L2.inClass (top 21) 4
abbrev sBr : Stmt := L2.inClass (top 21) 5
abbrev sLi : Stmt := L2.inClass (top 21) 6
abbrev sIsB : Stmt := L2.inClass (top 21) 8
def CRead' (K : PySem.W.Frag) (C : Addr) : Prop := ClX.CRead K C (.type "type")
def CVal' (K : PySem.W.Frag) (C : Addr) (f : Str) (v : V) (u : Value) : Prop := ClX.CVal K C (.type "type") f v u
/-- what the top has written of the program: BridgeError at CB, InvalidTown at CT with its __init__ at fT, Town at C -/
structure Prog (K : PySem.W.Frag) (mg : Str → Option Value) (CB CT fT C : Addr) (mB : Value) : Prop where
  gB : mg "BridgeError" = some (.ref CB)
  rdB : PySem.W.readsIn K CB mB = true
  sgB : PySem.W.specialIn K (.ref CB) "__getattribute__" = some (some (.builtin "type.__getattribute__"))
  inB : PySem.W.findCls K (.ref CB) mB "__init__" = some (.val (.builtin "ValueError.__init__"))
  gT : mg "InvalidTown" = some (.ref CT)
  ox : OexC K CT
  iT : PySem.W.findIn K (.ref CT) "__init__" = some (some (.ref fT))
  tT : PySem.W.typeIn K (.ref fT) = some (.type "function")
  nP : PySem.W.findIn K (.ref CT) "part" = some none
  nI : PySem.W.findIn K (.ref CT) "index" = some none
  mxl : ∃ u, mg "MAX_LENGTH" = some (.int 99 u)
  gC : mg "Town" = some (.ref C)
  cr : CRead' K C
  mlf : ∃ u, CVal' K C "MAX_LIFE" (.int 1000000000000000000) u
/-- the fields that InvalidTown(p, i) has -/
def itF (p : Str) (i : Int) : List (Str × V) := [("index", .int i), ("part", .str p)]
def spITi (K : PySem.W.Frag) (CT : Addr) : Sp := fun vs H Q _ => ∃ (a : Addr) (p : Str) (i : Int), vs = [.ref a, .str p, .int i] ∧ H a = some (exo a CT none) ∧ p.length ≤ 100 ∧ 0 ≤ i ∧ i ≤ 1000 ∧
  ∀ dx H', H dx = none → dx ≠ a → H' a = some (exo a CT (some dx)) → H' dx = some (exd dx (itF p i)) → (∀ b o, b ≠ a → H b = some o → H' b = some o) → Q .non H'
section
variable {P : Program} {w : World} {K : PySem.W.Frag} {mg : Str → Option Value} {base : Heap} {CB CT fT C : Addr} {mB : Value}
theorem scITi : FnScope ["self", "part", "index"] ["self", "part", "index"] (L2.defScope sITi) := ⟨rfl, rfl, rfl, by decide +kernel, rfl, by decide +kernel, by decide +kernel⟩
theorem ok_ITi {fd : FuncData} (F : L2.Fun K "__init__" "InvalidTown.__init__" sITi fT fd) (T : Prog K mg CB CT fT C mB) : FnOk P w K mg base L2.CX0 1 fT fd ["self", "part", "index"] (spITi K CT) := by
  refine F.ok scITi (fun vs H Q E h => ?_) (fun cdv A outer s H vs Q E hr h => ?_)
  · obtain ⟨a, p, i, rfl, _⟩ := h; rfl
  · obtain ⟨a, p, i, rfl, ha, pl, i0, i1, q⟩ := h
    refine ⟨_, pss_cons (ps_expr (pe_beinit (by rfl) T.gB T.rdB T.sgB T.inB (pa_cons (pv 0) (pa_cons (pe_joined (PJ.cons pe_str (PJ.cons (pe_fmt (pv 1)) (PJ.cons pe_str (PJ.cons (pe_fmt (pv 2)) PJ.nil))))) pa_nil))))
      (pss_cons (ps_ost (pv 0) (pv 1)) (pss_one (ps_ost (pv 0) (pv 2)))), ?_⟩
    have L0 : (Str.empty : Str).length = 0 := rfl
    have L1 : ("invalid town: " : Str).length = 14 := by decide +kernel
    have L2' : (", index " : Str).length = 8 := by decide +kernel
    have L3 : (Str.ofString (toString i)).length ≤ 4 := PyProof.Rows.toString_length_le i0 (by decide) (by omega)
    have lg : i.natAbs.log2 < 1920 := Nat.lt_of_lt_of_le (PySem.Flt.log2_lt_of (k := 10) (by decide) (by omega)) (by decide)
    walk_at "go"
    refine ⟨by rw [sizeLine_eq, Str.length_append, L0, L1]; omega, _, rfl, .inl ⟨p, rfl, by rw [sizeLine_eq]; omega, _, rfl, by rw [sizeLine_eq, Str.length_append, Str.length_append, L0, L1]; omega, _, rfl,
      by rw [sizeLine_eq, Str.length_append, Str.length_append, Str.length_append, L0, L1, L2']; omega, _, rfl, .inr ⟨i, rfl, lg, _, rfl, by rw [sizeLine_eq, Str.length_append, Str.length_append, Str.length_append, Str.length_append, L0, L1, L2']; omega, ?_⟩⟩⟩
    refine ⟨a, CT, _, rfl, by show 1 ≤ 1000; decide, T.ox, ha, ?_⟩
    refine ⟨_, rfl, _, rfl, a, CT, rfl, T.ox, T.nP, .inl ⟨ha, fun dx hdx nda => ?_⟩⟩
    refine ⟨_, rfl, _, rfl, a, CT, rfl, T.ox, T.nI, .inr ⟨dx, _, upd_same, up_set nda upd_same, by show 1 ≤ 900; decide, ?_⟩⟩
    exact q dx _ hdx nda (up_set (Ne.symm nda) upd_same) upd_same fun b o nb e => up_set (ne_of_none e hdx) (up_set nb (up_new e hdx))
def spIsB (K : PySem.W.Frag) : Sp := fun vs H Q _ => ∃ (a : Addr) (c : Int) (l : Lk), vs = [.int c, .ref a] ∧ SqT K H a (lv l) ∧ Q (.bl (isLink c l)) H
theorem scIsB : FnScope ["count", "bridge", "one", "other", "length", "life"] ["count", "bridge"] (L2.defScope sIsB) := ⟨rfl, rfl, rfl, by decide +kernel, rfl, by decide +kernel, by decide +kernel⟩
theorem ok_isB {fd : FuncData} {g : Addr} (F : L2.Fun K "is_bridge" "Town.is_bridge" sIsB g fd) (T0 : Prog K mg CB CT fT C mB) (T : BT mg) : FnOk P w K mg base L2.CX0 1 g fd ["count", "bridge"] (spIsB K) := by
  refine F.ok scIsB (fun vs H Q E h => ?_) (fun cdv A outer s H vs Q E hr h => ?_)
  · obtain ⟨a, c, l, rfl, _⟩ := h; rfl
  · obtain ⟨a, c, ⟨x, y, z, v⟩, rfl, ha, q⟩ := h
    obtain ⟨ul, hul⟩ := T0.mxl
    obtain ⟨uf, huf⟩ := T0.mlf
    refine ⟨_, (pss_cons (ps_if (pt_cmpR op_ne (pe_callB call_len_seq (by rfl) T.len PySem.boot_len (pa_cons (pv 1) pa_nil)) pe_int (nomark _)) (pss_one (ps_ret pe_bl)) pss_nil)
 (pss_cons (ps_asg (pv 1) (pg_tup rfl (pgs_cons (pg_name (i := 2) scIsB.nd rfl (Or.inl rfl)) (pgs_cons (pg_name (i := 3) scIsB.nd rfl (Or.inl rfl)) (pgs_cons (pg_name (i := 4) scIsB.nd rfl (Or.inl rfl)) (pgs_cons (pg_name (i := 5) scIsB.nd rfl (Or.inl rfl)) pgs_nil))))))
 (pss_cons (ps_if (PW.pt (pw_or (pt_not (pt_chain op_le op_lt pe_int (pv 2) (pv 0))) (pw_or (pt_not (pt_chain op_le op_lt pe_int (pv 3) (pv 0))) (pw_or1 (pt_cmpR op_eq (pv 2) (pv 3) (nomark _)))))) (pss_one (ps_ret pe_bl)) pss_nil)
 (pss_one (ps_ret (pe_and (pe_chain op_le op_le pe_int (pv 4) (pe_glob (v := .int 99) (by rfl) hul ⟨_, rfl⟩)) (pe_one (pe_chain op_le op_le pe_int (pv 5) (ClX.pe_cval (pe_gc (v := .ref C) (by rfl) ⟨_, T0.gC, rfl⟩)))))))))), ?_⟩
    have ha : SqT K H a [.int x, .int y, .int z, .int v] := ha
    walk_at "go"
    all_goals (first | (refine ⟨C, .type "type", .int 1000000000000000000, uf, rfl, T0.cr, huf, ?_⟩; walk_at "go") | skip)
    all_goals
      refine bl_as q ?_
      rw [Bool.eq_iff_iff]
      simp only [isLink, Bool.and_eq_true, Bool.or_eq_true, Bool.not_eq_true', Bool.or_eq_false_iff, decide_eq_true_eq, decide_eq_false_iff_not, Bool.false_eq_true, iff_false, reduceCtorEq]
      omega
/-! ### Town -/
def tF (c : Int) (t : Addr) : List (Str × V) := putF "_bridges" (.ref t) (putF "_count" (.int c) [])
theorem bc_ : ¬ (("_bridges" : Str) = "_count") := by decide +kernel
theorem tF_count (c : Int) (t : Addr) : (tF c t).lookup ("_count" : Str) = some (.int c) := by
  unfold tF
  rw [lookup_putF, if_neg (Ne.symm bc_), lookup_putF, if_pos rfl]
theorem tF_bridges (c : Int) (t : Addr) : (tF c t).lookup ("_bridges" : Str) = some (.ref t) := by
  unfold tF
  rw [lookup_putF, if_pos rfl]
structure PTown (K : PySem.W.Frag) (mg : Str → Option Value) (C pS gS : Addr) : Prop where
  cl : Cls K C
  nC : NoAttr K C "_count"
  nB : NoAttr K C "_bridges"
  mp : ∃ u, Con K C "MAX_PLACES" (.int 12) u
  mb : ∃ u, Con K C "MAX_BRIDGES" (.int 24) u
  st : SInst K C "is_bridge" pS gS
  kS : PySem.W.keepIn K (.ref gS) = true
def spTi (K : PySem.W.Frag) (C CT : Addr) : Sp := fun vs H Q E => ∃ (x dx t : Addr) (c : Int) (ls : List Lk), vs = [.ref x, .int c, .ref t] ∧ H x = some (.ins C dx []) ∧ Ls K H t ls ∧ ls.length ≤ 1000 ∧
  (∀ r, firstBad c ls = some r → ∀ d H', Same H H' → H d = none → H' d = some (.xd (itF r.1 r.2)) → E (.ref CT) (some d) H') ∧
  (firstBad c ls = none → ∀ H', (∀ b o, b ≠ x → H b = some o → H' b = some o) → H' x = some (.ins C dx (tF c t)) → Q .non H')
theorem SqT.ins {K : PySem.W.Frag} {H : Hp} {a x C dx : Addr} {fs gs : List (Str × V)} {xs : List V} (h : SqT K H a xs) (hx : H x = some (.ins C dx fs)) : SqT K (upd H x (.ins C dx gs)) a xs := by
  rcases h with (t | ⟨q, t⟩) | t
  · exact .inl (.inl (up_set (ne_of t hx (fun z => nomatch z)) t))
  · exact .inl (.inr ⟨q, up_set (ne_of t hx (fun z => nomatch z)) t⟩)
  · exact .inr t
theorem raise_it {H1 : Hp} {p : Str} {i : Int} {Wk : XK} (pl : p.length ≤ 100) (i0 : 0 ≤ i) (i1 : i ≤ 1000) (k : ∀ d H', Same H1 H' → H1 d = none → H' d = some (.xd (itF p i)) → Wk (.ref CT) (some d) H') :
    ([V.str p, V.int i] : List V).length ≤ 1000 ∧ ∀ a, H1 a = none → spITi K CT (.ref a :: ([.str p, .int i] ++ [])) (upd H1 a (exo a CT none))
      (fun v H2 => v = .non ∧ ∃ (d : Addr) (fs : List (Str × V)), H2 a = some (exo a CT (some d)) ∧ H2 d = some (exd d fs) ∧ H1 d = none ∧ Wk (.ref CT) (some d) (upd (L2.del H2 a) d (.xd fs))) (fun _ _ _ => False) := by
  refine ⟨by show 2 ≤ 1000; decide, fun a ha => ⟨a, p, i, rfl, upd_same, pl, i0, i1, fun dx H' hdx nda e1 e2 old => ?_⟩⟩
  rw [upd_ne nda] at hdx
  refine ⟨rfl, dx, itF p i, e1, e2, hdx, k dx _ (fun b o e => ?_) hdx upd_same⟩
  have nba : b ≠ a := ne_of_none e ha
  rw [upd_ne (ne_of_none e hdx), L2.del_ne nba]
  exact old b o nba (up_set nba e)
theorem scTi : FnScope ["self", "count", "bridges", "index", "bridge"] ["self", "count", "bridges"] (L2.defScope sTi) := ⟨rfl, rfl, rfl, by decide +kernel, rfl, by decide +kernel, by decide +kernel⟩
theorem ok_Ti {f pS gS : Addr} {fd fdS fdT : FuncData} (F : L2.Fun K "__init__" "Town.__init__" sTi f fd) (T0 : Prog K mg CB CT fT C mB) (TT : PTown K mg C pS gS) (T : BT mg)
    (FS : FnOk P w K mg base L2.CX0 1 gS fdS ["count", "bridge"] (spIsB K)) (bS : Binds K fdS ["count", "bridge"] [])
    (FT : FnOk P w K mg base L2.CX0 1 fT fdT ["self", "part", "index"] (spITi K CT)) (bT : Binds K fdT ["self", "part", "index"] []) :
    FnOk P w K mg base (L2.CX P w) 3 f fd ["self", "count", "bridges"] (spTi K C CT) := by
  refine F.okX scTi (fun vs H Q E h => ?_) (fun cdv A outer s H vs Q E hr h => ?_)
  · obtain ⟨x, dx, t, c, ls, rfl, _⟩ := h; rfl
  · obtain ⟨x, dx, t, c, ls, rfl, hx, ⟨vs, ht, ll⟩, hlen, kE, kQ⟩ := h
    have hr1 : Room 1 _ := hr.mono (by decide : 1 ≤ 2)
    refine ⟨_, (pss_cons (ps_if (pt_not (pt_chain op_le op_le pe_int (pv 1) (pe_con (pv 0) rfl))) (pss_one (ps_raise rfl (takes_of rfl rfl rfl rfl) (pmk_oex T0.ox T0.iT T0.tT FT hr bT .nil L2.pass0 (by rfl) T0.gT (pa_cons pe_str (pa_cons pe_int pa_nil))))) pss_nil)
 (pss_cons (ps_for (passes_of rfl) rfl (pi_enumT (by rfl) T.enumerate (pa_cons (pv 2) pa_nil)) (pg_tup rfl (pgs_cons (pg_name (i := 3) scTi.nd rfl (Or.inl rfl)) (pgs_cons (pg_name (i := 4) scTi.nd rfl (Or.inl rfl)) pgs_nil))) (pss_one (ps_if (PW.pt (pw_or (pt_cmpR op_eq (pv 3) (pe_con (pv 0) rfl) (nomark _)) (pw_or1 (pt_not (pt_val (pe_plain (pv 0) (hands_inst TT.st) TT.kS FS hr1 bS L2.pass0 (pa_cons (pv 1) (pa_cons (pv 4) pa_nil)))))))) (pss_one (ps_raise rfl (takes_of rfl rfl rfl rfl) (pmk_oex T0.ox T0.iT T0.tT FT hr bT .nil L2.pass0 (by rfl) T0.gT (pa_cons pe_str (pa_cons (pv 3) pa_nil))))) pss_nil)))
 (pss_cons (ps_fld (pv 0) (pv 1) rfl)
 (pss_one (ps_fld (pv 0) (pe_callTy call_tuple_of (by rfl) T.tuple (by decide +kernel) (pa_cons (pv 2) pa_nil)) rfl))))), ?_⟩
    obtain ⟨u12, hmp⟩ := TT.mp
    obtain ⟨u24, hmb⟩ := TT.mb
    have hv := ll.1
    have out0 : ¬ (1 ≤ c ∧ c ≤ 12) → ∀ d H', Same H H' → H d = none → H' d = some (.xd (itF "count" 0)) → E (.ref CT) (some d) H' := fun hc d H' sm hd e => by
      refine kE ("count", 0) ?_ d H' sm hd e
      unfold firstBad
      rw [if_neg hc]
    walk_at "go"
    · refine ⟨x, C, dx, [], .int 12, u12, rfl, hx, TT.cl, hmp, rfl, ?_⟩
      walk_at "go"
      · exact raise_it (by decide +kernel) (by decide) (by decide) (out0 (by omega))
      · have hc : 1 ≤ c ∧ c ≤ 12 := by omega
        refine ⟨t, vs, rfl, ht, for_enumT (fun i σ H' => Same H H' ∧ (∃ v3 v4, σ = [some (.ref x), some (.int c), some (.ref t), v3, v4]) ∧ ∀ j l, j < i → ls[j]? = some l → badAt c l j = false)
          ⟨Same.refl H, ⟨none, none, rfl⟩, fun j l hj _ => absurd hj (Nat.not_lt_zero _)⟩ (fun i σ H' ⟨sm, _⟩ => Same.tup sm ht) ?_ ?_⟩
        · rintro i y T9 σ H' hy hT9 ⟨sm, ⟨v3, v4, rfl⟩, hb⟩
          have hi' : i < ls.length := by have := (List.getElem?_eq_some_iff.mp hy).1; omega
          obtain ⟨l, hl⟩ : ∃ l, ls[i]? = some l := ⟨_, List.getElem?_eq_getElem hi'⟩
          obtain ⟨a, ha, hta⟩ := ll.2 i l hl
          rw [hy] at ha
          cases ha
          have hx' : upd H' T9 (.tup [.int (i : Nat), .ref a]) x = some (.ins C dx []) := up_new (sm _ _ hx) hT9
          have hta' : SqT K (upd H' T9 (.tup [.int (i : Nat), .ref a])) a (lv l) := SqT.new (Same.tup sm hta) hT9
          have sm' : Same H (upd H' T9 (.tup [.int (i : Nat), .ref a])) := sm.trans (Same.upd' hT9)
          have out : badAt c l i = true → ∀ d H2, Same (upd H' T9 (.tup [.int (i : Nat), .ref a])) H2 → upd H' T9 (.tup [.int (i : Nat), .ref a]) d = none → H2 d = some (.xd (itF "bridges" i)) → E (.ref CT) (some d) H2 := fun hbad d H2 sm2 hd e => by
            refine kE ("bridges", (i : Int)) ?_ d H2 (sm'.trans sm2) (sm'.free hd) e
            unfold firstBad
            rw [if_pos hc, firstFrom_some (k := 0) (i := i) (m := l) (fun j l' hj e => by rw [Nat.zero_add]; exact hb j l' hj e) hl (by rw [Nat.zero_add]; exact hbad), Nat.zero_add] <;> rfl
          walk_at "go"
          refine ⟨x, C, dx, [], .int 24, u24, rfl, hx', TT.cl, hmb, rfl, ?_⟩
          walk_at "go"
          · exact raise_it (by decide +kernel) (by omega) (by omega) (out (by unfold badAt; rw [decide_eq_true (show i = 24 by omega)]; rfl))
          · refine ⟨⟨x, dx, [], rfl, hx', rfl⟩, ?_⟩
            walk_at "go"
            refine ⟨a, c, l, rfl, hta', ?_⟩
            have i24 : decide (i = 24) = false := decide_eq_false (by omega)
            cases hk : isLink c l
            · walk_at "go"
              exact raise_it (by decide +kernel) (by omega) (by omega) (out (by unfold badAt; rw [hk, i24]; rfl))
            · walk_at "go"
              refine ⟨⟨_, _, rfl⟩, fun j l' hj e => ?_⟩
              by_cases hji : j = i
              · subst hji
                rw [hl] at e
                cases e
                unfold badAt
                rw [hk, i24]; rfl
              · exact hb j l' (by omega) e
        · rintro σ H' ⟨sm, ⟨v3, v4, rfl⟩, hb⟩
          have hx1 := sm _ _ hx
          have ht1 : SqT K (upd H' x (.ins C dx (putF "_count" (.int c) []))) t vs := SqT.ins (Same.tup sm ht) hx1
          refine ⟨_, rfl, _, rfl, x, C, dx, [], rfl, hx1, TT.cl, TT.nC, by decide, ?_⟩
          refine ⟨_, rfl, _, _, rfl, .inr ⟨ht1, _, rfl, x, C, dx, _, rfl, upd_same, TT.cl, TT.nB, by show 1 < 1000; decide, ?_⟩⟩
          refine kQ ?_ _ (fun b o nb e => up_set nb (up_set nb (sm _ _ e))) upd_same
          unfold firstBad
          rw [if_pos hc, firstFrom_none (fun j l e => by rw [Nat.zero_add]; exact hb j l (by have := (List.getElem?_eq_some_iff.mp e).1; omega) e)] <;> rfl
    · exact raise_it (by decide +kernel) (by decide) (by decide) (out0 (by omega))
end
end T1

set_option Elab.async false
set_option linter.all false
set_option maxRecDepth 100000
set_option maxHeartbeats 4000000
namespace T1
open PySem PySem.Spec PyProof.Rows L2 C8
local macro_rules | `(tactic| walk_at "hf") => `(tactic| (fail_if_success (show (fun _ => none : Hp) _ = _)); first | assumption | with_reducible exact upd_same | ((with_reducible show upd _ _ _ _ = _); first | exact up_new' (by assumption) (by walk_at "hf") | exact up_set (by walk_at "ne") (by walk_at "hf")) | exact Same.at' (by assumption) (by walk_at "hf") | exact But.at' (by assumption) (by walk_at "ne") (by walk_at "ne") (by walk_at "hf"))
local macro_rules | `(tactic| walk_at "hf0") => `(tactic| (fail_if_success (show (fun _ => none : Hp) _ = _)); first | assumption | with_reducible exact upd_same | ((with_reducible show upd _ _ _ _ = _); exact up_new' (by assumption) (by walk_at "hf0")))
local macro_rules | `(tactic| walk_at "ne") => `(tactic| first | assumption | (apply Ne.symm; assumption) | exact ne_of_none' (by assumption) (by walk_at "hf0") | exact Ne.symm (ne_of_none' (by assumption) (by walk_at "hf0")) | exact LSt.f1 (by assumption) (by walk_at "lst") | exact LSt.f2 (by assumption) (by walk_at "lst"))
local macro_rules | `(tactic| walk_at "sqt") => `(tactic| (fail_if_success (show SqT _ (fun _ => none) _ _)); first | assumption | exact SqT.of' (by walk_at "hf") | ((with_reducible show SqT _ (upd _ _ _) _ _); first | exact SqT.new' (by assumption) (by walk_at "sqt") | exact SqT.put' (by walk_at "hf") (by walk_at "sqt")) | exact Same.tup (by assumption) (by walk_at "sqt") | exact But.tup (by assumption) (by walk_at "lst") (by walk_at "sqt"))
local macro_rules | `(tactic| walk_at "sql") => `(tactic| (fail_if_success (show SqL _ (fun _ => none) _ _)); first | assumption | exact SqL.of' (by walk_at "hf") | ((with_reducible show SqL _ (upd _ _ _) _ _); exact SqL.new' (by assumption) (by walk_at "sql")) | exact Same.sql' (by assumption) (by walk_at "sql"))
local macro_rules | `(tactic| walk_at "lst") => `(tactic| (fail_if_success (show LSt (fun _ => none) _ _)); first | assumption | ((with_reducible show LSt (upd _ _ _) _ _); first | exact LSt.new (by walk_at "lst") (by assumption) | exact LSt.put (by walk_at "lst") (by walk_at "ne") (by walk_at "ne")) | exact LSt.same' (by assumption) (by walk_at "lst"))
local macro_rules | `(tactic| walk_at "but") => `(tactic| first | assumption | exact But.refl _ _ _ | ((with_reducible show But _ _ _ (upd _ _ _)); exact But.nw (by assumption) (by walk_at "but")) | exact But.bu (by assumption) (by walk_at "but") | exact But.sm (by assumption) (by walk_at "but"))
local macro_rules | `(tactic| walk_at "ls") => `(tactic| first | assumption | exact Ls.same (by walk_at "ls") (Same.upd' (by assumption)))
local macro_rules | `(tactic| walk_at "ll") => `(tactic| first | assumption | exact LL.same (by walk_at "ll") (Same.upd' (by assumption)) | exact LL.same' (by assumption) (by walk_at "ll") | exact LL.but' (by assumption) (by walk_at "lst") (by walk_at "ll"))
local macro_rules | `(tactic| walk_at "sm") => `(tactic| first | assumption | exact Same.refl _ | ((with_reducible show Same _ (upd _ _ _)); first | exact Same.put' (by assumption) (by walk_at "sm") | exact Same.trans (by walk_at "sm") (Same.upd' (by assumption))) | exact Same.trans (by walk_at "sm") (by assumption))
/-- one step of a reading -/
local macro_rules | `(tactic| walk_at "rd") => `(tactic| first
  | with_reducible refine iteF ?_
  | with_reducible refine iteT ?_
  | with_reducible refine itNotF ?_
  | with_reducible refine itNotT ?_
  | refine ⟨_, rfl, ?_⟩
  | refine ⟨_, _, rfl, rfl, ?_⟩
  | refine ⟨_, _, rfl, ?_⟩
  | refine ⟨(_ : Addr), (_ : List V), (_ : Int), (_ : V), rfl, rfl, SqL.of' (by walk_at "hf"), (by first | assumption | rfl), ?_⟩
  | refine ⟨(_ : Addr), (_ : List V), (_ : Int), (_ : V), rfl, rfl, (by walk_at "sqt" : SqT _ _ _ _), (by first | assumption | rfl), ?_⟩
  | refine .inl ⟨_, rfl, ?_⟩
  | refine ⟨_, _, rfl, .inl (by walk_at "sql" : SqL _ _ _ _), ?_⟩
  | refine ⟨_, _, rfl, .inl ⟨(by walk_at "sql" : SqL _ _ _ _), fun p hp => ?_⟩⟩
  | refine ⟨_, _, rfl, .inr ⟨(by walk_at "sqt" : SqT _ _ _ _), ?_⟩⟩
  | refine fun (p : Addr) (hp : (_ : Hp) p = none) => ?_
  | refine ⟨_, _, rfl, .inr (by walk_at "sqt" : SqT _ _ _ _), ?_⟩
  | refine And.intro (by show _ ≤ sizeLine; first | decide | walk_at "sz") (fun p hp => ?_)
  | refine ⟨(_ : Addr), (_ : Addr), (_ : List V), (_ : List V), rfl, rfl, (by walk_at "hf"), (by walk_at "hf"), (by walk_at "sz"), fun p hp => ?_⟩
  | refine ⟨(_ : Addr), (_ : Addr), (_ : List V), (_ : List V), rfl, rfl, (by walk_at "hf"), (by walk_at "hf"), (by walk_at "sz"), ?_⟩
  | refine ⟨(_ : Addr), (_ : List V), (_ : Int), (_ : Nat), rfl, rfl, (by walk_at "hf"), (by rfl), ?_⟩
  | refine And.intro ⟨_, (by walk_at "sql" : SqL _ _ _ _)⟩ ?_
  | refine And.intro ⟨_, (by walk_at "sqt" : SqT _ _ _ _)⟩ ?_
  | refine And.intro (.inl ⟨rfl, _, SqL.of' (by walk_at "hf")⟩) ?_
  | refine And.intro (by walk_at "cond") ?_
  | exact .inl ⟨rfl, _, SqL.of' (by walk_at "hf")⟩
  | with_reducible refine iteT ?_
  | with_reducible refine iteF ?_
  | refine And.intro (by rfl : scal _ _ = true) ?_
  | refine And.intro (by rfl : _ = V.non) ?_
  | refine And.intro (by rfl : wipe _ _ = wipe _ _) ?_
  | refine And.intro (by rfl : (_ : List V) = []) ?_
  | refine ⟨(_ : Addr), (_ : List V), rfl, (by walk_at "sqt" : SqT _ _ _ _), (by rfl), ?_⟩)
/-- a test: known, or both ways -/
local macro_rules | `(tactic| walk_at "if") => `(tactic| first
  | with_reducible refine itD (by omega) ?_
  | with_reducible refine itN (by omega) ?_
  | with_reducible refine itnD (by omega) ?_
  | with_reducible refine itnN (by omega) ?_
  | with_reducible refine itE (by omega) ?_
  | with_reducible refine itEn (by omega) ?_
  | with_reducible refine itnE (by omega) ?_
  | with_reducible refine itnEn (by omega) ?_
  | with_reducible refine itN (by intro z; cases z) ?_
  | with_reducible refine itD (by decide) ?_
  | with_reducible refine itN (by decide) ?_
  | with_reducible refine itnD (by decide) ?_
  | with_reducible refine itnN (by decide) ?_)
local macro_rules | `(tactic| walk_at "if2") => `(tactic| first
  | with_reducible refine itS (fun z => ?_) (fun z => ?_)
  | with_reducible refine itS' (fun z => ?_) (fun z => ?_)
  | with_reducible refine itSE (fun z => ?_) (fun z => ?_)
  | with_reducible refine itnS (fun z => ?_) (fun z => ?_)
  | with_reducible refine itnS' (fun z => ?_) (fun z => ?_)
  | with_reducible refine itnSE (fun z => ?_) (fun z => ?_))
local macro_rules | `(tactic| walk_at "go") => `(tactic| repeat' (first | walk_at "rd" | walk_at "if" | walk_at "if2" | fail))
local macro_rules | `(tactic| walk_at "sz") => `(tactic| (rw [sizeLine_eq]; simp only [List.length_append, List.length_map, List.length_cons, List.length_nil]; omega))
local macro_rules | `(tactic| walk_at "cond") => `(tactic| first | assumption | (show (_ : Int) ≠ 0; first | omega | (split <;> omega)) | (show (0 : Int) < _; first | assumption | decide) | exact ⟨by decide, by decide, by decide⟩ | exact .inr ⟨by decide, by decide⟩ | exact wide_div (b := 64) (by assumption) (by omega) (by decide) (by decide) | exact ⟨by decide, by decide⟩)


/-! ### list.count of flat things -/
theorem cnt_eqU {y : V} : ∀ {ys : List V} {us : List Value}, Vals ys us → ys.all flatV = true → us.countP (eqU y) = ys.countP fun z => eqV z y
  | _, _, .nil, _ => rfl
  | z :: ys, u :: us, .cons r t, f => by
    rw [List.all_cons, Bool.and_eq_true] at f
    rw [List.countP_cons, List.countP_cons, cnt_eqU t f.2, eqU_of r f.1]
theorem mt_cntV {X : Cx} : MtR X "list.count" (fun x xs H Q => ∃ (a : Addr) (ys : List V) (y : V), x = .ref a ∧ xs = [y] ∧ SqL X.K H a ys ∧ flatV y = true ∧ ys.all flatV = true ∧ Q (.int ((ys.countP fun z => eqV z y : Nat))) H) := by
  rintro pins s σ H _ _ v us Q I rx rxs ⟨a, ys, y, rfl, rfl, hs, fy, fys, q⟩
  cases rx
  obtain _ | ⟨ry, _ | _⟩ := rxs
  rename_i uy
  obtain ⟨its, rv, ⟨⟨c, dd, dt, sl⟩, n, ho, hc, _, hd⟩, _⟩ := I.list hs
  obtain rfl : c = .type "list" := hc
  obtain rfl : dt = .seq its.toArray n := hd
  refine call_meets PySem.F.slot_list_count ⟨_, ho, rfl⟩ PySem.F.entry_list_count (PySem.F.args_list_count_2 _ _)
    (SeqAt.list_countAt a its.toArray n dd sl uy (eqU y)) ⟨ho, fun u hu => mem_eqAt ry fy rv fys u (by simpa using hu), ?_⟩
  refine ⟨.int ((ys.countP fun z => eqV z y : Nat)), H, I.tok _, ⟨s.toks, ?_⟩, q⟩
  show Value.int ((its.toArray.toList.countP (eqU y) : Nat) : Int) s.toks = _
  rw [List.toList_toArray, cnt_eqU rv fys]
/-! ### what the law's catcher makes of a call -/
/-- the module's error classes: their names and where they stand -/
structure Errs (K : PySem.W.Frag) (mg : Str → Option Value) (CB CT : Addr) : Prop where
  gB : mg "BridgeError" = some (.ref CB)
  gT : mg "InvalidTown" = some (.ref CT)
  at_ : ∀ x ∈ (["InvalidText", "InvalidTrips", "InvalidCount", "InvalidLife", "InvalidLoad", "UnknownPlace", "UnknownBridge", "UnknownKind", "TooManyBridges", "DifferentTowns", "Contradiction"] : List Str), ∃ c : Addr, mg x = some (.ref c) ∧ PySem.W.kitOne K (.ref CT) (.ref c) = some false
  own : PySem.W.kitOne K (.ref CT) (.ref CT) = some true
  ve : PySem.W.kitOne K (.ref CT) (.type "ValueError") = some true
  gV : mg "ValueError" = none
  ex : ExcC K CT
  xf : XfC K CT
  nP : PySem.W.findIn K (.ref CT) "part" = some none
  nI : PySem.W.findIn K (.ref CT) "index" = some none
  em : PySem.W.exmOne K (.ref CT) (.ref CB) = some true
def TTerr (K : PySem.W.Frag) (CT : Addr) : (XK → Hp → VK → Prop) → Hp → VK → Prop := fun tl H Q =>
  tl (fun cls d H' => cls = .ref CT ∧ ∃ dd p i, d = some dd ∧ H' dd = some (.xd (itF p i)) ∧ ∀ v H'', Same H' H'' → (∃ a, v = .ref a ∧ SqT K H'' a [.str "town", .str p, .int i]) → Q v H'') H
    (fun _ H' => 1 ≤ sizeLine ∧ ∀ a, H' a = none → Q (.ref a) (upd H' a (.tup [.str "none"])))
def trySuite (s : Stmt) : List Stmt := match s with
  | .Try _ (.ExceptHandler _ _ b _ :: _) _ _ _ => b
  | _ => []
abbrev sSuite : List Stmt := trySuite ((fnBody sError).getD 0 (.Pass ⟨0, 0, 0, 0⟩))
local macro_rules | `(tactic| walk_at "isd") => `(tactic| first
  | refine ⟨_, _, _, _, rfl, (by walk_at "hf"), (fun _ z => z), (by assumption), ?_⟩
  | refine ⟨_, _, _, rfl, rfl, (by walk_at "sql" : SqL _ _ _ _), (by rfl), (by rfl), ?_⟩
  | refine ⟨rfl, rfl, _, _, _, rfl, (by walk_at "hf"), (by rfl), ?_⟩)
local macro_rules | `(tactic| walk_at "go3") => `(tactic| repeat' (first | walk_at "rd" | walk_at "if" | walk_at "isd" | fail))
/-- the call of what the catcher got, for the try's body -/
def TCall (f c' : Addr) (q : Str) (tl : XK → Hp → VK → Prop) : WX → TS := fun W D σ H =>
  ∃ Ech : XK, (∀ cls d σ' H', Ech cls d H' → W cls d σ' H') ∧ σ[0]? = some (some (.ref f)) ∧ H c' = some (LamX.CodeO c' q) ∧ tl Ech H fun _ H' => D.nx σ H'
/-- the suite, for an InvalidTown alone -/
def TSu (K : PySem.W.Frag) (CT : Addr) : Addr → Value → Option Addr → TS := fun a cls d D σ H =>
  ∃ (dd : Addr) (p : Str) (i : Int) (τ : L2.St), cls = .ref CT ∧ d = some dd ∧ σ = τ.set 1 (some (.ref a)) ∧ H dd = some (.xd (itF p i)) ∧ ∀ b H2, Same H H2 → SqT K H2 b [.str "town", .str p, .int i] → D.rt (.ref b) H2
theorem scErr : FnScope ["_law_call", "e", "_law_kinds", "_law_names", "_law_name"] ["_law_call"] (fnScope sError) := fnScope_by (by decide +kernel)
theorem err_gives {X : Cx} {g CB CT : Addr} {cdg : Value} {q : Str} (T : BT X.mg) (T1 : Errs X.K X.mg CB CT) :
    LamX.GivesTo X ["_law_call", "e", "_law_kinds", "_law_names", "_law_name"] "_law_error" (fnScope sError) g cdg (fnBody sError) "_law_call" q (TTerr X.K CT) := by
  intro f c' s H Q tl act hc h
  obtain ⟨c0, g0, k0⟩ := T1.at_ "InvalidText" (by simp)
  obtain ⟨c1, g1, k1⟩ := T1.at_ "InvalidTrips" (by simp)
  obtain ⟨c2, g2, k2⟩ := T1.at_ "InvalidCount" (by simp)
  obtain ⟨c3, g3, k3⟩ := T1.at_ "InvalidLife" (by simp)
  obtain ⟨c4, g4, k4⟩ := T1.at_ "InvalidLoad" (by simp)
  obtain ⟨c5, g5, k5⟩ := T1.at_ "UnknownPlace" (by simp)
  obtain ⟨c6, g6, k6⟩ := T1.at_ "UnknownBridge" (by simp)
  obtain ⟨c7, g7, k7⟩ := T1.at_ "UnknownKind" (by simp)
  obtain ⟨c8, g8, k8⟩ := T1.at_ "TooManyBridges" (by simp)
  obtain ⟨c9, g9, k9⟩ := T1.at_ "DifferentTowns" (by simp)
  obtain ⟨c10, g10, k10⟩ := T1.at_ "Contradiction" (by simp)
  let X0 : Cx := (cxOf C8.CX0 X.prog X.w X.K X.mg X.base ["_law_call", "e", "_law_kinds", "_law_names", "_law_name"] "_law_error" (fnScope sError) g cdg X.A X.stack s H C8.E0).nox
  have su : ∀ (a dd : Addr) (oe : Obj) (pn : List (Addr × Obj)), Zc (.ref CT) (some dd) oe → (∃ vs, oe.data = .fields vs) → ∃ t : TS, PSs (X0.suite a ((a, oe) :: pn)) sSuite t ∧
      ∀ (D : Ends) (v0 v2 v3 v4 : Option V) (H1 : Hp) (p : Str) (i : Int), H1 dd = some (.xd (itF p i)) → (∀ b H2, Same H1 H2 → SqT X.K H2 b [.str "town", .str p, .int i] → D.rt (.ref b) H2) → t D [v0, some (.ref a), v2, v3, v4] H1 := by
    intro a dd oe pn hz hf
    refine ⟨_, (pss_cons (ps_set (i := 2) scErr.nd rfl (Or.inl rfl) (pe_lst (pa_cons (pe_callB (call_isD (X := X0) T1.ex hz hf) (by rfl) T.isinstance (by decide +kernel) (pa_cons (pv 1) (pa_cons (pe_gc (v := .ref CT) (by rfl) ⟨_, T1.gT, rfl⟩) pa_nil))) (pa_cons (pe_callB (call_isD (X := X0) T1.ex hz hf) (by rfl) T.isinstance (by decide +kernel) (pa_cons (pv 1) (pa_cons (pe_gc (v := .ref c0) (by rfl) ⟨_, g0, rfl⟩) pa_nil))) (pa_cons (pe_callB (call_isD (X := X0) T1.ex hz hf) (by rfl) T.isinstance (by decide +kernel) (pa_cons (pv 1) (pa_cons (pe_gc (v := .ref c1) (by rfl) ⟨_, g1, rfl⟩) pa_nil))) pa_nil)))))
 (pss_cons (ps_expr (pe_bm PySem.F.plainAttrs_list PySem.F.slot_list_extend PySem.F.type_list_extend mt_extend (pv 2) (pa_cons (pe_lst (pa_cons (pe_callB (call_isD (X := X0) T1.ex hz hf) (by rfl) T.isinstance (by decide +kernel) (pa_cons (pv 1) (pa_cons (pe_gc (v := .ref c2) (by rfl) ⟨_, g2, rfl⟩) pa_nil))) (pa_cons (pe_callB (call_isD (X := X0) T1.ex hz hf) (by rfl) T.isinstance (by decide +kernel) (pa_cons (pv 1) (pa_cons (pe_gc (v := .ref c3) (by rfl) ⟨_, g3, rfl⟩) pa_nil))) (pa_cons (pe_callB (call_isD (X := X0) T1.ex hz hf) (by rfl) T.isinstance (by decide +kernel) (pa_cons (pv 1) (pa_cons (pe_gc (v := .ref c4) (by rfl) ⟨_, g4, rfl⟩) pa_nil))) pa_nil)))) pa_nil)))
 (pss_cons (ps_expr (pe_bm PySem.F.plainAttrs_list PySem.F.slot_list_extend PySem.F.type_list_extend mt_extend (pv 2) (pa_cons (pe_lst (pa_cons (pe_callB (call_isD (X := X0) T1.ex hz hf) (by rfl) T.isinstance (by decide +kernel) (pa_cons (pv 1) (pa_cons (pe_gc (v := .ref c5) (by rfl) ⟨_, g5, rfl⟩) pa_nil))) (pa_cons (pe_callB (call_isD (X := X0) T1.ex hz hf) (by rfl) T.isinstance (by decide +kernel) (pa_cons (pv 1) (pa_cons (pe_gc (v := .ref c6) (by rfl) ⟨_, g6, rfl⟩) pa_nil))) (pa_cons (pe_callB (call_isD (X := X0) T1.ex hz hf) (by rfl) T.isinstance (by decide +kernel) (pa_cons (pv 1) (pa_cons (pe_gc (v := .ref c7) (by rfl) ⟨_, g7, rfl⟩) pa_nil))) pa_nil)))) pa_nil)))
 (pss_cons (ps_expr (pe_bm PySem.F.plainAttrs_list PySem.F.slot_list_extend PySem.F.type_list_extend mt_extend (pv 2) (pa_cons (pe_lst (pa_cons (pe_callB (call_isD (X := X0) T1.ex hz hf) (by rfl) T.isinstance (by decide +kernel) (pa_cons (pv 1) (pa_cons (pe_gc (v := .ref c8) (by rfl) ⟨_, g8, rfl⟩) pa_nil))) (pa_cons (pe_callB (call_isD (X := X0) T1.ex hz hf) (by rfl) T.isinstance (by decide +kernel) (pa_cons (pv 1) (pa_cons (pe_gc (v := .ref c9) (by rfl) ⟨_, g9, rfl⟩) pa_nil))) (pa_cons (pe_callB (call_isD (X := X0) T1.ex hz hf) (by rfl) T.isinstance (by decide +kernel) (pa_cons (pv 1) (pa_cons (pe_gc (v := .ref c10) (by rfl) ⟨_, g10, rfl⟩) pa_nil))) pa_nil)))) pa_nil)))
 (pss_cons (ps_if (PW.pt (pw_or (pt_cmpR op_ne (pe_bm PySem.F.plainAttrs_list PySem.F.slot_list_count PySem.F.type_list_count mt_cntV (pv 2) (pa_cons pe_bl pa_nil)) pe_int (nomark _)) (pw_or1 (pt_not (pt_val (pe_callB (call_isD (X := X0) T1.ex hz hf) (by rfl) T.isinstance (by decide +kernel) (pa_cons (pv 1) (pa_cons (pe_bltn (v := .ty "ValueError") (by rfl) T1.gV (by decide +kernel) rfl) pa_nil)))))))) (pss_one (ps_ret (pe_tup (pa_cons pe_str pa_nil)))) pss_nil)
 (pss_cons (ps_set (i := 3) scErr.nd rfl (Or.inl rfl) (pe_lst (pa_cons pe_str (pa_cons pe_str (pa_cons pe_str (pa_cons pe_str (pa_cons pe_str (pa_cons pe_str (pa_cons pe_str (pa_cons pe_str (pa_cons pe_str (pa_cons pe_str (pa_cons pe_str pa_nil)))))))))))))
 (pss_cons (ps_set (i := 4) scErr.nd rfl (Or.inl rfl) (pe_ix ix_list (pe_op op_cat (pv 3) (pe_lst (pa_cons pe_str pa_nil))) (pe_bm PySem.F.plainAttrs_list PySem.F.slot_list_index PySem.F.type_list_index mt_index (pv 2) (pa_cons pe_bl pa_nil)) (fun _ _ => rfl)))
 (pss_cons (ps_if (pt_cmpR op_eq (pv 4) pe_str (nomark _)) (pss_one (ps_ret (pe_tup (pa_cons (pv 4) (pa_cons (pe_xf (X := X0) T1.xf T1.nP hz hf (pv 1)) (pa_cons (pe_xf (X := X0) T1.xf T1.nI hz hf (pv 1)) pa_nil)))))) pss_nil)
 (pss_cons ps_never
 (pss_one ps_never)))))))))), fun D v0 v2 v3 v4 H1 p i hdd k => ?_⟩
    have kO := T1.own
    have kV := T1.ve
    walk_at "go3"
    refine ⟨_, _, _, 0, .bl true, rfl, rfl, (by walk_at "sql" : SqL _ _ _ _), rfl, rfl, rfl, rfl, fun m z h => absurd h (Nat.not_lt_zero m), ?_⟩
    walk_at "go3"
    exact k _ _ (by walk_at "sm") (SqT.of' upd_same)
  refine ⟨_, pss_cons (ps_try_as (X := X0) (c := .ref CB) (i := 1) (n := "e") (tb := TCall f c' q tl) (ts := TSu X.K CT) (Wout := fun _ _ _ _ => False) rfl rfl scErr.nd rfl rfl ⟨rfl, by decide, .inl T1.gB⟩ LamX.takes0 (fun W pn xe tk _ => ?_) (fun a oe cls d pn hz hf => ?_))
    (pss_one (ps_ret (pe_tup (pa_cons pe_str pa_nil)))), ?_⟩
  · refine ⟨fun pins s1 σ H1 D I h1 => ?_⟩
    obtain ⟨Ech, hW, e1, e2, e3⟩ := h1
    exact (pss_one (ps_expr (act W pn xe Ech _ _ tk hW))).run pins s1 σ H1 D I ⟨e1, e2, e3⟩
  · refine ⟨fun pins s1 σ H1 D I h1 => ?_⟩
    obtain ⟨dd, p, i, τ, rfl, rfl, rfl, hdd, k⟩ := h1
    obtain ⟨t, ht, read⟩ := su a dd oe pn hz hf
    have five : τ.length = 5 := (List.length_set ..).symm.trans I.len
    match τ, five with
    | [v0, _, v2, v3, v4], _ => exact ht.run pins s1 _ H1 D I (read D v0 v2 v3 v4 H1 p i hdd k)
  · refine ⟨fun cls d H' => cls = .ref CT ∧ ∃ dd p i, d = some dd ∧ H' dd = some (.xd (itF p i)) ∧ ∀ v H'', Same H' H'' → (∃ a, v = .ref a ∧ SqT X.K H'' a [.str "town", .str p, .int i]) → Q v H'', fun cls d σ H1 h1 => ?_, rfl, hc, ?_⟩
    · obtain ⟨rfl, dd, p, i, rfl, hdd, k⟩ := h1
      exact ⟨true, T1.em, fun _ a ha => ⟨dd, p, i, σ, rfl, rfl, rfl, hdd, fun b H2 sm hb => k _ _ sm ⟨b, rfl, hb⟩⟩, fun z => Bool.noConfusion z⟩
    · exact h
end T1

set_option Elab.async false
set_option linter.all false
set_option maxRecDepth 100000
set_option maxHeartbeats 4000000
namespace T1
open PySem PySem.Spec PyProof.Rows L2 C8
local macro_rules | `(tactic| walk_at "hf") => `(tactic| (fail_if_success (show (fun _ => none : Hp) _ = _)); first | assumption | with_reducible exact upd_same | ((with_reducible show upd _ _ _ _ = _); first | exact up_new' (by assumption) (by walk_at "hf") | exact up_set (by walk_at "ne") (by walk_at "hf")) | exact Same.at' (by assumption) (by walk_at "hf") | exact But.at' (by assumption) (by walk_at "ne") (by walk_at "ne") (by walk_at "hf"))
local macro_rules | `(tactic| walk_at "hf0") => `(tactic| (fail_if_success (show (fun _ => none : Hp) _ = _)); first | assumption | with_reducible exact upd_same | ((with_reducible show upd _ _ _ _ = _); exact up_new' (by assumption) (by walk_at "hf0")))
local macro_rules | `(tactic| walk_at "ne") => `(tactic| first | assumption | (apply Ne.symm; assumption) | exact ne_of_none' (by assumption) (by walk_at "hf0") | exact Ne.symm (ne_of_none' (by assumption) (by walk_at "hf0")) | exact LSt.f1 (by assumption) (by walk_at "lst") | exact LSt.f2 (by assumption) (by walk_at "lst"))
local macro_rules | `(tactic| walk_at "sqt") => `(tactic| (fail_if_success (show SqT _ (fun _ => none) _ _)); first | assumption | exact SqT.of' (by walk_at "hf") | ((with_reducible show SqT _ (upd _ _ _) _ _); first | exact SqT.new' (by assumption) (by walk_at "sqt") | exact SqT.put' (by walk_at "hf") (by walk_at "sqt")) | exact Same.tup (by assumption) (by walk_at "sqt") | exact But.tup (by assumption) (by walk_at "lst") (by walk_at "sqt"))
local macro_rules | `(tactic| walk_at "sql") => `(tactic| (fail_if_success (show SqL _ (fun _ => none) _ _)); first | assumption | exact SqL.of' (by walk_at "hf") | ((with_reducible show SqL _ (upd _ _ _) _ _); exact SqL.new' (by assumption) (by walk_at "sql")) | exact Same.sql' (by assumption) (by walk_at "sql"))
local macro_rules | `(tactic| walk_at "lst") => `(tactic| (fail_if_success (show LSt (fun _ => none) _ _)); first | assumption | ((with_reducible show LSt (upd _ _ _) _ _); first | exact LSt.new (by walk_at "lst") (by assumption) | exact LSt.put (by walk_at "lst") (by walk_at "ne") (by walk_at "ne")) | exact LSt.same' (by assumption) (by walk_at "lst"))
local macro_rules | `(tactic| walk_at "but") => `(tactic| first | assumption | exact But.refl _ _ _ | ((with_reducible show But _ _ _ (upd _ _ _)); exact But.nw (by assumption) (by walk_at "but")) | exact But.bu (by assumption) (by walk_at "but") | exact But.sm (by assumption) (by walk_at "but"))
local macro_rules | `(tactic| walk_at "ls") => `(tactic| first | assumption | exact Ls.same (by walk_at "ls") (Same.upd' (by assumption)))
local macro_rules | `(tactic| walk_at "ll") => `(tactic| first | assumption | exact LL.same (by walk_at "ll") (Same.upd' (by assumption)) | exact LL.same' (by assumption) (by walk_at "ll") | exact LL.but' (by assumption) (by walk_at "lst") (by walk_at "ll"))
local macro_rules | `(tactic| walk_at "sm") => `(tactic| first | assumption | exact Same.refl _ | ((with_reducible show Same _ (upd _ _ _)); first | exact Same.put' (by assumption) (by walk_at "sm") | exact Same.trans (by walk_at "sm") (Same.upd' (by assumption))) | exact Same.trans (by walk_at "sm") (by assumption))
/-- one step of a reading -/
local macro_rules | `(tactic| walk_at "rd") => `(tactic| first
  | with_reducible refine iteF ?_
  | with_reducible refine iteT ?_
  | with_reducible refine itNotF ?_
  | with_reducible refine itNotT ?_
  | refine ⟨_, rfl, ?_⟩
  | refine ⟨_, _, rfl, rfl, ?_⟩
  | refine ⟨_, _, rfl, ?_⟩
  | refine ⟨(_ : Addr), (_ : List V), (_ : Int), (_ : V), rfl, rfl, SqL.of' (by walk_at "hf"), (by first | assumption | rfl), ?_⟩
  | refine ⟨(_ : Addr), (_ : List V), (_ : Int), (_ : V), rfl, rfl, (by walk_at "sqt" : SqT _ _ _ _), (by first | assumption | rfl), ?_⟩
  | refine .inl ⟨_, rfl, ?_⟩
  | refine ⟨_, _, rfl, .inl (by walk_at "sql" : SqL _ _ _ _), ?_⟩
  | refine ⟨_, _, rfl, .inl ⟨(by walk_at "sql" : SqL _ _ _ _), fun p hp => ?_⟩⟩
  | refine ⟨_, _, rfl, .inr ⟨(by walk_at "sqt" : SqT _ _ _ _), ?_⟩⟩
  | refine fun (p : Addr) (hp : (_ : Hp) p = none) => ?_
  | refine ⟨_, _, rfl, .inr (by walk_at "sqt" : SqT _ _ _ _), ?_⟩
  | refine And.intro (by show _ ≤ sizeLine; first | decide | walk_at "sz") (fun p hp => ?_)
  | refine ⟨(_ : Addr), (_ : Addr), (_ : List V), (_ : List V), rfl, rfl, (by walk_at "hf"), (by walk_at "hf"), (by walk_at "sz"), fun p hp => ?_⟩
  | refine ⟨(_ : Addr), (_ : Addr), (_ : List V), (_ : List V), rfl, rfl, (by walk_at "hf"), (by walk_at "hf"), (by walk_at "sz"), ?_⟩
  | refine ⟨(_ : Addr), (_ : List V), (_ : Int), (_ : Nat), rfl, rfl, (by walk_at "hf"), (by rfl), ?_⟩
  | refine And.intro ⟨_, (by walk_at "sql" : SqL _ _ _ _)⟩ ?_
  | refine And.intro ⟨_, (by walk_at "sqt" : SqT _ _ _ _)⟩ ?_
  | refine And.intro (.inl ⟨rfl, _, SqL.of' (by walk_at "hf")⟩) ?_
  | refine And.intro (by walk_at "cond") ?_
  | exact .inl ⟨rfl, _, SqL.of' (by walk_at "hf")⟩
  | with_reducible refine iteT ?_
  | with_reducible refine iteF ?_
  | refine And.intro (by rfl : scal _ _ = true) ?_
  | refine And.intro (by rfl : _ = V.non) ?_
  | refine And.intro (by rfl : wipe _ _ = wipe _ _) ?_
  | refine And.intro (by rfl : (_ : List V) = []) ?_
  | refine ⟨(_ : Addr), (_ : List V), rfl, (by walk_at "sqt" : SqT _ _ _ _), (by rfl), ?_⟩)
/-- a test: known, or both ways -/
local macro_rules | `(tactic| walk_at "if") => `(tactic| first
  | with_reducible refine itD (by omega) ?_
  | with_reducible refine itN (by omega) ?_
  | with_reducible refine itnD (by omega) ?_
  | with_reducible refine itnN (by omega) ?_
  | with_reducible refine itE (by omega) ?_
  | with_reducible refine itEn (by omega) ?_
  | with_reducible refine itnE (by omega) ?_
  | with_reducible refine itnEn (by omega) ?_
  | with_reducible refine itN (by intro z; cases z) ?_
  | with_reducible refine itD (by decide) ?_
  | with_reducible refine itN (by decide) ?_
  | with_reducible refine itnD (by decide) ?_
  | with_reducible refine itnN (by decide) ?_)
local macro_rules | `(tactic| walk_at "if2") => `(tactic| first
  | with_reducible refine itS (fun z => ?_) (fun z => ?_)
  | with_reducible refine itS' (fun z => ?_) (fun z => ?_)
  | with_reducible refine itSE (fun z => ?_) (fun z => ?_)
  | with_reducible refine itnS (fun z => ?_) (fun z => ?_)
  | with_reducible refine itnS' (fun z => ?_) (fun z => ?_)
  | with_reducible refine itnSE (fun z => ?_) (fun z => ?_))
local macro_rules | `(tactic| walk_at "go") => `(tactic| repeat' (first | walk_at "rd" | walk_at "if" | walk_at "if2" | fail))
local macro_rules | `(tactic| walk_at "sz") => `(tactic| (rw [sizeLine_eq]; simp only [List.length_append, List.length_map, List.length_cons, List.length_nil]; omega))
local macro_rules | `(tactic| walk_at "cond") => `(tactic| first | assumption | (show (_ : Int) ≠ 0; first | omega | (split <;> omega)) | (show (0 : Int) < _; first | assumption | decide) | exact ⟨by decide, by decide, by decide⟩ | exact .inr ⟨by decide, by decide⟩ | exact wide_div (b := 64) (by assumption) (by omega) (by decide) (by decide) | exact ⟨by decide, by decide⟩)


/-! ### the properties of a made town -/
def spGet (C : Addr) (f : Str) : Sp := fun vs H Q _ => ∃ (x dx : Addr) (fs : List (Str × V)) (v : V), vs = [.ref x] ∧ H x = some (.ins C dx fs) ∧ fs.lookup f = some v ∧ Q v H
def spLives (K : PySem.W.Frag) (C : Addr) : Sp := fun vs H Q _ => ∃ (x dx t : Addr) (c : Int) (ls : List Lk), vs = [.ref x] ∧ H x = some (.ins C dx (tF c t)) ∧ Ls K H t ls ∧ ls.length ≤ 1000 ∧
  ∀ p H', Same H H' → SqT K H' p (ls.map fun l => V.int l.2.2.2) → Q (.ref p) H'
section
variable {P : Program} {w : World} {K : PySem.W.Frag} {mg : Str → Option Value} {base : Heap} {C pS gS : Addr}
theorem scPc : FnScope ["self"] ["self"] (L2.defScope sPc) := ⟨rfl, rfl, rfl, by decide +kernel, rfl, by decide +kernel, by decide +kernel⟩
theorem ok_Pc {g : Addr} {fd : FuncData} (F : L2.Fun K "place_count" "Town.place_count" sPc g fd) (TT : PTown K mg C pS gS) : FnOk P w K mg base L2.CX0 1 g fd ["self"] (spGet C "_count") := by
  refine F.ok scPc (fun vs H Q E h => ?_) (fun cdv A outer s H vs Q E hr h => ?_)
  · obtain ⟨x, dx, fs, v, rfl, _⟩ := h; rfl
  · obtain ⟨x, dx, fs, v, rfl, hx, hv, q⟩ := h
    exact ⟨_, pss_one (ps_ret (pe_fld (pv 0) rfl)), _, rfl, x, C, dx, fs, v, rfl, hx, TT.cl, TT.nC, hv, q⟩
theorem scBr : FnScope ["self"] ["self"] (L2.defScope sBr) := ⟨rfl, rfl, rfl, by decide +kernel, rfl, by decide +kernel, by decide +kernel⟩
theorem ok_Br {g : Addr} {fd : FuncData} (F : L2.Fun K "bridges" "Town.bridges" sBr g fd) (TT : PTown K mg C pS gS) : FnOk P w K mg base L2.CX0 1 g fd ["self"] (spGet C "_bridges") := by
  refine F.ok scBr (fun vs H Q E h => ?_) (fun cdv A outer s H vs Q E hr h => ?_)
  · obtain ⟨x, dx, fs, v, rfl, _⟩ := h; rfl
  · obtain ⟨x, dx, fs, v, rfl, hx, hv, q⟩ := h
    exact ⟨_, pss_one (ps_ret (pe_fld (pv 0) rfl)), _, rfl, x, C, dx, fs, v, rfl, hx, TT.cl, TT.nB, hv, q⟩
theorem map_take_snoc {ls : List Lk} {i : Nat} {l : Lk} (e : ls[i]? = some l) (f : Lk → V) : (ls.take i).map f ++ [f l] = (ls.take (i + 1)).map f := by
  rw [List.take_succ, e, List.map_append] <;> rfl
theorem scLi : FnScope ["self", "bridge"] ["self"] (L2.defScope sLi) := ⟨rfl, rfl, rfl, by decide +kernel, rfl, by decide +kernel, by decide +kernel⟩
theorem ok_Li {g : Addr} {fd : FuncData} (F : L2.Fun K "lives" "Town.lives" sLi g fd) (TT : PTown K mg C pS gS) (T : BT mg) : FnOk P w K mg base L2.CX0 1 g fd ["self"] (spLives K C) := by
  refine F.ok scLi (fun vs H Q E h => ?_) (fun cdv A outer s H vs Q E hr h => ?_)
  · obtain ⟨x, dx, t, c, ls, rfl, _⟩ := h; rfl
  · obtain ⟨x, dx, t, c, ls, rfl, hx, ⟨vs, ht, ll⟩, hz, q⟩ := h
    refine ⟨_, (pss_one (ps_ret (pe_callTy call_tuple_of (by rfl) T.tuple (by decide +kernel) (pa_cons (pe_lc (own := [("bridge", 1)]) (g := gName 1) rfl scLi.nd (pi_tup (pe_fld (pv 0) rfl)) (blkOk_by (N := ["self", "bridge"]) (sc := L2.defScope sLi) (by decide +kernel)) (fun _ _ _ _ _ => pg_name (i := 1) scLi.nd rfl (Or.inl rfl)) (fun _ _ _ _ _ => pts_nil) (fun _ _ _ _ _ => (pe_ix (show IxR _ (rIxT K) from ix_tup) (pv 1) pe_int (fun _ _ => rfl)))) pa_nil)))), ?_⟩
    have hv := ll.1
    walk_at "go"
    refine ⟨x, C, dx, _, _, rfl, hx, TT.cl, TT.nB, tF_bridges c t, t, rfl, ⟨_, ht⟩, fun D hD => ?_⟩
    refine lc_tup (K := K) (a := t) (xs := vs) (fun i H' => Same H H' ∧ H' D = some (.lst ((ls.take i).map fun l => V.int l.2.2.2))) ⟨Same.upd' hD, upd_same⟩ (fun i H' _ z => Same.tup z.1 ht) (fun i y H' hy ⟨sm, hD'⟩ => ?_) (fun H' ⟨sm, hD'⟩ => ?_)
    · obtain ⟨l, hl⟩ : ∃ l, ls[i]? = some l := ⟨_, List.getElem?_eq_getElem (by have := (List.getElem?_eq_some_iff.mp hy).1; omega)⟩
      obtain ⟨a, ha, hta⟩ := ll.2 i l hl
      rw [hy] at ha
      cases ha
      have hta' : SqT K H' a [.int l.1, .int l.2.1, .int l.2.2.1, .int l.2.2.2] := Same.tup sm hta
      walk_at "go"
      refine ⟨_, hD', by rw [sizeLine_eq, List.length_map, List.length_take]; omega, Same.put' hD sm, ?_⟩
      rw [upd_same, ← map_take_snoc hl (fun l => V.int l.2.2.2)]
    · rw [hv, List.take_length] at hD'
      walk_at "go"
      rename_i p hp
      exact q p _ (sm.trans (Same.upd' hp)) (SqT.of' upd_same)
end
end T1

set_option Elab.async false
set_option linter.all false
set_option maxRecDepth 100000
set_option maxHeartbeats 4000000
namespace T1
open PySem PySem.Spec PyProof.Rows L2 C8
local macro_rules | `(tactic| walk_at "hf") => `(tactic| (fail_if_success (show (fun _ => none : Hp) _ = _)); first | assumption | with_reducible exact upd_same | ((with_reducible show upd _ _ _ _ = _); first | exact up_new' (by assumption) (by walk_at "hf") | exact up_set (by walk_at "ne") (by walk_at "hf")) | exact Same.at' (by assumption) (by walk_at "hf") | exact But.at' (by assumption) (by walk_at "ne") (by walk_at "ne") (by walk_at "hf"))
local macro_rules | `(tactic| walk_at "hf0") => `(tactic| (fail_if_success (show (fun _ => none : Hp) _ = _)); first | assumption | with_reducible exact upd_same | ((with_reducible show upd _ _ _ _ = _); exact up_new' (by assumption) (by walk_at "hf0")))
local macro_rules | `(tactic| walk_at "ne") => `(tactic| first | assumption | (apply Ne.symm; assumption) | exact ne_of_none' (by assumption) (by walk_at "hf0") | exact Ne.symm (ne_of_none' (by assumption) (by walk_at "hf0")) | exact LSt.f1 (by assumption) (by walk_at "lst") | exact LSt.f2 (by assumption) (by walk_at "lst"))
local macro_rules | `(tactic| walk_at "sqt") => `(tactic| (fail_if_success (show SqT _ (fun _ => none) _ _)); first | assumption | exact SqT.of' (by walk_at "hf") | ((with_reducible show SqT _ (upd _ _ _) _ _); first | exact SqT.new' (by assumption) (by walk_at "sqt") | exact SqT.put' (by walk_at "hf") (by walk_at "sqt")) | exact Same.tup (by assumption) (by walk_at "sqt") | exact But.tup (by assumption) (by walk_at "lst") (by walk_at "sqt"))
local macro_rules | `(tactic| walk_at "sql") => `(tactic| (fail_if_success (show SqL _ (fun _ => none) _ _)); first | assumption | exact SqL.of' (by walk_at "hf") | ((with_reducible show SqL _ (upd _ _ _) _ _); exact SqL.new' (by assumption) (by walk_at "sql")) | exact Same.sql' (by assumption) (by walk_at "sql"))
local macro_rules | `(tactic| walk_at "lst") => `(tactic| (fail_if_success (show LSt (fun _ => none) _ _)); first | assumption | ((with_reducible show LSt (upd _ _ _) _ _); first | exact LSt.new (by walk_at "lst") (by assumption) | exact LSt.put (by walk_at "lst") (by walk_at "ne") (by walk_at "ne")) | exact LSt.same' (by assumption) (by walk_at "lst"))
local macro_rules | `(tactic| walk_at "but") => `(tactic| first | assumption | exact But.refl _ _ _ | ((with_reducible show But _ _ _ (upd _ _ _)); exact But.nw (by assumption) (by walk_at "but")) | exact But.bu (by assumption) (by walk_at "but") | exact But.sm (by assumption) (by walk_at "but"))
local macro_rules | `(tactic| walk_at "ls") => `(tactic| first | assumption | exact Ls.same (by walk_at "ls") (Same.upd' (by assumption)))
local macro_rules | `(tactic| walk_at "ll") => `(tactic| first | assumption | exact LL.same (by walk_at "ll") (Same.upd' (by assumption)) | exact LL.same' (by assumption) (by walk_at "ll") | exact LL.but' (by assumption) (by walk_at "lst") (by walk_at "ll"))
local macro_rules | `(tactic| walk_at "sm") => `(tactic| first | assumption | exact Same.refl _ | ((with_reducible show Same _ (upd _ _ _)); first | exact Same.put' (by assumption) (by walk_at "sm") | exact Same.trans (by walk_at "sm") (Same.upd' (by assumption))) | exact Same.trans (by walk_at "sm") (by assumption))
/-- one step of a reading -/
local macro_rules | `(tactic| walk_at "rd") => `(tactic| first
  | with_reducible refine iteF ?_
  | with_reducible refine iteT ?_
  | with_reducible refine itNotF ?_
  | with_reducible refine itNotT ?_
  | refine ⟨_, rfl, ?_⟩
  | refine ⟨_, _, rfl, rfl, ?_⟩
  | refine ⟨_, _, rfl, ?_⟩
  | refine ⟨(_ : Addr), (_ : List V), (_ : Int), (_ : V), rfl, rfl, SqL.of' (by walk_at "hf"), (by first | assumption | rfl), ?_⟩
  | refine ⟨(_ : Addr), (_ : List V), (_ : Int), (_ : V), rfl, rfl, (by walk_at "sqt" : SqT _ _ _ _), (by first | assumption | rfl), ?_⟩
  | refine .inl ⟨_, rfl, ?_⟩
  | refine ⟨_, _, rfl, .inl (by walk_at "sql" : SqL _ _ _ _), ?_⟩
  | refine ⟨_, _, rfl, .inl ⟨(by walk_at "sql" : SqL _ _ _ _), fun p hp => ?_⟩⟩
  | refine ⟨_, _, rfl, .inr ⟨(by walk_at "sqt" : SqT _ _ _ _), ?_⟩⟩
  | refine fun (p : Addr) (hp : (_ : Hp) p = none) => ?_
  | refine ⟨_, _, rfl, .inr (by walk_at "sqt" : SqT _ _ _ _), ?_⟩
  | refine And.intro (by show _ ≤ sizeLine; first | decide | walk_at "sz") (fun p hp => ?_)
  | refine ⟨(_ : Addr), (_ : Addr), (_ : List V), (_ : List V), rfl, rfl, (by walk_at "hf"), (by walk_at "hf"), (by walk_at "sz"), fun p hp => ?_⟩
  | refine ⟨(_ : Addr), (_ : Addr), (_ : List V), (_ : List V), rfl, rfl, (by walk_at "hf"), (by walk_at "hf"), (by walk_at "sz"), ?_⟩
  | refine ⟨(_ : Addr), (_ : List V), (_ : Int), (_ : Nat), rfl, rfl, (by walk_at "hf"), (by rfl), ?_⟩
  | refine And.intro ⟨_, (by walk_at "sql" : SqL _ _ _ _)⟩ ?_
  | refine And.intro ⟨_, (by walk_at "sqt" : SqT _ _ _ _)⟩ ?_
  | refine And.intro (.inl ⟨rfl, _, SqL.of' (by walk_at "hf")⟩) ?_
  | refine And.intro (by walk_at "cond") ?_
  | exact .inl ⟨rfl, _, SqL.of' (by walk_at "hf")⟩
  | with_reducible refine iteT ?_
  | with_reducible refine iteF ?_
  | refine And.intro (by rfl : scal _ _ = true) ?_
  | refine And.intro (by rfl : _ = V.non) ?_
  | refine And.intro (by rfl : wipe _ _ = wipe _ _) ?_
  | refine And.intro (by rfl : (_ : List V) = []) ?_
  | refine ⟨(_ : Addr), (_ : List V), rfl, (by walk_at "sqt" : SqT _ _ _ _), (by rfl), ?_⟩)
/-- a test: known, or both ways -/
local macro_rules | `(tactic| walk_at "if") => `(tactic| first
  | with_reducible refine itD (by omega) ?_
  | with_reducible refine itN (by omega) ?_
  | with_reducible refine itnD (by omega) ?_
  | with_reducible refine itnN (by omega) ?_
  | with_reducible refine itE (by omega) ?_
  | with_reducible refine itEn (by omega) ?_
  | with_reducible refine itnE (by omega) ?_
  | with_reducible refine itnEn (by omega) ?_
  | with_reducible refine itN (by intro z; cases z) ?_
  | with_reducible refine itD (by decide) ?_
  | with_reducible refine itN (by decide) ?_
  | with_reducible refine itnD (by decide) ?_
  | with_reducible refine itnN (by decide) ?_)
local macro_rules | `(tactic| walk_at "if2") => `(tactic| first
  | with_reducible refine itS (fun z => ?_) (fun z => ?_)
  | with_reducible refine itS' (fun z => ?_) (fun z => ?_)
  | with_reducible refine itSE (fun z => ?_) (fun z => ?_)
  | with_reducible refine itnS (fun z => ?_) (fun z => ?_)
  | with_reducible refine itnS' (fun z => ?_) (fun z => ?_)
  | with_reducible refine itnSE (fun z => ?_) (fun z => ?_))
local macro_rules | `(tactic| walk_at "go") => `(tactic| repeat' (first | walk_at "rd" | walk_at "if" | walk_at "if2" | fail))
local macro_rules | `(tactic| walk_at "sz") => `(tactic| (rw [sizeLine_eq]; simp only [List.length_append, List.length_map, List.length_cons, List.length_nil]; omega))
local macro_rules | `(tactic| walk_at "cond") => `(tactic| first | assumption | (show (_ : Int) ≠ 0; first | omega | (split <;> omega)) | (show (0 : Int) < _; first | assumption | decide) | exact ⟨by decide, by decide, by decide⟩ | exact .inr ⟨by decide, by decide⟩ | exact wide_div (b := 64) (by assumption) (by omega) (by decide) (by decide) | exact ⟨by decide, by decide⟩)


structure LawC (P : Program) (w : World) (K : PySem.W.Frag) (mg : Str → Option Value) (base : Heap) : Prop where
  _law_mix : Cal P w K mg base 1 "_law_mix" (spMix K) []
  _law_next : Cal P w K mg base 1 "_law_next" spNext []
  _law_links : Cal P w K mg base 3 "_law_links" (spLinks K) []
  _law_spoilt : Cal P w K mg base 2 "_law_spoilt" (spSpoilt K) []
  _law_first_bad : Cal P w K mg base 2 "_law_first_bad" (spFirst K) []
  _law_is_link : Cal P w K mg base 1 "_law_is_link" (spIsLink K) []
  _law_alike : Cal P w K mg base 4 "_law_alike" (spAlike K 3) []
def spLaw (K : PySem.W.Frag) (Pt : Addr) (q : Str) : Sp := fun vs H Q _ => ∃ (a : Addr) (ns : List Int), vs = [.ref a] ∧ SqL K H a (ns.map V.int) ∧ ns.length ≤ 63 ∧ LamX.Tabs [(Pt, q)] H ∧ ∀ H', Q (.bl true) H'
section
variable {P : Program} {w : World} {K : PySem.W.Frag} {mg : Str → Option Value} {base : Heap} {CB CT fT C pS gS : Addr} {mB : Value}
theorem scLaw : FnScope ["_law_script", "_law_h", "_law_turn", "_law_bad", "_law_error_here", "_law_link", "_law_town", "_law_count", "_law_links_here", "_law_results"] ["_law_script"] (fnScope sLaw) := fnScope_by (by decide +kernel)
abbrev lamQ : Str := (envOfC "law" (fnScope sLaw) 0 0 .none).qual ++ "<lambda>"
def lamT (K : PySem.W.Frag) (C CT : Addr) : XK → TE := fun E => tBM K "list" rAppend (tVar 9) (tCons (tMake C (spTi K C CT) [] E (tCons (tVar 7) (tCons (tVar 8) tNil))) tNil)
/-- the catcher as it stands behind the top -/
structure CatchAt (K : PySem.W.Frag) (mg : Str → Option Value) (gE : Addr) (oc : Value) (od : Option Addr) (dV kV doc pm : Value) (an : Option Addr) (cdE ct : Value) (osl : Array (Option Value)) : Prop where
  mgE : mg "_law_error" = some (.ref gE)
  kE : PySem.W.keepIn K (.ref gE) = true
  lkE : K.lookup gE = some ⟨oc, od, .func (PySem.W.fnOf "_law_error" "_law_error" (fnArgs sError) (fnBody sError) (fnScope sError) dV kV doc pm an cdE ct), osl⟩
  coE : PySem.W.codeIn K cdE "_law_error" = true
  bE : L2.Binds K (PySem.W.fnOf "_law_error" "_law_error" (fnArgs sError) (fnBody sError) (fnScope sError) dV kV doc pm an cdE ct) ["_law_call"] []
/-- the lambda's call, where it stands in the text -/
def assignedE (s : Stmt) : Expr := match s with
  | .Assign _ e _ => e
  | _ => .Constant .none 0 ⟨0, 0, 0, 0⟩
def forBody (s : Stmt) : List Stmt := match s with
  | .For _ _ b _ _ => b
  | _ => []
abbrev lamX : Expr := assignedE ((forBody ((fnBody sLaw).getD 1 (.Pass ⟨0, 0, 0, 0⟩))).getD 5 (.Pass ⟨0, 0, 0, 0⟩))
theorem tabs_but {Tl : List (Addr × Str)} {H H' : Hp} {h s : Addr} (x : LSt H h s) (e : But h s H H') (tb : LamX.Tabs Tl H) : LamX.Tabs Tl H' := fun p hp => by
  obtain ⟨m, k, xs, h1, h2, _⟩ := x.ex
  obtain ⟨ps, a1, a2, a3⟩ := tb p hp
  refine ⟨ps, e _ _ (ne_of a1 h1 (fun z => nomatch z)) (ne_of a1 h2 (fun z => nomatch z)) a1, a2, fun pos cv hc => ?_⟩
  obtain ⟨c, rfl, e2⟩ := a3 pos cv hc
  exact ⟨c, rfl, e _ _ (ne_of e2 h1 (fun z => by unfold LamX.CodeO at z; cases z)) (ne_of e2 h2 (fun z => by unfold LamX.CodeO at z; cases z)) e2⟩
theorem Ls.nil {K : PySem.W.Frag} {H : Hp} {t : Addr} (h : SqT K H t []) : Ls K H t [] := ⟨[], h, LL.nil⟩
theorem SqT.lv {K : PySem.W.Frag} {H : Hp} {a : Addr} {l : Lk} (h : SqT K H a [.int l.1, .int l.2.1, .int l.2.2.1, .int l.2.2.2]) : SqT K H a (T1.lv l) := h
theorem Ls.rep {K : PySem.W.Frag} {H : Hp} {t a : Addr} {l : Lk} (n : Nat) (h : SqT K H t (List.replicate n [V.ref a]).flatten) (ha : SqT K H a (lv l)) : Ls K H t (List.replicate n l) := by
  have e : (List.replicate n [V.ref a]).flatten = List.replicate n (V.ref a) := by simp
  refine ⟨_, h, by rw [e]; simp, fun j m q => ?_⟩
  rw [List.getElem?_replicate] at q
  split at q
  · rename_i hj
    cases q
    exact ⟨a, by rw [e, List.getElem?_replicate, if_pos hj], ha⟩
  · cases q
theorem gen1 {H : Hp} {p : Addr} {o : HO} {R : Hp → Prop} (hp : H p = none) (k : ∀ G, Same H G → G p = some o → R G) : R (upd H p o) := k _ (Same.upd' hp) upd_same
theorem SqT.extN {K : PySem.W.Frag} {H H' : Hp} {a : Addr} {xs : List V} (e : LamX.ExtN H H') (t : SqT K H a xs) : SqT K H' a xs := by
  rcases t with (t | ⟨o, t⟩) | t
  · exact .inl (.inl (e _ _ t (fun _ z => nomatch z)))
  · exact .inl (.inr ⟨o, e _ _ t (fun _ z => nomatch z)⟩)
  · exact .inr t
theorem LSt.extN {H H' : Hp} {h s : Addr} (x : LSt H h s) (e : LamX.ExtN H H') : LSt H' h s := by
  obtain ⟨m, k, xs, h1, h2, r⟩ := x.ex
  exact ⟨m, k, xs, e _ _ h1 (fun _ z => nomatch z), e _ _ h2 (fun _ z => nomatch z), r⟩
theorem Ls.extN {K : PySem.W.Frag} {H H' : Hp} {t : Addr} {ls : List Lk} (x : Ls K H t ls) (e : LamX.ExtN H H') : Ls K H' t ls :=
  let ⟨vs, a, b⟩ := x; ⟨vs, SqT.extN e a, b.1, fun j l q => let ⟨a, e1, e2⟩ := b.2 j l q; ⟨a, e1, SqT.extN e e2⟩⟩
theorem BadV.by {K : PySem.W.Frag} {H H' : Hp} {v : V} (f : ∀ a xs, SqT K H a xs → SqT K H' a xs) : ∀ {o : Option (Str × Int)}, BadV K H v o → BadV K H' v o
  | none, h => h
  | some _, ⟨a, e, t⟩ => ⟨a, e, f _ _ t⟩
theorem tabs_put {Tl : List (Addr × Str)} {H : Hp} {p : Addr} {xs ys : List V} (hp : H p = some (.lst xs)) (tb : LamX.Tabs Tl H) : LamX.Tabs Tl (upd H p (.lst ys)) := fun q hq => by
  obtain ⟨ps, a1, a2, a3⟩ := tb q hq
  refine ⟨ps, up_set (ne_of a1 hp (fun z => nomatch z)) a1, a2, fun pos cv hc => ?_⟩
  obtain ⟨c, rfl, e2⟩ := a3 pos cv hc
  exact ⟨c, rfl, up_set (ne_of e2 hp (fun z => by unfold LamX.CodeO at z; cases z)) e2⟩
theorem Ls.putL {K : PySem.W.Frag} {H : Hp} {t p : Addr} {ls : List Lk} {xs ys : List V} (x : Ls K H t ls) (hp : H p = some (.lst xs)) : Ls K (upd H p (.lst ys)) t ls :=
  let ⟨vs, a, b⟩ := x; ⟨vs, SqT.put a hp, b.put hp⟩
theorem firstBad_lay {c : Int} {ls : List Lk} {r : Str × Int} (h : firstBad c ls = some r) : PyData.canLay0 (.str r.1) = true := by
  unfold firstBad at h
  split at h
  · cases e : firstFrom c ls 0 with
    | none => rw [e] at h; cases h
    | some k => rw [e] at h; cases h; show PyData.canLay0 (.str "bridges") = true; decide +kernel
  · cases h; decide +kernel
theorem shaped_none : SeqAt.shaped (.tuple [.str "none"]) = true := by decide +kernel
theorem shaped_town {c : Int} {ls : List Lk} {r : Str × Int} (h : firstBad c ls = some r) : SeqAt.shaped (.tuple [.str "town", .str r.1, .int r.2]) = true := by
  have hc : PyData.canLay0 (.tuple [.str "town", .str r.1, .int r.2]) = true := by
    have h1 := firstBad_lay h
    have h2 : PyData.canLay0 (.str "town") = true := by decide +kernel
    simp only [PyData.canLay0, PyData.canLayAll0] at h1 h2 ⊢
    rw [h1, h2] <;> rfl
  have hd : PyData.depth (.tuple [.str "town", .str r.1, .int r.2]) ≤ 64 := by simp [PyData.depth, PyData.depthAll]
  unfold SeqAt.shaped
  rw [hc, decide_eq_true hd] <;> rfl
theorem sh_lay {d : PyData} (h : SeqAt.shaped d = true) : PyData.canLay0 d = true := by
  unfold SeqAt.shaped at h
  rw [Bool.and_eq_true] at h
  exact h.1
theorem Dp.str1 {K : PySem.W.Frag} {H : Hp} {a : Addr} {x : Str} (h : SqT K H a [.str x]) : Dp K H (.ref a) (.tuple [.str x]) := .tup h (.cons (.str _) .nil)
theorem Dp.town {K : PySem.W.Frag} {H : Hp} {a : Addr} {r : Str × Int} (h : SqT K H a [.str "town", .str r.1, .int r.2]) : Dp K H (.ref a) (.tuple [.str "town", .str r.1, .int r.2]) := .tup h (.cons (.str _) (.cons (.str _) (.cons (.int _) .nil)))
/-- behind the catcher: what was told, and what came of it -/
def ErrV (K : PySem.W.Frag) (H : Hp) (v : V) : Option (Str × Int) → Prop
  | none => ∃ a, v = .ref a ∧ SqT K H a [.str "none"]
  | some r => ∃ a, v = .ref a ∧ SqT K H a [.str "town", .str r.1, .int r.2]
theorem ErrV.by {K : PySem.W.Frag} {H H' : Hp} {v : V} (f : ∀ a xs, SqT K H a xs → SqT K H' a xs) : ∀ {o : Option (Str × Int)}, ErrV K H v o → ErrV K H' v o
  | none, ⟨a, e, t⟩ => ⟨a, e, f _ _ t⟩
  | some _, ⟨a, e, t⟩ => ⟨a, e, f _ _ t⟩
theorem cut_item {xs : List V} {hi : Option Int} {j : Nat} {x : V} (h : (cutV xs none hi)[j]? = some x) : xs[j]? = some x := by
  unfold cutV at h
  rw [HT.sIx_none, List.drop_zero, List.getElem?_take] at h
  split at h
  · exact h
  · cases h
theorem LL.item {K : PySem.W.Frag} {H : Hp} {vs : List V} {ls : List Lk} {j : Nat} {x : V} (h : LL K H vs ls) (e : vs[j]? = some x) : ∃ a l, x = .ref a ∧ ls[j]? = some l ∧ SqT K H a (lv l) := by
  have hj : j < ls.length := by rw [← h.1]; exact (List.getElem?_eq_some_iff.mp e).1
  obtain ⟨a, e1, e2⟩ := h.2 j ls[j] (List.getElem?_eq_getElem hj)
  rw [e] at e1
  cases e1
  exact ⟨a, _, rfl, List.getElem?_eq_getElem hj, e2⟩
theorem okd_link (l : Lk) : okd 1 (ld l) := .inr ⟨_, .inr rfl, by simp, fun e he => by
  simp only [List.mem_cons, List.mem_singleton, List.not_mem_nil, or_false] at he
  rcases he with rfl | rfl | rfl | rfl <;> exact .inl ⟨_, rfl⟩⟩
theorem okd_links {ls : List Lk} (h : ls.length ≤ 1000) : okd 2 (.tuple (ls.map ld)) := .inr ⟨_, .inr rfl, by rw [List.length_map]; exact h, fun e he => by
  obtain ⟨l, _, rfl⟩ := List.mem_map.mp he
  exact okd_link l⟩
theorem DpAll.ints {K : PySem.W.Frag} {H : Hp} : ∀ ns : List Int, DpAll K H (ns.map V.int) (ns.map PyData.int)
  | [] => .nil
  | n :: ns => .cons (.int n) (DpAll.ints ns)
theorem Dp.lives {K : PySem.W.Frag} {H : Hp} {a : Addr} {ls : List Lk} (h : SqT K H a (ls.map fun l => V.int l.2.2.2)) : Dp K H (.ref a) (.tuple (ls.map fun l => PyData.int l.2.2.2)) := by
  have e1 : (ls.map fun l => V.int l.2.2.2) = (ls.map fun l => l.2.2.2).map V.int := by rw [List.map_map]; rfl
  have e2 : (ls.map fun l => PyData.int l.2.2.2) = (ls.map fun l => l.2.2.2).map PyData.int := by rw [List.map_map]; rfl
  rw [e2]
  exact .tup h (e1 ▸ DpAll.ints _)
theorem okd_lives {ls : List Lk} (h : ls.length ≤ 1000) : okd 3 (.tuple (ls.map fun l => PyData.int l.2.2.2)) := .inr ⟨_, .inr rfl, by rw [List.length_map]; exact h, fun e he => by
  obtain ⟨l, _, rfl⟩ := List.mem_map.mp he
  exact .inl (.inl ⟨_, rfl⟩)⟩
theorem ok_law {f cl Pt fTi p1 p2 p3 g1 g2 g3 gE : Addr} {fdS fdTi fd1 fd2 fd3 : FuncData} {oc dV kV doc pm ct oc' dV' kV' doc' pm' cdE ct' : Value} {od an od' an' : Option Addr} {osl osl' : Array (Option Value)}
    (lk : K.lookup f = some ⟨oc, od, .func (PySem.W.fnOf "law" "law" (fnArgs sLaw) (fnBody sLaw) (fnScope sLaw) dV kV doc pm an (.ref cl) ct), osl⟩) (cdL : PySem.W.codeIn K (.ref cl) "law" = true)
    (T0 : Prog K mg CB CT fT C mB) (TT : PTown K mg C pS gS) (T : BT mg) (T1 : Errs K mg CB CT) (C9 : LawC P w K mg base) (LH : CatchAt K mg gE oc' od' dV' kV' doc' pm' an' cdE ct' osl') (TB : LamX.TabB base mg cl Pt)
    (vP : ∃ u, CVal' K C "MAX_PLACES" (.int 12) u) (vB : ∃ u, CVal' K C "MAX_BRIDGES" (.int 24) u)
    (MT : Mk K C fTi) (GTi : FnOk P w K mg base (L2.CX P w) 3 fTi fdTi ["self", "count", "bridges"] (spTi K C CT)) (bTi : Binds K fdTi ["self", "count", "bridges"] [])
    (SC : SCls K C (.type "type") "is_bridge" pS gS) (FS : FnOk P w K mg base L2.CX0 1 gS fdS ["count", "bridge"] (spIsB K)) (bS : Binds K fdS ["count", "bridge"] [])
    (P1 : PropOf K C "place_count" p1 g1) (G1 : FnOk P w K mg base L2.CX0 1 g1 fd1 ["self"] (spGet C "_count")) (b1 : Binds K fd1 ["self"] [])
    (P2 : PropOf K C "bridges" p2 g2) (G2 : FnOk P w K mg base L2.CX0 1 g2 fd2 ["self"] (spGet C "_bridges")) (b2 : Binds K fd2 ["self"] [])
    (P3 : PropOf K C "lives" p3 g3) (G3 : FnOk P w K mg base L2.CX0 1 g3 fd3 ["self"] (spLives K C)) (b3 : Binds K fd3 ["self"] []) :
    FnOk P w K mg base C8.CX0 9 f (PySem.W.fnOf "law" "law" (fnArgs sLaw) (fnBody sLaw) (fnScope sLaw) dV kV doc pm an (.ref cl) ct) ["_law_script"] (spLaw K Pt lamQ) := by
  refine fn_of lk cdL scLaw (fun vs H Q E h => ?_) (fun A outer s H vs Q E hr h => ?_)
  · obtain ⟨a, ns, rfl, _⟩ := h; rfl
  obtain ⟨a, ns, rfl, ha, hl, hT, q⟩ := h
  have hand : ∃ t, PSs (cxOf C8.CX0 P w K mg base ["_law_script", "_law_h", "_law_turn", "_law_bad", "_law_error_here", "_law_link", "_law_town", "_law_count", "_law_links_here", "_law_results"] "law" (fnScope sLaw) f (.ref cl) A outer s H E).nox (fnBody sLaw) t ∧ t { nx := fun _ H' => Q .non H', rt := Q } (L2.start ["_law_script", "_law_h", "_law_turn", "_law_bad", "_law_error_here", "_law_link", "_law_town", "_law_count", "_law_links_here", "_law_results"] [.ref a]) H := by
    let CC : Addr := C
    let C0 : Addr := C
    let X0 : Cx := (cxOf C8.CX0 P w K mg base ["_law_script", "_law_h", "_law_turn", "_law_bad", "_law_error_here", "_law_link", "_law_town", "_law_count", "_law_links_here", "_law_results"] "law" (fnScope sLaw) f (.ref cl) A outer s H E).nox
    have lamE : PE X0 lamX (LamX.tLam [(Pt, lamQ)] (TTerr K CT) (lamT K C CT)) := (LamX.pe_lamcall (T := [(Pt, lamQ)]) (TT := TTerr K CT) (a := "_law_call") (k := 4) (t := lamT K C CT) (by rfl) LH.mgE LH.kE LH.lkE LH.coE LH.bE scErr rfl (Or.inl rfl) (err_gives T T1) TB rfl (List.mem_singleton.mpr rfl) (fun p hp _ => by rw [List.mem_singleton.mp hp] <;> rfl) (hr.mono (by decide : 6 ≤ 8)) (LamX.lamS_by (sc := fnScope sLaw) (by decide +kernel)) rfl (fun _ _ _ _ _ => rfl) (fun A outer s H E f c' hr2 => pe_bm PySem.F.plainAttrs_list PySem.F.slot_list_append PySem.F.type_list_append mt_append (pv 9) (pa_cons (pe_make MT GTi hr2 (by rfl) T0.gC bTi .nil (passes_call (takes_of rfl rfl rfl rfl) (fun _ _ _ _ z => z)) (pa_cons (pv 7) (pa_cons (pv 8) pa_nil))) pa_nil)))
    have C := C9
    have lamE := lamE
    refine ⟨_, (pss_cons (ps_set (i := 1) scLaw.nd rfl (Or.inl rfl) (pe_c C._law_mix hr (by first | decide | omega) (by rfl) (pa_cons (pv 0) (pa_cons pe_int pa_nil))))
 (pss_cons (ps_for PassesOwn.never rfl (pi_range1 (by rfl) T.range (pa_cons pe_int pa_nil)) (pg_name (i := 2) scLaw.nd rfl (Or.inl rfl)) (pss_cons (ps_set (i := 7) scLaw.nd rfl (Or.inr rfl) (pe_op op_add pe_int (pe_c C._law_next hr (by first | decide | omega) (by rfl) (pa_cons (pv 1) (pa_cons pe_int pa_nil)))))
 (pss_cons (ps_set (i := 8) scLaw.nd rfl (Or.inr rfl) (pe_c C._law_links hr (by first | decide | omega) (by rfl) (pa_cons (pv 1) (pa_cons (pv 7) (pa_cons pe_int (pa_cons pe_bl pa_nil))))))
 (pss_cut (ps_if (pt_cmpR op_eq (pe_c C._law_next hr (by first | decide | omega) (by rfl) (pa_cons (pv 1) (pa_cons pe_int pa_nil))) pe_int (nomark _)) (pss_one (ps_set (i := 8) scLaw.nd rfl (Or.inr rfl) (pe_c C._law_spoilt hr (by first | decide | omega) (by rfl) (pa_cons (pv 1) (pa_cons (pv 7) (pa_cons (pv 8) pa_nil)))))) pss_nil)
 (pss_cut (ps_if (pt_cmpR op_eq (pe_c C._law_next hr (by first | decide | omega) (by rfl) (pa_cons (pv 1) (pa_cons pe_int pa_nil))) pe_int (nomark _)) (pss_one (ps_asg (pe_ix ix_list (pe_el (pe_lst (pa_cons (pe_tup (pa_cons pe_int (pa_cons (pe_tup pa_nil) pa_nil))) (pa_cons (pe_tup (pa_cons pe_int (pa_cons (pe_tup pa_nil) pa_nil))) (pa_cons (pe_tup (pa_cons pe_int (pa_cons (pe_op op_repT (pe_tup (pa_cons (pe_tup (pa_cons pe_int (pa_cons pe_int (pa_cons pe_int (pa_cons pe_int pa_nil))))) pa_nil)) pe_int) pa_nil))) (pa_cons (pe_tup (pa_cons (pe_un un_neg pe_int) (pa_cons (pe_tup pa_nil) pa_nil))) pa_nil))))) (eds_cons (ed_tup (eds_cons ed_int (eds_cons (ed_tup eds_nil (sz4 (by decide))) eds_nil)) (sz4 (by decide))) (eds_cons (ed_tup (eds_cons ed_int (eds_cons (ed_tup eds_nil (sz4 (by decide))) eds_nil)) (sz4 (by decide))) (eds_cons (ed_tup (eds_cons ed_int (eds_cons (ed_rep (eds_cons (ed_tup (eds_cons ed_int (eds_cons ed_int (eds_cons ed_int (eds_cons ed_int eds_nil)))) (sz4 (by decide))) eds_nil) (by decide) (by decide) (by decide) (by decide)) eds_nil)) (sz4 (by decide))) (eds_cons (ed_tup (eds_cons ed_neg (eds_cons (ed_tup eds_nil (sz4 (by decide))) eds_nil)) (sz4 (by decide))) eds_nil)))) (sz4 (by decide))) (pe_c C._law_next hr (by first | decide | omega) (by rfl) (pa_cons (pv 1) (pa_cons pe_int pa_nil))) (fun _ _ => rfl)) (pg_tup rfl (pgs_cons (pg_name (i := 7) scLaw.nd rfl (Or.inr rfl)) (pgs_cons (pg_name (i := 8) scLaw.nd rfl (Or.inr rfl)) pgs_nil))))) pss_nil)
 (pss_cons (ps_asg (pe_tup (pa_cons (pe_c C._law_first_bad hr (by first | decide | omega) (by rfl) (pa_cons (pv 7) (pa_cons (pv 8) pa_nil))) (pa_cons (pe_lst pa_nil) pa_nil))) (pg_tup rfl (pgs_cons (pg_name (i := 3) scLaw.nd rfl (Or.inl rfl)) (pgs_cons (pg_name (i := 9) scLaw.nd rfl (Or.inr rfl)) pgs_nil))))
 (pss_cut (ps_set (i := 4) scLaw.nd rfl (Or.inl rfl) lamE)
 (pss_cut (ps_if (pt_cmpR (op_neD hr.units) (pv 4) (pe_ifExp (pt_cmpR op_isN (pv 3) pe_non (nomark _)) (pe_tup (pa_cons pe_str pa_nil)) (pe_op op_catA (pe_tup (pa_cons pe_str pa_nil)) (pv 3))) (nomark _)) (pss_one (ps_ret pe_bl)) pss_nil)
 (pss_cut (ps_for PassesOwn.never rfl (pi_tup (pe_slice sl_tupA (pv 8) po_none (po_some pe_int))) (pg_name (i := 5) scLaw.nd rfl (Or.inl rfl)) (pss_one (ps_if (pt_not (pt_val (pe_c C._law_alike hr (by first | decide | omega) (by rfl) (pa_cons (pe_plain (pe_gc (v := .ref CC) (by rfl) ⟨_, T0.gC, rfl⟩) (hands_cls SC) TT.kS FS (hr.mono (by decide : 1 ≤ 8)) bS L2.pass0 (pa_cons (pe_callB (call_max2 rfl) (by rfl) T.max (by decide +kernel) (pa_cons pe_int (pa_cons (pv 7) pa_nil))) (pa_cons (pv 5) pa_nil))) (pa_cons (pe_c C._law_is_link hr (by first | decide | omega) (by rfl) (pa_cons (pe_callB (call_max2 rfl) (by rfl) T.max (by decide +kernel) (pa_cons pe_int (pa_cons (pv 7) pa_nil))) (pa_cons (pv 5) pa_nil))) pa_nil))))) (pss_one (ps_ret pe_bl)) pss_nil)))
 (pss_one (ps_if (pt_cmpR op_isN (pv 3) pe_non (nomark _)) (pss_cons (ps_set (i := 6) scLaw.nd rfl (Or.inl rfl) (pe_ix ix_list (pv 9) pe_int (fun _ _ => rfl)))
 (pss_cons (ps_if (pt_not (pt_val (pe_c C._law_alike hr (by first | decide | omega) (by rfl) (pa_cons (pe_lst (pa_cons (pe_prop (pv 6) TT.cl P1 G1 (hr.mono (by decide : 2 ≤ 8)) b1 .nil L2.pass0 rfl) (pa_cons (pe_prop (pv 6) TT.cl P2 G2 (hr.mono (by decide : 2 ≤ 8)) b2 .nil L2.pass0 rfl) pa_nil))) (pa_cons (pe_lst (pa_cons (pv 7) (pa_cons (pv 8) pa_nil))) pa_nil))))) (pss_one (ps_ret pe_bl)) pss_nil)
 (pss_one (ps_if (pt_not (pt_val (pe_c C._law_alike hr (by first | decide | omega) (by rfl) (pa_cons (pe_prop (pv 6) TT.cl P3 G3 (hr.mono (by decide : 2 ≤ 8)) b3 .nil L2.pass0 rfl) (pa_cons (pe_callTy call_tuple_of (by rfl) T.tuple (by decide +kernel) (pa_cons (pe_lc (own := [("_law_link", 5)]) (g := gName 5) rfl scLaw.nd (pi_tup (pv 8)) (blkOk_by (N := ["_law_script", "_law_h", "_law_turn", "_law_bad", "_law_error_here", "_law_link", "_law_town", "_law_count", "_law_links_here", "_law_results"]) (sc := fnScope sLaw) (by decide +kernel)) (fun _ _ _ _ _ => pg_name (i := 5) scLaw.nd rfl (Or.inl rfl)) (fun _ _ _ _ _ => pts_nil) (fun _ _ _ _ _ => (pe_ix (show IxR _ (rIxT K) from ix_tup) (pv 5) pe_int (fun _ _ => rfl)))) pa_nil)) pa_nil))))) (pss_one (ps_ret pe_bl)) pss_nil)))) pss_nil)))))))))))
 (pss_one (ps_ret (pe_cmpR (op_eqD hr.units) (pe_tup (pa_cons (ClX.pe_cval (pe_gc (v := .ref CC) (by rfl) ⟨_, T0.gC, rfl⟩)) (pa_cons (ClX.pe_cval (pe_gc (v := .ref CC) (by rfl) ⟨_, T0.gC, rfl⟩)) (pa_cons (ClX.pe_cval (pe_gc (v := .ref CC) (by rfl) ⟨_, T0.gC, rfl⟩)) pa_nil)))) (pe_tup (pa_cons pe_int (pa_cons pe_int (pa_cons (pe_op op_pow pe_int pe_int) pa_nil)))) (nomark _)))))), ?_⟩
    walk_at "go"
    refine ⟨a, ns, rfl, ha, hl, fun h s H1 st1 sm1 => ?_⟩
    have tb1 : LamX.Tabs [(Pt, lamQ)] H1 := hT.ext sm1
    walk_at "go"
    refine ⟨by decide, by decide, for_range (lo := 0) (n := 6) (fun _ σ H' => (∃ v2 v3 v4 v5 v6 v7 v8 v9, σ = [some (.ref a), some (.ref h), v2, v3, v4, v5, v6, v7, v8, v9]) ∧ LSt H' h s ∧ LamX.Tabs [(Pt, lamQ)] H')
      ⟨⟨none, none, none, none, none, none, none, none, rfl⟩, st1, tb1⟩ ?_ ?_⟩
    · rintro i σ G0 hi ⟨⟨v2, v3, v4, v5, v6, v7, v8, v9, rfl⟩, st0, tb0⟩
      walk_at "go"
      refine ⟨h, s, _, rfl, st0, by decide, by decide, fun r1 G1 r10 r11 gs1 gb1 => ?_⟩
      walk_at "go"
      refine ⟨h, s, _, _, _, rfl, gs1, by omega, by omega, by decide, by decide, fun t ls G2 gs2 gb2 hls2 hlen2 => ?_⟩
      have tb2 := tabs_but gs1 gb2 (tabs_but st0 gb1 tb0)
      refine ⟨fun σ H' => ∃ t ls, σ = [some (.ref a), some (.ref h), some (.int (0 + (i : Int))), v3, v4, v5, v6, some (.int (1 + r1)), some (.ref t), v9] ∧ LSt H' h s ∧ LamX.Tabs [(Pt, lamQ)] H' ∧ Ls K H' t ls ∧ ls.length ≤ 24, ?_, ?_⟩
      · walk_at "go"
        refine ⟨h, s, _, rfl, gs2, by decide, by decide, fun r3 G3 r30 r31 gs3 gb3 => ?_⟩
        have hls3 := hls2.but gb3 gs2
        have tb3 := tabs_but gs2 gb3 tb2
        walk_at "go"
        · refine ⟨h, s, t, _, ls, rfl, gs3, hls3, by omega, fun t4 ls4 G4 gs4 gb4 hls4 hlen4 => ?_⟩
          walk_at "go"
          exact ⟨t4, ls4, rfl, gs4, tabs_but gs3 gb4 tb3, hls4, by omega⟩
        · exact ⟨t, ls, rfl, gs3, tb3, hls3, by omega⟩
      · rintro σ G5 ⟨t5, ls5, rfl, gs5, tb5, hls5, hlen5⟩
        refine ⟨fun σ H' => ∃ c t ls, σ = [some (.ref a), some (.ref h), some (.int (0 + (i : Int))), v3, v4, v5, v6, some (.int c), some (.ref t), v9] ∧ LSt H' h s ∧ LamX.Tabs [(Pt, lamQ)] H' ∧ Ls K H' t ls ∧ ls.length ≤ 25 ∧ -1 ≤ c ∧ c ≤ 13, ?_, ?_⟩
        · walk_at "go"
          refine ⟨h, s, _, rfl, gs5, by decide, by decide, fun r6 G6 r60 r61 gs6 gb6 => ?_⟩
          have hls6 := hls5.but gb6 gs5
          have tb6 := tabs_but gs5 gb6 tb5
          walk_at "go"
          · refine fun p xs G7 np sm7 e7 dp7 => ?_
            have gs7 : LSt G7 h s := gs6.same sm7
            obtain ⟨nh, nk⟩ := gs6.fresh np
            walk_at "go"
            refine ⟨h, s, _, rfl, gs7, by decide, by decide, fun r7 G8 r70 r71 gs8 gb8 => ?_⟩
            have tb8 : LamX.Tabs [(Pt, lamQ)] G8 := tabs_but gs7 gb8 (tb6.ext sm7)
            obtain ⟨v, hv, mi⟩ := menu_pick dp7 r7 r70 r71
            obtain ⟨q8, c, t8, ls8, rfl, hq, hls, hl8, c0, c1⟩ := mi.but gb8 gs7
            refine ⟨p, xs, r7, _, rfl, rfl, SqL.of' (gb8 _ _ nh nk e7), hv, ?_⟩
            refine ⟨q8, _, rfl, hq, rfl, ?_⟩
            walk_at "go"
            exact ⟨c, t8, ls8, rfl, gs8, tb8, hls, hl8, c0, c1⟩
          · exact ⟨_, _, ls5, rfl, gs6, tb6, hls6, by omega, by omega, by omega⟩
        · rintro σ G8 ⟨c, t8, ls8, rfl, gs8, tb8, hls8, hlen8, c0, c1⟩
          walk_at "go"
          refine ⟨t8, c, ls8, rfl, hls8, by omega, fun vb G9 sm9 hb9 => ?_⟩
          walk_at "go"
          rename_i p9 hp9 q9 hq9
          have np := (gs8.same sm9).fresh hp9
          have fsm : Same G8 (upd (upd G9 p9 (HO.lst [])) q9 (HO.tup [vb, V.ref p9])) := (sm9.trans (Same.upd' hp9)).trans (Same.upd' hq9)
          have fsn : Same G9 (upd (upd G9 p9 (HO.lst [])) q9 (HO.tup [vb, V.ref p9])) := (Same.upd' hp9).trans (Same.upd' hq9)
          have fp : (upd (upd G9 p9 (HO.lst [])) q9 (HO.tup [vb, V.ref p9])) p9 = some (.lst []) := up_new upd_same hq9
          generalize upd (upd G9 p9 (HO.lst [])) q9 (HO.tup [vb, V.ref p9]) = G10 at fsm fsn fp ⊢
          have gs10 := gs8.same fsm
          have hls10 := hls8.same fsm
          have hb10 : BadV K G10 vb (firstBad c ls8) := hb9.by fun _ _ z => Same.tup fsn z
          have tb10 : LamX.Tabs [(Pt, lamQ)] G10 := tb8.ext fsm
          refine ⟨fun σ H' => ∃ ve, σ = [some (.ref a), some (.ref h), some (.int (0 + (i : Int))), some vb, some ve, v5, v6, some (.int c), some (.ref t8), some (.ref p9)] ∧ LSt H' h s ∧ LamX.Tabs [(Pt, lamQ)] H' ∧ Ls K H' t8 ls8 ∧ BadV K H' vb (firstBad c ls8) ∧ ErrV K H' ve (firstBad c ls8) ∧ (firstBad c ls8 = none → ∃ x dx, H' p9 = some (.lst [.ref x]) ∧ H' x = some (.ins C0 dx (tF c t8))), ?_, ?_⟩
          · refine ⟨tb10, fun G11 ex tb11 => ?_⟩
            have gs11 := gs10.extN ex
            have hls11 := hls10.extN ex
            have hb11 : BadV K G11 vb (firstBad c ls8) := hb10.by fun _ _ z => SqT.extN ex z
            have fp11 : G11 p9 = some (.lst []) := ex _ _ fp (fun _ z => nomatch z)
            refine ⟨_, rfl, .inl ⟨rfl, _, SqL.of' fp11⟩, _, rfl, _, rfl, fun x dx nx nd ne => ?_⟩
            have sm12 : Same G11 (upd (upd G11 dx (.own x)) x (.ins C0 dx [])) := (Same.upd' nd).trans (Same.upd' (by rw [upd_ne (Ne.symm ne)]; exact nx))
            refine ⟨x, dx, t8, c, ls8, rfl, upd_same, hls11.same sm12, by omega, fun r hr d H12 sm13 hd hx => ?_, fun hn H12 sm13 hx => ?_⟩
            · refine ⟨rfl, d, r.1, r.2, rfl, hx, fun v H13 sm14 ⟨e, hv, he⟩ => ?_⟩
              have sm15 := (sm12.trans sm13).trans sm14
              refine ⟨v, rfl, gs11.same sm15, tb11.ext sm15, hls11.same sm15, hb11.by fun _ _ z => Same.tup sm15 z, ?_, fun z => ?_⟩
              · rw [hr]; exact ⟨e, hv, he⟩
              · rw [hr] at z; cases z
            · have sm14 : Same G11 H12 := fun b o e => sm13 b o (ne_of_none e nx) (sm12 b o e)
              refine ⟨rfl, p9, [], .ref x, rfl, rfl, sm14 _ _ fp11, by rw [sizeLine_eq]; decide, by rw [sizeLine_eq]; decide, fun e ne => ?_⟩
              have fp12 := sm14 _ _ fp11
              · have sm16 : Same (upd H12 p9 (.lst ([] ++ [.ref x]))) (upd (upd H12 p9 (.lst ([] ++ [.ref x]))) e (.tup [.str "none"])) := Same.upd' ne
                refine ⟨.ref e, rfl, (LSt.put (gs11.same sm14) np.1 np.2).same sm16, (tabs_put fp12 (tb11.ext sm14)).ext sm16, ((hls11.same sm14).putL fp12).same sm16, hb11.by fun _ _ z => Same.tup sm16 (SqT.put (Same.tup sm14 z) fp12), ?_, fun _ => ⟨x, dx, sm16 _ _ upd_same, sm16 _ _ (up_set (ne_of hx fp12 (fun z => nomatch z)) hx)⟩⟩
                rw [hn]
                exact ⟨e, rfl, SqT.of' upd_same⟩
          · rintro σ G11 ⟨ve, rfl, gs11, tb11, hls11, hb11, he11, ht11⟩
            refine ⟨fun σ H' => ∃ ve v5, σ = [some (.ref a), some (.ref h), some (.int (0 + (i : Int))), some vb, some ve, v5, v6, some (.int c), some (.ref t8), some (.ref p9)] ∧ LSt H' h s ∧ LamX.Tabs [(Pt, lamQ)] H' ∧ Ls K H' t8 ls8 ∧ BadV K H' vb (firstBad c ls8) ∧ (firstBad c ls8 = none → ∃ x dx, H' p9 = some (.lst [.ref x]) ∧ H' x = some (.ins C0 dx (tF c t8))), ?_, ?_⟩
            · refine ⟨ve, rfl, vb, rfl, rfl, _, rfl, ?_⟩
              cases hf : firstBad c ls8 with
              | none =>
                rw [hf] at hb11 he11
                obtain ⟨e, rfl, he⟩ := he11
                have hv : vb = .non := hb11
                subst hv
                refine itD rfl ?_
                refine ⟨by rw [sizeLine_eq]; decide, fun r nr => ?_⟩
                have sm := Same.upd' (o := .tup [.str "none"]) nr
                refine ⟨_, _, Dp.str1 (Same.tup sm he), Dp.str1 (SqT.of' upd_same), shaped_none, shaped_none, _, rfl, ?_⟩
                rw [SeqAt.eqv_refl _ (sh_lay shaped_none)]
                exact ⟨_, v5, rfl, gs11.same sm, tb11.ext sm, hls11.same sm, rfl, fun _ => by
                  obtain ⟨x, dx, e1, e2⟩ := ht11 hf
                  exact ⟨x, dx, sm _ _ e1, sm _ _ e2⟩⟩
              | some r =>
                rw [hf] at hb11 he11
                obtain ⟨e, rfl, he⟩ := he11
                obtain ⟨b, rfl, hb⟩ := hb11
                refine itN (fun z => by cases z) ?_
                refine ⟨by rw [sizeLine_eq]; decide, fun r1 nr => ?_⟩
                have sm := Same.upd' (o := .tup [.str "town"]) nr
                refine ⟨_, rfl, ?_⟩
                refine catA_i (SqT.of' upd_same) (Same.tup sm hb) (by rw [sizeLine_eq]; simp only [List.length_cons, List.length_nil]; omega) fun r2 H12 sm2 hr2 => ?_
                have sm3 := sm.trans sm2
                refine ⟨_, _, Dp.town (Same.tup sm3 he), Dp.town hr2, shaped_town hf, shaped_town hf, _, rfl, ?_⟩
                rw [SeqAt.eqv_refl _ (sh_lay (shaped_town hf))]
                exact ⟨_, v5, rfl, gs11.same sm3, tb11.ext sm3, hls11.same sm3, ⟨b, rfl, Same.tup sm3 hb⟩, fun z => by cases z⟩
            · rintro σ G13 ⟨ve, v5, rfl, gs13, tb13, hls13, hb13, ht13⟩
              refine ⟨fun σ H' => ∃ v5, σ = [some (.ref a), some (.ref h), some (.int (0 + (i : Int))), some vb, some ve, v5, v6, some (.int c), some (.ref t8), some (.ref p9)] ∧ Same G13 H', ?_, ?_⟩
              · obtain ⟨vs, hvs, hll⟩ := hls13
                refine ⟨.ref t8, rfl, 5, rfl, ?_⟩
                refine slA_i hvs fun p14 G14 sm14 hp14 => ?_
                refine ⟨p14, rfl, ⟨_, hp14⟩, for_tup (xs := cutV vs none (some 5)) (fun _ σ H' => ∃ v5, σ = [some (.ref a), some (.ref h), some (.int (0 + (i : Int))), some vb, some ve, v5, v6, some (.int c), some (.ref t8), some (.ref p9)] ∧ Same G14 H') ⟨_, rfl, Same.refl _⟩ (fun _ _ _ _ ⟨_, _, sm⟩ => Same.tup sm hp14) ?_ fun σ H' ⟨v5, e, sm⟩ => ⟨v5, e, sm14.trans sm⟩⟩
                rintro j x σ G15 hj ⟨v5, rfl, sm15⟩
                obtain ⟨xa, l, rfl, hlj, hl4⟩ := hll.item (cut_item hj)
                have hl5 := Same.tup (sm14.trans sm15) hl4
                refine ⟨rfl, .int c, rfl, 1, c, rfl, .ref xa, rfl, xa, _, l, rfl, hl5, .int c, rfl, 1, c, rfl, .ref xa, rfl, xa, _, l, rfl, hl5, ?_⟩
                refine ⟨_, _, _, rfl, .bl _, .bl _, .inl (.inr ⟨_, rfl⟩), fun G16 sm16 => ?_⟩
                walk_at "go"
                exact sm15.trans sm16
              · rintro σ G17 ⟨v5', rfl, sm17⟩
                have gs17 := gs13.same sm17
                have tb17 := tb13.ext sm17
                have hls17 := hls13.same sm17
                cases hf : firstBad c ls8 with
                | some r =>
                  rw [hf] at hb13
                  obtain ⟨b, rfl, hb⟩ := hb13
                  refine ⟨.ref b, rfl, rfl, _, rfl, ?_⟩
                  refine itN (fun z => by cases z) ?_
                  exact ⟨⟨_, _, _, _, _, _, _, _, rfl⟩, gs17, tb17⟩
                | none =>
                  rw [hf] at hb13
                  have hv : vb = .non := hb13
                  subst hv
                  obtain ⟨x, dx, e1, e2⟩ := ht13 hf
                  have e1 := sm17 _ _ e1
                  have e2 := sm17 _ _ e2
                  refine ⟨.non, rfl, rfl, _, rfl, ?_⟩
                  refine itD rfl ?_
                  refine ⟨.ref p9, rfl, p9, [.ref x], 0, .ref x, rfl, rfl, SqL.of' e1, rfl, ?_⟩
                  refine ⟨.ref x, rfl, x, dx, _, rfl, e2, x, dx, _, .int c, rfl, e2, rfl, ?_⟩
                  refine ⟨.ref x, rfl, x, dx, _, rfl, e2, x, dx, _, .ref t8, rfl, e2, rfl, ?_⟩
                  refine ⟨by walk_at "sz", fun p18 n18 => ?_⟩
                  have sm18 : Same G17 (upd G17 p18 (HO.lst [V.int c, V.ref t8])) := Same.upd' n18
                  have e18 : upd G17 p18 (HO.lst [V.int c, V.ref t8]) p18 = some (HO.lst [V.int c, V.ref t8]) := upd_same
                  generalize upd G17 p18 (HO.lst [V.int c, V.ref t8]) = G18 at sm18 e18 ⊢
                  refine ⟨.int c, rfl, .ref t8, rfl, by walk_at "sz", fun p19 n19 => ?_⟩
                  have sm19 : Same G18 (upd G18 p19 (HO.lst [V.int c, V.ref t8])) := Same.upd' n19
                  have e19 : upd G18 p19 (HO.lst [V.int c, V.ref t8]) p19 = some (HO.lst [V.int c, V.ref t8]) := upd_same
                  generalize upd G18 p19 (HO.lst [V.int c, V.ref t8]) = G19 at sm19 e19 ⊢
                  have hls19 := hls17.same (sm18.trans sm19)
                  have hd19 := Dp.links hls19
                  refine ⟨_, _, .list [.int c, .tuple (ls8.map ld)], rfl, .lst (SqL.of' (sm19 _ _ e18)) (.cons (.int c) (.cons hd19 .nil)), .lst (SqL.of' e19) (.cons (.int c) (.cons hd19 .nil)), .inr ⟨_, .inl rfl, by simp, fun e he => ?_⟩, fun G20 sm20 => ?_⟩
                  · simp only [List.mem_cons, List.not_mem_nil, or_false] at he
                    rcases he with rfl | rfl
                    · exact .inl (.inl ⟨_, rfl⟩)
                    · exact okd_links (by omega)
                  · have sm := (sm18.trans sm19).trans sm20
                    walk_at "go"
                    have e20 := sm _ _ e2
                    refine ⟨x, dx, _, rfl, e20, x, dx, t8, c, ls8, rfl, e20, hls17.same sm, by omega, fun p21 G21 sm21 hp21 => ?_⟩
                    obtain ⟨vs, hvs, hll⟩ := hls17.same (sm.trans sm21)
                    have hv := hll.1
                    refine ⟨_, rfl, t8, rfl, ⟨_, hvs⟩, fun D hD => ?_⟩
                    refine lc_tup (K := K) (a := t8) (xs := vs) (fun i H' => Same G21 H' ∧ H' D = some (.lst ((ls8.take i).map fun l => V.int l.2.2.2))) ⟨Same.upd' hD, upd_same⟩ (fun i H' _ z => Same.tup z.1 hvs) (fun i y H' hy ⟨sm, hD'⟩ => ?_) (fun H' ⟨sm22, hD'⟩ => ?_)
                    · obtain ⟨xa, l, rfl, hl, hta⟩ := hll.item hy
                      have hta' : SqT K H' xa [.int l.1, .int l.2.1, .int l.2.2.1, .int l.2.2.2] := Same.tup sm hta
                      walk_at "go"
                      refine ⟨_, hD', by rw [sizeLine_eq, List.length_map, List.length_take]; omega, Same.put' hD sm, ?_⟩
                      rw [upd_same, ← map_take_snoc hl (fun l => V.int l.2.2.2)]
                    · rw [hv, List.take_length] at hD'
                      walk_at "go"
                      rename_i p23 n23
                      have sm23 := (sm21.trans sm22).trans (Same.upd' (o := .tup (ls8.map fun l => V.int l.2.2.2)) n23)
                      have hp23 := Same.tup (sm22.trans (Same.upd' (o := .tup (ls8.map fun l => V.int l.2.2.2)) n23)) hp21
                      refine ⟨_, _, _, rfl, Dp.lives hp23, Dp.lives (SqT.of' upd_same), okd_lives (by omega), fun G24 sm24 => ?_⟩
                      have smz := (sm.trans sm23).trans sm24
                      walk_at "go"
                      exact ⟨⟨_, _, _, _, _, _, _, _, rfl⟩, gs17.same smz, tb17.ext smz⟩
    · rintro σ H' ⟨⟨v2, v3, v4, v5, v6, v7, v8, v9, rfl⟩, st, tb⟩
      obtain ⟨u1, h1⟩ := vP
      obtain ⟨u2, h2⟩ := vB
      obtain ⟨u3, h3⟩ := T0.mlf
      refine ⟨C0, .type "type", .int 12, u1, rfl, T0.cr, h1, C0, .type "type", .int 24, u2, rfl, T0.cr, h2, C0, .type "type", .int 1000000000000000000, u3, rfl, T0.cr, h3, by walk_at "sz", fun p hp => ?_⟩
      refine ⟨10, 18, rfl, rfl, ⟨by decide, by decide, by decide⟩, by walk_at "sz", fun p2 hp2 => ?_⟩
      refine ⟨.tuple [.int 12, .int 24, .int 1000000000000000000], .tuple [.int 12, .int 24, .int 1000000000000000000], .tup (SqT.new' hp2 (SqT.of' upd_same)) (.cons (.int _) (.cons (.int _) (.cons (.int _) .nil))), .tup (SqT.of' upd_same) (.cons (.int _) (.cons (.int _) (.cons (.int _) .nil))), by decide +kernel, by decide +kernel, ?_⟩
      exact bl_as (q _) (by decide +kernel)
  obtain ⟨t, ht, hq⟩ := hand
  exact ⟨t, ht.nox, hq⟩
end
end T1

set_option Elab.async false
set_option linter.all false
set_option maxRecDepth 100000
set_option maxHeartbeats 4000000
namespace T1
open PySem PySem.Spec PyProof.Rows L2 C8
theorem tabs_new {P : Addr} {q : Str} {H : Hp} (h : H P = some (.tbl #[])) : LamX.Tabs [(P, q)] H := fun p hp => by
  rw [List.mem_singleton.mp hp]
  exact ⟨#[], h, trivial, fun pos cv hc => by cases hc⟩
set_option maxHeartbeats 8000000 in
theorem all_mk {l : PySem.W.OpenLaw} {w : World} {K : PySem.W.Frag} {h : Heap} {mg : Str → Option Value} {fa : Addr} (X : K.In h) (G : h.Ns mainGlobals mg) (hfa : mg "law" = some (.ref fa))
    {CB CT fT C pS gS fTi p1 p2 p3 g1 g2 g3 fL cl Pt c0 c1 c2 c3 c4 c5 c6 c7 c8 c9 c10 fMix fNext fAlike fError fLife fLinks fIsLink fFirst fSpoilt : Addr} {nm q : Str} {N : Addr} {bs bm : List Value} {sn : List Str} {sub : List Value} {ab : Bool} {col : Option Bool} {dd : Option Addr} {m0 m1 m2 m3 m5 : Option Value} {mB : Value} {u0 u1 u2 u3 u4 u5 : Tok} {rS r1 r2 r3 : List Value}
    {ocMix kVMix dcMix pmMix cdMix ctMix ocNext kVNext dcNext pmNext cdNext ctNext ocAlike kVAlike dcAlike pmAlike cdAlike ctAlike ocError kVError dcError pmError cdError ctError ocLife kVLife dcLife pmLife cdLife ctLife ocLinks kVLinks dcLinks pmLinks cdLinks ctLinks ocIsLink kVIsLink dcIsLink pmIsLink cdIsLink ctIsLink ocFirst kVFirst dcFirst pmFirst cdFirst ctFirst ocSpoilt kVSpoilt dcSpoilt pmSpoilt cdSpoilt ctSpoilt ocL kVL dcL pmL ctL ocITi kVITi dcITi pmITi cdITi ctITi ocTi kVTi dcTi pmTi cdTi ctTi ocS kVS dcS pmS cdS ctS ocg1 kVg1 dcg1 pmg1 cdg1 ctg1 ocg2 kVg2 dcg2 pmg2 cdg2 ctg2 ocg3 kVg3 dcg3 pmg3 cdg3 ctg3 : Value} {odMix anMix odNext anNext odAlike anAlike odError anError odLife anLife odLinks anLinks odIsLink anIsLink odFirst anFirst odSpoilt anSpoilt odL anL odITi anITi odTi anTi odS anS odg1 ang1 odg2 ang2 odg3 ang3 : Option Addr} {slMix slNext slAlike slError slLife slLinks slIsLink slFirst slSpoilt slL slITi slTi slS slg1 slg2 slg3 : Array (Option Value)}
    (aCB : PySem.W.nsIn K mainGlobals "BridgeError" = some (some (.ref CB)))
    (aCT : PySem.W.nsIn K mainGlobals "InvalidTown" = some (some (.ref CT)))
    (aC : PySem.W.nsIn K mainGlobals "Town" = some (some (.ref C)))
    (ae0 : PySem.W.nsIn K mainGlobals "InvalidText" = some (some (.ref c0)))
    (ke0 : PySem.W.kitOne K (.ref CT) (.ref c0) = some false)
    (ae1 : PySem.W.nsIn K mainGlobals "InvalidTrips" = some (some (.ref c1)))
    (ke1 : PySem.W.kitOne K (.ref CT) (.ref c1) = some false)
    (ae2 : PySem.W.nsIn K mainGlobals "InvalidCount" = some (some (.ref c2)))
    (ke2 : PySem.W.kitOne K (.ref CT) (.ref c2) = some false)
    (ae3 : PySem.W.nsIn K mainGlobals "InvalidLife" = some (some (.ref c3)))
    (ke3 : PySem.W.kitOne K (.ref CT) (.ref c3) = some false)
    (ae4 : PySem.W.nsIn K mainGlobals "InvalidLoad" = some (some (.ref c4)))
    (ke4 : PySem.W.kitOne K (.ref CT) (.ref c4) = some false)
    (ae5 : PySem.W.nsIn K mainGlobals "UnknownPlace" = some (some (.ref c5)))
    (ke5 : PySem.W.kitOne K (.ref CT) (.ref c5) = some false)
    (ae6 : PySem.W.nsIn K mainGlobals "UnknownBridge" = some (some (.ref c6)))
    (ke6 : PySem.W.kitOne K (.ref CT) (.ref c6) = some false)
    (ae7 : PySem.W.nsIn K mainGlobals "UnknownKind" = some (some (.ref c7)))
    (ke7 : PySem.W.kitOne K (.ref CT) (.ref c7) = some false)
    (ae8 : PySem.W.nsIn K mainGlobals "TooManyBridges" = some (some (.ref c8)))
    (ke8 : PySem.W.kitOne K (.ref CT) (.ref c8) = some false)
    (ae9 : PySem.W.nsIn K mainGlobals "DifferentTowns" = some (some (.ref c9)))
    (ke9 : PySem.W.kitOne K (.ref CT) (.ref c9) = some false)
    (ae10 : PySem.W.nsIn K mainGlobals "Contradiction" = some (some (.ref c10)))
    (ke10 : PySem.W.kitOne K (.ref CT) (.ref c10) = some false)
    (own : PySem.W.kitOne K (.ref CT) (.ref CT) = some true)
    (ve : PySem.W.kitOne K (.ref CT) (.type "ValueError") = some true)
    (gV : PySem.W.nsIn K mainGlobals "ValueError" = some none)
    (ehg : PySem.W.findIn K (.ref CT) "__getattribute__" = some (some (.builtin "BaseException.__getattribute__")))
    (ehk : PySem.W.findIn K (.ref CT) "__getattr__" = some none)
    (ehs : PySem.W.subIn K (.ref CT) (.type "BaseException") = some true)
    (ehd : PySem.W.hasDictIn K CT = true)
    (eha : PySem.W.findIn K (.ref CT) "__class__" = some (some (.builtin "object.__class__")))
    (ehn : PySem.W.specialIn K (.builtin "object.__class__") "__get__" = some (some (.builtin "getset_descriptor.__get__")))
    (eht : PySem.W.takesIn K (.builtin "object.__class__") = some true)
    (ehm : PySem.W.mroIn K CT (.type "object") = some true)
    (nP : PySem.W.findIn K (.ref CT) "part" = some none)
    (nI : PySem.W.findIn K (.ref CT) "index" = some none)
    (em : PySem.W.exmOne K (.ref CT) (.ref CB) = some true)
    (rdB : PySem.W.readsIn K CB mB = true)
    (sgB : PySem.W.specialIn K (.ref CB) "__getattribute__" = some (some (.builtin "type.__getattribute__")))
    (inB : PySem.W.findCls K (.ref CB) mB "__init__" = some (.val (.builtin "ValueError.__init__")))
    (oxl : K.lookup CT = some (excClassObj nm q CT N bs bm true sn sub ab col dd m0 m1 m2 m3 m5 "ValueError.__new__"))
    (oxs : PySem.W.findIn K (.ref CT) "__setattr__" = some (some (.builtin "object.__setattr__")))
    (oxt : PySem.W.typeIn K (.ref CT) = some (.type "type"))
    (oxk : PySem.W.keepIn K (.ref CT) = true)
    (iT : PySem.W.findIn K (.ref CT) "__init__" = some (some (.ref fT)))
    (tT : PySem.W.typeIn K (.ref fT) = some (.type "function"))
    (mxl : PySem.W.nsIn K mainGlobals "MAX_LENGTH" = some (some (.int 99 u0)))
    (crd : PySem.W.readsIn K C (.type "type") = true)
    (cga : PySem.W.specialIn K (.ref C) "__getattribute__" = some (some (.builtin "type.__getattribute__")))
    (vML : PySem.W.findCls K (.ref C) (.type "type") "MAX_LIFE" = some (.val (.int 1000000000000000000 u1)))
    (vMP : PySem.W.findCls K (.ref C) (.type "type") "MAX_PLACES" = some (.val (.int 12 u2)))
    (vMB : PySem.W.findCls K (.ref C) (.type "type") "MAX_BRIDGES" = some (.val (.int 24 u3)))
    (cpg : PySem.W.plainGet K C Str.empty = true)
    (chd : PySem.W.hasDictIn K C = true)
    (cpo : PySem.W.plainOver K C = true)
    (csa : PySem.W.findIn K (.ref C) "__setattr__" = some (some (.builtin "object.__setattr__")))
    (nC : PySem.W.findIn K (.ref C) "_count" = some none)
    (nB : PySem.W.findIn K (.ref C) "_bridges" = some none)
    (mpa : PySem.W.findIn K (.ref C) "MAX_PLACES" = some (some (.int 12 u4)))
    (mpg : PySem.W.specialIn K (.int 12 u4) "__get__" = some none)
    (mba : PySem.W.findIn K (.ref C) "MAX_BRIDGES" = some (some (.int 24 u5)))
    (mbg : PySem.W.specialIn K (.int 24 u5) "__get__" = some none)
    (sIc : PySem.W.isClsIn K C = true)
    (sIf : PySem.W.findIn K (.ref C) "is_bridge" = some (some (.ref pS)))
    (sIt : PySem.W.typeIn K (.ref pS) = some (.type "staticmethod"))
    (sIs : PySem.W.specialIn K (.ref pS) "__get__" = some (some (.builtin "staticmethod.__get__")))
    (sIk : PySem.W.takesIn K (.ref pS) = some false)
    (sIr : PySem.W.recIn K pS "staticmethod" = some (.ref gS :: rS))
    (sCf : PySem.W.findCls K (.ref C) (.type "type") "is_bridge" = some (.get (.builtin "staticmethod.__get__") (.ref pS) .none (.ref C)))
    (cmk : PySem.W.makesIn K C = true)
    (iTi : PySem.W.findIn K (.ref C) "__init__" = some (some (.ref fTi)))
    (fTiF : PySem.W.isFn K (.ref fTi) = true)
    (ckp : PySem.W.keepIn K (.ref C) = true)
    (pa1 : PySem.W.findIn K (.ref C) "place_count" = some (some (.ref p1)))
    (pg1 : PySem.W.specialIn K (.ref p1) "__get__" = some (some (.builtin "property.__get__")))
    (pt1 : PySem.W.takesIn K (.ref p1) = some true)
    (pr1 : PySem.W.recIn K p1 "property" = some (.ref g1 :: r1))
    (pa2 : PySem.W.findIn K (.ref C) "bridges" = some (some (.ref p2)))
    (pg2 : PySem.W.specialIn K (.ref p2) "__get__" = some (some (.builtin "property.__get__")))
    (pt2 : PySem.W.takesIn K (.ref p2) = some true)
    (pr2 : PySem.W.recIn K p2 "property" = some (.ref g2 :: r2))
    (pa3 : PySem.W.findIn K (.ref C) "lives" = some (some (.ref p3)))
    (pg3 : PySem.W.specialIn K (.ref p3) "__get__" = some (some (.builtin "property.__get__")))
    (pt3 : PySem.W.takesIn K (.ref p3) = some true)
    (pr3 : PySem.W.recIn K p3 "property" = some (.ref g3 :: r3))
    (aMix : PySem.W.nsIn K mainGlobals "_law_mix" = some (some (.ref fMix)))
    (lMix : K.lookup fMix = some ⟨ocMix, odMix, .func (PySem.W.fnOf "_law_mix" "_law_mix" (fnArgs sMix) (fnBody sMix) (fnScope sMix) .none kVMix dcMix pmMix anMix cdMix ctMix), slMix⟩)
    (ccMix : PySem.W.codeIn K cdMix "_law_mix" = true)
    (kkMix : PySem.W.keepIn K (.ref fMix) = true)
    (aNext : PySem.W.nsIn K mainGlobals "_law_next" = some (some (.ref fNext)))
    (lNext : K.lookup fNext = some ⟨ocNext, odNext, .func (PySem.W.fnOf "_law_next" "_law_next" (fnArgs sNext) (fnBody sNext) (fnScope sNext) .none kVNext dcNext pmNext anNext cdNext ctNext), slNext⟩)
    (ccNext : PySem.W.codeIn K cdNext "_law_next" = true)
    (kkNext : PySem.W.keepIn K (.ref fNext) = true)
    (aAlike : PySem.W.nsIn K mainGlobals "_law_alike" = some (some (.ref fAlike)))
    (lAlike : K.lookup fAlike = some ⟨ocAlike, odAlike, .func (PySem.W.fnOf "_law_alike" "_law_alike" (fnArgs sAlike) (fnBody sAlike) (fnScope sAlike) .none kVAlike dcAlike pmAlike anAlike cdAlike ctAlike), slAlike⟩)
    (ccAlike : PySem.W.codeIn K cdAlike "_law_alike" = true)
    (kkAlike : PySem.W.keepIn K (.ref fAlike) = true)
    (aError : PySem.W.nsIn K mainGlobals "_law_error" = some (some (.ref fError)))
    (lError : K.lookup fError = some ⟨ocError, odError, .func (PySem.W.fnOf "_law_error" "_law_error" (fnArgs sError) (fnBody sError) (fnScope sError) .none kVError dcError pmError anError cdError ctError), slError⟩)
    (ccError : PySem.W.codeIn K cdError "_law_error" = true)
    (kkError : PySem.W.keepIn K (.ref fError) = true)
    (aLife : PySem.W.nsIn K mainGlobals "_law_life" = some (some (.ref fLife)))
    (lLife : K.lookup fLife = some ⟨ocLife, odLife, .func (PySem.W.fnOf "_law_life" "_law_life" (fnArgs sLife) (fnBody sLife) (fnScope sLife) .none kVLife dcLife pmLife anLife cdLife ctLife), slLife⟩)
    (ccLife : PySem.W.codeIn K cdLife "_law_life" = true)
    (kkLife : PySem.W.keepIn K (.ref fLife) = true)
    (aLinks : PySem.W.nsIn K mainGlobals "_law_links" = some (some (.ref fLinks)))
    (lLinks : K.lookup fLinks = some ⟨ocLinks, odLinks, .func (PySem.W.fnOf "_law_links" "_law_links" (fnArgs sLinks) (fnBody sLinks) (fnScope sLinks) .none kVLinks dcLinks pmLinks anLinks cdLinks ctLinks), slLinks⟩)
    (ccLinks : PySem.W.codeIn K cdLinks "_law_links" = true)
    (kkLinks : PySem.W.keepIn K (.ref fLinks) = true)
    (aIsLink : PySem.W.nsIn K mainGlobals "_law_is_link" = some (some (.ref fIsLink)))
    (lIsLink : K.lookup fIsLink = some ⟨ocIsLink, odIsLink, .func (PySem.W.fnOf "_law_is_link" "_law_is_link" (fnArgs sIsLink) (fnBody sIsLink) (fnScope sIsLink) .none kVIsLink dcIsLink pmIsLink anIsLink cdIsLink ctIsLink), slIsLink⟩)
    (ccIsLink : PySem.W.codeIn K cdIsLink "_law_is_link" = true)
    (kkIsLink : PySem.W.keepIn K (.ref fIsLink) = true)
    (aFirst : PySem.W.nsIn K mainGlobals "_law_first_bad" = some (some (.ref fFirst)))
    (lFirst : K.lookup fFirst = some ⟨ocFirst, odFirst, .func (PySem.W.fnOf "_law_first_bad" "_law_first_bad" (fnArgs sFirst) (fnBody sFirst) (fnScope sFirst) .none kVFirst dcFirst pmFirst anFirst cdFirst ctFirst), slFirst⟩)
    (ccFirst : PySem.W.codeIn K cdFirst "_law_first_bad" = true)
    (kkFirst : PySem.W.keepIn K (.ref fFirst) = true)
    (aSpoilt : PySem.W.nsIn K mainGlobals "_law_spoilt" = some (some (.ref fSpoilt)))
    (lSpoilt : K.lookup fSpoilt = some ⟨ocSpoilt, odSpoilt, .func (PySem.W.fnOf "_law_spoilt" "_law_spoilt" (fnArgs sSpoilt) (fnBody sSpoilt) (fnScope sSpoilt) .none kVSpoilt dcSpoilt pmSpoilt anSpoilt cdSpoilt ctSpoilt), slSpoilt⟩)
    (ccSpoilt : PySem.W.codeIn K cdSpoilt "_law_spoilt" = true)
    (kkSpoilt : PySem.W.keepIn K (.ref fSpoilt) = true)
    (aL : PySem.W.nsIn K mainGlobals "law" = some (some (.ref fL)))
    (lL : K.lookup fL = some ⟨ocL, odL, .func (PySem.W.fnOf "law" "law" (fnArgs sLaw) (fnBody sLaw) (fnScope sLaw) .none kVL dcL pmL anL (.ref cl) ctL), slL⟩)
    (ccL : PySem.W.codeIn K (.ref cl) "law" = true)
    (kkL : PySem.W.keepIn K (.ref fL) = true)
    (lITi : K.lookup fT = some ⟨ocITi, odITi, .func (PySem.W.fnOf "__init__" "InvalidTown.__init__" (L2.defArgs sITi) (L2.defBody sITi) (L2.defScope sITi) .none kVITi dcITi pmITi anITi cdITi ctITi), slITi⟩)
    (ccITi : PySem.W.codeIn K cdITi "InvalidTown.__init__" = true)
    (kkITi : PySem.W.keepIn K (.ref fT) = true)
    (lTi : K.lookup fTi = some ⟨ocTi, odTi, .func (PySem.W.fnOf "__init__" "Town.__init__" (L2.defArgs sTi) (L2.defBody sTi) (L2.defScope sTi) .none kVTi dcTi pmTi anTi cdTi ctTi), slTi⟩)
    (ccTi : PySem.W.codeIn K cdTi "Town.__init__" = true)
    (kkTi : PySem.W.keepIn K (.ref fTi) = true)
    (lS : K.lookup gS = some ⟨ocS, odS, .func (PySem.W.fnOf "is_bridge" "Town.is_bridge" (L2.defArgs sIsB) (L2.defBody sIsB) (L2.defScope sIsB) .none kVS dcS pmS anS cdS ctS), slS⟩)
    (ccS : PySem.W.codeIn K cdS "Town.is_bridge" = true)
    (kkS : PySem.W.keepIn K (.ref gS) = true)
    (lg1 : K.lookup g1 = some ⟨ocg1, odg1, .func (PySem.W.fnOf "place_count" "Town.place_count" (L2.defArgs sPc) (L2.defBody sPc) (L2.defScope sPc) .none kVg1 dcg1 pmg1 ang1 cdg1 ctg1), slg1⟩)
    (ccg1 : PySem.W.codeIn K cdg1 "Town.place_count" = true)
    (kkg1 : PySem.W.keepIn K (.ref g1) = true)
    (lg2 : K.lookup g2 = some ⟨ocg2, odg2, .func (PySem.W.fnOf "bridges" "Town.bridges" (L2.defArgs sBr) (L2.defBody sBr) (L2.defScope sBr) .none kVg2 dcg2 pmg2 ang2 cdg2 ctg2), slg2⟩)
    (ccg2 : PySem.W.codeIn K cdg2 "Town.bridges" = true)
    (kkg2 : PySem.W.keepIn K (.ref g2) = true)
    (lg3 : K.lookup g3 = some ⟨ocg3, odg3, .func (PySem.W.fnOf "lives" "Town.lives" (L2.defArgs sLi) (L2.defBody sLi) (L2.defScope sLi) .none kVg3 dcg3 pmg3 ang3 cdg3 ctg3), slg3⟩)
    (ccg3 : PySem.W.codeIn K cdg3 "Town.lives" = true)
    (kkg3 : PySem.W.keepIn K (.ref g3) = true)
    (z_len : PySem.W.nsIn K mainGlobals "len" = some none)
    (z_int : PySem.W.nsIn K mainGlobals "int" = some none)
    (z_max : PySem.W.nsIn K mainGlobals "max" = some none)
    (z_range : PySem.W.nsIn K mainGlobals "range" = some none)
    (z_list : PySem.W.nsIn K mainGlobals "list" = some none)
    (z_tuple : PySem.W.nsIn K mainGlobals "tuple" = some none)
    (z_isinstance : PySem.W.nsIn K mainGlobals "isinstance" = some none)
    (z_enumerate : PySem.W.nsIn K mainGlobals "enumerate" = some none)
    (z_dict : PySem.W.nsIn K mainGlobals "dict" = some none)
    (z_str : PySem.W.nsIn K mainGlobals "str" = some none)
    (z_bool : PySem.W.nsIn K mainGlobals "bool" = some none)
    (ntP : K.lookup Pt = none)
    (cdH : PySem.W.codeHdIn K cl Pt = true)
    (oxr : PySem.HandSPX.refsVE bm = true) (tab : h.get? Pt = some { cls := .none, data := .fields #[] }) : LamX.LawAtS l w K C8.CX0 9 63 "_law_script" mg fa h := by
  have e := hfa.symm.trans (PySem.W.mg_of X G aL)
  cases e
  have T : BT mg := ⟨PySem.W.mg_none_of X G z_len, PySem.W.mg_none_of X G z_int, PySem.W.mg_none_of X G z_max, PySem.W.mg_none_of X G z_range, PySem.W.mg_none_of X G z_list, PySem.W.mg_none_of X G z_tuple, PySem.W.mg_none_of X G z_isinstance, PySem.W.mg_none_of X G z_enumerate, PySem.W.mg_none_of X G z_dict, PySem.W.mg_none_of X G z_str, PySem.W.mg_none_of X G z_bool⟩
  have ox : OexC K CT := ⟨⟨nm, q, N, bs, bm, sn, sub, ab, col, dd, m0, m1, m2, m3, m5, oxl, oxr⟩, oxs, ehs, oxt, oxk⟩
  have T0 : Prog K mg CB CT fT C mB := ⟨PySem.W.mg_of X G aCB, rdB, sgB, inB, PySem.W.mg_of X G aCT, ox, iT, tT, nP, nI, ⟨u0, PySem.W.mg_of X G mxl⟩, PySem.W.mg_of X G aC, ⟨crd, cga⟩, ⟨_, ⟨vML, ⟨_, rfl⟩⟩⟩⟩
  have TT : PTown K mg C pS gS := ⟨⟨cpg, chd, cpo, csa⟩, nC, nB, ⟨_, ⟨mpa, ⟨_, rfl⟩, mpg, by decide +kernel⟩⟩, ⟨_, ⟨mba, ⟨_, rfl⟩, mbg, by decide +kernel⟩⟩, ⟨cpg, sIc, sIf, sIt, sIs, sIk, by decide +kernel, ⟨_, sIr⟩⟩, kkS⟩
  have T1 : Errs K mg CB CT := ⟨PySem.W.mg_of X G aCB, PySem.W.mg_of X G aCT, fun x hx => by
      simp only [List.mem_cons, List.not_mem_nil, or_false] at hx
      rcases hx with rfl | rfl | rfl | rfl | rfl | rfl | rfl | rfl | rfl | rfl | rfl
      · exact ⟨c0, PySem.W.mg_of X G ae0, ke0⟩
      · exact ⟨c1, PySem.W.mg_of X G ae1, ke1⟩
      · exact ⟨c2, PySem.W.mg_of X G ae2, ke2⟩
      · exact ⟨c3, PySem.W.mg_of X G ae3, ke3⟩
      · exact ⟨c4, PySem.W.mg_of X G ae4, ke4⟩
      · exact ⟨c5, PySem.W.mg_of X G ae5, ke5⟩
      · exact ⟨c6, PySem.W.mg_of X G ae6, ke6⟩
      · exact ⟨c7, PySem.W.mg_of X G ae7, ke7⟩
      · exact ⟨c8, PySem.W.mg_of X G ae8, ke8⟩
      · exact ⟨c9, PySem.W.mg_of X G ae9, ke9⟩
      · exact ⟨c10, PySem.W.mg_of X G ae10, ke10⟩
    , own, ve, PySem.W.mg_none_of X G gV, ⟨ehg, ehk, ehs, ehd, eha, ehn, eht, ehm⟩, ⟨ehg, ehk, ehs, ehd⟩, nP, nI, em⟩
  have FMix : C8.Fun K "_law_mix" "_law_mix" sMix fMix _ := ⟨_, _, _, _, _, _, _, _, _, _, rfl, lMix, ccMix⟩
  have DMix : Def K mg "_law_mix" sMix fMix _ := ⟨FMix, PySem.W.mg_of X G aMix, kkMix⟩
  have bMix := FMix.binds rfl (ps := ["_law_script", "_law_seed"]) fun _ _ _ _ _ _ us hl => match us, hl with | [_, _], _ => rfl
  have FNext : C8.Fun K "_law_next" "_law_next" sNext fNext _ := ⟨_, _, _, _, _, _, _, _, _, _, rfl, lNext, ccNext⟩
  have DNext : Def K mg "_law_next" sNext fNext _ := ⟨FNext, PySem.W.mg_of X G aNext, kkNext⟩
  have bNext := FNext.binds rfl (ps := ["_law_h", "_law_limit"]) fun _ _ _ _ _ _ us hl => match us, hl with | [_, _], _ => rfl
  have FAlike : C8.Fun K "_law_alike" "_law_alike" sAlike fAlike _ := ⟨_, _, _, _, _, _, _, _, _, _, rfl, lAlike, ccAlike⟩
  have DAlike : Def K mg "_law_alike" sAlike fAlike _ := ⟨FAlike, PySem.W.mg_of X G aAlike, kkAlike⟩
  have bAlike := FAlike.binds rfl (ps := ["_law_found", "_law_due"]) fun _ _ _ _ _ _ us hl => match us, hl with | [_, _], _ => rfl
  have FError : C8.Fun K "_law_error" "_law_error" sError fError _ := ⟨_, _, _, _, _, _, _, _, _, _, rfl, lError, ccError⟩
  have DError : Def K mg "_law_error" sError fError _ := ⟨FError, PySem.W.mg_of X G aError, kkError⟩
  have bError := FError.binds rfl (ps := ["_law_call"]) fun _ _ _ _ _ _ us hl => match us, hl with | [_], _ => rfl
  have FLife : C8.Fun K "_law_life" "_law_life" sLife fLife _ := ⟨_, _, _, _, _, _, _, _, _, _, rfl, lLife, ccLife⟩
  have DLife : Def K mg "_law_life" sLife fLife _ := ⟨FLife, PySem.W.mg_of X G aLife, kkLife⟩
  have bLife := FLife.binds rfl (ps := ["_law_h", "_law_wide"]) fun _ _ _ _ _ _ us hl => match us, hl with | [_, _], _ => rfl
  have FLinks : C8.Fun K "_law_links" "_law_links" sLinks fLinks _ := ⟨_, _, _, _, _, _, _, _, _, _, rfl, lLinks, ccLinks⟩
  have DLinks : Def K mg "_law_links" sLinks fLinks _ := ⟨FLinks, PySem.W.mg_of X G aLinks, kkLinks⟩
  have bLinks := FLinks.binds rfl (ps := ["_law_h", "_law_count", "_law_most", "_law_wide"]) fun _ _ _ _ _ _ us hl => match us, hl with | [_, _, _, _], _ => rfl
  have FIsLink : C8.Fun K "_law_is_link" "_law_is_link" sIsLink fIsLink _ := ⟨_, _, _, _, _, _, _, _, _, _, rfl, lIsLink, ccIsLink⟩
  have DIsLink : Def K mg "_law_is_link" sIsLink fIsLink _ := ⟨FIsLink, PySem.W.mg_of X G aIsLink, kkIsLink⟩
  have bIsLink := FIsLink.binds rfl (ps := ["_law_count", "_law_link"]) fun _ _ _ _ _ _ us hl => match us, hl with | [_, _], _ => rfl
  have FFirst : C8.Fun K "_law_first_bad" "_law_first_bad" sFirst fFirst _ := ⟨_, _, _, _, _, _, _, _, _, _, rfl, lFirst, ccFirst⟩
  have DFirst : Def K mg "_law_first_bad" sFirst fFirst _ := ⟨FFirst, PySem.W.mg_of X G aFirst, kkFirst⟩
  have bFirst := FFirst.binds rfl (ps := ["_law_count", "_law_links_here"]) fun _ _ _ _ _ _ us hl => match us, hl with | [_, _], _ => rfl
  have FSpoilt : C8.Fun K "_law_spoilt" "_law_spoilt" sSpoilt fSpoilt _ := ⟨_, _, _, _, _, _, _, _, _, _, rfl, lSpoilt, ccSpoilt⟩
  have DSpoilt : Def K mg "_law_spoilt" sSpoilt fSpoilt _ := ⟨FSpoilt, PySem.W.mg_of X G aSpoilt, kkSpoilt⟩
  have bSpoilt := FSpoilt.binds rfl (ps := ["_law_h", "_law_count", "_law_links_here"]) fun _ _ _ _ _ _ us hl => match us, hl with | [_, _, _], _ => rfl
  have FITi := L2.fun_mk (st := sITi) lITi ccITi kkITi
  have FTi := L2.fun_mk (st := sTi) lTi ccTi kkTi
  have FS := L2.fun_mk (st := sIsB) lS ccS kkS
  have Fg1 := L2.fun_mk (st := sPc) lg1 ccg1 kkg1
  have Fg2 := L2.fun_mk (st := sBr) lg2 ccg2 kkg2
  have Fg3 := L2.fun_mk (st := sLi) lg3 ccg3 kkg3
  have bITi := FITi.binds (ps := ["self", "part", "index"]) fun _ _ _ _ _ _ us hl => match us, hl with | [_, _, _], _ => rfl
  have bTi := FTi.binds (ps := ["self", "count", "bridges"]) fun _ _ _ _ _ _ us hl => match us, hl with | [_, _, _], _ => rfl
  have bS := FS.binds (ps := ["count", "bridge"]) fun _ _ _ _ _ _ us hl => match us, hl with | [_, _], _ => rfl
  have bg1 := Fg1.binds (ps := ["self"]) fun _ _ _ _ _ _ us hl => match us, hl with | [_], _ => rfl
  have bg2 := Fg2.binds (ps := ["self"]) fun _ _ _ _ _ _ us hl => match us, hl with | [_], _ => rfl
  have bg3 := Fg3.binds (ps := ["self"]) fun _ _ _ _ _ _ us hl => match us, hl with | [_], _ => rfl
  refine ⟨PySem.W.fnOf "law" "law" (fnArgs sLaw) (fnBody sLaw) (fnScope sLaw) .none kVL dcL pmL anL (.ref cl) ctL, [(cl, Pt)], spLaw K Pt lamQ, fun p hp => ?_, fun p hp => ?_, fun p hp => ?_, fun s u => .of_eq rfl, fun H a ns hl _ hH hS => ⟨a, ns, rfl, hS, hl, tabs_new (hH _ (List.mem_singleton.mpr rfl)), fun _ => rfl⟩, fun base KX Gb TB => ?_⟩
  · rw [List.mem_singleton.mp hp]; exact tab
  · rw [List.mem_singleton.mp hp]; exact ntP
  · rw [List.mem_singleton.mp hp]; exact PySem.W.codeHd_of_K X cdH
  have cNext : Cal l.prog w K mg base 1 "_law_next" spNext [] := ok_next DNext bNext T
  have Cs0 : Cs l.prog w K mg base := ⟨cNext⟩
  have C20 : C2 l.prog w K mg base := ⟨Cs0, ok_life DLife bLife T Cs0⟩
  have cIs := ok_isLink (P := l.prog) (w := w) (base := base) DIsLink bIsLink T
  have C9 : LawC l.prog w K mg base := ⟨ok_mix DMix bMix T, cNext, ok_links DLinks bLinks T C20, ok_spoilt DSpoilt bSpoilt T Cs0, ok_first DFirst bFirst T ⟨cIs⟩, cIs, ok_alike DAlike bAlike T 3⟩
  have OS := ok_isB (P := l.prog) (w := w) (base := base) FS T0 T
  have OIT := ok_ITi (P := l.prog) (w := w) (base := base) FITi T0
  have OTi := ok_Ti FTi T0 TT T OS bS OIT bITi
  exact ok_law lL ccL T0 TT T T1 C9 ⟨PySem.W.mg_of X G aError, kkError, lError, ccError, bError⟩ (TB _ (List.mem_singleton.mpr rfl)) ⟨_, ⟨vMP, ⟨_, rfl⟩⟩⟩ ⟨_, ⟨vMB, ⟨_, rfl⟩⟩⟩ ⟨cmk, iTi, fTiF, ckp⟩ OTi bTi ⟨crd, cga, sCf, ⟨_, sIr⟩⟩ OS bS
    ⟨pa1, pg1, pt1, ⟨_, pr1⟩⟩ (ok_Pc Fg1 TT) bg1 ⟨pa2, pg2, pt2, ⟨_, pr2⟩⟩ (ok_Br Fg2 TT) bg2 ⟨pa3, pg3, pt3, ⟨_, pr3⟩⟩ (ok_Li Fg3 TT T) bg3
end T1

set_option Elab.async false
set_option linter.all false
open PySem PySem.W PyProof.Rows
set_option maxRecDepth 100000 in
set_option maxHeartbeats 0 in
theorem PySem.Challenge.cw_wornbridges_k01_towns_validated_holds : PySem.Challenge.rw_wornbridges_k01_towns_validated.Holds := by
  w_on; o_law; k_head; (case hw => w_witness2)
  k_fill
  refine LamX.walk_ofTs (l := PySem.Challenge.rw_wornbridges_k01_towns_validated) (n := 63) (k := 9) (CX := fun _ => C8.CX0) (x := "_law_script") rfl (by decide) rfl ⟨rfl, by decide, by decide⟩ (fun w h Y => PySem.W.km_in_of Y) ?F (fun _ _ _ _ _ z => z)
  case F =>
    intro w mg fa h Y KX G hmg
    have hT8 := PySem.W.km_tabs_of Y
    refine' T1.all_mk (mB := .type "type") KX G hmg ?aCB ?aCT ?aC ?ae0 ?ke0 ?ae1 ?ke1 ?ae2 ?ke2 ?ae3 ?ke3 ?ae4 ?ke4 ?ae5 ?ke5 ?ae6 ?ke6 ?ae7 ?ke7 ?ae8 ?ke8 ?ae9 ?ke9 ?ae10 ?ke10 ?own ?ve ?gV ?ehg ?ehk ?ehs ?ehd ?eha ?ehn ?eht ?ehm ?nP ?nI ?em ?rdB ?sgB ?inB ?oxl ?oxs ?oxt ?oxk ?iT ?tT ?mxl ?crd ?cga ?vML ?vMP ?vMB ?cpg ?chd ?cpo ?csa ?nC ?nB ?mpa ?mpg ?mba ?mbg ?sIc ?sIf ?sIt ?sIs ?sIk ?sIr ?sCf ?cmk ?iTi ?fTiF ?ckp ?pa1 ?pg1 ?pt1 ?pr1 ?pa2 ?pg2 ?pt2 ?pr2 ?pa3 ?pg3 ?pt3 ?pr3 ?aMix ?lMix ?ccMix ?kkMix ?aNext ?lNext ?ccNext ?kkNext ?aAlike ?lAlike ?ccAlike ?kkAlike ?aError ?lError ?ccError ?kkError ?aLife ?lLife ?ccLife ?kkLife ?aLinks ?lLinks ?ccLinks ?kkLinks ?aIsLink ?lIsLink ?ccIsLink ?kkIsLink ?aFirst ?lFirst ?ccFirst ?kkFirst ?aSpoilt ?lSpoilt ?ccSpoilt ?kkSpoilt ?aL ?lL ?ccL ?kkL ?lITi ?ccITi ?kkITi ?lTi ?ccTi ?kkTi ?lS ?ccS ?kkS ?lg1 ?ccg1 ?kkg1 ?lg2 ?ccg2 ?kkg2 ?lg3 ?ccg3 ?kkg3 ?z_len ?z_int ?z_max ?z_range ?z_list ?z_tuple ?z_isinstance ?z_enumerate ?z_dict ?z_str ?z_bool ?ntP ?cdH ?oxr ?tab
    (case aCB => k_is)
    (case aCT => k_is)
    (case aC => k_is)
    (case ae0 => k_is)
    (case ke0 => kernel_rfl)
    (case ae1 => k_is)
    (case ke1 => kernel_rfl)
    (case ae2 => k_is)
    (case ke2 => kernel_rfl)
    (case ae3 => k_is)
    (case ke3 => kernel_rfl)
    (case ae4 => k_is)
    (case ke4 => kernel_rfl)
    (case ae5 => k_is)
    (case ke5 => kernel_rfl)
    (case ae6 => k_is)
    (case ke6 => kernel_rfl)
    (case ae7 => k_is)
    (case ke7 => kernel_rfl)
    (case ae8 => k_is)
    (case ke8 => kernel_rfl)
    (case ae9 => k_is)
    (case ke9 => kernel_rfl)
    (case ae10 => k_is)
    (case ke10 => kernel_rfl)
    (case own => kernel_rfl)
    (case ve => kernel_rfl)
    (case gV => k_is)
    (case ehg => k_is)
    (case ehk => k_is)
    (case ehs => k_is)
    (case ehd => k_is)
    (case eha => k_is)
    (case ehn => k_is)
    (case eht => k_is)
    (case ehm => k_is)
    (case nP => k_is)
    (case nI => k_is)
    (case em => kernel_rfl)
    (case rdB => k_is)
    (case sgB => k_is)
    (case inB => k_is)
    (case oxl => k_is)
    (case oxs => k_is)
    (case oxt => k_is)
    (case oxk => k_is)
    (case iT => k_is)
    (case tT => k_is)
    (case mxl => k_is)
    (case crd => k_is)
    (case cga => k_is)
    (case vML => k_is)
    (case vMP => k_is)
    (case vMB => k_is)
    (case cpg => k_is)
    (case chd => k_is)
    (case cpo => k_is)
    (case csa => k_is)
    (case nC => k_is)
    (case nB => k_is)
    (case mpa => k_is)
    (case mpg => k_is)
    (case mba => k_is)
    (case mbg => k_is)
    (case sIc => k_is)
    (case sIf => k_is)
    (case sIt => k_is)
    (case sIs => k_is)
    (case sIk => k_is)
    (case sIr => k_is)
    (case sCf => k_is)
    (case cmk => k_is)
    (case iTi => k_is)
    (case fTiF => k_is)
    (case ckp => k_is)
    (case pa1 => k_is)
    (case pg1 => k_is)
    (case pt1 => k_is)
    (case pr1 => k_is)
    (case pa2 => k_is)
    (case pg2 => k_is)
    (case pt2 => k_is)
    (case pr2 => k_is)
    (case pa3 => k_is)
    (case pg3 => k_is)
    (case pt3 => k_is)
    (case pr3 => k_is)
    (case aMix => k_is)
    (case lMix => k_is)
    (case ccMix => k_is)
    (case kkMix => k_is)
    (case aNext => k_is)
    (case lNext => k_is)
    (case ccNext => k_is)
    (case kkNext => k_is)
    (case aAlike => k_is)
    (case lAlike => k_is)
    (case ccAlike => k_is)
    (case kkAlike => k_is)
    (case aError => k_is)
    (case lError => k_is)
    (case ccError => k_is)
    (case kkError => k_is)
    (case aLife => k_is)
    (case lLife => k_is)
    (case ccLife => k_is)
    (case kkLife => k_is)
    (case aLinks => k_is)
    (case lLinks => k_is)
    (case ccLinks => k_is)
    (case kkLinks => k_is)
    (case aIsLink => k_is)
    (case lIsLink => k_is)
    (case ccIsLink => k_is)
    (case kkIsLink => k_is)
    (case aFirst => k_is)
    (case lFirst => k_is)
    (case ccFirst => k_is)
    (case kkFirst => k_is)
    (case aSpoilt => k_is)
    (case lSpoilt => k_is)
    (case ccSpoilt => k_is)
    (case kkSpoilt => k_is)
    (case aL => k_is)
    (case lL => k_is)
    (case ccL => k_is)
    (case kkL => k_is)
    (case lITi => k_is)
    (case ccITi => k_is)
    (case kkITi => k_is)
    (case lTi => k_is)
    (case ccTi => k_is)
    (case kkTi => k_is)
    (case lS => k_is)
    (case ccS => k_is)
    (case kkS => k_is)
    (case lg1 => k_is)
    (case ccg1 => k_is)
    (case kkg1 => k_is)
    (case lg2 => k_is)
    (case ccg2 => k_is)
    (case kkg2 => k_is)
    (case lg3 => k_is)
    (case ccg3 => k_is)
    (case kkg3 => k_is)
    (case z_len => k_is)
    (case z_int => k_is)
    (case z_max => k_is)
    (case z_range => k_is)
    (case z_list => k_is)
    (case z_tuple => k_is)
    (case z_isinstance => k_is)
    (case z_enumerate => k_is)
    (case z_dict => k_is)
    (case z_str => k_is)
    (case z_bool => k_is)
    (case tab => exact hT8 _ (by k_mem))
    (case ntP => kernel_rfl)
    (case cdH => kernel_rfl)
    (case oxr => decide +kernel)

