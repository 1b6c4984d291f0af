import PyProof.Rows.All
import Wide.All
import OpenK.AllK
import Wide.FinOn
import HandS.ForMost
import HandS.ForExc
import HandS.Codes
import HandS.Wide
import HandS.Conv
import HandS.TupAny
import HandS.TupMul
import HandS.IsInst
import HandS.ExcInit
import HandS.ExcIs
import HandS.ExcField
import HandS.Lambda
import HandS.EndTab
import HandS.Property
import HandS.ClsMeth
import HandS.FStr
import HandS.Walk
import HandS.Evl
import HandS.Steps
import HandS.Iter
import HandS.StrMore
import HandS.Style
import HandS.ExcInitHot
import HandS.RaiseFrom
import HandS.SuiteRaise
import HandS.Star
import HandS.MakeKwOnly
import HandS.WordsExc
import HandS.GenList
import PyProof.Seq
import HandS.Comp
import HandS.SortKw
import KE.KSortKeySt
import HandS.SetFor
import HandS.Strs
import HandS.Base
import PyProof.Rows.MatchSeqLen
import KE.GoesMore
import HandS.List
import HandS.DictSub
import HandS.Spec
import PyProof.AutoSeq1
import HandS.ExcOwn
import PyProof.ExcBaseAll.ValueError
import HandS.SortInts
import KE.KDflt
import KE.DatumOrd
import KE.KNestM
import PySem.Challenge.RW_wornbridges_k03_whole_shortest_routes
set_option Elab.async false
set_option linter.all false
set_option maxRecDepth 100000
set_option maxHeartbeats 4000000
namespace T1
open PySem PySem.Spec PyProof.Rows L2 C8

def top (i : Nat) : Stmt := PySem.Challenge.pw_wornbridges_k03_whole_shortest_routes.main.body.getD i (.Pass ⟨0, 0, 0, 0⟩)


abbrev s__wall : Stmt := top 1
abbrev s_InvalidTown___init__ : Stmt := L2.inClass (top 4) 0
abbrev s_InvalidText___init__ : Stmt := L2.inClass (top 5) 0
abbrev s_InvalidTrips___init__ : Stmt := L2.inClass (top 6) 0
abbrev s_check_place : Stmt := top 18
abbrev s_check_bridge : Stmt := top 19
abbrev s_check_load : Stmt := top 20
abbrev s__ways_from : Stmt := top 22
abbrev s__routes_from : Stmt := top 23
abbrev s_shortest_route : Stmt := top 24
abbrev s_route_length : Stmt := top 25
abbrev s_reached_places : Stmt := top 26
abbrev s_is_number : Stmt := top 29
abbrev s_number_of : Stmt := top 30
abbrev s_read_numbers : Stmt := top 31
abbrev s_Town___init__ : Stmt := L2.inClass (top 34) 3
abbrev s_Town_place_count : Stmt := L2.inClass (top 34) 4
abbrev s_Town_bridges : Stmt := L2.inClass (top 34) 5
abbrev s_Town_lives : Stmt := L2.inClass (top 34) 6
abbrev s_Town_text : Stmt := L2.inClass (top 34) 7
abbrev s_Town_is_bridge : Stmt := L2.inClass (top 34) 8
abbrev s_Town_parse : Stmt := L2.inClass (top 34) 9
abbrev s__law_mix : Stmt := top 36
abbrev s__law_next : Stmt := top 37
abbrev s__law_alike : Stmt := top 38
abbrev s__law_error : Stmt := top 39
abbrev s__law_life : Stmt := top 40
abbrev s__law_links : Stmt := top 41
abbrev s__law_round : Stmt := top 42
abbrev s__law_ways : Stmt := top 43
abbrev s__law_way : Stmt := top 44
abbrev s__law_chain_right : Stmt := top 45
abbrev s_law : Stmt := top 46
/-- the built-in names that the module does not bind -/
structure BT (mg : Str → Option Value) : Prop where
  len : mg "len" = none
  int : mg "int" = none
  max : mg "max" = none
  range : mg "range" = none
  list : mg "list" = none
  tuple : mg "tuple" = none
  isinstance : mg "isinstance" = none
  enumerate : mg "enumerate" = none
  dict : mg "dict" = none
  str : mg "str" = none
  bool : mg "bool" = none

/-! ### the law's drawing state: h = [m, s, k], s the cells -/
structure LSt (H : Hp) (h s : Addr) : Prop where
  ex : ∃ (m k : Int) (xs : List Int), H h = some (.lst [.int m, .ref s, .int k]) ∧ H s = some (.lst (xs.map V.int)) ∧ 0 ≤ m ∧ m < 2147483647 ∧ 0 ≤ k ∧ xs.length ≤ 63
/-- all but the state stays -/
def But (h s : Addr) (H H' : Hp) : Prop := ∀ b o, b ≠ h → b ≠ s → H b = some o → H' b = some o
theorem But.refl (h s : Addr) (H : Hp) : But h s H H := fun _ _ _ _ e => e
theorem But.trans {h s : Addr} {H H1 H2 : Hp} (a : But h s H H1) (b : But h s H1 H2) : But h s H H2 := fun c o n1 n2 e => b c o n1 n2 (a c o n1 n2 e)
theorem But.of {h s : Addr} {H H' : Hp} (a : Same H H') : But h s H H' := fun c o _ _ e => a c o e
theorem Same.upd' {H : Hp} {p : Addr} {o : HO} (hp : H p = none) : Same H (upd H p o) := fun b u e => by rw [upd_ne (ne_of_none e hp)]; exact e
theorem LSt.ne {H : Hp} {h s : Addr} (x : LSt H h s) : h ≠ s := by
  obtain ⟨m, k, xs, h1, h2, _⟩ := x.ex
  refine ne_of h1 h2 fun z => ?_
  injection z with z
  match xs, z with
  | a :: b :: r, z => simp at z
theorem LSt.same {H H' : Hp} {h s : Addr} (x : LSt H h s) (e : Same H H') : LSt H' h s := by
  obtain ⟨m, k, xs, h1, h2, r⟩ := x.ex
  exact ⟨m, k, xs, e _ _ h1, e _ _ h2, r⟩
theorem LSt.notT {H : Hp} {h s a : Addr} {xs : List V} (x : LSt H h s) (r : Rd H a (.tup xs)) : a ≠ h ∧ a ≠ s := by
  obtain ⟨m, k, ys, h1, h2, _⟩ := x.ex
  rcases r with r | ⟨o, r⟩
  · exact ⟨ne_of r h1 (fun z => nomatch z), ne_of r h2 (fun z => nomatch z)⟩
  · exact ⟨ne_of r h1 (fun z => nomatch z), ne_of r h2 (fun z => nomatch z)⟩
theorem But.tup {K : PySem.W.Frag} {H H' : Hp} {h s a : Addr} {xs : List V} (e : But h s H H') (x : LSt H h s) (t : SqT K H a xs) : SqT K H' a xs := by
  rcases t with t | t
  · obtain ⟨n1, n2⟩ := x.notT t
    rcases t with t | ⟨o, t⟩
    · exact .inl (.inl (e _ _ n1 n2 t))
    · exact .inl (.inr ⟨o, e _ _ n1 n2 t⟩)
  · exact .inr t
theorem Same.tup {K : PySem.W.Frag} {H H' : Hp} {a : Addr} {xs : List V} (e : Same H H') (t : SqT K H a xs) : SqT K H' a xs := by
  rcases t with (t | ⟨o, t⟩) | t
  · exact .inl (.inl (e _ _ t))
  · exact .inl (.inr ⟨o, e _ _ t⟩)
  · exact .inr t


theorem up_new {X : Hp} {a p : Addr} {u o : HO} (h : X a = some u) (hp : X p = none) : upd X p o a = some u := by rw [upd_ne (ne_of_none h hp)]; exact h
theorem up_set {X : Hp} {a p : Addr} {u o : HO} (n : a ≠ p) (h : X a = some u) : upd X p o a = some u := by rw [upd_ne n]; exact h
theorem SqL.of' {K : PySem.W.Frag} {H : Hp} {a : Addr} {xs : List V} (h : H a = some (.lst xs)) : SqL K H a xs := .inl (.inl h)
theorem SqT.of' {K : PySem.W.Frag} {H : Hp} {a : Addr} {xs : List V} (h : H a = some (.tup xs)) : SqT K H a xs := .inl (.inl h)
theorem SqT.new {K : PySem.W.Frag} {H : Hp} {a p : Addr} {o : HO} {xs : List V} (h : SqT K H a xs) (hp : H p = none) : SqT K (upd H p o) a xs := Same.tup (Same.upd' hp) h
theorem SqT.put {K : PySem.W.Frag} {H : Hp} {a p : Addr} {o : HO} {xs ys : List V} (h : SqT K H a xs) (hp : H p = some (.lst ys)) : SqT K (upd H p o) a xs := by
  rcases h with (t | ⟨q, t⟩) | t
  · exact .inl (.inl (up_set (ne_of t hp (fun z => nomatch z)) t))
  · exact .inl (.inr ⟨q, up_set (ne_of t hp (fun z => nomatch z)) t⟩)
  · exact .inr t
theorem ne_of_none' {H : Hp} {a b : Addr} {o : HO} (h' : H b = none) (h : H a = some o) : a ≠ b := ne_of_none h h'
theorem up_new' {X : Hp} {a p : Addr} {u o : HO} (hp : X p = none) (h : X a = some u) : upd X p o a = some u := up_new h hp
theorem SqT.new' {K : PySem.W.Frag} {H : Hp} {a p : Addr} {o : HO} {xs : List V} (hp : H p = none) (h : SqT K H a xs) : SqT K (upd H p o) a xs := SqT.new h hp
theorem SqT.put' {K : PySem.W.Frag} {H : Hp} {a p : Addr} {xs ys zs : List V} (hp : H p = some (.lst ys)) (h : SqT K H a xs) : SqT K (upd H p (.lst zs)) a xs := SqT.put h hp
theorem SqL.new' {K : PySem.W.Frag} {H : Hp} {a p : Addr} {o : HO} {xs : List V} (hp : H p = none) (h : SqL K H a xs) : SqL K (upd H p o) a xs := (Same.upd' hp).seq h
theorem Same.at' {H H' : Hp} {a : Addr} {o : HO} (e : Same H H') (h : H a = some o) : H' a = some o := e _ _ h
theorem Same.sql' {K : PySem.W.Frag} {H H' : Hp} {a : Addr} {xs : List V} (e : Same H H') (t : SqL K H a xs) : SqL K H' a xs := e.seq t
theorem But.at' {H H' : Hp} {h s a : Addr} {o : HO} (e : But h s H H') (n1 : a ≠ h) (n2 : a ≠ s) (i : H a = some o) : H' a = some o := e _ _ n1 n2 i
theorem LSt.f1 {H : Hp} {h s p : Addr} (hp : H p = none) (x : LSt H h s) : p ≠ h := by
  obtain ⟨m, k, xs, h1, h2, r⟩ := x.ex
  exact Ne.symm (ne_of_none h1 hp)
theorem LSt.f2 {H : Hp} {h s p : Addr} (hp : H p = none) (x : LSt H h s) : p ≠ s := by
  obtain ⟨m, k, xs, h1, h2, r⟩ := x.ex
  exact Ne.symm (ne_of_none h2 hp)
theorem LSt.same' {H H' : Hp} {h s : Addr} (e : Same H H') (x : LSt H h s) : LSt H' h s := x.same e
theorem But.sm {h s : Addr} {H H' H2 : Hp} (e : Same H' H2) (x : But h s H H') : But h s H H2 := x.trans (But.of e)
theorem But.bu {h s : Addr} {H H' H2 : Hp} (e : But h s H' H2) (x : But h s H H') : But h s H H2 := x.trans e
theorem But.nw {h s : Addr} {H H' : Hp} {p : Addr} {o : HO} (hp : H' p = none) (x : But h s H H') : But h s H (upd H' p o) := x.trans (But.of (Same.upd' hp))
theorem Same.put' {H X : Hp} {p : Addr} {o : HO} (hp : H p = none) (e : Same H X) : Same H (upd X p o) := fun b u h => by rw [upd_ne (ne_of_none h hp)]; exact e b u h
theorem itD {c A B : Prop} [Decidable c] (h : c) (a : A) : if decide c = true then A else B := by rw [if_pos (decide_eq_true h)]; exact a
theorem itN {c A B : Prop} [Decidable c] (h : ¬ c) (a : B) : if decide c = true then A else B := by rw [if_neg (fun z => h (of_decide_eq_true z))]; exact a
theorem itnD {c A B : Prop} [Decidable c] (h : c) (a : B) : if (!decide c) = true then A else B := by rw [decide_eq_true h]; exact iteF a
theorem itnN {c A B : Prop} [Decidable c] (h : ¬ c) (a : A) : if (!decide c) = true then A else B := by rw [decide_eq_false h]; exact iteT a
theorem vint_inj {x y : Int} : V.int x = V.int y ↔ x = y := ⟨fun h => by injection h, fun h => by rw [h]⟩
theorem itE {x y : Int} {A B : Prop} (h : x = y) (a : A) : if decide (V.int x = V.int y) = true then A else B := itD (vint_inj.mpr h) a
theorem itEn {x y : Int} {A B : Prop} (h : x ≠ y) (a : B) : if decide (V.int x = V.int y) = true then A else B := itN (fun z => h (vint_inj.mp z)) a
theorem itnE {x y : Int} {A B : Prop} (h : x = y) (a : B) : if (!decide (V.int x = V.int y)) = true then A else B := itnD (vint_inj.mpr h) a
theorem itnEn {x y : Int} {A B : Prop} (h : x ≠ y) (a : A) : if (!decide (V.int x = V.int y)) = true then A else B := itnN (fun z => h (vint_inj.mp z)) a
theorem itS {x y : Int} {A B : Prop} (h1 : x ≤ y → A) (h2 : y < x → B) : if decide (x ≤ y) = true then A else B := by
  by_cases h : x ≤ y
  · exact itD h (h1 h)
  · exact itN h (h2 (Int.lt_of_not_ge h))
theorem itS' {x y : Int} {A B : Prop} (h1 : x < y → A) (h2 : y ≤ x → B) : if decide (x < y) = true then A else B := by
  by_cases h : x < y
  · exact itD h (h1 h)
  · exact itN h (h2 (Int.not_lt.mp h))
theorem itnS {x y : Int} {A B : Prop} (h1 : y < x → A) (h2 : x ≤ y → B) : if (!decide (x ≤ y)) = true then A else B := by
  by_cases h : x ≤ y
  · exact itnD h (h2 h)
  · exact itnN h (h1 (Int.lt_of_not_ge h))
theorem itnS' {x y : Int} {A B : Prop} (h1 : y ≤ x → A) (h2 : x < y → B) : if (!decide (x < y)) = true then A else B := by
  by_cases h : x < y
  · exact itnD h (h2 h)
  · exact itnN h (h1 (Int.not_lt.mp h))
theorem itSE {x y : Int} {A B : Prop} (h1 : x = y → A) (h2 : x ≠ y → B) : if decide (V.int x = V.int y) = true then A else B := by
  by_cases h : x = y
  · exact itE h (h1 h)
  · exact itEn h (h2 h)
theorem itnSE {x y : Int} {A B : Prop} (h1 : x ≠ y → A) (h2 : x = y → B) : if (!decide (V.int x = V.int y)) = true then A else B := by
  by_cases h : x = y
  · exact itnE h (h2 h)
  · exact itnEn h (h1 h)
theorem itNotF {A B : Prop} (a : A) : if (!false) = true then A else B := a
theorem itNotT {A B : Prop} (a : B) : if (!true) = true then A else B := a
theorem bl_as {b b' : Bool} {H : Hp} {Q : VK} (q : Q (.bl b') H) (e : b' = b) : Q (.bl b) H := by subst e; exact q
local macro_rules | `(tactic| walk_at "hf") => `(tactic| (fail_if_success (show (fun _ => none : Hp) _ = _)); first | assumption | with_reducible exact upd_same | ((with_reducible show upd _ _ _ _ = _); first | exact up_new' (by assumption) (by walk_at "hf") | exact up_set (by walk_at "ne") (by walk_at "hf")) | exact Same.at' (by assumption) (by walk_at "hf") | exact But.at' (by assumption) (by walk_at "ne") (by walk_at "ne") (by walk_at "hf"))
local macro_rules | `(tactic| walk_at "hf0") => `(tactic| (fail_if_success (show (fun _ => none : Hp) _ = _)); first | assumption | with_reducible exact upd_same | ((with_reducible show upd _ _ _ _ = _); exact up_new' (by assumption) (by walk_at "hf0")))
local macro_rules | `(tactic| walk_at "ne") => `(tactic| first | assumption | (apply Ne.symm; assumption) | exact ne_of_none' (by assumption) (by walk_at "hf0") | exact Ne.symm (ne_of_none' (by assumption) (by walk_at "hf0")) | exact LSt.f1 (by assumption) (by walk_at "lst") | exact LSt.f2 (by assumption) (by walk_at "lst"))
local macro_rules | `(tactic| walk_at "sqt") => `(tactic| (fail_if_success (show SqT _ (fun _ => none) _ _)); first | assumption | exact SqT.of' (by walk_at "hf") | ((with_reducible show SqT _ (upd _ _ _) _ _); first | exact SqT.new' (by assumption) (by walk_at "sqt") | exact SqT.put' (by walk_at "hf") (by walk_at "sqt")) | exact Same.tup (by assumption) (by walk_at "sqt") | exact But.tup (by assumption) (by walk_at "lst") (by walk_at "sqt"))
local macro_rules | `(tactic| walk_at "sql") => `(tactic| (fail_if_success (show SqL _ (fun _ => none) _ _)); first | assumption | exact SqL.of' (by walk_at "hf") | ((with_reducible show SqL _ (upd _ _ _) _ _); exact SqL.new' (by assumption) (by walk_at "sql")) | exact Same.sql' (by assumption) (by walk_at "sql"))
local macro_rules | `(tactic| walk_at "but") => `(tactic| first | assumption | exact But.refl _ _ _ | ((with_reducible show But _ _ _ (upd _ _ _)); exact But.nw (by assumption) (by walk_at "but")) | exact But.bu (by assumption) (by walk_at "but") | exact But.sm (by assumption) (by walk_at "but"))
local macro_rules | `(tactic| walk_at "sm") => `(tactic| first | assumption | exact Same.refl _ | ((with_reducible show Same _ (upd _ _ _)); first | exact Same.put' (by assumption) (by walk_at "sm") | exact Same.trans (by walk_at "sm") (Same.upd' (by assumption))) | exact Same.trans (by walk_at "sm") (by assumption))
/-- one step of a reading -/
local macro_rules | `(tactic| walk_at "rd") => `(tactic| first
  | with_reducible refine iteF ?_
  | with_reducible refine iteT ?_
  | with_reducible refine itNotF ?_
  | with_reducible refine itNotT ?_
  | refine ⟨_, rfl, ?_⟩
  | refine ⟨_, _, rfl, rfl, ?_⟩
  | refine ⟨_, _, rfl, ?_⟩
  | refine ⟨(_ : Addr), (_ : List V), (_ : Int), (_ : V), rfl, rfl, SqL.of' (by walk_at "hf"), (by first | assumption | rfl), ?_⟩
  | refine ⟨(_ : Addr), (_ : List V), (_ : Int), (_ : V), rfl, rfl, (by walk_at "sqt" : SqT _ _ _ _), (by first | assumption | rfl), ?_⟩
  | refine .inl ⟨_, rfl, ?_⟩
  | refine ⟨_, _, rfl, .inl (by walk_at "sql" : SqL _ _ _ _), ?_⟩
  | refine ⟨_, _, rfl, .inl ⟨(by walk_at "sql" : SqL _ _ _ _), fun p hp => ?_⟩⟩
  | refine ⟨_, _, rfl, .inr ⟨(by walk_at "sqt" : SqT _ _ _ _), ?_⟩⟩
  | refine fun (p : Addr) (hp : (_ : Hp) p = none) => ?_
  | refine ⟨_, _, rfl, .inr (by walk_at "sqt" : SqT _ _ _ _), ?_⟩
  | refine And.intro (by show _ ≤ sizeLine; first | decide | walk_at "sz") (fun p hp => ?_)
  | refine ⟨(_ : Addr), (_ : Addr), (_ : List V), (_ : List V), rfl, rfl, (by walk_at "hf"), (by walk_at "hf"), (by walk_at "sz"), fun p hp => ?_⟩
  | refine ⟨(_ : Addr), (_ : Addr), (_ : List V), (_ : List V), rfl, rfl, (by walk_at "hf"), (by walk_at "hf"), (by walk_at "sz"), ?_⟩
  | refine ⟨(_ : Addr), (_ : List V), (_ : Int), (_ : Nat), rfl, rfl, (by walk_at "hf"), (by rfl), ?_⟩
  | refine And.intro ⟨_, (by walk_at "sql" : SqL _ _ _ _)⟩ ?_
  | refine And.intro ⟨_, (by walk_at "sqt" : SqT _ _ _ _)⟩ ?_
  | refine And.intro (.inl ⟨rfl, _, SqL.of' (by walk_at "hf")⟩) ?_
  | refine And.intro (by walk_at "cond") ?_
  | exact .inl ⟨rfl, _, SqL.of' (by walk_at "hf")⟩
  | with_reducible refine iteT ?_
  | with_reducible refine iteF ?_
  | refine And.intro (by rfl : scal _ _ = true) ?_
  | refine And.intro (by rfl : _ = V.non) ?_
  | refine And.intro (by rfl : wipe _ _ = wipe _ _) ?_
  | refine And.intro (by rfl : (_ : List V) = []) ?_
  | refine ⟨(_ : Addr), (_ : List V), rfl, (by walk_at "sqt" : SqT _ _ _ _), (by rfl), ?_⟩)
/-- a test: known, or both ways -/
local macro_rules | `(tactic| walk_at "if") => `(tactic| first
  | with_reducible refine itD (by omega) ?_
  | with_reducible refine itN (by omega) ?_
  | with_reducible refine itnD (by omega) ?_
  | with_reducible refine itnN (by omega) ?_
  | with_reducible refine itE (by omega) ?_
  | with_reducible refine itEn (by omega) ?_
  | with_reducible refine itnE (by omega) ?_
  | with_reducible refine itnEn (by omega) ?_
  | with_reducible refine itN (by intro z; cases z) ?_
  | with_reducible refine itD (by decide) ?_
  | with_reducible refine itN (by decide) ?_
  | with_reducible refine itnD (by decide) ?_
  | with_reducible refine itnN (by decide) ?_)
local macro_rules | `(tactic| walk_at "if2") => `(tactic| first
  | with_reducible refine itS (fun z => ?_) (fun z => ?_)
  | with_reducible refine itS' (fun z => ?_) (fun z => ?_)
  | with_reducible refine itSE (fun z => ?_) (fun z => ?_)
  | with_reducible refine itnS (fun z => ?_) (fun z => ?_)
  | with_reducible refine itnS' (fun z => ?_) (fun z => ?_)
  | with_reducible refine itnSE (fun z => ?_) (fun z => ?_))
local macro_rules | `(tactic| walk_at "go") => `(tactic| repeat' (first | walk_at "rd" | walk_at "if" | walk_at "if2" | fail))
local macro_rules | `(tactic| walk_at "sz") => `(tactic| (rw [sizeLine_eq]; simp only [List.length_append, List.length_map, List.length_cons, List.length_nil]; omega))
local macro_rules | `(tactic| walk_at "cond") => `(tactic| first | assumption | (show (_ : Int) ≠ 0; first | omega | (split <;> omega)) | (show (0 : Int) < _; first | assumption | decide) | exact ⟨by decide, by decide, by decide⟩ | exact .inr ⟨by decide, by decide⟩ | exact wide_div (b := 64) (by assumption) (by omega) (by decide) (by decide) | exact ⟨by decide, by decide⟩)


def spNext : Sp := fun vs H Q _ => ∃ (h s : Addr) (n : Int), vs = [.ref h, .int n] ∧ LSt H h s ∧ 0 < n ∧ n ≤ 2000000000000000000 ∧
  ∀ (r : Int) (H' : Hp), 0 ≤ r → r < n → LSt H' h s → But h s H H' → Q (.int r) H'

section
variable {P : Program} {w : World} {K : PySem.W.Frag} {mg : Str → Option Value} {base : Heap}

theorem fdN {a b : Int} (hb : 0 < b) : 0 ≤ Int.fmod a b ∧ Int.fmod a b < b := ⟨Int.fmod_nonneg_of_pos a hb, Int.fmod_lt_of_pos a hb⟩
theorem atI_get {xs : List V} {i : Int} {v : V} (h0 : 0 ≤ i) (h : xs[i.toNat]? = some v) : atI xs i = some v := by
  have e : i = ((i.toNat : Nat) : Int) := by omega
  rw [e]; exact atI_nat h
theorem ixN_pos {n : Nat} {i : Int} (h0 : 0 ≤ i) (h1 : i < n) : ixN n i = some i.toNat := by unfold ixN; rw [if_pos h0, if_pos h1]
end
end T1

set_option Elab.async false
set_option linter.all false
set_option maxRecDepth 100000
set_option maxHeartbeats 4000000
namespace T1
open PySem PySem.Spec PyProof.Rows L2 C8
/-! ### links: tuples of four ints -/
abbrev Lk := Int × Int × Int × Int
def lv (l : Lk) : List V := [.int l.1, .int l.2.1, .int l.2.2.1, .int l.2.2.2]
def LL (K : PySem.W.Frag) (H : Hp) (vs : List V) (ls : List Lk) : Prop := vs.length = ls.length ∧ ∀ (j : Nat) (l : Lk), ls[j]? = some l → ∃ a, vs[j]? = some (.ref a) ∧ SqT K H a (lv l)
def Ls (K : PySem.W.Frag) (H : Hp) (t : Addr) (ls : List Lk) : Prop := ∃ vs, SqT K H t vs ∧ LL K H vs ls
section
variable {K : PySem.W.Frag} {H H' : Hp} {h s t : Addr} {vs : List V} {ls : List Lk}
theorem LL.but (x : LL K H vs ls) (e : But h s H H') (z : LSt H h s) : LL K H' vs ls := ⟨x.1, fun j l q => let ⟨a, e1, e2⟩ := x.2 j l q; ⟨a, e1, e.tup z e2⟩⟩
theorem LL.same (x : LL K H vs ls) (e : Same H H') : LL K H' vs ls := ⟨x.1, fun j l q => let ⟨a, e1, e2⟩ := x.2 j l q; ⟨a, e1, Same.tup e e2⟩⟩
theorem LL.put {p : Addr} {xs ys : List V} (x : LL K H vs ls) (hp : H p = some (.lst xs)) : LL K (upd H p (.lst ys)) vs ls := ⟨x.1, fun j l q => let ⟨a, e1, e2⟩ := x.2 j l q; ⟨a, e1, SqT.put e2 hp⟩⟩
theorem LL.same' (e : Same H H') (x : LL K H vs ls) : LL K H' vs ls := x.same e
theorem LL.but' (e : But h s H H') (z : LSt H h s) (x : LL K H vs ls) : LL K H' vs ls := x.but e z
theorem LL.nil : LL K H [] [] := ⟨rfl, fun j l q => by simp at q⟩
theorem LL.snoc {a : Addr} {l : Lk} (x : LL K H vs ls) (e : SqT K H a (lv l)) : LL K H (vs ++ [.ref a]) (ls ++ [l]) := by
  refine ⟨by simp [x.1], fun j m q => ?_⟩
  by_cases hj : j < ls.length
  · rw [List.getElem?_append_left hj] at q
    obtain ⟨b, e1, e2⟩ := x.2 j m q
    exact ⟨b, by rw [List.getElem?_append_left (by rw [x.1]; exact hj)]; exact e1, e2⟩
  · have hj' : ls.length ≤ j := Nat.le_of_not_lt hj
    rw [List.getElem?_append_right hj'] at q
    have e0 : j - ls.length = 0 := by
      match hz : j - ls.length, q with
      | 0, _ => rfl
      | n + 1, q => rw [hz] at *; simp at q
    rw [e0] at q
    have em : l = m := by simpa using q
    subst em
    exact ⟨a, by rw [List.getElem?_append_right (by rw [x.1]; exact hj'), x.1, e0]; rfl, e⟩
theorem Ls.but (x : Ls K H t ls) (e : But h s H H') (z : LSt H h s) : Ls K H' t ls := let ⟨vs, a, b⟩ := x; ⟨vs, e.tup z a, b.but e z⟩
theorem Ls.same (x : Ls K H t ls) (e : Same H H') : Ls K H' t ls := let ⟨vs, a, b⟩ := x; ⟨vs, Same.tup e a, b.same e⟩
theorem LSt.new {p : Addr} {o : HO} (x : LSt H h s) (hp : H p = none) : LSt (upd H p o) h s := x.same (Same.upd' hp)
theorem LSt.put {p : Addr} {o : HO} (x : LSt H h s) (n1 : p ≠ h) (n2 : p ≠ s) : LSt (upd H p o) h s := by
  obtain ⟨m, k, xs, h1, h2, r⟩ := x.ex
  exact ⟨m, k, xs, up_set (Ne.symm n1) h1, up_set (Ne.symm n2) h2, r⟩
theorem But.new {p : Addr} {o : HO} (x : But h s H H') (hp : H' p = none) : But h s H (upd H' p o) := x.trans (But.of (Same.upd' hp))
theorem LSt.fresh {p : Addr} (x : LSt H h s) (hp : H p = none) : p ≠ h ∧ p ≠ s := by
  obtain ⟨m, k, xs, h1, h2, r⟩ := x.ex
  exact ⟨Ne.symm (ne_of_none h1 hp), Ne.symm (ne_of_none h2 hp)⟩
theorem LL.get (x : LL K H vs ls) {j : Nat} {l : Lk} (q : ls[j]? = some l) : ∃ a, vs[j]? = some (.ref a) ∧ SqT K H a (lv l) := x.2 j l q
end
local macro_rules | `(tactic| walk_at "hf") => `(tactic| (fail_if_success (show (fun _ => none : Hp) _ = _)); first | assumption | with_reducible exact upd_same | ((with_reducible show upd _ _ _ _ = _); first | exact up_new' (by assumption) (by walk_at "hf") | exact up_set (by walk_at "ne") (by walk_at "hf")) | exact Same.at' (by assumption) (by walk_at "hf") | exact But.at' (by assumption) (by walk_at "ne") (by walk_at "ne") (by walk_at "hf"))
local macro_rules | `(tactic| walk_at "hf0") => `(tactic| (fail_if_success (show (fun _ => none : Hp) _ = _)); first | assumption | with_reducible exact upd_same | ((with_reducible show upd _ _ _ _ = _); exact up_new' (by assumption) (by walk_at "hf0")))
local macro_rules | `(tactic| walk_at "ne") => `(tactic| first | assumption | (apply Ne.symm; assumption) | exact ne_of_none' (by assumption) (by walk_at "hf0") | exact Ne.symm (ne_of_none' (by assumption) (by walk_at "hf0")) | exact LSt.f1 (by assumption) (by walk_at "lst") | exact LSt.f2 (by assumption) (by walk_at "lst"))
local macro_rules | `(tactic| walk_at "sqt") => `(tactic| (fail_if_success (show SqT _ (fun _ => none) _ _)); first | assumption | exact SqT.of' (by walk_at "hf") | ((with_reducible show SqT _ (upd _ _ _) _ _); first | exact SqT.new' (by assumption) (by walk_at "sqt") | exact SqT.put' (by walk_at "hf") (by walk_at "sqt")) | exact Same.tup (by assumption) (by walk_at "sqt") | exact But.tup (by assumption) (by walk_at "lst") (by walk_at "sqt"))
local macro_rules | `(tactic| walk_at "sql") => `(tactic| (fail_if_success (show SqL _ (fun _ => none) _ _)); first | assumption | exact SqL.of' (by walk_at "hf") | ((with_reducible show SqL _ (upd _ _ _) _ _); exact SqL.new' (by assumption) (by walk_at "sql")) | exact Same.sql' (by assumption) (by walk_at "sql"))
local macro_rules | `(tactic| walk_at "lst") => `(tactic| (fail_if_success (show LSt (fun _ => none) _ _)); first | assumption | ((with_reducible show LSt (upd _ _ _) _ _); first | exact LSt.new (by walk_at "lst") (by assumption) | exact LSt.put (by walk_at "lst") (by walk_at "ne") (by walk_at "ne")) | exact LSt.same' (by assumption) (by walk_at "lst"))
local macro_rules | `(tactic| walk_at "but") => `(tactic| first | assumption | exact But.refl _ _ _ | ((with_reducible show But _ _ _ (upd _ _ _)); exact But.nw (by assumption) (by walk_at "but")) | exact But.bu (by assumption) (by walk_at "but") | exact But.sm (by assumption) (by walk_at "but"))
local macro_rules | `(tactic| walk_at "ls") => `(tactic| first | assumption | exact Ls.same (by walk_at "ls") (Same.upd' (by assumption)))
local macro_rules | `(tactic| walk_at "ll") => `(tactic| first | assumption | exact LL.same (by walk_at "ll") (Same.upd' (by assumption)) | exact LL.same' (by assumption) (by walk_at "ll") | exact LL.but' (by assumption) (by walk_at "lst") (by walk_at "ll"))
local macro_rules | `(tactic| walk_at "sm") => `(tactic| first | assumption | exact Same.refl _ | ((with_reducible show Same _ (upd _ _ _)); first | exact Same.put' (by assumption) (by walk_at "sm") | exact Same.trans (by walk_at "sm") (Same.upd' (by assumption))) | exact Same.trans (by walk_at "sm") (by assumption))
/-- one step of a reading -/
local macro_rules | `(tactic| walk_at "rd") => `(tactic| first
  | with_reducible refine iteF ?_
  | with_reducible refine iteT ?_
  | with_reducible refine itNotF ?_
  | with_reducible refine itNotT ?_
  | refine ⟨_, rfl, ?_⟩
  | refine ⟨_, _, rfl, rfl, ?_⟩
  | refine ⟨_, _, rfl, ?_⟩
  | refine ⟨(_ : Addr), (_ : List V), (_ : Int), (_ : V), rfl, rfl, SqL.of' (by walk_at "hf"), (by first | assumption | rfl), ?_⟩
  | refine ⟨(_ : Addr), (_ : List V), (_ : Int), (_ : V), rfl, rfl, (by walk_at "sqt" : SqT _ _ _ _), (by first | assumption | rfl), ?_⟩
  | refine .inl ⟨_, rfl, ?_⟩
  | refine ⟨_, _, rfl, .inl (by walk_at "sql" : SqL _ _ _ _), ?_⟩
  | refine ⟨_, _, rfl, .inl ⟨(by walk_at "sql" : SqL _ _ _ _), fun p hp => ?_⟩⟩
  | refine ⟨_, _, rfl, .inr ⟨(by walk_at "sqt" : SqT _ _ _ _), ?_⟩⟩
  | refine fun (p : Addr) (hp : (_ : Hp) p = none) => ?_
  | refine ⟨_, _, rfl, .inr (by walk_at "sqt" : SqT _ _ _ _), ?_⟩
  | refine And.intro (by show _ ≤ sizeLine; first | decide | walk_at "sz") (fun p hp => ?_)
  | refine ⟨(_ : Addr), (_ : Addr), (_ : List V), (_ : List V), rfl, rfl, (by walk_at "hf"), (by walk_at "hf"), (by walk_at "sz"), fun p hp => ?_⟩
  | refine ⟨(_ : Addr), (_ : Addr), (_ : List V), (_ : List V), rfl, rfl, (by walk_at "hf"), (by walk_at "hf"), (by walk_at "sz"), ?_⟩
  | refine ⟨(_ : Addr), (_ : List V), (_ : Int), (_ : Nat), rfl, rfl, (by walk_at "hf"), (by rfl), ?_⟩
  | refine And.intro ⟨_, (by walk_at "sql" : SqL _ _ _ _)⟩ ?_
  | refine And.intro ⟨_, (by walk_at "sqt" : SqT _ _ _ _)⟩ ?_
  | refine And.intro (.inl ⟨rfl, _, SqL.of' (by walk_at "hf")⟩) ?_
  | refine And.intro (by walk_at "cond") ?_
  | exact .inl ⟨rfl, _, SqL.of' (by walk_at "hf")⟩
  | with_reducible refine iteT ?_
  | with_reducible refine iteF ?_
  | refine And.intro (by rfl : scal _ _ = true) ?_
  | refine And.intro (by rfl : _ = V.non) ?_
  | refine And.intro (by rfl : wipe _ _ = wipe _ _) ?_
  | refine And.intro (by rfl : (_ : List V) = []) ?_
  | refine ⟨(_ : Addr), (_ : List V), rfl, (by walk_at "sqt" : SqT _ _ _ _), (by rfl), ?_⟩)
/-- a test: known, or both ways -/
local macro_rules | `(tactic| walk_at "if") => `(tactic| first
  | with_reducible refine itD (by omega) ?_
  | with_reducible refine itN (by omega) ?_
  | with_reducible refine itnD (by omega) ?_
  | with_reducible refine itnN (by omega) ?_
  | with_reducible refine itE (by omega) ?_
  | with_reducible refine itEn (by omega) ?_
  | with_reducible refine itnE (by omega) ?_
  | with_reducible refine itnEn (by omega) ?_
  | with_reducible refine itN (by intro z; cases z) ?_
  | with_reducible refine itD (by decide) ?_
  | with_reducible refine itN (by decide) ?_
  | with_reducible refine itnD (by decide) ?_
  | with_reducible refine itnN (by decide) ?_)
local macro_rules | `(tactic| walk_at "if2") => `(tactic| first
  | with_reducible refine itS (fun z => ?_) (fun z => ?_)
  | with_reducible refine itS' (fun z => ?_) (fun z => ?_)
  | with_reducible refine itSE (fun z => ?_) (fun z => ?_)
  | with_reducible refine itnS (fun z => ?_) (fun z => ?_)
  | with_reducible refine itnS' (fun z => ?_) (fun z => ?_)
  | with_reducible refine itnSE (fun z => ?_) (fun z => ?_))
local macro_rules | `(tactic| walk_at "go") => `(tactic| repeat' (first | walk_at "rd" | walk_at "if" | walk_at "if2" | fail))
local macro_rules | `(tactic| walk_at "sz") => `(tactic| (rw [sizeLine_eq]; simp only [List.length_append, List.length_map, List.length_cons, List.length_nil]; omega))
local macro_rules | `(tactic| walk_at "cond") => `(tactic| first | assumption | (show (_ : Int) ≠ 0; first | omega | (split <;> omega)) | (show (0 : Int) < _; first | assumption | decide) | exact ⟨by decide, by decide, by decide⟩ | exact .inr ⟨by decide, by decide⟩ | exact wide_div (b := 64) (by assumption) (by omega) (by decide) (by decide) | exact ⟨by decide, by decide⟩)


def spMix (K : PySem.W.Frag) : Sp := fun vs H Q _ => ∃ (a : Addr) (ns : List Int) (sd : Int), vs = [.ref a, .int sd] ∧ 0 ≤ sd ∧ sd < 2147483647 ∧ SqL K H a (ns.map V.int) ∧ ns.length ≤ 63 ∧
  ∀ (h s : Addr) (H' : Hp), LSt H' h s → Same H H' → Q (.ref h) H'
section
variable {P : Program} {w : World} {K : PySem.W.Frag} {mg : Str → Option Value} {base : Heap}
theorem scNext : FnScope ["_law_h", "_law_limit", "_law_cell"] ["_law_h", "_law_limit"] (fnScope s__law_next) := fnScope_by (by decide +kernel)
theorem ok_next {f : Addr} {fd : FuncData} (F : Def K mg "_law_next" s__law_next f fd) (b : Binds K fd ["_law_h", "_law_limit"] []) (T : BT mg) : Cal P w K mg base 1 "_law_next" spNext [] := by
  refine cal0 F b .nil scNext (fun vs H Q E h => ?_) (fun cdv A outer s H vs Q E hr h => ?_)
  · obtain ⟨h, s, n, rfl, _⟩ := h; rfl
  · obtain ⟨h, s, n, rfl, ⟨m, k, xs, e1, e2, m0, m1, k0, xl⟩, n0, n1, q⟩ := h
    have hsne : h ≠ s := LSt.ne ⟨m, k, xs, e1, e2, m0, m1, k0, xl⟩
    refine ⟨_, pss_cons (ps_set (i := 2) scNext.nd rfl (Or.inl rfl) (pe_ix ix_list (pe_op op_cat (pe_ix ix_list (pv 0) pe_int (fun _ _ => rfl)) (pe_lst (pa_cons pe_int pa_nil)))
      (pe_op op_modN (pe_callTy call_int1 (by rfl) T.int (by decide +kernel) (pa_cons (pe_ix ix_list (pv 0) pe_int (fun _ _ => rfl)) pa_nil))
        (pe_callB (call_max2 rfl) (by rfl) T.max (by decide +kernel) (pa_cons pe_int (pa_cons (pe_callB call_len_seq (by rfl) T.len PySem.boot_len (pa_cons (pe_ix ix_list (pv 0) pe_int (fun _ _ => rfl)) pa_nil)) pa_nil)))) (fun _ _ => rfl)))
      (pss_cons (ps_if (pt_cmpR op_ge (pv 2) (pe_op op_pow pe_int pe_int) (nomark _))
        (pss_cons (ps_asg (pe_op op_fdivW (pv 2) (pv 1)) (pg_sub (pe_ix ix_list (pv 0) pe_int (fun _ _ => rfl)) (pe_op op_modN (pe_callTy call_int1 (by rfl) T.int (by decide +kernel) (pa_cons (pe_ix ix_list (pv 0) pe_int (fun _ _ => rfl)) pa_nil)) (pe_callB call_len_seq (by rfl) T.len PySem.boot_len (pa_cons (pe_ix ix_list (pv 0) pe_int (fun _ _ => rfl)) pa_nil))) set_list))
          (pss_one (ps_ret (pe_op op_modN (pe_callTy call_int1 (by rfl) T.int (by decide +kernel) (pa_cons (pv 2) pa_nil)) (pv 1))))) pss_nil)
      (pss_cons (ps_asg (pe_op op_modN (pe_op op_add (pe_op op_add (pe_op op_mul (pe_ix ix_list (pv 0) pe_int (fun _ _ => rfl)) pe_int) (pe_op op_mul (pv 2) pe_int)) pe_int) pe_int) (pg_sub (pv 0) pe_int set_list))
      (pss_cons (ps_asg (pe_op op_add (pe_ix ix_list (pv 0) pe_int (fun _ _ => rfl)) pe_int) (pg_sub (pv 0) pe_int set_list))
      (pss_one (ps_ret (pe_op op_modN (pe_op op_fdiv (pe_ix ix_list (pv 0) pe_int (fun _ _ => rfl)) pe_int) (pv 1))))))), ?_⟩
    have xl' : (xs.map V.int).length = xs.length := List.length_map ..
    have hmx : (0 : Int) < if ((xs.map V.int).length : Int) > 1 then ((xs.map V.int).length : Int) else 1 := by split <;> omega
    obtain ⟨j0, j1⟩ := fdN (a := k) hmx
    have hj : (k.fmod (if ((xs.map V.int).length : Int) > 1 then ((xs.map V.int).length : Int) else 1)).toNat < (xs ++ [0]).length := by
      rw [List.length_append, List.length_singleton]
      rw [xl'] at j0 j1 ⊢
      split at j1 <;> simp only [*, if_true, if_false] at j0 j1 ⊢ <;> omega
    obtain ⟨c, hc⟩ : ∃ c, (xs ++ [0])[(k.fmod (if ((xs.map V.int).length : Int) > 1 then ((xs.map V.int).length : Int) else 1)).toNat]? = some c := ⟨_, List.getElem?_eq_getElem hj⟩
    have hc' : (xs.map V.int ++ [V.int 0])[(k.fmod (if ((xs.map V.int).length : Int) > 1 then ((xs.map V.int).length : Int) else 1)).toNat]? = some (V.int c) := by
      have e : xs.map V.int ++ [V.int 0] = (xs ++ [0]).map V.int := by simp
      rw [e, List.getElem?_map, hc]; rfl
    have hcx : c ≠ 0 → c ∈ xs := fun h0 => by
      have := List.mem_of_getElem? hc
      rcases List.mem_append.mp this with h | h
      · exact h
      · exact absurd (List.mem_singleton.mp h) h0
    repeat walk_at "rd"
    refine ⟨_, _, _, _, rfl, rfl, SqL.of' (by walk_at "hf"), atI_get j0 hc', ?_⟩
    repeat walk_at "rd"
    refine ite2 (fun c1 => ?_) (fun c1 => ?_)
    · have c1 : (10 : Int) ^ 18 ≤ c := of_decide_eq_true c1
      have cx : c ∈ xs := hcx (by omega)
      have xp : 0 < xs.length := List.length_pos_of_mem cx
      have hne : ((xs.map V.int).length : Int) ≠ 0 := by omega
      repeat walk_at "rd"
      obtain ⟨i0, i1⟩ := fdN (a := k) (b := ((xs.map V.int).length : Int)) (by omega)
      refine ⟨_, _, _, _, rfl, rfl, (by walk_at "hf"), ixN_pos i0 i1, ?_⟩
      repeat walk_at "rd"
      obtain ⟨r0, r1⟩ := fdN (a := c) n0
      refine q _ _ r0 r1 ⟨m, k, xs.set (k.fmod ((xs.map V.int).length : Int)).toNat (c / n), by walk_at "hf", ?_, m0, m1, k0, by rw [List.length_set]; exact xl⟩ fun b o nh ns e => by walk_at "hf"
      rw [upd_same, List.map_set]
    · have c1 : ¬ (10 : Int) ^ 18 ≤ c := fun z => c1 (decide_eq_true z)
      repeat walk_at "rd"
      obtain ⟨r0, r1⟩ := fdN (a := (m * 48271 + c * 69621 + 11).fmod 2147483647 / 7) n0
      obtain ⟨u0, u1⟩ := fdN (a := m * 48271 + c * 69621 + 11) (b := 2147483647) (by decide)
      refine q _ _ r0 r1 ⟨_, k + 1, xs, upd_same, by walk_at "hf", u0, u1, by omega, xl⟩ fun b o nh ns e => by walk_at "hf"
theorem int_get {ns : List Int} {i : Nat} {y : V} (hi : (ns.map V.int)[i]? = some y) : ∃ z, ns[i]? = some z ∧ y = V.int z := by
  rw [List.getElem?_map] at hi
  cases e : ns[i]? with
  | none => rw [e] at hi; cases hi
  | some z => rw [e] at hi; exact ⟨z, rfl, (Option.some.inj hi).symm⟩

theorem scMix : FnScope ["_law_script", "_law_seed", "_law_mixed", "_law_cell"] ["_law_script", "_law_seed"] (fnScope s__law_mix) := fnScope_by (by decide +kernel)
theorem ok_mix {f : Addr} {fd : FuncData} (F : Def K mg "_law_mix" s__law_mix f fd) (b : Binds K fd ["_law_script", "_law_seed"] []) (T : BT mg) : Cal P w K mg base 1 "_law_mix" (spMix K) [] := by
  refine cal0 F b .nil scMix (fun vs H Q E h => ?_) (fun cdv A outer s H vs Q E hr h => ?_)
  · obtain ⟨h, ns, sd, rfl, _⟩ := h; rfl
  · obtain ⟨a, ns, sd, rfl, sd0, sd1, ha, hl, q⟩ := h
    refine ⟨_, (pss_cons (ps_set (i := 2) scMix.nd rfl (Or.inl rfl) (pv 1))
 (pss_cons (ps_for PassesOwn.never rfl (pi_list (pv 0)) (pg_name (i := 3) scMix.nd rfl (Or.inl rfl)) (pss_one (ps_set (i := 2) scMix.nd rfl (Or.inl rfl) (pe_op op_modN (pe_op op_add (pe_op op_add (pe_op op_mul (pv 2) pe_int) (pe_op op_modN (pv 3) pe_int)) pe_int) pe_int))))
 (pss_one (ps_ret (pe_lst (pa_cons (pv 2) (pa_cons (pe_callTy call_list_of (by rfl) T.list (by decide +kernel) (pa_cons (pv 0) pa_nil)) (pa_cons pe_int pa_nil)))))))), ?_⟩
    repeat walk_at "rd"
    refine for_list (K := K) (a := a) (xs := ns.map V.int) (fun i σ H' => H' = H ∧ ∃ (m : Int) (v : Option V), σ = [some (.ref a), some (.int sd), some (.int m), v] ∧ 0 ≤ m ∧ m < 2147483647)
      ⟨rfl, sd, none, rfl, sd0, sd1⟩ (fun i σ H' _ ⟨e, _⟩ => by rw [e]; exact ha) ?_ ?_
    · rintro i y σ H' hi ⟨rfl, m, v, rfl, m0, m1⟩
      obtain ⟨z, hz, rfl⟩ := int_get hi
      repeat walk_at "rd"
      obtain ⟨u0, u1⟩ := fdN (a := m * 48271 + z.fmod 2147483629 + 1) (b := 2147483647) (by decide)
      exact ⟨rfl, _, _, rfl, u0, u1⟩
    · rintro σ H' ⟨rfl, m, v, rfl, m0, m1⟩
      repeat walk_at "rd"
      rename_i p1 hp1 p2 hp2
      exact q p2 p1 _ ⟨m, 0, ns, upd_same, by walk_at "hf", m0, m1, Int.le_refl 0, hl⟩ fun b o e => by walk_at "hf"

end
end T1

set_option Elab.async false
set_option linter.all false
set_option maxRecDepth 100000
set_option maxHeartbeats 4000000
namespace Fm
open PySem PySem.Spec PyProof.Rows L2

/-- a value as a tree: tuples are values, what can change is a number -/
inductive Tr where
  | non | bl (b : Bool) | int (i : Int) | str (x : Str) | tup (ts : List Tr) | ref (n : Nat) | raw (v : V)
/-- what can change -/
inductive O where
  | lst (ts : List Tr)
  | ins (C : Addr) (fs : List (Str × Tr))
  | tab (P : Addr) (q : Str)
  /-- a drawing state: a list [script, k, m, r], with what the script holds -/
  | scr (ns : List Int) (k m r : Int)
  /-- a dict -/
  | dic (ps : List (L2.Key × Tr))
abbrev Mem := List O
abbrev Loc := List (Option Tr)

/-- what never changes -/
def Imm (o : HO) : Prop := (∃ a u, o = .frz a u) ∨ ∃ φ, o = .ext φ
theorem imm_code {c : Addr} {q : Str} : Imm (LamX.CodeO c q) := .inr ⟨_, rfl⟩
theorem Imm.ne {o : HO} (h : Imm o) : (∀ ys, o ≠ .lst ys) ∧ (∀ C dx gs, o ≠ .ins C dx gs) ∧ (∀ ps, o ≠ .dK ps) ∧ (∀ ps, o ≠ .tbl ps) ∧ ∀ a, o ≠ .own a := by
  rcases h with ⟨a, u, rfl⟩ | ⟨φ, rfl⟩ <;> exact ⟨fun _ z => (nomatch z), fun _ _ _ z => (nomatch z), fun _ z => (nomatch z), fun _ z => (nomatch z), fun _ z => (nomatch z)⟩
/-- a list that is only read -/
def Fz (K : PySem.W.Frag) (H : Hp) (a : Addr) (xs : List V) : Prop := (∃ o, H a = some (.frz o (.lst xs))) ∨
  ∃ (o : Obj) (its : Array Value) (n : Nat), K.lookup a = some o ∧ o.cls = .type "list" ∧ o.dict = none ∧ o.data = .seq its n ∧ its.size ≤ sizeLine ∧ Vals xs its.toList
theorem Fz.sql {K : PySem.W.Frag} {H : Hp} {a : Addr} {xs : List V} (h : Fz K H a xs) : SqL K H a xs := h.imp .inr id
section
variable (K : PySem.W.Frag) (H : Hp) (ρ : List Addr)
mutual
def RT : Tr → V → Prop
  | .non, v => v = .non
  | .bl b, v => v = .bl b
  | .int i, v => v = .int i
  | .str x, v => v = .str x
  | .raw w, v => v = w
  | .ref n, v => ∃ a, ρ[n]? = some a ∧ v = .ref a
  | .tup ts, v => ∃ a xs, v = .ref a ∧ SqT K H a xs ∧ RTs ts xs
def RTs : List Tr → List V → Prop
  | [], xs => xs = []
  | t :: ts, xs => ∃ x ys, xs = x :: ys ∧ RT t x ∧ RTs ts ys
end
def RFs : List (Str × Tr) → List (Str × V) → Prop
  | [], gs => gs = []
  | p :: fs, gs => ∃ x hs, gs = (p.1, x) :: hs ∧ RT K H ρ p.2 x ∧ RFs fs hs
def RKs : List (L2.Key × Tr) → List (L2.Key × V) → Prop
  | [], gs => gs = []
  | p :: fs, gs => ∃ x hs, gs = (p.1, x) :: hs ∧ RT K H ρ p.2 x ∧ RKs fs hs
def RO : O → Addr → Prop
  | .lst ts, a => ∃ xs, H a = some (.lst xs) ∧ RTs K H ρ ts xs
  | .ins C fs, a => ∃ dx gs, H a = some (.ins C dx gs) ∧ H dx = some (.own a) ∧ RFs K H ρ fs gs
  | .tab P q, a => a = P ∧ LamX.TabS H P q
  | .scr ns k m r, a => ∃ s, H a = some (.lst [.ref s, .int k, .int m, .int r]) ∧ Fz K H s (ns.map V.int)
  | .dic ps, a => ∃ kvs, H a = some (.dK kvs) ∧ RKs K H ρ ps kvs
structure RM (M : Mem) : Prop where
  len : ρ.length = M.length
  at_ : ∀ (n : Nat) (o : O), M[n]? = some o → ∃ a, ρ[n]? = some a ∧ RO K H ρ o a
  nd : ρ.Nodup
def RL1 : Option Tr → Option V → Prop
  | none, _ => True
  | some t, v => ∃ x, v = some x ∧ RT K H ρ t x
def RL : Loc → L2.St → Prop
  | [], σ => σ = []
  | t :: L, σ => ∃ v τ, σ = v :: τ ∧ RL1 K H ρ t v ∧ RL L τ
end
/-- the heap has grown: the tuples stay, and what no number names -/
structure Grow (K : PySem.W.Frag) (H : Hp) (ρ : List Addr) (H' : Hp) (ρ' : List Addr) : Prop where
  ext : ∃ t, ρ' = ρ ++ t
  tup : ∀ a xs, SqT K H a xs → SqT K H' a xs
  oth : ∀ a o, H a = some o → a ∉ ρ → (∀ ps, o ≠ .tbl ps) → H' a = some o
  new : ∀ a, a ∈ ρ' → a ∉ ρ → ∀ o, H a = some o → ∃ ps, o = .tbl ps
  cod : ∀ c o, Imm o → H c = some o → H' c = some o
/-- less: more numbers, the tuples stay -/
structure Gw (K : PySem.W.Frag) (H : Hp) (ρ : List Addr) (H' : Hp) (ρ' : List Addr) : Prop where
  ext : ∃ t, ρ' = ρ ++ t
  tup : ∀ a xs, SqT K H a xs → SqT K H' a xs
  cod : ∀ c o, Imm o → H c = some o → H' c = some o
section
variable {K : PySem.W.Frag} {H H' H2 : Hp} {ρ ρ' ρ2 : List Addr}
theorem Grow.gw (g : Grow K H ρ H' ρ') : Gw K H ρ H' ρ' := ⟨g.ext, g.tup, g.cod⟩
theorem Grow.refl : Grow K H ρ H ρ := ⟨⟨[], by simp⟩, fun _ _ h => h, fun _ _ h _ _ => h, fun _ h n => absurd h n, fun _ _ _ h => h⟩
theorem Grow.trans (a : Grow K H ρ H' ρ') (b : Grow K H' ρ' H2 ρ2) : Grow K H ρ H2 ρ2 := by
  obtain ⟨t, e⟩ := a.ext
  obtain ⟨u, f⟩ := b.ext
  have key : ∀ x o, H x = some o → x ∉ ρ → (∀ ps, o ≠ .tbl ps) → x ∉ ρ' := fun x o h n nt z => by
    obtain ⟨ps, e⟩ := a.new x z n o h
    exact nt ps e
  refine ⟨⟨t ++ u, by rw [f, e, List.append_assoc]⟩, fun x xs h => b.tup _ _ (a.tup _ _ h), fun x o h n nt => b.oth _ _ (a.oth _ _ h n nt) (key x o h n nt) nt, fun x h n o ho => ?_, fun c o i h => b.cod c o i (a.cod c o i h)⟩
  by_cases hx : x ∈ ρ'
  · exact a.new x hx n o ho
  · refine Classical.byContradiction fun nt => ?_
    have nt' : ∀ ps, o ≠ .tbl ps := fun ps e => nt ⟨ps, e⟩
    obtain ⟨ps, e⟩ := b.new x h hx o (a.oth x o ho n nt')
    exact nt' ps e
theorem ext_get (e : ∃ t, ρ' = ρ ++ t) {n : Nat} {a : Addr} (h : ρ[n]? = some a) : ρ'[n]? = some a := by
  obtain ⟨t, rfl⟩ := e
  rw [List.getElem?_append_left]
  · exact h
  · exact (List.getElem?_eq_some_iff.mp h).1
mutual
theorem RT.mono0 (g : Gw K H ρ H' ρ') : ∀ {t : Tr} {v : V}, RT K H ρ t v → RT K H' ρ' t v
  | .non, _, h => h
  | .bl _, _, h => h
  | .int _, _, h => h
  | .str _, _, h => h
  | .raw _, _, h => h
  | .ref n, _, h => by
    unfold RT at h ⊢
    obtain ⟨a, h1, h2⟩ := h
    exact ⟨a, ext_get g.ext h1, h2⟩
  | .tup ts, _, h => by
    unfold RT at h ⊢
    obtain ⟨a, xs, h1, h2, h3⟩ := h
    exact ⟨a, xs, h1, g.tup _ _ h2, RTs.mono0 g h3⟩
theorem RTs.mono0 (g : Gw K H ρ H' ρ') : ∀ {ts : List Tr} {vs : List V}, RTs K H ρ ts vs → RTs K H' ρ' ts vs
  | [], _, h => by
    unfold RTs at h ⊢
    exact h
  | t :: ts, _, h => by
    unfold RTs at h ⊢
    obtain ⟨x, ys, h1, h2, h3⟩ := h
    exact ⟨x, ys, h1, RT.mono0 g h2, RTs.mono0 g h3⟩
end
theorem RFs.mono0 (g : Gw K H ρ H' ρ') : ∀ {ts : List (Str × Tr)} {vs : List (Str × V)}, RFs K H ρ ts vs → RFs K H' ρ' ts vs
  | [], _, h => h
  | t :: ts, _, h => by
    obtain ⟨x, ys, h1, h2, h3⟩ := h
    exact ⟨x, ys, h1, RT.mono0 g h2, RFs.mono0 g h3⟩
theorem RKs.mono0 (g : Gw K H ρ H' ρ') : ∀ {ts : List (L2.Key × Tr)} {vs : List (L2.Key × V)}, RKs K H ρ ts vs → RKs K H' ρ' ts vs
  | [], _, h => h
  | t :: ts, _, h => by
    obtain ⟨x, ys, h1, h2, h3⟩ := h
    exact ⟨x, ys, h1, RT.mono0 g h2, RKs.mono0 g h3⟩
theorem Fz.mono0 (g : Gw K H ρ H' ρ') {a : Addr} {xs : List V} (h : Fz K H a xs) : Fz K H' a xs := h.imp (fun ⟨o, e⟩ => ⟨o, g.cod _ _ (.inl ⟨_, _, rfl⟩) e⟩) id
theorem RL.mono0 (g : Gw K H ρ H' ρ') : ∀ {L : Loc} {σ : L2.St}, RL K H ρ L σ → RL K H' ρ' L σ
  | [], _, h => h
  | none :: L, _, h => by
    obtain ⟨v, τ, h1, h2, h3⟩ := h
    exact ⟨v, τ, h1, trivial, RL.mono0 g h3⟩
  | some t :: L, _, h => by
    obtain ⟨v, τ, h1, ⟨x, h4, h5⟩, h3⟩ := h
    exact ⟨v, τ, h1, ⟨x, h4, RT.mono0 g h5⟩, RL.mono0 g h3⟩
theorem RT.mono (g : Grow K H ρ H' ρ') {t : Tr} {v : V} (h : RT K H ρ t v) : RT K H' ρ' t v := RT.mono0 g.gw h
theorem RTs.mono (g : Grow K H ρ H' ρ') {t : List Tr} {v : List V} (h : RTs K H ρ t v) : RTs K H' ρ' t v := RTs.mono0 g.gw h
theorem RFs.mono (g : Grow K H ρ H' ρ') {t : List (Str × Tr)} {v : List (Str × V)} (h : RFs K H ρ t v) : RFs K H' ρ' t v := RFs.mono0 g.gw h
theorem RL.mono (g : Grow K H ρ H' ρ') {L : Loc} {σ : L2.St} (h : RL K H ρ L σ) : RL K H' ρ' L σ := RL.mono0 g.gw h
theorem RL.get : ∀ {L : Loc} {σ : L2.St} {i : Nat} {t : Tr}, RL K H ρ L σ → L[i]? = some (some t) → ∃ x, σ[i]? = some (some x) ∧ RT K H ρ t x
  | [], _, _, _, _, e => by simp at e
  | u :: L, _, 0, t, h, e => by
    obtain ⟨v, τ, rfl, h2, h3⟩ := h
    have e' : u = some t := by simpa using e
    subst e'
    obtain ⟨x, rfl, h4⟩ := h2
    exact ⟨x, rfl, h4⟩
  | u :: L, _, i + 1, t, h, e => by
    obtain ⟨v, τ, rfl, h2, h3⟩ := h
    obtain ⟨x, h4, h5⟩ := RL.get (i := i) h3 (by simpa using e)
    exact ⟨x, by simpa using h4, h5⟩
theorem RL.set {t : Tr} {x : V} (r : RT K H ρ t x) : ∀ {L : Loc} {σ : L2.St} (i : Nat), RL K H ρ L σ → RL K H ρ (L.set i (some t)) (σ.set i (some x))
  | [], _, _, h => by
    have h : _ = ([] : L2.St) := h
    subst h
    exact rfl
  | u :: L, _, 0, h => by
    obtain ⟨v, τ, rfl, h2, h3⟩ := h
    exact ⟨_, _, rfl, ⟨x, rfl, r⟩, h3⟩
  | u :: L, _, i + 1, h => by
    obtain ⟨v, τ, rfl, h2, h3⟩ := h
    exact ⟨_, _, rfl, h2, RL.set r i h3⟩
theorem RTs.len : ∀ {ts : List Tr} {xs : List V}, RTs K H ρ ts xs → xs.length = ts.length
  | [], _, h => by
    unfold RTs at h
    rw [h] <;> rfl
  | t :: ts, _, h => by
    unfold RTs at h
    obtain ⟨x, ys, rfl, _, h3⟩ := h
    simp [RTs.len h3]
theorem RTs.get : ∀ {ts : List Tr} {xs : List V} {i : Nat} {t : Tr}, RTs K H ρ ts xs → ts[i]? = some t → ∃ x, xs[i]? = some x ∧ RT K H ρ t x
  | [], _, _, _, _, e => by simp at e
  | u :: ts, _, 0, t, h, e => by
    unfold RTs at h
    obtain ⟨x, ys, rfl, h2, h3⟩ := h
    have e' : u = t := by simpa using e
    subst e'
    exact ⟨x, rfl, h2⟩
  | u :: ts, _, i + 1, t, h, e => by
    unfold RTs at h
    obtain ⟨x, ys, rfl, h2, h3⟩ := h
    obtain ⟨y, h4, h5⟩ := RTs.get (i := i) h3 (by simpa using e)
    exact ⟨y, by simpa using h4, h5⟩
theorem RTs.nil : RTs K H ρ [] [] := by unfold RTs; rfl
theorem RTs.cons {t : Tr} {x : V} {ts : List Tr} {xs : List V} (a : RT K H ρ t x) (b : RTs K H ρ ts xs) : RTs K H ρ (t :: ts) (x :: xs) := by
  unfold RTs; exact ⟨x, xs, rfl, a, b⟩
theorem RTs.app : ∀ {ts us : List Tr} {xs ys : List V}, RTs K H ρ ts xs → RTs K H ρ us ys → RTs K H ρ (ts ++ us) (xs ++ ys)
  | [], _, _, _, h, k => by
    unfold RTs at h
    subst h
    exact k
  | t :: ts, _, _, _, h, k => by
    unfold RTs at h
    obtain ⟨x, zs, rfl, h2, h3⟩ := h
    exact RTs.cons h2 (RTs.app h3 k)
theorem RTs.set {t : Tr} {x : V} (r : RT K H ρ t x) : ∀ {ts : List Tr} {xs : List V} (i : Nat), RTs K H ρ ts xs → RTs K H ρ (ts.set i t) (xs.set i x)
  | [], _, _, h => by
    unfold RTs at h
    subst h
    exact RTs.nil
  | u :: L, _, 0, h => by
    unfold RTs at h
    obtain ⟨v, τ, rfl, h2, h3⟩ := h
    exact RTs.cons r h3
  | u :: L, _, i + 1, h => by
    unfold RTs at h
    obtain ⟨v, τ, rfl, h2, h3⟩ := h
    exact RTs.cons h2 (RTs.set r i h3)
theorem RTs.take : ∀ {ts : List Tr} {xs : List V} (n : Nat), RTs K H ρ ts xs → RTs K H ρ (ts.take n) (xs.take n)
  | _, _, 0, _ => RTs.nil
  | [], _, n + 1, h => by
    unfold RTs at h
    subst h
    exact RTs.nil
  | t :: ts, _, n + 1, h => by
    unfold RTs at h
    obtain ⟨x, zs, rfl, h2, h3⟩ := h
    exact RTs.cons h2 (RTs.take n h3)
theorem RTs.drop : ∀ {ts : List Tr} {xs : List V} (n : Nat), RTs K H ρ ts xs → RTs K H ρ (ts.drop n) (xs.drop n)
  | _, _, 0, h => h
  | [], _, n + 1, h => by
    unfold RTs at h
    subst h
    exact RTs.nil
  | t :: ts, _, n + 1, h => by
    unfold RTs at h
    obtain ⟨x, zs, rfl, h2, h3⟩ := h
    exact RTs.drop n h3
theorem RO.mono0 (g : Gw K H ρ H' ρ') {o : O} {a : Addr} (k : H' a = H a) (kd : ∀ d, H d = some (.own a) → H' d = some (.own a)) (h : RO K H ρ o a) : RO K H' ρ' o a := by
  cases o with
  | lst ts =>
    obtain ⟨xs, h1, h2⟩ := h
    exact ⟨xs, by rw [k]; exact h1, RTs.mono0 g h2⟩
  | ins C fs =>
    obtain ⟨dx, gs, h1, h3, h2⟩ := h
    exact ⟨dx, gs, by rw [k]; exact h1, kd _ h3, RFs.mono0 g h2⟩
  | tab P q =>
    obtain ⟨rfl, ps, h1, h2, h3⟩ := h
    refine ⟨rfl, ps, by rw [k]; exact h1, h2, fun pos cv hc => ?_⟩
    obtain ⟨c, e1, e2⟩ := h3 pos cv hc
    exact ⟨c, e1, g.cod c _ imm_code e2⟩
  | scr ns k' m r =>
    obtain ⟨s, h1, h2⟩ := h
    exact ⟨s, by rw [k]; exact h1, h2.mono0 g⟩
  | dic ps =>
    obtain ⟨kvs, h1, h2⟩ := h
    exact ⟨kvs, by rw [k]; exact h1, RKs.mono0 g h2⟩
theorem RO.mono (g : Grow K H ρ H' ρ') {o : O} {a : Addr} (k : H' a = H a) (kd : ∀ d, H d = some (.own a) → H' d = some (.own a)) (h : RO K H ρ o a) : RO K H' ρ' o a := RO.mono0 g.gw k kd h
theorem RM.obj {M : Mem} (r : RM K H ρ M) {n : Nat} {a : Addr} (h : ρ[n]? = some a) : ∃ o, M[n]? = some o ∧ RO K H ρ o a := by
  have hn : n < M.length := by rw [← r.len]; exact (List.getElem?_eq_some_iff.mp h).1
  obtain ⟨b, h1, h2⟩ := r.at_ n M[n] (List.getElem?_eq_getElem hn)
  rw [h] at h1
  cases h1
  exact ⟨_, List.getElem?_eq_getElem hn, h2⟩
theorem RM.trk {M : Mem} (r : RM K H ρ M) {a : Addr} (h : a ∈ ρ) : (∃ xs, H a = some (.lst xs)) ∨ (∃ C dx gs, H a = some (.ins C dx gs)) ∨ (∃ ps, H a = some (.tbl ps)) ∨ ∃ ps, H a = some (.dK ps) := by
  obtain ⟨n, hn⟩ := List.getElem?_of_mem h
  obtain ⟨o, _, h2⟩ := r.obj hn
  cases o with
  | lst ts =>
    obtain ⟨xs, h1, _⟩ := h2
    exact .inl ⟨xs, h1⟩
  | ins C fs =>
    obtain ⟨dx, gs, h1, _⟩ := h2
    exact .inr (.inl ⟨C, dx, gs, h1⟩)
  | tab P q =>
    obtain ⟨rfl, ps, h1, _⟩ := h2
    exact .inr (.inr (.inl ⟨ps, h1⟩))
  | scr ns k m r =>
    obtain ⟨s, h1, _⟩ := h2
    exact .inl ⟨_, h1⟩
  | dic ps =>
    obtain ⟨kvs, h1, _⟩ := h2
    exact .inr (.inr (.inr ⟨kvs, h1⟩))
theorem RM.fresh {M : Mem} (r : RM K H ρ M) {a : Addr} (h : H a = none) : a ∉ ρ := fun z => by
  rcases r.trk z with ⟨xs, e⟩ | ⟨C, dx, gs, e⟩ | ⟨ps, e⟩ | ⟨ps, e⟩ <;> rw [h] at e <;> cases e
/-- a tuple stays where no tuple is written -/
theorem sqt_upd {a b : Addr} {o : HO} {xs : List V} (h : SqT K H a xs) (n : H b = none ∨ (∃ ys, H b = some (.lst ys)) ∨ (∃ C dx gs, H b = some (.ins C dx gs)) ∨ ∃ ps, H b = some (.dK ps)) : SqT K (upd H b o) a xs := by
  have key : ∀ u, H a = some u → (∀ ys, u ≠ .lst ys) → (∀ C dx gs, u ≠ .ins C dx gs) → (∀ ps, u ≠ .dK ps) → upd H b o a = some u := fun u hu n1 n2 n3 => by
    refine (upd_ne fun e => ?_).trans hu
    subst e
    rcases n with n | ⟨ys, n⟩ | ⟨C, dx, gs, n⟩ | ⟨ps, n⟩ <;> rw [hu] at n
    · cases n
    · exact n1 _ (Option.some.inj n)
    · exact n2 _ _ _ (Option.some.inj n)
    · exact n3 _ (Option.some.inj n)
  rcases h with (h | ⟨q, h⟩) | h
  · exact .inl (.inl (key _ h (fun _ z => nomatch z) (fun _ _ _ z => nomatch z) (fun _ z => nomatch z)))
  · exact .inl (.inr ⟨q, key _ h (fun _ z => nomatch z) (fun _ _ _ z => nomatch z) (fun _ z => nomatch z)⟩)
  · exact .inr h
theorem cod_upd {b : Addr} {o : HO} (n : H b = none ∨ (∃ ys, H b = some (.lst ys)) ∨ (∃ C dx gs, H b = some (.ins C dx gs)) ∨ ∃ ps, H b = some (.dK ps)) (c : Addr) (u : HO) (i : Imm u) (h : H c = some u) : upd H b o c = some u := by
  refine (upd_ne fun e => ?_).trans h
  subst e
  obtain ⟨i1, i2, i3, _⟩ := i.ne
  rcases n with n | ⟨ys, n⟩ | ⟨C, dx, gs, n⟩ | ⟨ps, n⟩ <;> rw [h] at n
  · cases n
  · exact i1 _ (Option.some.inj n)
  · exact i2 _ _ _ (Option.some.inj n)
  · exact i3 _ (Option.some.inj n)
/-- a new thing that no number names -/
theorem Grow.laid {p : Addr} {o : HO} (hp : H p = none) : Grow K H ρ (upd H p o) ρ :=
  ⟨⟨[], by simp⟩, fun _ _ h => sqt_upd h (.inl hp), fun a u h _ _ => by rw [upd_ne (ne_of_none h hp)]; exact h, fun _ h n => absurd h n, fun c q i h => cod_upd (.inl hp) c q i h⟩
theorem RM.grown {M : Mem} (r : RM K H ρ M) (g : Grow K H ρ H' ρ) (k : ∀ a, a ∈ ρ → H' a = H a) (kd : ∀ d a, H d = some (.own a) → H' d = some (.own a)) : RM K H' ρ M :=
  ⟨r.len, fun n o h => let ⟨a, h1, h2⟩ := r.at_ n o h; ⟨a, h1, h2.mono g (k a (List.mem_of_getElem? h1)) fun d q => kd d a q⟩, r.nd⟩
theorem RM.laid {M : Mem} {p : Addr} {o : HO} (r : RM K H ρ M) (hp : H p = none) : RM K (upd H p o) ρ M :=
  r.grown (Grow.laid hp) (fun a ha => upd_ne fun e => r.fresh hp (e ▸ ha)) fun d a q => by rw [upd_ne (ne_of_none q hp)]; exact q
/-- a new list -/
theorem Grow.list {M : Mem} (r : RM K H ρ M) {p : Addr} {o : HO} (hp : H p = none) : Grow K H ρ (upd H p o) (ρ ++ [p]) :=
  ⟨⟨[p], rfl⟩, fun _ _ h => sqt_upd h (.inl hp), fun a u h _ _ => by rw [upd_ne (ne_of_none h hp)]; exact h, fun a h n o ho => by
    rcases List.mem_append.mp h with h | h
    · exact absurd h n
    · rw [List.mem_singleton.mp h, hp] at ho
      (cases ho), fun c q i h => cod_upd (.inl hp) c q i h⟩
theorem RM.list {M : Mem} (r : RM K H ρ M) {p : Addr} {ts : List Tr} {xs : List V} (hp : H p = none) (h : RTs K H ρ ts xs) : RM K (upd H p (.lst xs)) (ρ ++ [p]) (M ++ [.lst ts]) := by
  have g := Grow.list (o := .lst xs) r hp
  have lt := r.len
  refine ⟨by simp [lt], fun n o e => ?_, ?_⟩
  · by_cases hn : n < M.length
    · rw [List.getElem?_append_left hn] at e
      obtain ⟨a, h1, h2⟩ := r.at_ n o e
      refine ⟨a, by rw [List.getElem?_append_left (by rw [lt]; exact hn)]; exact h1, h2.mono g (upd_ne fun e => r.fresh hp (e ▸ List.mem_of_getElem? h1)) fun d q => by rw [upd_ne (ne_of_none q hp)]; exact q⟩
    · rw [List.getElem?_append_right (by omega)] at e
      match hz : n - M.length, e with
      | 0, e =>
        cases e
        exact ⟨p, by rw [List.getElem?_append_right (by omega), lt, hz]; rfl, xs, upd_same, RTs.mono g h⟩
      | k + 1, e => simp at e
  · rw [List.nodup_append]
    exact ⟨r.nd, by simp, fun a ha b hb => by rw [List.mem_singleton.mp hb]; exact fun e => r.fresh hp (e ▸ ha)⟩
theorem RM.ref {M : Mem} (r : RM K H ρ M) {p : Addr} : (ρ ++ [p])[M.length]? = some p := by rw [← r.len]; simp
/-- a list is written -/
theorem Grow.wr {M : Mem} (r : RM K H ρ M) {p : Addr} {xs ys : List V} (hp : H p = some (.lst xs)) (hm : p ∈ ρ) : Grow K H ρ (upd H p (.lst ys)) ρ :=
  ⟨⟨[], by simp⟩, fun _ _ h => sqt_upd h (.inr (.inl ⟨xs, hp⟩)), fun a u h n _ => by rw [upd_ne (show a ≠ p from fun e => n (by rw [e]; exact hm))]; exact h, fun _ h n => absurd h n, fun c q i h => cod_upd (.inr (.inl ⟨xs, hp⟩)) c q i h⟩
theorem nodup_ix {l : List Addr} (nd : l.Nodup) {i j : Nat} {a : Addr} (h1 : l[i]? = some a) (h2 : l[j]? = some a) : i = j := by
  obtain ⟨a1, b1⟩ := List.getElem?_eq_some_iff.mp h1
  obtain ⟨a2, b2⟩ := List.getElem?_eq_some_iff.mp h2
  have nd := List.pairwise_iff_getElem.mp nd
  rcases Nat.lt_trichotomy i j with h | h | h
  · exact absurd (b1.trans b2.symm) (nd i j a1 a2 h)
  · exact h
  · exact absurd (b2.trans b1.symm) (nd j i a2 a1 h)
theorem RM.wr {M : Mem} (r : RM K H ρ M) {p : Addr} {n : Nat} {xs ys : List V} {us : List Tr} (hp : H p = some (.lst xs)) (hn : ρ[n]? = some p) (h : RTs K H ρ us ys) : RM K (upd H p (.lst ys)) ρ (M.set n (.lst us)) := by
  have g := Grow.wr (ys := ys) r hp (List.mem_of_getElem? hn)
  refine ⟨by simp [r.len], fun m o e => ?_, r.nd⟩
  by_cases hm : n = m
  · subst hm
    have hl : n < M.length := by rw [← r.len]; exact (List.getElem?_eq_some_iff.mp hn).1
    rw [List.getElem?_set_self hl] at e
    cases e
    exact ⟨p, hn, ys, upd_same, RTs.mono g h⟩
  · rw [List.getElem?_set_ne hm] at e
    obtain ⟨a, h1, h2⟩ := r.at_ m o e
    exact ⟨a, h1, h2.mono g (upd_ne fun e => hm (nodup_ix r.nd hn (e ▸ h1))) fun d q => by rw [upd_ne (ne_of q hp (fun z => nomatch z))]; exact q⟩
/-- an object's field is written -/
theorem Grow.wi {M : Mem} (r : RM K H ρ M) {p C dx : Addr} {gs hs : List (Str × V)} (hp : H p = some (.ins C dx gs)) (hm : p ∈ ρ) : Grow K H ρ (upd H p (.ins C dx hs)) ρ :=
  ⟨⟨[], by simp⟩, fun _ _ h => sqt_upd h (.inr (.inr (.inl ⟨C, dx, gs, hp⟩))), fun a u h n _ => by rw [upd_ne (show a ≠ p from fun e => n (by rw [e]; exact hm))]; exact h, fun _ h n => absurd h n, fun c q i h => cod_upd (.inr (.inr (.inl ⟨C, dx, gs, hp⟩))) c q i h⟩
theorem RM.wi {M : Mem} (r : RM K H ρ M) {p C dx : Addr} {n : Nat} {gs hs : List (Str × V)} {us : List (Str × Tr)} (hp : H p = some (.ins C dx gs)) (hd : H dx = some (.own p)) (hn : ρ[n]? = some p) (h : RFs K H ρ us hs) : RM K (upd H p (.ins C dx hs)) ρ (M.set n (.ins C us)) := by
  have g := Grow.wi (hs := hs) r hp (List.mem_of_getElem? hn)
  refine ⟨by simp [r.len], fun m o e => ?_, r.nd⟩
  by_cases hm : n = m
  · subst hm
    have hl : n < M.length := by rw [← r.len]; exact (List.getElem?_eq_some_iff.mp hn).1
    rw [List.getElem?_set_self hl] at e
    cases e
    exact ⟨p, hn, dx, hs, upd_same, by rw [upd_ne (ne_of hd hp (fun z => nomatch z))]; exact hd, RFs.mono g h⟩
  · rw [List.getElem?_set_ne hm] at e
    obtain ⟨a, h1, h2⟩ := r.at_ m o e
    exact ⟨a, h1, h2.mono g (upd_ne fun e => hm (nodup_ix r.nd hn (e ▸ h1))) fun d q => by rw [upd_ne (ne_of q hp (fun z => nomatch z))]; exact q⟩
end
end Fm

set_option Elab.async false
set_option linter.all false
set_option maxRecDepth 100000
set_option maxHeartbeats 4000000
namespace Fm
open PySem PySem.Spec PyProof.Rows L2
abbrev PF := Tr → Mem → Prop
abbrev PFs := List Tr → Mem → Prop
abbrev PB := Bool → Mem → Prop
abbrev FE := Loc → Mem → PF → Prop
abbrev FA := Loc → Mem → PFs → Prop
abbrev FT := Loc → Mem → PB → Prop
abbrev F2 := Tr → Tr → Mem → PF → Prop
abbrev F1 := Tr → Mem → PF → Prop
abbrev FC := List Tr → Mem → PF → Prop
section
variable (K : PySem.W.Frag) (H : Hp) (ρ : List Addr)
/-- what is known behind: whatever stands for the tree's outcome is wanted -/
def Out (P : PF) (Q : VK) : Prop := ∀ v x H' ρ' M', Grow K H ρ H' ρ' → RM K H' ρ' M' → RT K H' ρ' v x → P v M' → Q x H'
def OutS (P : PFs) (Q : List V → Hp → Prop) : Prop := ∀ vs xs H' ρ' M', Grow K H ρ H' ρ' → RM K H' ρ' M' → RTs K H' ρ' vs xs → P vs M' → Q xs H'
def OutB (P : PB) (Q : Bool → Hp → Prop) : Prop := ∀ b H' ρ' M', Grow K H ρ H' ρ' → RM K H' ρ' M' → P b M' → Q b H'
def OutO (P : Option Int → Mem → Prop) (Q : Option Int → Hp → Prop) : Prop := ∀ b H' ρ' M', Grow K H ρ H' ρ' → RM K H' ρ' M' → P b M' → Q b H'
end
section
variable {K : PySem.W.Frag} {H H' : Hp} {ρ ρ' : List Addr}
theorem Out.step {P : PF} {Q : VK} (g : Grow K H ρ H' ρ') (o : Out K H ρ P Q) : Out K H' ρ' P Q := fun v x H2 ρ2 M2 g2 m r p => o v x H2 ρ2 M2 (g.trans g2) m r p
theorem OutS.step {P : PFs} {Q : List V → Hp → Prop} (g : Grow K H ρ H' ρ') (o : OutS K H ρ P Q) : OutS K H' ρ' P Q := fun v x H2 ρ2 M2 g2 m r p => o v x H2 ρ2 M2 (g.trans g2) m r p
theorem OutB.step {P : PB} {Q : Bool → Hp → Prop} (g : Grow K H ρ H' ρ') (o : OutB K H ρ P Q) : OutB K H' ρ' P Q := fun b H2 ρ2 M2 g2 m p => o b H2 ρ2 M2 (g.trans g2) m p
theorem OutO.step {P : Option Int → Mem → Prop} {Q : Option Int → Hp → Prop} (g : Grow K H ρ H' ρ') (o : OutO K H ρ P Q) : OutO K H' ρ' P Q := fun b H2 ρ2 M2 g2 m p => o b H2 ρ2 M2 (g.trans g2) m p
end
/-- where a def was entered: the heap, the numbers' addresses -/
abbrev Bs := Hp × List Addr
/-- the slots, and that all has grown since the entry -/
structure RX (K : PySem.W.Frag) (B : Bs) (H : Hp) (ρ : List Addr) (L : Loc) (σ : L2.St) : Prop where
  rl : RL K H ρ L σ
  gr : Grow K B.1 B.2 H ρ
theorem RX.mono {K : PySem.W.Frag} {B : Bs} {H H' : Hp} {ρ ρ' : List Addr} {L : Loc} {σ : L2.St} (x : RX K B H ρ L σ) (g : Grow K H ρ H' ρ') : RX K B H' ρ' L σ := ⟨x.rl.mono g, x.gr.trans g⟩
theorem RX.get {K : PySem.W.Frag} {B : Bs} {H : Hp} {ρ : List Addr} {L : Loc} {σ : L2.St} {i : Nat} {t : Tr} (x : RX K B H ρ L σ) (e : L[i]? = some (some t)) : ∃ v, σ[i]? = some (some v) ∧ RT K H ρ t v := x.rl.get e
structure SimE (K : PySem.W.Frag) (B : Bs) (te : TE) (fe : FE) : Prop where
  run : ∀ {σ H ρ L M P Q}, RX K B H ρ L σ → RM K H ρ M → fe L M P → Out K H ρ P Q → te σ H Q
structure SimA (K : PySem.W.Frag) (B : Bs) (ta : TA) (fa : FA) : Prop where
  run : ∀ {σ H ρ L M P Q}, RX K B H ρ L σ → RM K H ρ M → fa L M P → OutS K H ρ P Q → ta σ H Q
structure SimT (K : PySem.W.Frag) (B : Bs) (tt : TT) (ft : FT) : Prop where
  run : ∀ {σ H ρ L M P Q}, RX K B H ρ L σ → RM K H ρ M → ft L M P → OutB K H ρ P Q → tt σ H Q
structure SimO (K : PySem.W.Frag) (B : Bs) (tt : TO) (ft : Loc → Mem → (Option Int → Mem → Prop) → Prop) : Prop where
  run : ∀ {σ H ρ L M P Q}, RX K B H ρ L σ → RM K H ρ M → ft L M P → OutO K H ρ P Q → tt σ H Q
/-- by values -/
structure Sim2 (K : PySem.W.Frag) (r : R2) (fr : F2) : Prop where
  run : ∀ {H ρ M x y xv yv P Q}, RM K H ρ M → RT K H ρ x xv → RT K H ρ y yv → fr x y M P → Out K H ρ P Q → r xv yv H Q
structure Sim1 (K : PySem.W.Frag) (r : V → Hp → VK → Prop) (fr : F1) : Prop where
  run : ∀ {H ρ M x xv P Q}, RM K H ρ M → RT K H ρ x xv → fr x M P → Out K H ρ P Q → r xv H Q
structure SimC (K : PySem.W.Frag) (r : List V → Hp → VK → Prop) (fr : FC) : Prop where
  run : ∀ {H ρ M xs xvs P Q}, RM K H ρ M → RTs K H ρ xs xvs → fr xs M P → Out K H ρ P Q → r xvs H Q
structure SimM (K : PySem.W.Frag) (r : V → List V → Hp → VK → Prop) (fr : Tr → FC) : Prop where
  run : ∀ {H ρ M x xv xs xvs P Q}, RM K H ρ M → RT K H ρ x xv → RTs K H ρ xs xvs → fr x xs M P → Out K H ρ P Q → r xv xvs H Q
/-! ### expressions -/
def fVar (i : Nat) : FE := fun L M P => ∃ t, L[i]? = some (some t) ∧ P t M
def fC (t : Tr) : FE := fun _ M P => P t M
def fOp (fr : F2) (fa fb : FE) : FE := fun L M P => fa L M fun x M1 => fb L M1 fun y M2 => fr x y M2 P
def fUn (fr : F1) (fa : FE) : FE := fun L M P => fa L M fun x M1 => fr x M1 P
def fNil : FA := fun _ M P => P [] M
def fCons (fa : FE) (fr : FA) : FA := fun L M P => fa L M fun x M1 => fr L M1 fun xs M2 => P (x :: xs) M2
def fTup (fa : FA) : FE := fun L M P => fa L M fun xs M1 => xs.length ≤ sizeLine ∧ P (.tup xs) M1
def fLst (fa : FA) : FE := fun L M P => fa L M fun xs M1 => xs.length ≤ sizeLine ∧ P (.ref M1.length) (M1 ++ [.lst xs])
def fCB (fr : FC) (fa : FA) : FE := fun L M P => fa L M fun xs M1 => fr xs M1 P
def fIf (ft : FT) (fa fb : FE) : FE := fun L M P => ft L M fun c M1 => if c = true then fa L M1 P else fb L M1 P
def fTest (fe : FE) : FT := fun L M P => fe L M fun x M1 => ∃ k, x = .bl k ∧ P k M1
def fNot (ft : FT) : FT := fun L M P => ft L M fun c M1 => P (!c) M1
def fAnd (ft fu : FT) : FT := fun L M P => ft L M fun c M1 => if c = true then fu L M1 P else P false M1
def fOr (ft fu : FT) : FT := fun L M P => ft L M fun c M1 => if c = true then P true M1 else fu L M1 P
def fAndV (fa fb : FE) : FE := fun L M P => fa L M fun x M1 => ∃ c, x = .bl c ∧ if c = true then fb L M1 P else P (.bl false) M1
def fOrV (fa fb : FE) : FE := fun L M P => fa L M fun x M1 => ∃ c, x = .bl c ∧ if c = true then P (.bl true) M1 else fb L M1 P
def fNotV (fa : FE) : FE := fun L M P => fa L M fun x M1 => ∃ c, x = .bl c ∧ P (.bl (!c)) M1
def fChain (r r' : F2) (fa fb fc : FE) : FE := fun L M P => fa L M fun x M1 => fb L M1 fun y M2 => r x y M2 fun z M3 => ∃ k, z = .bl k ∧ (if k = true then fc L M3 fun w M4 => r' y w M4 P else P (.bl false) M3)
def fNoPart : Loc → Mem → (Option Int → Mem → Prop) → Prop := fun _ M P => P none M
def fPart (fe : FE) : Loc → Mem → (Option Int → Mem → Prop) → Prop := fun L M P => fe L M fun x M1 => ∃ i, x = .int i ∧ P (some i) M1
section
variable {K : PySem.W.Frag} {B : Bs} {te ta tb tc : TE} {fe fa fb fc : FE} {as : TA} {fs : FA} {t u : TT} {ft fu : FT} {r r' : R2} {fr fr' : F2}
theorem sim_var {i : Nat} : SimE K B (tVar i) (fVar i) := ⟨fun hl hm ⟨_, h, p⟩ o => let ⟨x, h1, h2⟩ := hl.get h; ⟨x, h1, o _ _ _ _ _ Grow.refl hm h2 p⟩⟩
theorem sim_raw {v : V} : SimE K B (tC v) (fC (.raw v)) := ⟨fun _ hm p o => o _ _ _ _ _ Grow.refl hm (by unfold RT; rfl) p⟩
theorem sim_int {i : Int} : SimE K B (tC (.int i)) (fC (.int i)) := ⟨fun _ hm p o => o _ _ _ _ _ Grow.refl hm (by unfold RT; rfl) p⟩
theorem sim_str {z : Str} : SimE K B (tC (.str z)) (fC (.str z)) := ⟨fun _ hm p o => o _ _ _ _ _ Grow.refl hm (by unfold RT; rfl) p⟩
theorem sim_bl {b : Bool} : SimE K B (tC (.bl b)) (fC (.bl b)) := ⟨fun _ hm p o => o _ _ _ _ _ Grow.refl hm (by unfold RT; rfl) p⟩
theorem sim_non : SimE K B (tC .non) (fC .non) := ⟨fun _ hm p o => o _ _ _ _ _ Grow.refl hm (by unfold RT; rfl) p⟩
theorem sim_op (s : Sim2 K r fr) (a : SimE K B ta fa) (b : SimE K B tb fb) : SimE K B (tOp r ta tb) (fOp fr fa fb) :=
  ⟨fun hl hm h o => a.run hl hm h fun x xv H1 ρ1 M1 g1 m1 rx h1 => b.run (hl.mono g1) m1 h1 fun y yv H2 ρ2 M2 g2 m2 ry h2 => s.run m2 (rx.mono g2) ry h2 (o.step (g1.trans g2))⟩
theorem sim_un {r : V → Hp → VK → Prop} {fr : F1} (s : Sim1 K r fr) (a : SimE K B ta fa) : SimE K B (tUn r ta) (fUn fr fa) :=
  ⟨fun hl hm h o => a.run hl hm h fun x xv H1 ρ1 M1 g1 m1 rx h1 => s.run m1 rx h1 (o.step g1)⟩
theorem sim_nil : SimA K B tNil fNil := ⟨fun _ hm p o => o _ _ _ _ _ Grow.refl hm RTs.nil p⟩
theorem sim_cons (a : SimE K B ta fa) (s : SimA K B as fs) : SimA K B (tCons ta as) (fCons fa fs) :=
  ⟨fun hl hm h o => a.run hl hm h fun x xv H1 ρ1 M1 g1 m1 rx h1 => s.run (hl.mono g1) m1 h1 fun y yv H2 ρ2 M2 g2 m2 ry h2 => o _ _ _ _ _ (g1.trans g2) m2 (RTs.cons (rx.mono g2) ry) h2⟩
theorem sim_tup (s : SimA K B as fs) : SimE K B (tTup as) (fTup fs) :=
  ⟨fun hl hm h o => s.run hl hm h fun ys yv H2 ρ2 M2 g2 m2 ry ⟨z, h2⟩ => ⟨by rw [ry.len]; exact z, fun p hp => o _ _ _ _ _ (g2.trans (Grow.laid hp)) (m2.laid hp) (by unfold RT; exact ⟨p, yv, rfl, .inl (.inl upd_same), ry.mono (Grow.laid hp)⟩) h2⟩⟩
theorem sim_lst (s : SimA K B as fs) : SimE K B (tLst as) (fLst fs) :=
  ⟨fun hl hm h o => s.run hl hm h fun ys yv H2 ρ2 M2 g2 m2 ry ⟨z, h2⟩ => ⟨by rw [ry.len]; exact z, fun p hp => o _ _ _ _ _ (g2.trans (Grow.list m2 hp)) (m2.list hp ry) (by unfold RT; exact ⟨p, m2.ref, rfl⟩) h2⟩⟩
theorem sim_CB {r : List V → Hp → VK → Prop} {fr : FC} (c : SimC K r fr) (s : SimA K B as fs) : SimE K B (tCB r as) (fCB fr fs) :=
  ⟨fun hl hm h o => s.run hl hm h fun ys yv H2 ρ2 M2 g2 m2 ry h2 => c.run m2 ry h2 (o.step g2)⟩
theorem sim_if (s : SimT K B t ft) (a : SimE K B ta fa) (b : SimE K B tb fb) : SimE K B (tIf t ta tb) (fIf ft fa fb) :=
  ⟨fun hl hm h o => s.run hl hm h fun c H1 ρ1 M1 g1 m1 h1 => by
    cases c with
    | true => rw [if_pos rfl] at h1 ⊢; exact a.run (hl.mono g1) m1 h1 (o.step g1)
    | false => rw [if_neg (by decide)] at h1 ⊢; exact b.run (hl.mono g1) m1 h1 (o.step g1)⟩
theorem RT.bl_inv {H : Hp} {ρ : List Addr} {k : Bool} {x : V} (h : RT K H ρ (.bl k) x) : x = .bl k := by unfold RT at h; exact h
theorem RT.int_inv {H : Hp} {ρ : List Addr} {k : Int} {x : V} (h : RT K H ρ (.int k) x) : x = .int k := by unfold RT at h; exact h
theorem RT.str_inv {H : Hp} {ρ : List Addr} {k : Str} {x : V} (h : RT K H ρ (.str k) x) : x = .str k := by unfold RT at h; exact h
theorem RT.non_inv {H : Hp} {ρ : List Addr} {x : V} (h : RT K H ρ .non x) : x = .non := by unfold RT at h; exact h
theorem RT.raw_inv {H : Hp} {ρ : List Addr} {w x : V} (h : RT K H ρ (.raw w) x) : x = w := by unfold RT at h; exact h
theorem RT.int_ {H : Hp} {ρ : List Addr} {k : Int} : RT K H ρ (.int k) (.int k) := by unfold RT; rfl
theorem RT.bl_ {H : Hp} {ρ : List Addr} {k : Bool} : RT K H ρ (.bl k) (.bl k) := by unfold RT; rfl
theorem RT.str_ {H : Hp} {ρ : List Addr} {k : Str} : RT K H ρ (.str k) (.str k) := by unfold RT; rfl
theorem RT.non_ {H : Hp} {ρ : List Addr} : RT K H ρ .non .non := by unfold RT; rfl
theorem RT.tup_inv {H : Hp} {ρ : List Addr} {ts : List Tr} {x : V} (h : RT K H ρ (.tup ts) x) : ∃ a xs, x = .ref a ∧ SqT K H a xs ∧ RTs K H ρ ts xs := by unfold RT at h; exact h
theorem RT.ref_inv {H : Hp} {ρ : List Addr} {n : Nat} {x : V} (h : RT K H ρ (.ref n) x) : ∃ a, ρ[n]? = some a ∧ x = .ref a := by unfold RT at h; exact h
theorem sim_test (a : SimE K B te fe) : SimT K B (tTest te) (fTest fe) := ⟨fun hl hm h o => a.run hl hm h fun x xv H1 ρ1 M1 g1 m1 rx ⟨k, e, h1⟩ => by subst e; exact ⟨k, rx.bl_inv, o _ _ _ _ g1 m1 h1⟩⟩
theorem sim_B (a : SimE K B te fe) : SimT K B (tB te) (fTest fe) := ⟨fun hl hm h o => a.run hl hm h fun x xv H1 ρ1 M1 g1 m1 rx ⟨k, e, h1⟩ => by subst e; exact ⟨k, rx.bl_inv, o _ _ _ _ g1 m1 h1⟩⟩
theorem sim_not (a : SimT K B t ft) : SimT K B (tNot t) (fNot ft) := ⟨fun hl hm h o => a.run hl hm h fun b H1 ρ1 M1 g1 m1 h1 => o _ _ _ _ g1 m1 h1⟩
theorem sim_and (a : SimT K B t ft) (b : SimT K B u fu) : SimT K B (tAnd t u) (fAnd ft fu) := ⟨fun hl hm h o => a.run hl hm h fun c H1 ρ1 M1 g1 m1 h1 => by
  cases c with
  | true => rw [if_pos rfl] at h1 ⊢; exact b.run (hl.mono g1) m1 h1 (o.step g1)
  | false => rw [if_neg (by decide)] at h1 ⊢; exact o _ _ _ _ g1 m1 h1⟩
theorem sim_or (a : SimT K B t ft) (b : SimT K B u fu) : SimT K B (tOr t u) (fOr ft fu) := ⟨fun hl hm h o => a.run hl hm h fun c H1 ρ1 M1 g1 m1 h1 => by
  cases c with
  | true => rw [if_pos rfl] at h1 ⊢; exact o _ _ _ _ g1 m1 h1
  | false => rw [if_neg (by decide)] at h1 ⊢; exact b.run (hl.mono g1) m1 h1 (o.step g1)⟩
theorem sim_andV (a : SimE K B ta fa) (b : SimE K B tb fb) : SimE K B (tAndV ta tb) (fAndV fa fb) := ⟨fun hl hm h o => a.run hl hm h fun x xv H1 ρ1 M1 g1 m1 rx ⟨c, e, h1⟩ => by
  subst e
  refine ⟨c, rx.bl_inv, ?_⟩
  cases c with
  | true => rw [if_pos rfl] at h1 ⊢; exact b.run (hl.mono g1) m1 h1 (o.step g1)
  | false => rw [if_neg (by decide)] at h1 ⊢; exact o _ _ _ _ _ g1 m1 RT.bl_ h1⟩
theorem sim_orV (a : SimE K B ta fa) (b : SimE K B tb fb) : SimE K B (tOrV ta tb) (fOrV fa fb) := ⟨fun hl hm h o => a.run hl hm h fun x xv H1 ρ1 M1 g1 m1 rx ⟨c, e, h1⟩ => by
  subst e
  refine ⟨c, rx.bl_inv, ?_⟩
  cases c with
  | true => rw [if_pos rfl] at h1 ⊢; exact o _ _ _ _ _ g1 m1 RT.bl_ h1
  | false => rw [if_neg (by decide)] at h1 ⊢; exact b.run (hl.mono g1) m1 h1 (o.step g1)⟩
theorem sim_notV (a : SimE K B ta fa) : SimE K B (tNotV ta) (fNotV fa) := ⟨fun hl hm h o => a.run hl hm h fun x xv H1 ρ1 M1 g1 m1 rx ⟨c, e, h1⟩ => by
  subst e
  exact ⟨c, rx.bl_inv, o _ _ _ _ _ g1 m1 RT.bl_ h1⟩⟩
theorem sim_chain (s : Sim2 K r fr) (s' : Sim2 K r' fr') (a : SimE K B ta fa) (b : SimE K B tb fb) (c : SimE K B tc fc) : SimE K B (tChain r r' ta tb tc) (fChain fr fr' fa fb fc) :=
  ⟨fun hl hm h o => a.run hl hm h fun x xv H1 ρ1 M1 g1 m1 rx h1 => b.run (hl.mono g1) m1 h1 fun y yv H2 ρ2 M2 g2 m2 ry h2 => s.run m2 (rx.mono g2) ry h2 fun z zv H3 ρ3 M3 g3 m3 rz ⟨k, e, h3⟩ => by
    subst e
    refine ⟨k, rz.bl_inv, ?_⟩
    have g := (g1.trans g2).trans g3
    cases k with
    | true => rw [if_pos rfl] at h3 ⊢; exact c.run (hl.mono g) m3 h3 fun w wv H4 ρ4 M4 g4 m4 rw_ h4 => s'.run m4 (ry.mono (g3.trans g4)) rw_ h4 (o.step (g.trans g4))
    | false => rw [if_neg (by decide)] at h3 ⊢; exact o _ _ _ _ _ g m3 RT.bl_ h3⟩
theorem sim_nopart : SimO K B tNoPart fNoPart := ⟨fun _ hm p o => o _ _ _ _ Grow.refl hm p⟩
theorem sim_part (a : SimE K B te fe) : SimO K B (tPart te) (fPart fe) := ⟨fun hl hm h o => a.run hl hm h fun x xv H1 ρ1 M1 g1 m1 rx ⟨i, e, h1⟩ => by subst e; exact ⟨i, rx.int_inv, o _ _ _ _ g1 m1 h1⟩⟩
end
/-! ### operators -/
def fI (C : Int → Int → Prop) (g : Int → Int → Tr) : F2 := fun x y M P => ∃ i j, x = .int i ∧ y = .int j ∧ C i j ∧ P (g i j) M
def fI0 (g : Int → Int → Tr) : F2 := fun x y M P => ∃ i j, x = .int i ∧ y = .int j ∧ P (g i j) M
def fU (g : Int → Tr) : F1 := fun x M P => ∃ i, x = .int i ∧ P (g i) M
/-- == of plain values -/
def eqS : Tr → Tr → Option Bool
  | .non, .non => some true | .non, .int _ => some false | .int _, .non => some false | .non, .bl _ => some false | .bl _, .non => some false | .non, .str _ => some false | .str _, .non => some false
  | .int i, .int j => some (decide (i = j)) | .bl a, .bl b => some (decide (a = b)) | .str a, .str b => some (decide (a = b))
  | .int _, .str _ => some false | .str _, .int _ => some false | .bl _, .str _ => some false | .str _, .bl _ => some false
  | _, _ => none
def fEq : F2 := fun x y M P => ∃ b, eqS x y = some b ∧ P (.bl b) M
def fNe : F2 := fun x y M P => ∃ b, eqS x y = some b ∧ P (.bl (!b)) M
def isN : Tr → Bool
  | .non => true
  | _ => false
def noRaw : Tr → Bool
  | .raw _ => false
  | _ => true
def fIsN : F2 := fun x y M P => y = .non ∧ noRaw x = true ∧ P (.bl (isN x)) M
def fNotN : F2 := fun x y M P => y = .non ∧ noRaw x = true ∧ P (.bl (!isN x)) M
/-- the list at a number, the tuple -/
def lstAt (M : Mem) : Tr → Option (List Tr)
  | .ref n => match M[n]? with
    | some (.lst ts) => some ts
    | _ => none
  | _ => none
def seqAt (M : Mem) : Tr → Option (List Tr)
  | .tup ts => some ts
  | t => lstAt M t
def tupOf : Tr → Option (List Tr)
  | .tup ts => some ts
  | _ => none
def fIxL : F2 := fun x y M P => ∃ ts i v, lstAt M x = some ts ∧ y = .int i ∧ atI ts i = some v ∧ P v M
def fIxT : F2 := fun x y M P => ∃ ts i v, tupOf x = some ts ∧ y = .int i ∧ atI ts i = some v ∧ P v M
def fIxS : F2 := fun x y M P => ∃ z i c, x = .str z ∧ y = .int i ∧ z.length ≤ sizeLine ∧ atI z.cps.toList i = some c ∧ P (.str ⟨#[c]⟩) M
section
variable {K : PySem.W.Frag} {B : Bs} {H : Hp} {ρ : List Addr} {M : Mem}
theorem s_Ii {C : Int → Int → Prop} {g : Int → Int → Int} : Sim2 K (rI C fun i j => .int (g i j)) (fI C fun i j => .int (g i j)) :=
  ⟨fun hm rx ry ⟨i, j, e1, e2, c, p⟩ o => by subst e1; subst e2; exact ⟨i, j, rx.int_inv, ry.int_inv, c, o _ _ _ _ _ Grow.refl hm RT.int_ p⟩⟩
theorem s_I0i {g : Int → Int → Int} : Sim2 K (rI0 fun i j => .int (g i j)) (fI0 fun i j => .int (g i j)) :=
  ⟨fun hm rx ry ⟨i, j, e1, e2, p⟩ o => by subst e1; subst e2; exact ⟨i, j, rx.int_inv, ry.int_inv, o _ _ _ _ _ Grow.refl hm RT.int_ p⟩⟩
theorem s_I0b {g : Int → Int → Bool} : Sim2 K (rI0 fun i j => .bl (g i j)) (fI0 fun i j => .bl (g i j)) :=
  ⟨fun hm rx ry ⟨i, j, e1, e2, p⟩ o => by subst e1; subst e2; exact ⟨i, j, rx.int_inv, ry.int_inv, o _ _ _ _ _ Grow.refl hm RT.bl_ p⟩⟩
theorem s_Ui {g : Int → Int} : Sim1 K (rU fun i => .int (g i)) (fU fun i => .int (g i)) :=
  ⟨fun hm rx ⟨i, e1, p⟩ o => by subst e1; exact ⟨i, rx.int_inv, o _ _ _ _ _ Grow.refl hm RT.int_ p⟩⟩
theorem eqS_ok {x y : Tr} {xv yv : V} {b : Bool} (rx : RT K H ρ x xv) (ry : RT K H ρ y yv) (e : eqS x y = some b) : scal xv yv = true ∧ decide (xv = yv) = b := by
  unfold eqS at e
  split at e <;> (try (cases e; done)) <;> unfold RT at rx ry <;> subst rx <;> subst ry <;> (have e := Option.some.inj e; subst e; refine ⟨rfl, ?_⟩) <;> first
    | decide
    | exact decide_eq_false (fun z => nomatch z)
    | (rw [decide_eq_decide]; exact ⟨fun z => by injection z, fun z => by rw [z]⟩)
theorem s_eq : Sim2 K rEq fEq := ⟨fun hm rx ry ⟨b, e, p⟩ o => by
  obtain ⟨h1, h2⟩ := eqS_ok rx ry e
  exact ⟨h1, by rw [h2]; exact o _ _ _ _ _ Grow.refl hm RT.bl_ p⟩⟩
theorem s_ne : Sim2 K rNe fNe := ⟨fun hm rx ry ⟨b, e, p⟩ o => by
  obtain ⟨h1, h2⟩ := eqS_ok rx ry e
  exact ⟨h1, by rw [h2]; exact o _ _ _ _ _ Grow.refl hm RT.bl_ p⟩⟩
theorem isN_ok {x : Tr} {xv : V} (rx : RT K H ρ x xv) (n : noRaw x = true) : decide (xv = .non) = isN x := by
  cases x with
  | non => unfold RT at rx; rw [rx]; rfl
  | bl b => unfold RT at rx; rw [rx]; exact decide_eq_false (fun z => nomatch z)
  | int b => unfold RT at rx; rw [rx]; exact decide_eq_false (fun z => nomatch z)
  | str b => unfold RT at rx; rw [rx]; exact decide_eq_false (fun z => nomatch z)
  | tup ts => obtain ⟨a, xs, e, _⟩ := rx.tup_inv; rw [e]; exact decide_eq_false (fun z => nomatch z)
  | ref k => obtain ⟨a, _, e⟩ := rx.ref_inv; rw [e]; exact decide_eq_false (fun z => nomatch z)
  | raw v => cases n
theorem s_isN : Sim2 K (fun x y H Q => y = V.non ∧ Q (V.bl (decide (x = V.non))) H) fIsN := ⟨fun hm rx ry ⟨e, n, p⟩ o => by
  subst e
  exact ⟨ry.non_inv, by rw [isN_ok rx n]; exact o _ _ _ _ _ Grow.refl hm RT.bl_ p⟩⟩
theorem s_notN : Sim2 K (fun x y H Q => y = V.non ∧ Q (V.bl (!decide (x = V.non))) H) fNotN := ⟨fun hm rx ry ⟨e, n, p⟩ o => by
  subst e
  exact ⟨ry.non_inv, by rw [isN_ok rx n]; exact o _ _ _ _ _ Grow.refl hm RT.bl_ p⟩⟩
theorem lstAt_ok {x : Tr} {xv : V} {ts : List Tr} (hm : RM K H ρ M) (rx : RT K H ρ x xv) (e : lstAt M x = some ts) : ∃ n a xs, x = .ref n ∧ ρ[n]? = some a ∧ M[n]? = some (.lst ts) ∧ xv = .ref a ∧ H a = some (.lst xs) ∧ RTs K H ρ ts xs := by
  cases x with
  | ref n =>
    simp only [lstAt] at e
    split at e
    · rename_i us hu
      cases e
      obtain ⟨a, h1, xs, h2, h3⟩ := hm.at_ n _ hu
      obtain ⟨b, h4, h5⟩ := rx.ref_inv
      rw [h1] at h4
      cases h4
      exact ⟨n, a, xs, rfl, h1, hu, h5, h2, h3⟩
    · cases e
  | _ => cases e
theorem tupOf_ok {x : Tr} {xv : V} {ts : List Tr} (rx : RT K H ρ x xv) (e : tupOf x = some ts) : ∃ a xs, xv = .ref a ∧ SqT K H a xs ∧ RTs K H ρ ts xs := by
  cases x with
  | tup us => cases e; exact rx.tup_inv
  | _ => cases e
theorem seqAt_ok {x : Tr} {xv : V} {ts : List Tr} (hm : RM K H ρ M) (rx : RT K H ρ x xv) (e : seqAt M x = some ts) : ∃ a xs, xv = .ref a ∧ (SqL K H a xs ∨ SqT K H a xs) ∧ RTs K H ρ ts xs := by
  cases x with
  | tup us =>
    have e : some us = some ts := e
    cases e
    obtain ⟨a, xs, h1, h2, h3⟩ := rx.tup_inv
    exact ⟨a, xs, h1, .inr h2, h3⟩
  | _ =>
    obtain ⟨n, a, xs, _, _, _, h1, h2, h3⟩ := lstAt_ok (ts := ts) hm rx e
    exact ⟨a, xs, h1, .inl (.inl (.inl h2)), h3⟩
theorem RTs.atI {ts : List Tr} {xs : List V} {i : Int} {t : Tr} (r : RTs K H ρ ts xs) (e : L2.atI ts i = some t) : ∃ x, L2.atI xs i = some x ∧ RT K H ρ t x := by
  unfold L2.atI at e ⊢
  rw [r.len]
  cases h : ixN ts.length i with
  | none => rw [h] at e; cases e
  | some j =>
    rw [h] at e
    exact r.get e
theorem s_ixL : Sim2 K (rIxL K) fIxL := ⟨fun hm rx ry ⟨ts, i, v, e1, e2, e3, p⟩ o => by
  subst e2
  obtain ⟨n, a, xs, _, _, _, h1, h2, h3⟩ := lstAt_ok hm rx e1
  obtain ⟨x, h4, h5⟩ := h3.atI e3
  exact ⟨a, xs, i, x, h1, ry.int_inv, .inl (.inl h2), h4, o _ _ _ _ _ Grow.refl hm h5 p⟩⟩
theorem s_ixT : Sim2 K (rIxT K) fIxT := ⟨fun hm rx ry ⟨ts, i, v, e1, e2, e3, p⟩ o => by
  subst e2
  obtain ⟨a, xs, h1, h2, h3⟩ := tupOf_ok rx e1
  obtain ⟨x, h4, h5⟩ := h3.atI e3
  exact ⟨a, xs, i, x, h1, ry.int_inv, h2, h4, o _ _ _ _ _ Grow.refl hm h5 p⟩⟩
theorem s_ixS : Sim2 K rIxS fIxS := ⟨fun hm rx ry ⟨z, i, c, e1, e2, e3, e4, p⟩ o => by
  subst e1; subst e2
  exact ⟨z, i, c, rx.str_inv, ry.int_inv, e3, e4, o _ _ _ _ _ Grow.refl hm RT.str_ p⟩⟩
end
end Fm

set_option Elab.async false
set_option linter.all false
set_option maxRecDepth 100000
set_option maxHeartbeats 4000000
namespace Fm
open PySem PySem.Spec PyProof.Rows L2
/-! ### sequences -/
def cutT (xs : List Tr) (lo hi : Option Int) : List Tr := (xs.drop (HT.sIx xs.length 0 lo)).take (HT.sIx xs.length xs.length hi - HT.sIx xs.length 0 lo)
abbrev FSl := Tr → Option Int → Option Int → Mem → PF → Prop
def fCat : F2 := fun x y M P => ∃ xs ys, lstAt M x = some xs ∧ lstAt M y = some ys ∧ xs.length + ys.length ≤ sizeLine ∧ P (.ref M.length) (M ++ [.lst (xs ++ ys)])
def fCatA : F2 := fun x y M P => ∃ xs ys, tupOf x = some xs ∧ tupOf y = some ys ∧ xs.length + ys.length ≤ sizeLine ∧ P (.tup (xs ++ ys)) M
def fRep : F2 := fun x y M P => ∃ xs k, lstAt M x = some xs ∧ y = .int k ∧ -(2 ^ 63) ≤ k ∧ k < 2 ^ 63 ∧ xs.length * k.toNat ≤ sizeLine ∧ P (.ref M.length) (M ++ [.lst (List.replicate k.toNat xs).flatten])
def fRepT : F2 := fun x y M P => ∃ xs k, tupOf x = some xs ∧ y = .int k ∧ xs ≠ [] ∧ 2 ≤ k ∧ k ≤ 1000 ∧ xs.length ≤ 1000 ∧ P (.tup (List.replicate k.toNat xs).flatten) M
def fSlL : FSl := fun x lo hi M P => ∃ xs, lstAt M x = some xs ∧ P (.ref M.length) (M ++ [.lst (cutT xs lo hi)])
def fSlA : FSl := fun x lo hi M P => ∃ xs, tupOf x = some xs ∧ P (.tup (cutT xs lo hi)) M
def fSlS : FSl := fun x lo hi M P => ∃ z, x = .str z ∧ z.length ≤ sizeLine ∧ P (.str (cutS z lo hi)) M
def fSl (r : FSl) (fe : FE) (fl fh : Loc → Mem → (Option Int → Mem → Prop) → Prop) : FE := fun L M P => fe L M fun x M1 => fl L M1 fun lo M2 => fh L M2 fun hi M3 => r x lo hi M3 P
structure SimSl (K : PySem.W.Frag) (r : V → Option Int → Option Int → Hp → VK → Prop) (fr : FSl) : Prop where
  run : ∀ {H ρ M x xv lo hi P Q}, RM K H ρ M → RT K H ρ x xv → fr x lo hi M P → Out K H ρ P Q → r xv lo hi H Q
def fLen : FC := fun xs M P => ∃ x ts, xs = [x] ∧ seqAt M x = some ts ∧ P (.int ts.length) M
def fLenS : FC := fun xs M P => ∃ z, xs = [.str z] ∧ z.length ≤ sizeLine ∧ P (.int z.length) M
def fList : FC := fun xs M P => ∃ x ts, xs = [x] ∧ seqAt M x = some ts ∧ P (.ref M.length) (M ++ [.lst ts])
def fTuple : FC := fun xs M P => ∃ x ts, xs = [x] ∧ seqAt M x = some ts ∧ P (.tup ts) M
def fInt1 : FC := fun xs M P => (∃ i, xs = [.int i] ∧ P (.int i) M) ∨ ∃ k, xs = [.bl k] ∧ P (.int (if k then 1 else 0)) M
def fIntS : FC := fun xs M P => ∃ a n, xs = [.str a] ∧ PySem.intText? a = some n ∧ a.length ≤ 640 ∧ P (.int n) M
def fStrI : FC := fun xs M P => ∃ i : Int, xs = [.int i] ∧ i.natAbs.log2 < 1920 ∧ P (.str (toString i)) M
def fMax2 : FC := fun xs M P => ∃ i j, xs = [.int i, .int j] ∧ P (.int (if j > i then j else i)) M
def fMin2 : FC := fun xs M P => ∃ i j, xs = [.int i, .int j] ∧ P (.int (if j < i then j else i)) M
def refAt (M : Mem) : Tr → Option (Nat × List Tr)
  | .ref n => match M[n]? with
    | some (.lst ts) => some (n, ts)
    | _ => none
  | _ => none
def fAppend : Tr → FC := fun x xs M P => ∃ n ts y, refAt M x = some (n, ts) ∧ xs = [y] ∧ ts.length < sizeLine ∧ P .non (M.set n (.lst (ts ++ [y])))
def fExtend : Tr → FC := fun x xs M P => ∃ n ts y us, refAt M x = some (n, ts) ∧ xs = [y] ∧ lstAt M y = some us ∧ ts.length + us.length ≤ sizeLine ∧ P .non (M.set n (.lst (ts ++ us)))
def flatT : Tr → Bool
  | .non => true | .bl _ => true | .int _ => true | .str _ => true
  | _ => false
def eqvT : Tr → Tr → Bool
  | .non, .non => true
  | .bl a, .bl b => a == b
  | .bl a, .int b => (if a then 1 else 0) == b
  | .int a, .bl b => a == (if b then 1 else 0)
  | .int a, .int b => a == b
  | .str a, .str b => a == b
  | _, _ => false
def fIn (neg : Bool) : F2 := fun x y M P => ∃ ts, seqAt M y = some ts ∧ flatT x = true ∧ ts.all flatT = true ∧ P (.bl (if neg then !(ts.any fun y => eqvT y x) else ts.any fun y => eqvT y x)) M
section
variable {K : PySem.W.Frag} {B : Bs} {H : Hp} {ρ : List Addr} {M : Mem} {te : TE} {fe : FE} {tl th : TO} {fl fh : Loc → Mem → (Option Int → Mem → Prop) → Prop}
theorem refAt_ok {x : Tr} {xv : V} {n : Nat} {ts : List Tr} (hm : RM K H ρ M) (rx : RT K H ρ x xv) (e : refAt M x = some (n, ts)) : ∃ a xs, x = .ref n ∧ ρ[n]? = some a ∧ M[n]? = some (.lst ts) ∧ xv = .ref a ∧ H a = some (.lst xs) ∧ RTs K H ρ ts xs := by
  cases x with
  | ref m =>
    simp only [refAt] at e
    split at e
    · rename_i us hu
      cases e
      obtain ⟨a, h1, xs, h2, h3⟩ := hm.at_ n _ hu
      obtain ⟨b, h4, h5⟩ := rx.ref_inv
      rw [h1] at h4
      cases h4
      exact ⟨a, xs, rfl, h1, hu, h5, h2, h3⟩
    · cases e
  | _ => cases e
theorem RTs.one {t : Tr} {xs : List V} (h : RTs K H ρ [t] xs) : ∃ x, xs = [x] ∧ RT K H ρ t x := by
  unfold RTs at h
  obtain ⟨x, ys, rfl, h1, h2⟩ := h
  unfold RTs at h2
  subst h2
  exact ⟨x, rfl, h1⟩
theorem RTs.two {t u : Tr} {xs : List V} (h : RTs K H ρ [t, u] xs) : ∃ x y, xs = [x, y] ∧ RT K H ρ t x ∧ RT K H ρ u y := by
  unfold RTs at h
  obtain ⟨x, ys, rfl, h1, h2⟩ := h
  obtain ⟨y, rfl, h3⟩ := h2.one
  exact ⟨x, y, rfl, h1, h3⟩
theorem RTs.rep {ts : List Tr} {xs : List V} (h : RTs K H ρ ts xs) : ∀ n : Nat, RTs K H ρ (List.replicate n ts).flatten (List.replicate n xs).flatten
  | 0 => RTs.nil
  | n + 1 => by rw [List.replicate_succ, List.replicate_succ, List.flatten_cons, List.flatten_cons]; exact h.app (RTs.rep h n)
theorem RTs.cut {ts : List Tr} {xs : List V} (h : RTs K H ρ ts xs) (lo hi : Option Int) : RTs K H ρ (cutT ts lo hi) (cutV xs lo hi) := by
  unfold cutT cutV
  rw [h.len]
  exact (h.drop _).take _
theorem out_list {P : PF} {Q : VK} {ts : List Tr} {xs : List V} (hm : RM K H ρ M) (h : RTs K H ρ ts xs) (o : Out K H ρ P Q) (p : P (.ref M.length) (M ++ [.lst ts])) : ∀ l, H l = none → Q (.ref l) (upd H l (.lst xs)) :=
  fun l hl => o _ _ _ _ _ (Grow.list hm hl) (hm.list hl h) (by unfold RT; exact ⟨l, hm.ref, rfl⟩) p
theorem out_tup {P : PF} {Q : VK} {ts : List Tr} {xs : List V} (hm : RM K H ρ M) (h : RTs K H ρ ts xs) (o : Out K H ρ P Q) (p : P (.tup ts) M) : ∀ l, H l = none → Q (.ref l) (upd H l (.tup xs)) :=
  fun l hl => o _ _ _ _ _ (Grow.laid hl) (hm.laid hl) (by unfold RT; exact ⟨l, xs, rfl, .inl (.inl upd_same), h.mono (Grow.laid hl)⟩) p
theorem out_old {P : PF} {Q : VK} {ts : List Tr} {xs : List V} {a : Addr} (hm : RM K H ρ M) (h : RTs K H ρ ts xs) (ha : SqT K H a xs) (o : Out K H ρ P Q) (p : P (.tup ts) M) : Q (.ref a) H :=
  o _ _ _ _ _ Grow.refl hm (by unfold RT; exact ⟨a, xs, rfl, ha, h⟩) p
theorem s_cat : Sim2 K rCat fCat := ⟨fun hm rx ry ⟨xs, ys, e1, e2, z, p⟩ o => by
  obtain ⟨n, a, us, _, _, _, h1, h2, h3⟩ := lstAt_ok hm rx e1
  obtain ⟨m, b, ws, _, _, _, k1, k2, k3⟩ := lstAt_ok hm ry e2
  exact ⟨a, b, us, ws, h1, k1, h2, k2, by rw [h3.len, k3.len]; exact z, out_list hm (h3.app k3) o p⟩⟩
theorem s_rep : Sim2 K rRep fRep := ⟨fun hm rx ry ⟨xs, k, e1, e2, k0, k1, z, p⟩ o => by
  subst e2
  obtain ⟨n, a, us, _, _, _, h1, h2, h3⟩ := lstAt_ok hm rx e1
  exact ⟨a, k, us, h1, ry.int_inv, h2, k0, k1, by rw [h3.len]; exact z, out_list hm (h3.rep _) o p⟩⟩
theorem s_catA : Sim2 K (rCatA K) fCatA := ⟨fun hm rx ry ⟨xs, ys, e1, e2, z, p⟩ o => by
  obtain ⟨a, us, h1, h2, h3⟩ := tupOf_ok rx e1
  obtain ⟨b, ws, k1, k2, k3⟩ := tupOf_ok ry e2
  refine ⟨a, b, us, ws, h1, k1, h2, k2, by rw [h3.len, k3.len]; exact z, fun e => ?_, fun _ e => ?_, fun _ _ l hl => out_tup hm (h3.app k3) o p l hl⟩
  · exact out_old hm (h3.app k3) (by rw [e]; exact k2) o p
  · exact out_old hm (h3.app k3) (by rw [e, List.append_nil]; exact h2) o p⟩
theorem s_repT : Sim2 K (rRepT K) fRepT := ⟨fun hm rx ry ⟨xs, k, e1, e2, n0, k0, k1, z, p⟩ o => by
  subst e2
  obtain ⟨a, us, h1, h2, h3⟩ := tupOf_ok rx e1
  have n1 : us ≠ [] := fun e => n0 (List.length_eq_zero_iff.mp (by rw [← h3.len, e]; rfl))
  exact ⟨a, k, us, h1, ry.int_inv, h2, n1, k0, k1, by rw [h3.len]; exact z, out_tup hm (h3.rep _) o p⟩⟩
theorem s_slL : SimSl K (rSlL K) fSlL := ⟨fun hm rx ⟨xs, e1, p⟩ o => by
  obtain ⟨n, a, us, _, _, _, h1, h2, h3⟩ := lstAt_ok hm rx e1
  exact ⟨a, us, h1, .inl (.inl h2), out_list hm (h3.cut _ _) o p⟩⟩
theorem s_slA : SimSl K (rSlA K) fSlA := ⟨fun hm rx ⟨xs, e1, p⟩ o => by
  obtain ⟨a, us, h1, h2, h3⟩ := tupOf_ok rx e1
  refine ⟨a, us, h1, h2, fun h => ?_, fun _ l hl => out_tup hm (h3.cut _ _) o p l hl⟩
  refine out_old hm (h3.cut _ _) ?_ o p
  unfold cutV
  rw [h.1, h.2, List.drop_zero, Nat.sub_zero, List.take_length]
  exact h2⟩
theorem s_slS : SimSl K rSlS fSlS := ⟨fun hm rx ⟨z, e1, hz, p⟩ o => by
  subst e1
  exact ⟨z, rx.str_inv, hz, o _ _ _ _ _ Grow.refl hm RT.str_ p⟩⟩
theorem sim_sl {r : V → Option Int → Option Int → Hp → VK → Prop} {fr : FSl} (s : SimSl K r fr) (a : SimE K B te fe) (b : SimO K B tl fl) (c : SimO K B th fh) : SimE K B (tSl r te tl th) (fSl fr fe fl fh) :=
  ⟨fun hl hm h o => a.run hl hm h fun x xv H1 ρ1 M1 g1 m1 rx h1 => b.run (hl.mono g1) m1 h1 fun lo H2 ρ2 M2 g2 m2 h2 => c.run (hl.mono (g1.trans g2)) m2 h2 fun hi H3 ρ3 M3 g3 m3 h3 => s.run m3 (rx.mono (g2.trans g3)) h3 (o.step ((g1.trans g2).trans g3))⟩
theorem c_len : SimC K (fun xs H Q => ∃ p ys, xs = [V.ref p] ∧ (SqL K H p ys ∨ SqT K H p ys) ∧ Q (V.int ys.length) H) fLen := ⟨fun hm rx ⟨x, ts, e1, e2, p⟩ o => by
  subst e1
  obtain ⟨xv, rfl, r⟩ := rx.one
  obtain ⟨a, us, rfl, h2, h3⟩ := seqAt_ok hm r e2
  exact ⟨a, us, rfl, h2, by rw [h3.len]; exact o _ _ _ _ _ Grow.refl hm RT.int_ p⟩⟩
theorem c_lenS : SimC K (fun xs H Q => ∃ z : Str, xs = [V.str z] ∧ z.length ≤ sizeLine ∧ Q (V.int z.length) H) fLenS := ⟨fun hm rx ⟨z, e1, e2, p⟩ o => by
  subst e1
  obtain ⟨xv, rfl, r⟩ := rx.one
  exact ⟨z, by rw [r.str_inv], e2, o _ _ _ _ _ Grow.refl hm RT.int_ p⟩⟩
theorem c_list : SimC K (fun xs H Q => ∃ p ys, xs = [V.ref p] ∧ (SqL K H p ys ∨ SqT K H p ys) ∧ ∀ l, H l = none → Q (V.ref l) (upd H l (.lst ys))) fList := ⟨fun hm rx ⟨x, ts, e1, e2, p⟩ o => by
  subst e1
  obtain ⟨xv, rfl, r⟩ := rx.one
  obtain ⟨a, us, rfl, h2, h3⟩ := seqAt_ok hm r e2
  exact ⟨a, us, rfl, h2, out_list hm h3 o p⟩⟩
theorem c_tuple : SimC K (fun xs H Q => ∃ p ys, xs = [V.ref p] ∧ ((SqL K H p ys ∧ ∀ l, H l = none → Q (V.ref l) (upd H l (.tup ys))) ∨ (SqT K H p ys ∧ Q (V.ref p) H))) fTuple := ⟨fun hm rx ⟨x, ts, e1, e2, p⟩ o => by
  subst e1
  obtain ⟨xv, rfl, r⟩ := rx.one
  obtain ⟨a, us, rfl, h2, h3⟩ := seqAt_ok hm r e2
  rcases h2 with h2 | h2
  · exact ⟨a, us, rfl, .inl ⟨h2, out_tup hm h3 o p⟩⟩
  · exact ⟨a, us, rfl, .inr ⟨h2, out_old hm h3 h2 o p⟩⟩⟩
theorem c_int1 : SimC K (fun xs H Q => (∃ i, xs = [V.int i] ∧ Q (V.int i) H) ∨ ∃ k : Bool, xs = [V.bl k] ∧ Q (V.int (if k then 1 else 0)) H) fInt1 := ⟨fun hm rx h o => by
  rcases h with ⟨i, rfl, p⟩ | ⟨i, rfl, p⟩
  · obtain ⟨xv, rfl, r⟩ := rx.one
    exact .inl ⟨i, by rw [r.int_inv], o _ _ _ _ _ Grow.refl hm RT.int_ p⟩
  · obtain ⟨xv, rfl, r⟩ := rx.one
    exact .inr ⟨i, by rw [r.bl_inv], o _ _ _ _ _ Grow.refl hm RT.int_ p⟩⟩
theorem c_intS : SimC K (fun xs H Q => ∃ (a : Str) (n : Int), xs = [V.str a] ∧ PySem.intText? a = some n ∧ a.length ≤ 640 ∧ Q (V.int n) H) fIntS := ⟨fun hm rx ⟨a, n, e1, e2, z, p⟩ o => by
  subst e1
  obtain ⟨xv, rfl, r⟩ := rx.one
  exact ⟨a, n, by rw [r.str_inv], e2, z, o _ _ _ _ _ Grow.refl hm RT.int_ p⟩⟩
theorem c_strI : SimC K (fun xs H Q => ∃ i : Int, xs = [V.int i] ∧ i.natAbs.log2 < 1920 ∧ Q (V.str (toString i)) H) fStrI := ⟨fun hm rx ⟨i, e1, z, p⟩ o => by
  subst e1
  obtain ⟨xv, rfl, r⟩ := rx.one
  exact ⟨i, by rw [r.int_inv], z, o _ _ _ _ _ Grow.refl hm RT.str_ p⟩⟩
theorem c_max2 : SimC K (fun xs H Q => ∃ i j, xs = [V.int i, V.int j] ∧ Q (V.int (if j > i then j else i)) H) fMax2 := ⟨fun hm rx ⟨i, j, e1, p⟩ o => by
  subst e1
  obtain ⟨x, y, rfl, r1, r2⟩ := rx.two
  exact ⟨i, j, by rw [r1.int_inv, r2.int_inv], o _ _ _ _ _ Grow.refl hm RT.int_ p⟩⟩
theorem c_min2 : SimC K (fun xs H Q => ∃ i j, xs = [V.int i, V.int j] ∧ Q (V.int (if j < i then j else i)) H) fMin2 := ⟨fun hm rx ⟨i, j, e1, p⟩ o => by
  subst e1
  obtain ⟨x, y, rfl, r1, r2⟩ := rx.two
  exact ⟨i, j, by rw [r1.int_inv, r2.int_inv], o _ _ _ _ _ Grow.refl hm RT.int_ p⟩⟩
theorem m_append : SimM K rAppend fAppend := ⟨fun hm rx ry ⟨n, ts, y, e1, e2, z, p⟩ o => by
  subst e2
  obtain ⟨a, us, rfl, h1, h2, rfl, h3, h4⟩ := refAt_ok hm rx e1
  obtain ⟨yv, rfl, r⟩ := ry.one
  exact ⟨a, us, yv, rfl, rfl, h3, by rw [h4.len]; exact z, o _ _ _ _ _ (Grow.wr hm h3 (List.mem_of_getElem? h1)) (hm.wr h3 h1 (h4.app (RTs.cons r RTs.nil))) RT.non_ p⟩⟩
theorem m_extend : SimM K rExtend fExtend := ⟨fun hm rx ry ⟨n, ts, y, ws, e1, e2, e3, z, p⟩ o => by
  subst e2
  obtain ⟨a, us, rfl, h1, h2, rfl, h3, h4⟩ := refAt_ok hm rx e1
  obtain ⟨yv, rfl, r⟩ := ry.one
  obtain ⟨m, b, vs, _, _, _, rfl, k2, k3⟩ := lstAt_ok hm r e3
  exact ⟨a, b, us, vs, rfl, rfl, h3, k2, by rw [h4.len, k3.len]; exact z, o _ _ _ _ _ (Grow.wr hm h3 (List.mem_of_getElem? h1)) (hm.wr h3 h1 (h4.app k3)) RT.non_ p⟩⟩
theorem flat_ok {t : Tr} {v : V} (r : RT K H ρ t v) (f : flatT t = true) : flatV v = true := by
  cases t <;> first | (cases f; done) | (unfold RT at r; rw [r]; rfl)
theorem flats_ok : ∀ {ts : List Tr} {vs : List V}, RTs K H ρ ts vs → ts.all flatT = true → vs.all flatV = true
  | [], _, r, _ => by unfold RTs at r; rw [r]; rfl
  | t :: ts, _, r, f => by
    unfold RTs at r
    obtain ⟨x, ys, rfl, h1, h2⟩ := r
    rw [List.all_cons, Bool.and_eq_true] at f ⊢
    exact ⟨flat_ok h1 f.1, flats_ok h2 f.2⟩
theorem eqvT_ok {t u : Tr} {v w : V} (r : RT K H ρ t v) (s : RT K H ρ u w) (f : flatT t = true) (g : flatT u = true) : eqV v w = eqvT t u := by
  cases t <;> (try (cases f; done)) <;> cases u <;> (try (cases g; done)) <;> (unfold RT at r s; rw [r, s]; rfl)
theorem any_ok {u : Tr} {w : V} (s : RT K H ρ u w) (g : flatT u = true) : ∀ {ts : List Tr} {vs : List V}, RTs K H ρ ts vs → ts.all flatT = true → inV w vs = ts.any fun y => eqvT y u
  | [], _, r, _ => by unfold RTs at r; rw [r]; rfl
  | t :: ts, _, r, f => by
    unfold RTs at r
    obtain ⟨x, ys, rfl, h1, h2⟩ := r
    rw [List.all_cons, Bool.and_eq_true] at f
    have ih := any_ok s g h2 f.2
    unfold inV at ih ⊢
    rw [List.any_cons, List.any_cons, eqvT_ok h1 s f.1 g, ih]
theorem s_in {neg : Bool} : Sim2 K (rIn K neg) (fIn neg) := ⟨fun hm rx ry ⟨ts, e1, f1, f2, p⟩ o => by
  obtain ⟨a, us, rfl, h2, h3⟩ := seqAt_ok hm ry e1
  exact ⟨a, us, rfl, h2, flat_ok rx f1, flats_ok h3 f2, by rw [any_ok rx f1 h3 f2]; exact o _ _ _ _ _ Grow.refl hm RT.bl_ p⟩⟩
end
/-! ### methods of built-in things -/
def fBM (fr : Tr → FC) (fo : FE) (fa : FA) : FE := fun L M P => fo L M fun x M1 => (lstAt M1 x).isSome = true ∧ fa L M1 fun xs M2 => fr x xs M2 P
def isStr : Tr → Bool
  | .str _ => true
  | _ => false
def fMS (fr : Tr → FC) (fo : FE) (fa : FA) : FE := fun L M P => fo L M fun x M1 => isStr x = true ∧ fa L M1 fun xs M2 => fr x xs M2 P
section
variable {K : PySem.W.Frag} {B : Bs} {to : TE} {fo : FE} {ta : TA} {fa : FA} {te : TE} {fe : FE} {r : V → List V → Hp → VK → Prop} {fr : Tr → FC}
theorem sim_BML (s : SimM K r fr) (a : SimE K B to fo) (b : SimA K B ta fa) : SimE K B (tBM K "list" r to ta) (fBM fr fo fa) :=
  ⟨fun hl hm h o => a.run hl hm h fun x xv H1 ρ1 M1 g1 m1 rx ⟨e, h1⟩ => by
    obtain ⟨ts, ht⟩ := Option.isSome_iff_exists.mp e
    obtain ⟨n, a, us, _, _, _, rfl, h2, h3⟩ := lstAt_ok m1 rx ht
    exact ⟨.inl ⟨rfl, _, .inl (.inl h2)⟩, b.run (hl.mono g1) m1 h1 fun xs xvs H2 ρ2 M2 g2 m2 rxs h2 => s.run m2 (rx.mono g2) rxs h2 (o.step (g1.trans g2))⟩⟩
theorem sim_M1 (s : SimM K r fr) (a : SimE K B to fo) (b : SimE K B te fe) : SimE K B (tM1 r to te) (fMS fr fo (fCons fe fNil)) :=
  ⟨fun hl hm h o => a.run hl hm h fun x xv H1 ρ1 M1 g1 m1 rx ⟨e, h1⟩ => by
    cases x with
    | str z => exact ⟨⟨z, rx.str_inv⟩, b.run (hl.mono g1) m1 h1 fun y yv H2 ρ2 M2 g2 m2 ry h2 => s.run m2 (rx.mono g2) (RTs.cons ry RTs.nil) h2 (o.step (g1.trans g2))⟩
    | _ => cases e⟩
theorem sim_M0 (s : SimM K r fr) (a : SimE K B to fo) : SimE K B (tM0 r to) (fMS fr fo fNil) :=
  ⟨fun hl hm h o => a.run hl hm h fun x xv H1 ρ1 M1 g1 m1 rx ⟨e, h1⟩ => by
    cases x with
    | str z => exact ⟨⟨z, rx.str_inv⟩, s.run m1 rx RTs.nil h1 (o.step g1)⟩
    | _ => cases e⟩
end
end Fm

set_option Elab.async false
set_option linter.all false
set_option maxRecDepth 100000
set_option maxHeartbeats 4000000
namespace Fm
open PySem PySem.Spec PyProof.Rows L2
/-! ### forgetting: what lies behind place n -/
mutual
def Tr.bel (n : Nat) : Tr → Bool
  | .ref k => decide (k < n)
  | .tup ts => Tr.bels n ts
  | _ => true
def Tr.bels (n : Nat) : List Tr → Bool
  | [] => true
  | t :: ts => Tr.bel n t && Tr.bels n ts
end
def belF (n : Nat) : List (Str × Tr) → Bool
  | [] => true
  | p :: fs => Tr.bel n p.2 && belF n fs
def belK (n : Nat) : List (L2.Key × Tr) → Bool
  | [] => true
  | p :: fs => Tr.bel n p.2 && belK n fs
def O.bel (n : Nat) : O → Bool
  | .lst ts => Tr.bels n ts
  | .ins _ fs => belF n fs
  | .tab _ _ => decide (1 ≤ n)
  | .scr _ _ _ _ => true
  | .dic ps => belK n ps
def belM (n : Nat) : Mem → Bool
  | [] => true
  | o :: M => O.bel n o && belM n M
def belL (n : Nat) : Loc → Bool
  | [] => true
  | none :: L => belL n L
  | some t :: L => Tr.bel n t && belL n L
/-- fewer slots are known -/
def LocLe : Loc → Loc → Prop
  | [], L => L = []
  | none :: L', L => ∃ u L1, L = u :: L1 ∧ LocLe L' L1
  | some t :: L', L => ∃ L1, L = some t :: L1 ∧ LocLe L' L1
theorem LocLe.refl : ∀ L : Loc, LocLe L L
  | [] => rfl
  | none :: L => ⟨none, L, rfl, LocLe.refl L⟩
  | some t :: L => ⟨L, rfl, LocLe.refl L⟩
section
variable {K : PySem.W.Frag} {B : Bs} {H H' : Hp} {ρ ρ' : List Addr} {n : Nat}
mutual
theorem RT.cut : ∀ {t : Tr} {v : V}, RT K H ρ t v → Tr.bel n t = true → RT K H (ρ.take n) t v
  | .non, _, h, _ => h
  | .bl _, _, h, _ => h
  | .int _, _, h, _ => h
  | .str _, _, h, _ => h
  | .raw _, _, h, _ => h
  | .ref k, _, h, b => by
    unfold RT at h ⊢
    obtain ⟨a, h1, h2⟩ := h
    unfold Tr.bel at b
    exact ⟨a, by rw [List.getElem?_take, if_pos (of_decide_eq_true b)]; exact h1, h2⟩
  | .tup ts, _, h, b => by
    unfold RT at h ⊢
    obtain ⟨a, xs, h1, h2, h3⟩ := h
    unfold Tr.bel at b
    exact ⟨a, xs, h1, h2, RTs.cutN h3 b⟩
theorem RTs.cutN : ∀ {ts : List Tr} {vs : List V}, RTs K H ρ ts vs → Tr.bels n ts = true → RTs K H (ρ.take n) ts vs
  | [], _, h, _ => by
    unfold RTs at h ⊢
    exact h
  | t :: ts, _, h, b => by
    unfold RTs at h ⊢
    obtain ⟨x, ys, h1, h2, h3⟩ := h
    unfold Tr.bels at b
    rw [Bool.and_eq_true] at b
    exact ⟨x, ys, h1, RT.cut h2 b.1, RTs.cutN h3 b.2⟩
end
theorem RFs.cut : ∀ {ts : List (Str × Tr)} {vs : List (Str × V)}, RFs K H ρ ts vs → belF n ts = true → RFs K H (ρ.take n) ts vs
  | [], _, h, _ => h
  | t :: ts, _, h, b => by
    obtain ⟨x, ys, h1, h2, h3⟩ := h
    unfold belF at b
    rw [Bool.and_eq_true] at b
    exact ⟨x, ys, h1, RT.cut h2 b.1, RFs.cut h3 b.2⟩
theorem RKs.cut : ∀ {ts : List (L2.Key × Tr)} {vs : List (L2.Key × V)}, RKs K H ρ ts vs → belK n ts = true → RKs K H (ρ.take n) ts vs
  | [], _, h, _ => h
  | t :: ts, _, h, b => by
    obtain ⟨x, ys, h1, h2, h3⟩ := h
    unfold belK at b
    rw [Bool.and_eq_true] at b
    exact ⟨x, ys, h1, RT.cut h2 b.1, RKs.cut h3 b.2⟩
theorem RL.cut : ∀ {L : Loc} {σ : L2.St}, RL K H ρ L σ → belL n L = true → RL K H (ρ.take n) L σ
  | [], _, h, _ => h
  | none :: L, _, h, b => by
    obtain ⟨v, τ, h1, h2, h3⟩ := h
    unfold belL at b
    exact ⟨v, τ, h1, trivial, RL.cut h3 b⟩
  | some t :: L, _, h, b => by
    obtain ⟨v, τ, h1, ⟨x, h4, h5⟩, h3⟩ := h
    unfold belL at b
    rw [Bool.and_eq_true] at b
    exact ⟨v, τ, h1, ⟨x, h4, RT.cut h5 b.1⟩, RL.cut h3 b.2⟩
theorem RL.le : ∀ {L' L : Loc} {σ : L2.St}, LocLe L' L → RL K H ρ L σ → RL K H ρ L' σ
  | [], _, _, e, h => by
    have e : _ = ([] : Loc) := e
    subst e
    exact h
  | none :: L', _, _, e, h => by
    obtain ⟨u, L1, rfl, e⟩ := e
    obtain ⟨v, τ, h1, h2, h3⟩ := h
    exact ⟨v, τ, h1, trivial, RL.le e h3⟩
  | some t :: L', _, _, e, h => by
    obtain ⟨L1, rfl, e⟩ := e
    obtain ⟨v, τ, h1, h2, h3⟩ := h
    exact ⟨v, τ, h1, h2, RL.le e h3⟩
theorem belM_get : ∀ {M : Mem} {k : Nat} {o : O}, belM n M = true → M[k]? = some o → O.bel n o = true
  | [], _, _, _, e => by simp at e
  | u :: M, 0, o, b, e => by
    have e' : u = o := by simpa using e
    subst e'
    unfold belM at b
    rw [Bool.and_eq_true] at b
    exact b.1
  | u :: M, k + 1, o, b, e => by
    unfold belM at b
    rw [Bool.and_eq_true] at b
    exact belM_get b.2 (by simpa using e)
theorem RM.cut {M : Mem} (r : RM K H ρ M) (b : belM n (M.take n) = true) : RM K H (ρ.take n) (M.take n) := by
  refine ⟨by rw [List.length_take, List.length_take, r.len], fun k o e => ?_, r.nd.sublist (List.take_sublist _ _)⟩
  have eb := belM_get b e
  rw [List.getElem?_take] at e
  split at e
  · rename_i hk
    obtain ⟨a, h1, h2⟩ := r.at_ k o e
    refine ⟨a, by rw [List.getElem?_take, if_pos hk]; exact h1, ?_⟩
    cases o with
    | lst ts =>
      obtain ⟨xs, h3, h4⟩ := h2
      exact ⟨xs, h3, RTs.cutN h4 eb⟩
    | ins C fs =>
      obtain ⟨dx, gs, h3, h5, h4⟩ := h2
      exact ⟨dx, gs, h3, h5, RFs.cut h4 eb⟩
    | tab P q => exact h2
    | scr ns k m r => exact h2
    | dic ps =>
      obtain ⟨kvs, h3, h4⟩ := h2
      exact ⟨kvs, h3, RKs.cut h4 eb⟩
  · cases e
theorem Grow.cut (g : Grow K H ρ H' ρ') (h : ρ.length ≤ n) : Grow K H ρ H' (ρ'.take n) := by
  obtain ⟨t, e⟩ := g.ext
  refine ⟨⟨t.take (n - ρ.length), ?_⟩, g.tup, g.oth, fun a ha hn => g.new a (List.mem_of_mem_take ha) hn, g.cod⟩
  rw [e, List.take_append, List.take_of_length_le h]
end
/-- the wish J holds of what is left when something is forgotten, not what stands before place k -/
def Forget (k : Nat) (J : Loc → Mem → Prop) : Loc → Mem → Prop := fun L M => ∃ n L', k ≤ n ∧ LocLe L' L ∧ belL n L' = true ∧ belM n (M.take n) = true ∧ J L' (M.take n)
theorem Tr.bel_mono {n m : Nat} (h : n ≤ m) : ∀ {t : Tr}, Tr.bel n t = true → Tr.bel m t = true := by
  intro t
  refine Tr.rec (motive_1 := fun t => Tr.bel n t = true → Tr.bel m t = true) (motive_2 := fun ts => Tr.bels n ts = true → Tr.bels m ts = true) ?_ ?_ ?_ ?_ ?_ ?_ ?_ ?_ ?_ t
  · intro _; rfl
  · intro _ _; rfl
  · intro _ _; rfl
  · intro _ _; rfl
  · intro ts ih b
    unfold Tr.bel at b ⊢
    exact ih b
  · intro k b
    unfold Tr.bel at b ⊢
    exact decide_eq_true (Nat.lt_of_lt_of_le (of_decide_eq_true b) h)
  · intro _ _; rfl
  · intro _; rfl
  · intro t ts h1 h2 b
    unfold Tr.bels at b ⊢
    rw [Bool.and_eq_true] at b ⊢
    exact ⟨h1 b.1, h2 b.2⟩
theorem RT.bel_len {K : PySem.W.Frag} {H : Hp} {ρ : List Addr} : ∀ {t : Tr} {v : V}, RT K H ρ t v → Tr.bel ρ.length t = true := by
  intro t
  refine Tr.rec (motive_1 := fun t => ∀ {v : V}, RT K H ρ t v → Tr.bel ρ.length t = true) (motive_2 := fun ts => ∀ {vs : List V}, RTs K H ρ ts vs → Tr.bels ρ.length ts = true) ?_ ?_ ?_ ?_ ?_ ?_ ?_ ?_ ?_ t
  · intro _ _; rfl
  · intro _ _ _; rfl
  · intro _ _ _; rfl
  · intro _ _ _; rfl
  · intro ts ih v h
    unfold RT at h
    obtain ⟨a, xs, _, _, h3⟩ := h
    unfold Tr.bel
    exact ih h3
  · intro k v h
    unfold RT at h
    obtain ⟨a, h1, _⟩ := h
    unfold Tr.bel
    exact decide_eq_true (List.getElem?_eq_some_iff.mp h1).1
  · intro _ _ _; rfl
  · intro _ _; rfl
  · intro t ts h1 h2 vs h
    unfold RTs at h
    obtain ⟨x, ys, _, h3, h4⟩ := h
    unfold Tr.bels
    rw [Bool.and_eq_true]
    exact ⟨h1 h3, h2 h4⟩
/-! ### calls -/
abbrev PXF := Addr → List (Str × Tr) → Mem → Prop
abbrev FSp := List Tr → Mem → PF → PXF → Prop
/-- the exception's own fields -/
def XR (K : PySem.W.Frag) (H : Hp) (ρ : List Addr) (fs : List (Str × Tr)) (d : Option Addr) : Prop := (fs = [] ∧ d = none) ∨ ∃ dd gs, d = some dd ∧ H dd = some (.xd gs) ∧ RFs K H ρ fs gs
def OutX (K : PySem.W.Frag) (H : Hp) (ρ : List Addr) (P : PXF) (E : XK) : Prop := ∀ C fs d H' ρ' M', Grow K H ρ H' ρ' → RM K H' ρ' M' → XR K H' ρ' fs d → P C fs M' → E (.ref C) d H'
theorem OutX.step {K : PySem.W.Frag} {H H' : Hp} {ρ ρ' : List Addr} {P : PXF} {E : XK} (g : Grow K H ρ H' ρ') (o : OutX K H ρ P E) : OutX K H' ρ' P E := fun C fs d H2 ρ2 M2 g2 m x p => o C fs d H2 ρ2 M2 (g.trans g2) m x p
structure SimSp (K : PySem.W.Frag) (sp : Sp) (fsp : FSp) : Prop where
  run : ∀ {H ρ M ts vs P PX Q E}, RTs K H ρ ts vs → RM K H ρ M → fsp ts M P PX → Out K H ρ P Q → OutX K H ρ PX E → sp vs H Q E
/-- a promise said of trees -/
def spF (K : PySem.W.Frag) (fsp : FSp) : Sp := fun vs H Q E => ∃ ts ρ M P PX, RTs K H ρ ts vs ∧ RM K H ρ M ∧ fsp ts M P PX ∧ Out K H ρ P Q ∧ OutX K H ρ PX E
theorem simSpF {K : PySem.W.Frag} {fsp : FSp} : SimSp K (spF K fsp) fsp := ⟨fun r m h o x => ⟨_, _, _, _, _, r, m, h, o, x⟩⟩
def noX : PXF := fun _ _ _ => False
theorem outX_no {K : PySem.W.Frag} {H : Hp} {ρ : List Addr} {E : XK} : OutX K H ρ noX E := fun _ _ _ _ _ _ _ _ _ p => p.elim
def fCall (fsp : FSp) (PX : PXF) (fa : FA) : FE := fun L M P => fa L M fun ts M1 => fsp ts M1 P PX
section
variable {K : PySem.W.Frag} {B : Bs} {ta : TA} {fa : FA} {sp : Sp} {fsp : FSp} {E : XK}
/-- a call that raises nothing -/
theorem sim_call (s : SimSp K sp fsp) (a : SimA K B ta fa) : SimE K B (tCall sp [] E ta) (fCall fsp noX fa) :=
  ⟨fun hl hm h o => a.run hl hm h fun ts xs H1 ρ1 M1 g1 m1 rx h1 => s.run (by rw [List.append_nil]; exact rx) m1 h1 (o.step g1) outX_no⟩
/-- a call out of which an exception may leave -/
theorem sim_callX {PX : PXF} (hE : OutX K B.1 B.2 PX E) (s : SimSp K sp fsp) (a : SimA K B ta fa) : SimE K B (tCall sp [] E ta) (fCall fsp PX fa) :=
  ⟨fun hl hm h o => a.run hl hm h fun ts xs H1 ρ1 M1 g1 m1 rx h1 => s.run (by rw [List.append_nil]; exact rx) m1 h1 (o.step g1) (hE.step (hl.gr.trans g1))⟩
end
/-! ### statements -/
structure FEnds where
  nx : Loc → Mem → Prop
  rt : PF
  bk : Loc → Mem → Prop := fun _ _ => False
  ct : Loc → Mem → Prop := fun _ _ => False
abbrev FS := FEnds → Loc → Mem → Prop
abbrev FG := Tr → Loc → Mem → (Loc → Mem → Prop) → Prop
def OutL (K : PySem.W.Frag) (B : Bs) (H : Hp) (ρ : List Addr) (P : Loc → Mem → Prop) (Q : L2.St → Hp → Prop) : Prop := ∀ L σ H' ρ' M', Grow K H ρ H' ρ' → RX K B H' ρ' L σ → RM K H' ρ' M' → P L M' → Q σ H'
theorem OutL.step {K : PySem.W.Frag} {B : Bs} {H H' : Hp} {ρ ρ' : List Addr} {P : Loc → Mem → Prop} {Q : L2.St → Hp → Prop} (g : Grow K H ρ H' ρ') (o : OutL K B H ρ P Q) : OutL K B H' ρ' P Q := fun L σ H2 ρ2 M2 g2 l m p => o L σ H2 ρ2 M2 (g.trans g2) l m p
structure EndR (K : PySem.W.Frag) (B : Bs) (H : Hp) (ρ : List Addr) (D' : FEnds) (D : Ends) : Prop where
  nx : OutL K B H ρ D'.nx D.nx
  rt : Out K H ρ D'.rt D.rt
  bk : OutL K B H ρ D'.bk D.bk
  ct : OutL K B H ρ D'.ct D.ct
theorem EndR.step {K : PySem.W.Frag} {B : Bs} {H H' : Hp} {ρ ρ' : List Addr} {D' : FEnds} {D : Ends} (g : Grow K H ρ H' ρ') (o : EndR K B H ρ D' D) : EndR K B H' ρ' D' D := ⟨o.nx.step g, o.rt.step g, o.bk.step g, o.ct.step g⟩
structure SimS (K : PySem.W.Frag) (B : Bs) (ts : TS) (fs : FS) : Prop where
  run : ∀ {σ H ρ L M D' D}, RX K B H ρ L σ → RM K H ρ M → fs D' L M → EndR K B H ρ D' D → ts D σ H
structure SimG (K : PySem.W.Frag) (B : Bs) (g : TG) (fg : FG) : Prop where
  run : ∀ {σ H ρ L M x xv P Q}, RX K B H ρ L σ → RM K H ρ M → RT K H ρ x xv → fg x L M P → OutL K B H ρ P Q → g xv σ H Q
structure SimGs (K : PySem.W.Frag) (B : Bs) (g : TGs) (fg : List Tr → Loc → Mem → (Loc → Mem → Prop) → Prop) : Prop where
  run : ∀ {σ H ρ L M xs xvs P Q}, RX K B H ρ L σ → RM K H ρ M → RTs K H ρ xs xvs → fg xs L M P → OutL K B H ρ P Q → g xvs σ H Q
def fName (i : Nat) : FG := fun t L M P => P (L.set i (some t)) M
def fGNil : List Tr → Loc → Mem → (Loc → Mem → Prop) → Prop := fun ts L M P => ts = [] ∧ P L M
def fGCons (f : FG) (fs : List Tr → Loc → Mem → (Loc → Mem → Prop) → Prop) : List Tr → Loc → Mem → (Loc → Mem → Prop) → Prop := fun ts L M P => ∃ t us, ts = t :: us ∧ f t L M fun L1 M1 => fs us L1 M1 P
def fGTup (n : Nat) (fs : List Tr → Loc → Mem → (Loc → Mem → Prop) → Prop) : FG := fun t L M P => ∃ ts, tupOf t = some ts ∧ ts.length = n ∧ fs ts L M P
def fSetL : Tr → Tr → Tr → Mem → (Mem → Prop) → Prop := fun o i v M P => ∃ n ts k j, refAt M o = some (n, ts) ∧ i = .int k ∧ ixN ts.length k = some j ∧ P (M.set n (.lst (ts.set j v)))
def fGSub (fo fi : FE) (fset : Tr → Tr → Tr → Mem → (Mem → Prop) → Prop) : FG := fun v L M P => fo L M fun o M1 => fi L M1 fun i M2 => fset o i v M2 fun M3 => P L M3
structure SimSet (K : PySem.W.Frag) (t : TSet) (f : Tr → Tr → Tr → Mem → (Mem → Prop) → Prop) : Prop where
  run : ∀ {H ρ M o i v ov iv vv P Q}, RM K H ρ M → RT K H ρ o ov → RT K H ρ i iv → RT K H ρ v vv → f o i v M P → (∀ H' ρ' M', Grow K H ρ H' ρ' → RM K H' ρ' M' → P M' → Q H') → t ov iv vv H Q
def fNext : FS := fun D L M => D.nx L M
def fSeq (f g : FS) : FS := fun D L M => f { D with nx := g D } L M
def fCut (f g : FS) : FS := fun D L M => ∃ J, f { D with nx := J } L M ∧ ∀ L' M', J L' M' → g D L' M'
def fBreak : FS := fun D L M => D.bk L M
def fCont : FS := fun D L M => D.ct L M
def fDrop (fe : FE) : FS := fun D L M => fe L M fun _ M1 => D.nx L M1
def fRet (fe : FE) : FS := fun D L M => fe L M D.rt
def fRetN : FS := fun D _ M => D.rt .non M
def fIfS (ft : FT) (f g : FS) : FS := fun D L M => ft L M fun b M1 => if b = true then f D L M1 else g D L M1
def fNever : FS := fun _ _ _ => False
def fAsg (fe : FE) (fg : FG) : FS := fun D L M => fe L M fun x M1 => fg x L M1 D.nx
def fPar (i j : Nat) (fa : FA) : FS := fun D L M => fa L M fun vs M1 => ∃ v w, vs = [v, w] ∧ D.nx ((L.set i (some v)).set j (some w)) M1
def fAug (i : Nat) (fe : FE) (f2 : F2) : FS := fun D L M => ∃ x, L[i]? = some (some x) ∧ fe L M fun y M1 => f2 x y M1 fun z M2 => D.nx (L.set i (some z)) M2
section
variable {K : PySem.W.Frag} {B : Bs} {te to ti : TE} {fe fo fi : FE} {g : TG} {fg : FG} {gs : TGs} {fgs : List Tr → Loc → Mem → (Loc → Mem → Prop) → Prop} {t u : TS} {f f' : FS} {tt : TT} {ft : FT} {ta : TA} {fa : FA}
theorem RX.set {H : Hp} {ρ : List Addr} {L : Loc} {σ : L2.St} {t : Tr} {v : V} (x : RX K B H ρ L σ) (r : RT K H ρ t v) (i : Nat) : RX K B H ρ (L.set i (some t)) (σ.set i (some v)) := ⟨x.rl.set r i, x.gr⟩
theorem sim_name {i : Nat} : SimG K B (gName i) (fName i) := ⟨fun hl hm rx p o => o _ _ _ _ _ Grow.refl (hl.set rx i) hm p⟩
theorem sim_gnil : SimGs K B gNil fGNil := ⟨fun hl hm rx ⟨e, p⟩ o => by
  subst e
  unfold RTs at rx
  exact ⟨rx, o _ _ _ _ _ Grow.refl hl hm p⟩⟩
theorem sim_gcons (a : SimG K B g fg) (b : SimGs K B gs fgs) : SimGs K B (gCons g gs) (fGCons fg fgs) := ⟨fun hl hm rx ⟨t, us, e, p⟩ o => by
  subst e
  unfold RTs at rx
  obtain ⟨x, ys, rfl, r1, r2⟩ := rx
  exact ⟨x, ys, rfl, a.run hl hm r1 p fun L1 σ1 H1 ρ1 M1 g1 l1 m1 p1 => b.run l1 m1 (r2.mono g1) p1 (o.step g1)⟩⟩
theorem sim_gtup {n : Nat} (b : SimGs K B gs fgs) : SimG K B (gTup K n gs) (fGTup n fgs) := ⟨fun hl hm rx ⟨ts, e, en, p⟩ o => by
  obtain ⟨a, xs, h1, h2, h3⟩ := tupOf_ok rx e
  exact ⟨a, xs, h1, h2, by rw [h3.len]; exact en, b.run hl hm h3 p o⟩⟩
theorem set_list : SimSet K rSetL fSetL := ⟨fun hm ro ri rv ⟨n, ts, k, j, e1, e2, e3, p⟩ o => by
  subst e2
  obtain ⟨a, us, rfl, h1, h2, rfl, h3, h4⟩ := refAt_ok hm ro e1
  exact ⟨a, us, k, j, rfl, ri.int_inv, h3, by rw [h4.len]; exact e3, o _ _ _ (Grow.wr hm h3 (List.mem_of_getElem? h1)) (hm.wr h3 h1 (h4.set rv j)) p⟩⟩
theorem sim_gsub {s : TSet} {fs : Tr → Tr → Tr → Mem → (Mem → Prop) → Prop} (z : SimSet K s fs) (a : SimE K B to fo) (b : SimE K B ti fi) : SimG K B (gSub to ti s) (fGSub fo fi fs) :=
  ⟨fun hl hm rx h o => a.run hl hm h fun x xv H1 ρ1 M1 g1 m1 r1 h1 => b.run (hl.mono g1) m1 h1 fun y yv H2 ρ2 M2 g2 m2 r2 h2 => z.run m2 (r1.mono g2) r2 (rx.mono (g1.trans g2)) h2 fun H3 ρ3 M3 g3 m3 p => o _ _ _ _ _ ((g1.trans g2).trans g3) (hl.mono ((g1.trans g2).trans g3)) m3 p⟩
theorem sim_next : SimS K B tNext fNext := ⟨fun hl hm p e => e.nx _ _ _ _ _ Grow.refl hl hm p⟩
theorem sim_seq (a : SimS K B t f) (b : SimS K B u f') : SimS K B (tSeq t u) (fSeq f f') :=
  ⟨fun hl hm p e => a.run hl hm p ⟨fun L σ H1 ρ1 M1 g1 l1 m1 p1 => b.run l1 m1 p1 (e.step g1), e.rt, e.bk, e.ct⟩⟩
theorem sim_cut (a : SimS K B t f) (b : SimS K B u f') : SimS K B (C8.tCut t u) (fCut f f') :=
  ⟨fun {σ H ρ L M D' D} hl hm ⟨J, p, q⟩ e => ⟨u D, a.run hl hm p ⟨fun L σ H1 ρ1 M1 g1 l1 m1 p1 => b.run l1 m1 (q _ _ p1) (e.step g1), e.rt, e.bk, e.ct⟩, fun _ _ h => h⟩⟩
theorem sim_break : SimS K B tBreak fBreak := ⟨fun hl hm p e => e.bk _ _ _ _ _ Grow.refl hl hm p⟩
theorem sim_cont : SimS K B tCont fCont := ⟨fun hl hm p e => e.ct _ _ _ _ _ Grow.refl hl hm p⟩
theorem sim_drop (a : SimE K B te fe) : SimS K B (tDrop te) (fDrop fe) := ⟨fun hl hm p e => a.run hl hm p fun _ _ H1 ρ1 M1 g1 m1 _ p1 => e.nx _ _ _ _ _ g1 (hl.mono g1) m1 p1⟩
theorem sim_ret (a : SimE K B te fe) : SimS K B (tRet te) (fRet fe) := ⟨fun hl hm p e => a.run hl hm p e.rt⟩
theorem sim_retN : SimS K B tRetN fRetN := ⟨fun hl hm p e => e.rt _ _ _ _ _ Grow.refl hm RT.non_ p⟩
theorem sim_ifS (c : SimT K B tt ft) (a : SimS K B t f) (b : SimS K B u f') : SimS K B (tIfS tt t u) (fIfS ft f f') := ⟨fun hl hm p e => c.run hl hm p fun k H1 ρ1 M1 g1 m1 h1 => by
  cases k with
  | true => rw [if_pos rfl] at h1 ⊢; exact a.run (hl.mono g1) m1 h1 (e.step g1)
  | false => rw [if_neg (by decide)] at h1 ⊢; exact b.run (hl.mono g1) m1 h1 (e.step g1)⟩
theorem sim_never : SimS K B tNever fNever := ⟨fun _ _ p _ => p⟩
theorem sim_asg (a : SimE K B te fe) (b : SimG K B g fg) : SimS K B (tAsg te g) (fAsg fe fg) :=
  ⟨fun hl hm p e => a.run hl hm p fun x xv H1 ρ1 M1 g1 m1 r1 p1 => b.run (hl.mono g1) m1 r1 p1 (e.nx.step g1)⟩
theorem sim_par {i j : Nat} (a : SimA K B ta fa) : SimS K B (tPar i j ta) (fPar i j fa) := ⟨fun hl hm p e => a.run hl hm p fun xs xvs H1 ρ1 M1 g1 m1 r1 ⟨v, w, e1, p1⟩ => by
  subst e1
  obtain ⟨x, y, rfl, r2, r3⟩ := r1.two
  exact ⟨x, y, rfl, e.nx _ _ _ _ _ g1 (((hl.mono g1).set r2 i).set r3 j) m1 p1⟩⟩
theorem sim_aug {i : Nat} {ip : TIp} {f2 : F2} (s : Sim2 K ip f2) (a : SimE K B te fe) : SimS K B (tAug i te ip) (fAug i fe f2) := ⟨fun hl hm ⟨x, e1, p⟩ e => by
  obtain ⟨v, h1, h2⟩ := hl.get e1
  exact ⟨v, h1, a.run hl hm p fun y yv H1 ρ1 M1 g1 m1 r1 p1 => s.run m1 (h2.mono g1) r1 p1 fun z zv H2 ρ2 M2 g2 m2 r2 p2 => e.nx _ _ _ _ _ (g1.trans g2) ((hl.mono (g1.trans g2)).set r2 i) m2 p2⟩⟩
end
end Fm

set_option Elab.async false
set_option linter.all false
set_option maxRecDepth 100000
set_option maxHeartbeats 4000000
namespace Fm
open PySem PySem.Spec PyProof.Rows L2
/-! ### what a for walks -/
structure FIt where
  items : List Tr
  ok : Mem → Prop
abbrev FI := Loc → Mem → (FIt → Mem → Prop) → Prop
structure ItSim (K : PySem.W.Frag) (it : FIt) (J : It) (S : Hp → List Addr → Prop) : Prop where
  st : ∀ {H ρ H' ρ'}, Grow K H ρ H' ρ' → S H ρ → S H' ρ'
  stop : ∀ {H ρ M}, S H ρ → RM K H ρ M → it.ok M → J.stop it.items.length H
  go : ∀ {H ρ M} {i : Nat} {t : Tr}, S H ρ → RM K H ρ M → it.ok M → it.items[i]? = some t → J.go i H
  yld : ∀ {H ρ M} {i : Nat} {t : Tr} {x H'}, S H ρ → RM K H ρ M → it.ok M → it.items[i]? = some t → J.yld i H x H' → Grow K H ρ H' ρ ∧ RM K H' ρ M ∧ RT K H' ρ t x
structure SimI (K : PySem.W.Frag) (B : Bs) (wi : TI) (fi : FI) : Prop where
  run : ∀ {σ H ρ L M R R'}, RX K B H ρ L σ → RM K H ρ M → fi L M R → (∀ it J S H' ρ' M', Grow K H ρ H' ρ' → RM K H' ρ' M' → ItSim K it J S → S H' ρ' → R it M' → R' J H') → wi σ H R'
def fIL (fe : FE) : FI := fun L M R => fe L M fun x M1 => ∃ ts, lstAt M1 x = some ts ∧ R ⟨ts, fun M => lstAt M x = some ts⟩ M1
def fIT (fe : FE) : FI := fun L M R => fe L M fun x M1 => ∃ ts, tupOf x = some ts ∧ R ⟨ts, fun _ => True⟩ M1
def rngT (lo : Int) (n : Nat) : List Tr := (List.range n).map fun (k : Nat) => Tr.int (lo + (k : Int))
def fIR1 (fa : FA) : FI := fun L M R => fa L M fun vs M1 => ∃ j : Int, vs = [.int j] ∧ -(2 ^ 62) ≤ j ∧ j < 2 ^ 62 ∧ R ⟨rngT 0 j.toNat, fun _ => True⟩ M1
def fIR2 (fa : FA) : FI := fun L M R => fa L M fun vs M1 => ∃ i j : Int, vs = [.int i, .int j] ∧ (-(2 ^ 62) ≤ i ∧ i < 2 ^ 62 ∧ -(2 ^ 62) ≤ j ∧ j < 2 ^ 62) ∧ R ⟨rngT i (j - i).toNat, fun _ => True⟩ M1
def chrsT (x : Str) : List Tr := x.cps.toList.map fun (c : Nat) => Tr.str ⟨#[c]⟩
def fIS (fe : FE) : FI := fun L M R => fe L M fun x M1 => ∃ z, x = .str z ∧ R ⟨chrsT z, fun _ => True⟩ M1
def enumT (k : Nat) : List Tr → List Tr
  | [] => []
  | t :: ts => .tup [.int (k : Int), t] :: enumT (k + 1) ts
theorem enumT_get : ∀ {ts : List Tr} {k i : Nat} {t : Tr}, (enumT k ts)[i]? = some t → ∃ u, ts[i]? = some u ∧ t = .tup [.int ((k + i : Nat) : Int), u]
  | [], _, _, _, e => by simp [enumT] at e
  | u :: ts, k, 0, t, e => by
    simp only [enumT, List.getElem?_cons_zero] at e
    cases e
    exact ⟨u, rfl, rfl⟩
  | u :: ts, k, i + 1, t, e => by
    simp only [enumT, List.getElem?_cons_succ] at e
    obtain ⟨v, h1, h2⟩ := enumT_get e
    refine ⟨v, by simpa using h1, ?_⟩
    rw [h2]
    congr 4
    omega
theorem enumT_len : ∀ (ts : List Tr) (k : Nat), (enumT k ts).length = ts.length
  | [], _ => rfl
  | t :: ts, k => by simp [enumT, enumT_len ts]
def zipT : List Tr → List Tr → List Tr
  | a :: r, b :: s => .tup [a, b] :: zipT r s
  | _, _ => []
theorem zipT_len : ∀ (xs ys : List Tr), (zipT xs ys).length = min xs.length ys.length
  | [], _ => by simp [zipT]
  | _ :: _, [] => by simp [zipT]
  | a :: r, b :: s => by simp [zipT, zipT_len r s, Nat.succ_min_succ]
theorem zipT_get : ∀ {xs ys : List Tr} {i : Nat} {t : Tr}, (zipT xs ys)[i]? = some t → ∃ a b, xs[i]? = some a ∧ ys[i]? = some b ∧ t = .tup [a, b]
  | [], _, _, _, e => by simp [zipT] at e
  | _ :: _, [], _, _, e => by simp [zipT] at e
  | a :: r, b :: s, 0, t, e => by
    simp only [zipT, List.getElem?_cons_zero] at e
    cases e
    exact ⟨a, b, rfl, rfl, rfl⟩
  | a :: r, b :: s, i + 1, t, e => by
    simp only [zipT, List.getElem?_cons_succ] at e
    obtain ⟨u, v, h1, h2, h3⟩ := zipT_get e
    exact ⟨u, v, by simpa using h1, by simpa using h2, h3⟩
def fIEn (fa : FA) : FI := fun L M R => fa L M fun vs M1 => ∃ x ts, vs = [x] ∧ lstAt M1 x = some ts ∧ R ⟨enumT 0 ts, fun M => lstAt M x = some ts⟩ M1
def fIZ (fa : FA) : FI := fun L M R => fa L M fun vs M1 => ∃ x y ts us, vs = [x, y] ∧ lstAt M1 x = some ts ∧ lstAt M1 y = some us ∧ R ⟨zipT ts us, fun M => lstAt M x = some ts ∧ lstAt M y = some us⟩ M1
section
variable {K : PySem.W.Frag} {B : Bs} {te : TE} {fe : FE} {ta : TA} {fa : FA}
theorem lst_again {H H' : Hp} {ρ ρ' : List Addr} {M M' : Mem} {x : Tr} {a : Addr} {ts : List Tr} (g : ∃ n, x = .ref n ∧ ρ[n]? = some a) (hm : RM K H ρ M) (e : lstAt M x = some ts) : ∃ xs, H a = some (.lst xs) ∧ RTs K H ρ ts xs := by
  obtain ⟨n, rfl, hn⟩ := g
  obtain ⟨k, b, xs, h0, h1, _, h2, h3, h4⟩ := lstAt_ok hm (xv := .ref a) (by unfold RT; exact ⟨a, hn, rfl⟩) e
  cases h2
  exact ⟨xs, h3, h4⟩
theorem i_list (a : SimE K B te fe) : SimI K B (iList K te) (fIL fe) := ⟨fun hl hm h k => a.run hl hm h fun x xv H1 ρ1 M1 g1 m1 rx ⟨ts, e, r⟩ => by
  obtain ⟨n, b, xs, rfl, hn, _, rfl, h3, h4⟩ := lstAt_ok m1 rx e
  refine ⟨b, rfl, ⟨xs, .inl (.inl h3)⟩, k _ _ (fun H ρ => ∃ m, Tr.ref n = .ref m ∧ ρ[m]? = some b) H1 ρ1 M1 g1 m1 ⟨fun g ⟨m, e, z⟩ => ⟨m, e, ext_get g.ext z⟩, fun s hm e => ?_, fun s hm e ei => ?_, fun s hm e ei y => ?_⟩ ⟨n, rfl, hn⟩ r⟩
  · obtain ⟨xs, h1, h2⟩ := lst_again (ρ' := []) (M' := []) (H' := fun _ => none) s hm e
    exact ⟨xs, .inl (.inl h1), by rw [h2.len]; exact Nat.le_refl _⟩
  · obtain ⟨xs, h1, h2⟩ := lst_again (ρ' := []) (M' := []) (H' := fun _ => none) s hm e
    obtain ⟨x, h3, _⟩ := h2.get ei
    exact ⟨xs, x, .inl (.inl h1), h3⟩
  · obtain ⟨xs, h1, h2⟩ := lst_again (ρ' := []) (M' := []) (H' := fun _ => none) s hm e
    obtain ⟨x, h3, h4⟩ := h2.get ei
    obtain ⟨rfl, y⟩ := y
    have := y xs (.inl (.inl h1))
    rw [h3] at this
    cases this
    exact ⟨Grow.refl, hm, h4⟩⟩
theorem i_tup (a : SimE K B te fe) : SimI K B (iTup K te) (fIT fe) := ⟨fun hl hm h k => a.run hl hm h fun x xv H1 ρ1 M1 g1 m1 rx ⟨ts, e, r⟩ => by
  obtain ⟨b, xs, rfl, h3, h4⟩ := tupOf_ok rx e
  refine ⟨b, rfl, ⟨xs, h3⟩, k _ _ (fun H ρ => SqT K H b xs ∧ RTs K H ρ ts xs) H1 ρ1 M1 g1 m1 ⟨fun g ⟨s1, s2⟩ => ⟨g.tup _ _ s1, s2.mono g⟩, fun s hm e => ?_, fun s hm e ei => ?_, fun s hm e ei y => ?_⟩ ⟨h3, h4⟩ r⟩
  · exact ⟨xs, s.1, by rw [s.2.len]; exact Nat.le_refl _⟩
  · obtain ⟨x, h3, _⟩ := s.2.get ei
    exact ⟨xs, x, s.1, h3⟩
  · obtain ⟨x, h3, h4⟩ := s.2.get ei
    obtain ⟨rfl, y⟩ := y
    have := y xs s.1
    rw [h3] at this
    cases this
    exact ⟨Grow.refl, hm, h4⟩⟩
theorem rngT_get {lo : Int} {n i : Nat} {t : Tr} (e : (rngT lo n)[i]? = some t) : i < n ∧ t = .int (lo + (i : Int)) := by
  unfold rngT at e
  by_cases h : i < n
  · rw [List.getElem?_map, List.getElem?_range h] at e
    cases e
    exact ⟨h, rfl⟩
  · rw [List.getElem?_eq_none (by rw [List.length_map, List.length_range]; omega)] at e
    cases e
theorem rngT_len (lo : Int) (n : Nat) : (rngT lo n).length = n := by unfold rngT; rw [List.length_map, List.length_range]
theorem itr_sim {lo : Int} {n : Nat} : ItSim K ⟨rngT lo n, fun _ => True⟩ (Itr lo n) (fun _ _ => True) :=
  ⟨fun _ s => s, fun _ _ _ => by show n ≤ (rngT lo n).length; rw [rngT_len]; exact Nat.le_refl _, fun _ _ _ e => (rngT_get e).1, fun _ hm _ e y => by
    obtain ⟨rfl, rfl⟩ := y
    rw [(rngT_get e).2]
    exact ⟨Grow.refl, hm, RT.int_⟩⟩
theorem i_rng1 (a : SimA K B ta fa) : SimI K B (iRng1 ta) (fIR1 fa) := ⟨fun hl hm h k => a.run hl hm h fun xs xvs H1 ρ1 M1 g1 m1 rx ⟨j, e, q1, q2, r⟩ => by
  subst e
  obtain ⟨xv, rfl, r1⟩ := rx.one
  exact ⟨j, by rw [r1.int_inv], q1, q2, k _ _ _ H1 ρ1 M1 g1 m1 itr_sim trivial r⟩⟩
theorem i_rng2 (a : SimA K B ta fa) : SimI K B (iRng2 ta) (fIR2 fa) := ⟨fun hl hm h k => a.run hl hm h fun xs xvs H1 ρ1 M1 g1 m1 rx ⟨i, j, e, q, r⟩ => by
  subst e
  obtain ⟨x, y, rfl, r1, r2⟩ := rx.two
  exact ⟨i, j, by rw [r1.int_inv, r2.int_inv], q, k _ _ _ H1 ρ1 M1 g1 m1 itr_sim trivial r⟩⟩
theorem i_str (a : SimE K B te fe) : SimI K B (iStr te) (fIS fe) := ⟨fun hl hm h k => a.run hl hm h fun x xv H1 ρ1 M1 g1 m1 rx ⟨z, e, r⟩ => by
  subst e
  refine ⟨z, rx.str_inv, k _ _ (fun _ _ => True) H1 ρ1 M1 g1 m1 ⟨fun _ s => s, fun _ _ _ => ?_, fun {H ρ M i t} _ _ _ e => ?_, fun {H ρ M i t x H'} _ hm _ e y => ?_⟩ trivial r⟩
  · show z.cps.size ≤ (chrsT z).length
    unfold chrsT
    rw [List.length_map, Array.length_toList]
    exact Nat.le_refl _
  · show i < z.cps.size
    have h := (List.getElem?_eq_some_iff.mp e).1
    have h2 : (chrsT z).length = z.cps.size := by unfold chrsT; rw [List.length_map, Array.length_toList]
    have h : i < (chrsT z).length := h
    omega
  · obtain ⟨rfl, c, h1, rfl⟩ := y
    have e : (chrsT z)[i]? = some t := e
    unfold chrsT at e
    rw [List.getElem?_map, Array.getElem?_toList, h1] at e
    cases e
    exact ⟨Grow.refl, hm, RT.str_⟩⟩

theorem pair_new {H : Hp} {ρ : List Addr} {M : Mem} {p : Addr} {a b : Tr} {x y : V} (hm : RM K H ρ M) (hp : H p = none) (r1 : RT K H ρ a x) (r2 : RT K H ρ b y) : Grow K H ρ (upd H p (.tup [x, y])) ρ ∧ RM K (upd H p (.tup [x, y])) ρ M ∧ RT K (upd H p (.tup [x, y])) ρ (.tup [a, b]) (.ref p) :=
  ⟨Grow.laid hp, hm.laid hp, by unfold RT; exact ⟨p, _, rfl, .inl (.inl upd_same), RTs.cons (r1.mono (Grow.laid hp)) (RTs.cons (r2.mono (Grow.laid hp)) RTs.nil)⟩⟩
theorem i_enum (a : SimA K B ta fa) : SimI K B (iEnum K ta) (fIEn fa) := ⟨fun hl hm h k => a.run hl hm h fun xs xvs H1 ρ1 M1 g1 m1 rx ⟨x, ts, e, e1, r⟩ => by
  subst e
  obtain ⟨xv, rfl, r1⟩ := rx.one
  obtain ⟨n, b, us, rfl, hn, _, rfl, h3, h4⟩ := lstAt_ok m1 r1 e1
  refine ⟨b, us, rfl, .inl (.inl h3), k _ _ (fun H ρ => ∃ m, Tr.ref n = .ref m ∧ ρ[m]? = some b) H1 ρ1 M1 g1 m1 ⟨fun g ⟨m, e, z⟩ => ⟨m, e, ext_get g.ext z⟩, fun s hm e => ?_, fun s hm e ei => ?_, fun s hm e ei y => ?_⟩ ⟨n, rfl, hn⟩ r⟩
  · obtain ⟨xs, h1, h2⟩ := lst_again (ρ' := []) (M' := []) (H' := fun _ => none) s hm e
    exact ⟨xs, .inl (.inl h1), by rw [h2.len]; show _ ≤ (enumT 0 ts).length; rw [enumT_len]; exact Nat.le_refl _⟩
  · obtain ⟨xs, h1, h2⟩ := lst_again (ρ' := []) (M' := []) (H' := fun _ => none) s hm e
    obtain ⟨u, hu, _⟩ := enumT_get ei
    obtain ⟨x, h3, _⟩ := h2.get hu
    exact ⟨xs, x, .inl (.inl h1), h3⟩
  · obtain ⟨xs, h1, h2⟩ := lst_again (ρ' := []) (M' := []) (H' := fun _ => none) s hm e
    obtain ⟨u, hu, e2⟩ := enumT_get ei
    obtain ⟨x, h3, h5⟩ := h2.get hu
    obtain ⟨p, w, rfl, hp, rfl, y⟩ := y
    have := y xs (.inl (.inl h1))
    rw [h3] at this
    cases this
    rw [e2, Nat.zero_add]
    exact pair_new hm hp RT.int_ h5⟩
theorem i_zip (a : SimA K B ta fa) : SimI K B (iZip K ta) (fIZ fa) := ⟨fun hl hm h k => a.run hl hm h fun xs xvs H1 ρ1 M1 g1 m1 rx ⟨x, y, ts, us, e, e1, e2, r⟩ => by
  subst e
  obtain ⟨xv, yv, rfl, r1, r2⟩ := rx.two
  obtain ⟨n, b, xs, rfl, hn, _, rfl, h3, h4⟩ := lstAt_ok m1 r1 e1
  obtain ⟨n', b', ys, rfl, hn', _, rfl, h3', h4'⟩ := lstAt_ok m1 r2 e2
  refine ⟨b, b', xs, ys, rfl, .inl (.inl h3), .inl (.inl h3'), k _ _ (fun H ρ => (∃ m, Tr.ref n = .ref m ∧ ρ[m]? = some b) ∧ ∃ m, Tr.ref n' = .ref m ∧ ρ[m]? = some b') H1 ρ1 M1 g1 m1
    ⟨fun g ⟨⟨m, e, z⟩, ⟨m', e', z'⟩⟩ => ⟨⟨m, e, ext_get g.ext z⟩, ⟨m', e', ext_get g.ext z'⟩⟩, fun s hm e => ?_, fun s hm e ei => ?_, fun s hm e ei y => ?_⟩ ⟨⟨n, rfl, hn⟩, ⟨n', rfl, hn'⟩⟩ r⟩
  · obtain ⟨xs, h1, h2⟩ := lst_again (ρ' := []) (M' := []) (H' := fun _ => none) s.1 hm e.1
    obtain ⟨ys, h1', h2'⟩ := lst_again (ρ' := []) (M' := []) (H' := fun _ => none) s.2 hm e.2
    refine ⟨xs, ys, .inl (.inl h1), .inl (.inl h1'), ?_⟩
    rw [h2.len, h2'.len]
    show _ ≤ (zipT ts us).length ∨ _ ≤ (zipT ts us).length
    rw [zipT_len]
    omega
  · obtain ⟨xs, h1, h2⟩ := lst_again (ρ' := []) (M' := []) (H' := fun _ => none) s.1 hm e.1
    obtain ⟨ys, h1', h2'⟩ := lst_again (ρ' := []) (M' := []) (H' := fun _ => none) s.2 hm e.2
    obtain ⟨u, v, hu, hv, _⟩ := zipT_get ei
    obtain ⟨x, h3, _⟩ := h2.get hu
    obtain ⟨y, h3', _⟩ := h2'.get hv
    exact ⟨xs, ys, x, y, .inl (.inl h1), .inl (.inl h1'), h3, h3'⟩
  · obtain ⟨xs, h1, h2⟩ := lst_again (ρ' := []) (M' := []) (H' := fun _ => none) s.1 hm e.1
    obtain ⟨ys, h1', h2'⟩ := lst_again (ρ' := []) (M' := []) (H' := fun _ => none) s.2 hm e.2
    obtain ⟨u, v, hu, hv, e3⟩ := zipT_get ei
    obtain ⟨x, h3, h5⟩ := h2.get hu
    obtain ⟨x', h3', h5'⟩ := h2'.get hv
    obtain ⟨p, w, w', rfl, hp, rfl, z, z'⟩ := y
    have q1 := z xs (.inl (.inl h1))
    have q2 := z' ys (.inl (.inl h1'))
    rw [h3] at q1
    rw [h3'] at q2
    cases q1
    cases q2
    rw [e3]
    exact pair_new hm hp h5 h5'⟩
end
/-! ### for, while, comprehensions -/
theorem forget_at {K : PySem.W.Frag} {B : Bs} {H : Hp} {ρ : List Addr} {L : Loc} {σ : L2.St} {M : Mem} {k : Nat} {J : Loc → Mem → Prop} (hl : RX K B H ρ L σ) (hm : RM K H ρ M) (f : Forget k J L M) (hB : B.2.length ≤ k) :
    ∃ ρ' L' M', RX K B H ρ' L' σ ∧ RM K H ρ' M' ∧ J L' M' ∧ ∀ {H0 : Hp} {ρ0 : List Addr}, ρ0.length ≤ k → Grow K H0 ρ0 H ρ → Grow K H0 ρ0 H ρ' := by
  obtain ⟨n, L', hn, le, bl, bm, j⟩ := f
  exact ⟨ρ.take n, L', M.take n, ⟨(hl.rl.le le).cut bl, hl.gr.cut (Nat.le_trans hB hn)⟩, hm.cut bm, j, fun h g => g.cut (Nat.le_trans h hn)⟩
def fFor (fi : FI) (fg : FG) (fb : FS) : FS := fun D L M => fi L M fun it M1 => ∃ I : Nat → Loc → Mem → Prop, I 0 L M1 ∧ (∀ i L2 M2, i ≤ it.items.length → I i L2 M2 → it.ok M2) ∧
  (∀ (i : Nat) (t : Tr) L2 M2, it.items[i]? = some t → I i L2 M2 → fg t L2 M2 fun L3 M3 => fb { D with nx := Forget M1.length (I (i + 1)), ct := Forget M1.length (I (i + 1)), bk := D.nx } L3 M3) ∧ (∀ L2 M2, I it.items.length L2 M2 → D.nx L2 M2)
def fWhile (ft : FT) (fb : FS) : FS := fun D L M => ∃ W : Nat → Loc → Mem → Prop, (∃ m, W m L M) ∧ ∀ m L1 M1, W m L1 M1 → ft L1 M1 fun b M2 =>
  if b = true then fb { D with nx := Forget M.length (fun L' M' => ∃ m', m' < m ∧ W m' L' M'), ct := Forget M.length (fun L' M' => ∃ m', m' < m ∧ W m' L' M'), bk := D.nx } L1 M2 else D.nx L1 M2
section
variable {K : PySem.W.Frag} {B : Bs} {wi : TI} {fi : FI} {g : TG} {fg : FG} {tb : TS} {fb : FS} {tt : TT} {ft : FT} {te : TE} {fe : FE}
theorem base_len {H : Hp} {ρ : List Addr} {L : Loc} {σ : L2.St} {M : Mem} (hl : RX K B H ρ L σ) (hm : RM K H ρ M) : B.2.length ≤ M.length := by
  obtain ⟨t, e⟩ := hl.gr.ext
  rw [← hm.len, e, List.length_append]
  exact Nat.le_add_right _ _
theorem sim_for (hi : SimI K B wi fi) (hg : SimG K B g fg) (hb : SimS K B tb fb) : SimS K B (tFor wi g tb) (fFor fi fg fb) := ⟨fun {σ H ρ L M D' D} hl hm h e => hi.run hl hm h fun it J S H1 ρ1 M1 g1 m1 is s1 ⟨I, i0, iok, ist, ien⟩ => by
  have hB := base_len (hl.mono g1) m1
  have hk : ρ1.length ≤ M1.length := Nat.le_of_eq m1.len
  refine ⟨fun i m σ H => m = it.items.length - i ∧ i ≤ it.items.length ∧ ∃ ρ L M, Grow K H1 ρ1 H ρ ∧ RX K B H ρ L σ ∧ RM K H ρ M ∧ I i L M, ⟨it.items.length, by omega, Nat.zero_le _, ρ1, L, M1, Grow.refl, hl.mono g1, m1, i0⟩, ?_⟩
  rintro i m σ2 H2 ⟨rfl, hi', ρ2, L2, M2, g2, l2, m2, iv⟩
  have s2 := is.st g2 s1
  have ok2 := iok i L2 M2 hi' iv
  by_cases hlt : i < it.items.length
  · obtain ⟨t, et⟩ : ∃ t, it.items[i]? = some t := ⟨_, List.getElem?_eq_getElem hlt⟩
    refine .inr ⟨is.go s2 m2 ok2 et, fun σ H => ∃ ρ L M, Grow K H1 ρ1 H ρ ∧ RX K B H ρ L σ ∧ RM K H ρ M ∧ I (i + 1) L M, fun σ' H' z => ⟨it.items.length - (i + 1), by omega, rfl, hlt, z⟩, fun x H3 y => ?_⟩
    obtain ⟨g3, m3, rx⟩ := is.yld s2 m2 ok2 et y
    refine hg.run (l2.mono g3) m3 rx (ist i t L2 M2 et iv) fun L4 σ4 H4 ρ4 M4 g4 l4 m4 p4 => hb.run l4 m4 p4 ?_
    have g24 := (g2.trans g3).trans g4
    have nx : OutL K B H4 ρ4 (Forget M1.length (I (i + 1))) (fun σ H => ∃ ρ L M, Grow K H1 ρ1 H ρ ∧ RX K B H ρ L σ ∧ RM K H ρ M ∧ I (i + 1) L M) := fun L5 σ5 H5 ρ5 M5 g5 l5 m5 p5 => by
      obtain ⟨ρ6, L6, M6, l6, m6, j6, up⟩ := forget_at l5 m5 p5 hB
      exact ⟨ρ6, L6, M6, up hk (g24.trans g5), l6, m6, j6⟩
    exact ⟨nx, e.rt.step (g1.trans g24), e.nx.step (g1.trans g24), nx⟩
  · have e1 : i = it.items.length := by omega
    subst e1
    exact .inl ⟨is.stop s2 m2 ok2, e.nx _ _ _ _ _ (g1.trans g2) l2 m2 (ien L2 M2 iv)⟩⟩
theorem sim_while (hc : SimT K B tt ft) (hb : SimS K B tb fb) : SimS K B (tWhile tt tb) (fWhile ft fb) := ⟨fun {σ H ρ L M D' D} hl hm ⟨W, ⟨m0, w0⟩, st⟩ e => by
  have hB := base_len hl hm
  have hk : ρ.length ≤ M.length := Nat.le_of_eq hm.len
  refine ⟨fun m σ1 H1 => ∃ ρ1 L1 M1, Grow K H ρ H1 ρ1 ∧ RX K B H1 ρ1 L1 σ1 ∧ RM K H1 ρ1 M1 ∧ W m L1 M1, ⟨m0, ρ, L, M, Grow.refl, hl, hm, w0⟩, ?_⟩
  rintro m σ1 H1 ⟨ρ1, L1, M1, g1, l1, m1, w1⟩
  refine hc.run l1 m1 (st m L1 M1 w1) fun b H2 ρ2 M2 g2 m2 p2 => ?_
  cases b with
  | false =>
    rw [if_neg (by decide)] at p2
    exact e.nx _ _ _ _ _ (g1.trans g2) (l1.mono g2) m2 p2
  | true =>
    rw [if_pos rfl] at p2
    refine ⟨fun σ3 H3 => ∃ m', m' < m ∧ ∃ ρ1 L1 M1, Grow K H ρ H3 ρ1 ∧ RX K B H3 ρ1 L1 σ3 ∧ RM K H3 ρ1 M1 ∧ W m' L1 M1, fun _ _ z => z, hb.run (l1.mono g2) m2 p2 ?_⟩
    have nx : OutL K B H2 ρ2 (Forget M.length (fun L' M' => ∃ m', m' < m ∧ W m' L' M')) (fun σ3 H3 => ∃ m', m' < m ∧ ∃ ρ1 L1 M1, Grow K H ρ H3 ρ1 ∧ RX K B H3 ρ1 L1 σ3 ∧ RM K H3 ρ1 M1 ∧ W m' L1 M1) := fun L5 σ5 H5 ρ5 M5 g5 l5 m5 p5 => by
      obtain ⟨ρ6, L6, M6, l6, m6, ⟨m', hm', j6⟩, up⟩ := forget_at l5 m5 p5 hB
      exact ⟨m', hm', ρ6, L6, M6, up hk ((g1.trans g2).trans g5), l6, m6, j6⟩
    exact ⟨nx, e.rt.step (g1.trans g2), e.nx.step (g1.trans g2), nx⟩⟩
end
end Fm

set_option Elab.async false
set_option linter.all false
set_option maxRecDepth 100000
set_option maxHeartbeats 4000000
namespace Fm
open PySem PySem.Spec PyProof.Rows L2
/-! ### list comprehensions -/
def wipeF (L : Loc) : List Nat → Loc
  | [] => L
  | v :: vs => (wipeF L vs).set v none
def ForgetA (k : Nat) (J : List Tr → Mem → Prop) : List Tr → Mem → Prop := fun acc M => ∃ n, k ≤ n ∧ Tr.bels n acc = true ∧ belM n (M.take n) = true ∧ J acc (M.take n)
def fLc (fi : FI) (fg : FG) (ft : FT) (fe : FE) (vs : List Nat) : FE := fun L M P => fi L M fun it M1 => ∃ I : Nat → List Tr → Mem → Prop, I 0 [] M1 ∧ (∀ i acc M2, i ≤ it.items.length → I i acc M2 → it.ok M2) ∧
  (∀ (i : Nat) (t : Tr) acc M2, it.items[i]? = some t → I i acc M2 → fg t (wipeF L vs) M2 fun L3 M3 => ft L3 M3 fun b M4 => if b = true then fe L3 M4 fun y M5 => acc.length < sizeLine ∧ ForgetA M1.length (I (i + 1)) (acc ++ [y]) M5 else ForgetA M1.length (I (i + 1)) acc M4) ∧
  (∀ acc M2, I it.items.length acc M2 → P (.ref M2.length) (M2 ++ [.lst acc]))
structure SimGw (K : PySem.W.Frag) (B : Bs) (vs : List Nat) (g : TG) (fg : FG) : Prop where
  run : ∀ {σ H ρ L M x xv P Q}, RX K B H ρ L σ → RM K H ρ M → RT K H ρ x xv → fg x L M P → (∀ L' σ' H' ρ' M', Grow K H ρ H' ρ' → RX K B H' ρ' L' σ' → RM K H' ρ' M' → wipe σ' vs = wipe σ vs → P L' M' → Q σ' H') → g xv σ H Q
structure SimGsw (K : PySem.W.Frag) (B : Bs) (vs : List Nat) (g : TGs) (fg : List Tr → Loc → Mem → (Loc → Mem → Prop) → Prop) : Prop where
  run : ∀ {σ H ρ L M xs xvs P Q}, RX K B H ρ L σ → RM K H ρ M → RTs K H ρ xs xvs → fg xs L M P → (∀ L' σ' H' ρ' M', Grow K H ρ H' ρ' → RX K B H' ρ' L' σ' → RM K H' ρ' M' → wipe σ' vs = wipe σ vs → P L' M' → Q σ' H') → g xvs σ H Q
theorem wipe_at (σ : L2.St) (j : Nat) : ∀ vs : List Nat, (wipe σ vs)[j]? = if j ∈ vs then σ[j]?.map (fun _ => none) else σ[j]?
  | [] => by simp [wipe]
  | v :: vs => by
    unfold wipe
    have ih := wipe_at σ j vs
    by_cases h : v = j
    · subst h
      rw [if_pos List.mem_cons_self, List.getElem?_set, if_pos rfl, wipe_length]
      by_cases hl : v < σ.length
      · rw [if_pos hl, List.getElem?_eq_getElem hl]; rfl
      · rw [if_neg hl, List.getElem?_eq_none (by omega)]; rfl
    · rw [List.getElem?_set_ne h, ih]
      by_cases hj : j ∈ vs
      · rw [if_pos hj, if_pos (List.mem_cons_of_mem _ hj)]
      · rw [if_neg hj, if_neg (fun z => by
          rcases List.mem_cons.mp z with z | z
          · exact h z.symm
          · exact hj z)]
theorem wipe_set {σ : L2.St} {vs : List Nat} {i : Nat} {x : Option V} (h : i ∈ vs) : wipe (σ.set i x) vs = wipe σ vs := by
  refine List.ext_getElem? fun j => ?_
  rw [wipe_at, wipe_at]
  by_cases hj : j ∈ vs
  · rw [if_pos hj, if_pos hj, List.getElem?_set]
    split
    · split
      · rename_i h1 h2
        subst h1
        rw [List.getElem?_eq_getElem h2]; rfl
      · rename_i h1 h2
        subst h1
        rw [List.getElem?_eq_none (by omega)]
    · rfl
  · rw [if_neg hj, if_neg hj, List.getElem?_set_ne (show i ≠ j from fun z => hj (by rw [← z]; exact h))]
theorem wipe_idem {σ : L2.St} {vs : List Nat} : wipe (wipe σ vs) vs = wipe σ vs := by
  refine List.ext_getElem? fun j => ?_
  rw [wipe_at, wipe_at]
  by_cases hj : j ∈ vs
  · rw [if_pos hj, if_pos hj]
    cases σ[j]? <;> rfl
  · rw [if_neg hj, if_neg hj]
section
variable {K : PySem.W.Frag} {B : Bs} {H H1 H' : Hp} {ρ ρ1 ρ' : List Addr}
theorem RL.setNone : ∀ {L : Loc} {σ : L2.St} (i : Nat) (x : Option V), RL K H ρ L σ → RL K H ρ (L.set i none) (σ.set i x)
  | [], _, _, _, h => by
    have h : _ = ([] : L2.St) := h
    subst h
    exact rfl
  | u :: L, _, 0, x, h => by
    obtain ⟨v, τ, rfl, h2, h3⟩ := h
    exact ⟨_, _, rfl, trivial, h3⟩
  | u :: L, _, i + 1, x, h => by
    obtain ⟨v, τ, rfl, h2, h3⟩ := h
    exact ⟨_, _, rfl, h2, RL.setNone i x h3⟩
theorem RL.wipe {L : Loc} {σ : L2.St} (h : RL K H ρ L σ) : ∀ vs : List Nat, RL K H ρ (wipeF L vs) (L2.wipe σ vs)
  | [] => h
  | v :: vs => RL.setNone v none (RL.wipe h vs)
theorem RX.wipe {L : Loc} {σ : L2.St} (h : RX K B H ρ L σ) (vs : List Nat) : RX K B H ρ (wipeF L vs) (L2.wipe σ vs) := ⟨h.rl.wipe vs, h.gr⟩
theorem sim_namew {vs : List Nat} {i : Nat} (hi : i ∈ vs) : SimGw K B vs (gName i) (fName i) := ⟨fun hl hm rx p o => o _ _ _ _ _ Grow.refl (hl.set rx i) hm (wipe_set hi) p⟩
theorem sim_gnilw {vs : List Nat} : SimGsw K B vs gNil fGNil := ⟨fun hl hm rx ⟨e, p⟩ o => by
  subst e
  unfold RTs at rx
  exact ⟨rx, o _ _ _ _ _ Grow.refl hl hm rfl p⟩⟩
theorem sim_gconsw {vs : List Nat} {g : TG} {fg : FG} {gs : TGs} {fgs : List Tr → Loc → Mem → (Loc → Mem → Prop) → Prop} (a : SimGw K B vs g fg) (b : SimGsw K B vs gs fgs) : SimGsw K B vs (gCons g gs) (fGCons fg fgs) := ⟨fun hl hm rx ⟨t, us, e, p⟩ o => by
  subst e
  unfold RTs at rx
  obtain ⟨x, ys, rfl, r1, r2⟩ := rx
  exact ⟨x, ys, rfl, a.run hl hm r1 p fun L1 σ1 H1 ρ1 M1 g1 l1 m1 w1 p1 => b.run l1 m1 (r2.mono g1) p1 fun L2 σ2 H2 ρ2 M2 g2 l2 m2 w2 p2 => o _ _ _ _ _ (g1.trans g2) l2 m2 (w2.trans w1) p2⟩⟩
theorem sim_gtupw {vs : List Nat} {n : Nat} {gs : TGs} {fgs : List Tr → Loc → Mem → (Loc → Mem → Prop) → Prop} (b : SimGsw K B vs gs fgs) : SimGw K B vs (gTup K n gs) (fGTup n fgs) := ⟨fun hl hm rx ⟨ts, e, en, p⟩ o => by
  obtain ⟨a, xs, h1, h2, h3⟩ := tupOf_ok rx e
  exact ⟨a, xs, h1, h2, by rw [h3.len]; exact en, b.run hl hm h3 p o⟩⟩
theorem notin_grow {D : Addr} {xs : List V} (g : Grow K H ρ H' ρ') (hD : H D = some (.lst xs)) (n : D ∉ ρ) : D ∉ ρ' := fun z => by
  obtain ⟨ps, e⟩ := g.new D z n _ hD
  cases e
theorem oth_lst {D : Addr} {xs : List V} (g : Grow K H ρ H' ρ') (hD : H D = some (.lst xs)) (n : D ∉ ρ) : H' D = some (.lst xs) := g.oth _ _ hD n (fun _ z => nomatch z)
theorem Grow.updD {D : Addr} {xs ys : List V} (g : Grow K H1 ρ1 H ρ) (h1 : H1 D = none) (hD : H D = some (.lst xs)) : Grow K H1 ρ1 (upd H D (.lst ys)) ρ :=
  ⟨g.ext, fun _ _ h => sqt_upd (g.tup _ _ h) (.inr (.inl ⟨xs, hD⟩)), fun a o h n nt => by rw [upd_ne (ne_of_none h h1)]; exact g.oth a o h n nt, g.new, fun c q i h => cod_upd (.inr (.inl ⟨xs, hD⟩)) c q i (g.cod c q i h)⟩
theorem RM.updD {M : Mem} {D : Addr} {xs ys : List V} (r : RM K H ρ M) (hD : H D = some (.lst xs)) (n : D ∉ ρ) : RM K (upd H D (.lst ys)) ρ M := by
  have g : Gw K H ρ (upd H D (.lst ys)) ρ := ⟨⟨[], by simp⟩, fun _ _ h => sqt_upd h (.inr (.inl ⟨xs, hD⟩)), fun c q i h => cod_upd (.inr (.inl ⟨xs, hD⟩)) c q i h⟩
  exact ⟨r.len, fun k o e => let ⟨a, h1, h2⟩ := r.at_ k o e; ⟨a, h1, h2.mono0 g (upd_ne fun z => n (z ▸ List.mem_of_getElem? h1)) fun d q => by rw [upd_ne (ne_of q hD (fun z => nomatch z))]; exact q⟩, r.nd⟩
theorem RTs.updD {D : Addr} {xs ys : List V} {ts : List Tr} {vs : List V} (h : RTs K H ρ ts vs) (hD : H D = some (.lst xs)) : RTs K (upd H D (.lst ys)) ρ ts vs :=
  RTs.mono0 ⟨⟨[], by simp⟩, fun _ _ h => sqt_upd h (.inr (.inl ⟨xs, hD⟩)), fun c q i h => cod_upd (.inr (.inl ⟨xs, hD⟩)) c q i h⟩ h
theorem RM.addD {M : Mem} {D : Addr} {xs : List V} {ts : List Tr} (r : RM K H ρ M) (hD : H D = some (.lst xs)) (n : D ∉ ρ) (h : RTs K H ρ ts xs) : RM K H (ρ ++ [D]) (M ++ [.lst ts]) := by
  have g : Gw K H ρ H (ρ ++ [D]) := ⟨⟨[D], rfl⟩, fun _ _ h => h, fun _ _ _ h => h⟩
  have lt := r.len
  refine ⟨by simp [lt], fun k o e => ?_, ?_⟩
  · by_cases hn : k < M.length
    · rw [List.getElem?_append_left hn] at e
      obtain ⟨a, h1, h2⟩ := r.at_ k o e
      exact ⟨a, by rw [List.getElem?_append_left (by rw [lt]; exact hn)]; exact h1, h2.mono0 g rfl fun d q => q⟩
    · rw [List.getElem?_append_right (by omega)] at e
      match hz : k - M.length, e with
      | 0, e =>
        cases e
        exact ⟨D, by rw [List.getElem?_append_right (by omega), lt, hz]; rfl, xs, hD, RTs.mono0 g h⟩
      | j + 1, e => simp at e
  · rw [List.nodup_append]
    exact ⟨r.nd, by simp, fun a ha b hb => by rw [List.mem_singleton.mp hb]; exact fun e => n (e ▸ ha)⟩
variable {wi : TI} {fi : FI} {g : TG} {fg : FG} {tt : TT} {ft : FT} {te : TE} {fe : FE} {vs : List Nat}
theorem sim_lc (hi : SimI K B wi fi) (hg : SimGw K B vs g fg) (ht : SimT K B tt ft) (he : SimE K B te fe) : SimE K B (tLc wi g tt te vs) (fLc fi fg ft fe vs) := ⟨fun {σ H ρ L M P Q} hl hm h o => hi.run hl hm h fun it J S H1 ρ1 M1 g1 m1 is s1 ⟨I, i0, iok, ist, ien⟩ => by
  intro D hD
  have hB := base_len (hl.mono g1) m1
  have hk : ρ1.length ≤ M1.length := Nat.le_of_eq m1.len
  let W : Nat → Nat → Hp → Prop := fun i m H2 => m = it.items.length - i ∧ i ≤ it.items.length ∧ ∃ acc xs ρ2 M2, H2 D = some (.lst xs) ∧ D ∉ ρ2 ∧ Grow K H1 ρ1 H2 ρ2 ∧ RM K H2 ρ2 M2 ∧ RTs K H2 ρ2 acc xs ∧ I i acc M2
  refine ⟨W, ⟨it.items.length, by omega, Nat.zero_le _, [], [], ρ1, M1, upd_same, m1.fresh hD, Grow.laid hD, m1.laid hD, RTs.nil, i0⟩, ?_⟩
  rintro i m H2 ⟨rfl, hi', acc, xs, ρ2, M2, hD2, nD2, g2, m2, ra, iv⟩
  have s2 := is.st g2 s1
  have ok2 := iok i acc M2 hi' iv
  by_cases hlt : i < it.items.length
  · obtain ⟨t, et⟩ : ∃ t, it.items[i]? = some t := ⟨_, List.getElem?_eq_getElem hlt⟩
    refine .inr ⟨is.go s2 m2 ok2 et, W (i + 1) (it.items.length - (i + 1)), fun H' z => ⟨it.items.length - (i + 1), by omega, z⟩, fun x H3 y => ?_⟩
    obtain ⟨g3, m3, rx⟩ := is.yld s2 m2 ok2 et y
    refine hg.run ((hl.mono (g1.trans (g2.trans g3))).wipe vs) m3 rx (ist i t acc M2 et iv) fun L4 σ4 H4 ρ4 M4 g4 l4 m4 w4 p4 => ⟨w4.trans wipe_idem, ht.run l4 m4 p4 fun b H5 ρ5 M5 g5 m5 p5 => ?_⟩
    have g25 := (g3.trans g4).trans g5
    have hD5 := oth_lst g25 hD2 nD2
    have nD5 := notin_grow g25 hD2 nD2
    have ra5 := ra.mono g25
    cases b with
    | false =>
      rw [if_neg (by decide)] at p5 ⊢
      obtain ⟨n, hn, ba, bm, j⟩ := p5
      exact ⟨rfl, hlt, acc, xs, ρ5.take n, M5.take n, hD5, fun z => nD5 (List.mem_of_mem_take z), (g2.trans g25).cut (Nat.le_trans hk hn), m5.cut bm, RTs.cutN ra5 ba, j⟩
    | true =>
      rw [if_pos rfl] at p5 ⊢
      refine he.run (l4.mono g5) m5 p5 fun v xv H6 ρ6 M6 g6 m6 ry ⟨z, n, hn, ba, bm, j⟩ => ?_
      have hD6 := oth_lst g6 hD5 nD5
      have nD6 := notin_grow g6 hD5 nD5
      have ra6 := (ra5.mono g6).app (RTs.cons ry RTs.nil)
      refine ⟨xs, hD6, by rw [ra.len]; exact z, rfl, hlt, acc ++ [v], xs ++ [xv], ρ6.take n, M6.take n, upd_same, fun z => nD6 (List.mem_of_mem_take z), (((g2.trans g25).trans g6).cut (Nat.le_trans hk hn)).updD hD hD6, (m6.cut bm).updD hD6 (fun z => nD6 (List.mem_of_mem_take z)), (RTs.cutN ra6 ba).updD hD6, j⟩
  · have e1 : i = it.items.length := by omega
    subst e1
    refine .inl ⟨is.stop s2 m2 ok2, o (.ref M2.length) (.ref D) H2 (ρ2 ++ [D]) (M2 ++ [.lst acc]) (g1.trans ?_) (m2.addD hD2 nD2 ra) (by unfold RT; exact ⟨D, m2.ref, rfl⟩) (ien acc M2 iv)⟩
    obtain ⟨t, e⟩ := g2.ext
    exact ⟨⟨t ++ [D], by rw [e, List.append_assoc]⟩, g2.tup, g2.oth, fun a ha hn o ho => by
      rcases List.mem_append.mp ha with ha | ha
      · exact g2.new a ha hn o ho
      · rw [List.mem_singleton.mp ha, hD] at ho
        (cases ho), g2.cod⟩⟩
theorem sim_yes : SimT K B tYes (fun _ M P => P true M) := ⟨fun _ hm p o => o _ _ _ _ Grow.refl hm p⟩
end
/-! ### a def's body -/
def startL (N : List Str) (ts : List Tr) : Loc := ts.map some ++ List.replicate (N.length - ts.length) none
/-- what is handed back; what lies behind place n is forgotten -/
def Keep (k : Nat) (P : PF) : PF := fun v M => ∃ n, k ≤ n ∧ Tr.bel n v = true ∧ belM n (M.take n) = true ∧ P v (M.take n)
def KeepX (k : Nat) (P : PXF) : PXF := fun C fs M => ∃ n, k ≤ n ∧ belF n fs = true ∧ belM n (M.take n) = true ∧ P C fs (M.take n)
section
variable {K : PySem.W.Frag} {H : Hp} {ρ : List Addr}
theorem RL.nones : ∀ (n : Nat) (xs : List (Option V)), xs.length = n → RL K H ρ (List.replicate n none) xs
  | 0, [], _ => rfl
  | n + 1, x :: xs, h => ⟨x, xs, rfl, trivial, RL.nones n xs (by simpa using h)⟩
theorem RL.start : ∀ {ts : List Tr} {vs : List V} {L : Loc} {τ : L2.St}, RTs K H ρ ts vs → RL K H ρ L τ → RL K H ρ (ts.map some ++ L) (vs.map some ++ τ)
  | [], _, _, _, h, k => by
    unfold RTs at h
    subst h
    exact k
  | t :: ts, _, _, _, h, k => by
    unfold RTs at h
    obtain ⟨x, ys, rfl, h1, h2⟩ := h
    exact ⟨some x, _, rfl, ⟨x, rfl, h1⟩, RL.start h2 k⟩
theorem out_keep {P : PF} {Q : VK} (o : Out K H ρ P Q) : Out K H ρ (Keep ρ.length P) Q := fun v x H' ρ' M' g m r ⟨n, hn, b, bm, p⟩ => o v x H' (ρ'.take n) (M'.take n) (g.cut hn) (m.cut bm) (r.cut b) p
theorem XR.cut {fs : List (Str × Tr)} {d : Option Addr} {n : Nat} (x : XR K H ρ fs d) (b : belF n fs = true) : XR K H (ρ.take n) fs d := by
  rcases x with x | ⟨dd, gs, h1, h2, h3⟩
  · exact .inl x
  · exact .inr ⟨dd, gs, h1, h2, h3.cut b⟩
theorem outX_keep {P : PXF} {E : XK} (o : OutX K H ρ P E) : OutX K H ρ (KeepX ρ.length P) E := fun C fs d H' ρ' M' g m r ⟨n, hn, b, bm, p⟩ => o C fs d H' (ρ'.take n) (M'.take n) (g.cut hn) (m.cut bm) (r.cut b) p
/-- a def's body, said of trees: the wish of its caller, from the promise -/
theorem run_body {N : List Str} {t : TS} {fs : PXF → FS} {fsp : FSp} {vs : List V} {Q : VK} {E : XK} (h : spF K fsp vs H Q E)
    (sim : ∀ (B : Bs) (PX : PXF), OutX K B.1 B.2 PX E → SimS K B t (fs PX))
    (sp : ∀ ts M P PX, fsp ts M P PX → fs (KeepX M.length PX) { nx := fun _ M' => Keep M.length P .non M', rt := Keep M.length P } (startL N ts) M) :
    t { nx := fun _ H' => Q .non H', rt := Q } (L2.start N vs) H := by
  obtain ⟨ts, ρ, M, P, PX, r, m, h, o, ox⟩ := h
  have s := sim (H, ρ) (KeepX M.length PX) (by rw [← m.len]; exact outX_keep ox)
  have hl : RX K (H, ρ) H ρ (startL N ts) (L2.start N vs) := ⟨by
    unfold startL L2.start
    rw [← r.len]
    exact RL.start r (RL.nones _ _ (by simp)), Grow.refl⟩
  have o' : Out K H ρ (Keep M.length P) Q := by rw [← m.len]; exact out_keep o
  exact s.run hl m (sp ts M P PX h) ⟨fun L σ H' ρ' M' g _ m' p => o' .non .non H' ρ' M' g m' RT.non_ p, o', fun _ _ _ _ _ _ _ _ p => p.elim, fun _ _ _ _ _ _ _ _ p => p.elim⟩
end
end Fm

set_option Elab.async false
set_option linter.all false
set_option maxRecDepth 100000
set_option maxHeartbeats 4000000
namespace Fm
open PySem PySem.Spec PyProof.Rows L2
/-! ### texts -/
def fAddS : F2 := fun x y M P => ∃ i j, x = .str i ∧ y = .str j ∧ i.length + j.length ≤ sizeLine ∧ P (.str (i ++ j)) M
def fLeS : F2 := fun x y M P => ∃ i j : Str, x = .str i ∧ y = .str j ∧ P (.bl (!decide (j.cps.toList < i.cps.toList))) M
def fLtS : F2 := fun x y M P => ∃ i j : Str, x = .str i ∧ y = .str j ∧ P (.bl (decide (i.cps.toList < j.cps.toList))) M
def fM0b (g : Str → Bool) : Tr → FC := fun x xs M P => ∃ a, x = .str a ∧ xs = [] ∧ P (.bl (g a)) M
def fM1b (g : Str → Str → Bool) : Tr → FC := fun x xs M P => ∃ a b, x = .str a ∧ xs = [.str b] ∧ P (.bl (g a b)) M
def fSplit : Tr → FC := fun x xs M P => ∃ a b, x = .str a ∧ xs = [.str b] ∧ (b.length == 0) = false ∧ a.length + 2 ≤ sizeLine ∧ P (.ref M.length) (M ++ [.lst ((Txt.split a b).map Tr.str)])
def fJoin : Tr → FC := fun x xs M P => ∃ a y, ∃ ys : List Str, x = .str a ∧ xs = [y] ∧ seqAt M y = some (ys.map Tr.str) ∧ (ys.map (·.length)).sum + ys.length * a.length ≤ 16777216 ∧ P (.str (Txt.join a ys)) M
def fmtS : Tr → Str
  | .str y => y
  | .int i => toString i
  | _ => Str.empty
def fmtOk : Tr → Prop
  | .str y => y.length ≤ sizeLine
  | .int i => i.natAbs.log2 < 1920
  | _ => False
theorem fmtS_i (i : Int) : fmtS (.int i) = toString i := rfl
theorem fmtS_s (i : Str) : fmtS (.str i) = i := rfl
theorem fmtOk_i (i : Int) : fmtOk (.int i) = (i.natAbs.log2 < 1920) := rfl
theorem fmtOk_s (i : Str) : fmtOk (.str i) = (i.length ≤ sizeLine) := rfl
def fFmt (fe : FE) : FE := fun L M P => fe L M fun x M1 => fmtOk x ∧ P (.str (fmtS x)) M1
def fJs : List FE → Str → Loc → Mem → (Str → Mem → Prop) → Prop
  | [], acc, _, M, P => P acc M
  | f :: fs, acc, L, M, P => f L M fun x M1 => ∃ y : Str, x = .str y ∧ (acc ++ y).length ≤ sizeLine ∧ fJs fs (acc ++ y) L M1 P
def fJoined (fs : List FE) : FE := fun L M P => fJs fs Str.empty L M fun out M1 => P (.str out) M1
def fBM0S (fr : Tr → FC) (fo : FE) : FE := fun L M P => fo L M fun x M1 => isStr x = true ∧ fr x [] M1 P
def fBMS (fr : Tr → FC) (fo : FE) (fa : FA) : FE := fun L M P => fo L M fun x M1 => isStr x = true ∧ fa L M1 fun xs M2 => fr x xs M2 P
section
variable {K : PySem.W.Frag} {B : Bs} {H : Hp} {ρ : List Addr} {to te : TE} {fo fe : FE} {ta : TA} {fa : FA} {r : V → List V → Hp → VK → Prop} {fr : Tr → FC}
theorem s_addS : Sim2 K (fun x y H Q => ∃ i j : Str, x = V.str i ∧ y = V.str j ∧ i.length + j.length ≤ sizeLine ∧ Q (V.str (i ++ j)) H) fAddS := ⟨fun hm rx ry ⟨i, j, e1, e2, z, p⟩ o => by
  subst e1; subst e2
  exact ⟨i, j, rx.str_inv, ry.str_inv, z, o _ _ _ _ _ Grow.refl hm RT.str_ p⟩⟩
theorem s_leS : Sim2 K (fun x y H Q => ∃ i j : Str, x = V.str i ∧ y = V.str j ∧ Q (V.bl (!decide (j.cps.toList < i.cps.toList))) H) fLeS := ⟨fun hm rx ry ⟨i, j, e1, e2, p⟩ o => by
  subst e1; subst e2
  exact ⟨i, j, rx.str_inv, ry.str_inv, o _ _ _ _ _ Grow.refl hm RT.bl_ p⟩⟩
theorem s_ltS : Sim2 K (fun x y H Q => ∃ i j : Str, x = V.str i ∧ y = V.str j ∧ Q (V.bl (decide (i.cps.toList < j.cps.toList))) H) fLtS := ⟨fun hm rx ry ⟨i, j, e1, e2, p⟩ o => by
  subst e1; subst e2
  exact ⟨i, j, rx.str_inv, ry.str_inv, o _ _ _ _ _ Grow.refl hm RT.bl_ p⟩⟩
theorem m_0b {g : Str → Bool} : SimM K (fun x xs H Q => ∃ a, x = V.str a ∧ xs = [] ∧ True ∧ Q (V.bl (g a)) H) (fM0b g) := ⟨fun hm rx rxs ⟨a, e1, e2, p⟩ o => by
  subst e1; subst e2
  unfold RTs at rxs
  exact ⟨a, rx.str_inv, rxs, trivial, o _ _ _ _ _ Grow.refl hm RT.bl_ p⟩⟩
theorem m_1b {g : Str → Str → Bool} : SimM K (fun x xs H Q => ∃ a b, x = V.str a ∧ xs = [V.str b] ∧ Q (V.bl (g a b)) H) (fM1b g) := ⟨fun hm rx rxs ⟨a, b, e1, e2, p⟩ o => by
  subst e1; subst e2
  obtain ⟨y, rfl, ry⟩ := rxs.one
  exact ⟨a, b, rx.str_inv, by rw [ry.str_inv], o _ _ _ _ _ Grow.refl hm RT.bl_ p⟩⟩
theorem RTs.strs : ∀ ys : List Str, RTs K H ρ (ys.map Tr.str) (ys.map V.str)
  | [] => RTs.nil
  | y :: ys => RTs.cons RT.str_ (RTs.strs ys)
theorem RTs.strs_inv : ∀ {ys : List Str} {vs : List V}, RTs K H ρ (ys.map Tr.str) vs → vs = ys.map V.str
  | [], _, h => by unfold RTs at h; exact h
  | y :: ys, _, h => by
    unfold RTs at h
    obtain ⟨x, zs, rfl, h1, h2⟩ := h
    rw [h1.str_inv, RTs.strs_inv (ys := ys) h2]
    rfl
theorem m_split : SimM K (fun x xs H Q => ∃ a b, x = V.str a ∧ xs = [V.str b] ∧ (b.length == 0) = false ∧ a.length + 2 ≤ sizeLine ∧ rNewStrs (Txt.split a b) H Q) fSplit := ⟨fun hm rx rxs ⟨a, b, e1, e2, h1, h2, p⟩ o => by
  subst e1; subst e2
  obtain ⟨y, rfl, ry⟩ := rxs.one
  exact ⟨a, b, rx.str_inv, by rw [ry.str_inv], h1, h2, out_list hm (RTs.strs _) o p⟩⟩
theorem m_join : SimM K (fun x xs H Q => ∃ a p, ∃ ys : List Str, x = V.str a ∧ xs = [V.ref p] ∧ (SqL K H p (ys.map V.str) ∨ SqT K H p (ys.map V.str)) ∧ (ys.map (·.length)).sum + ys.length * a.length ≤ 16777216 ∧ Q (V.str (Txt.join a ys)) H) fJoin := ⟨fun hm rx rxs ⟨a, y, ys, e1, e2, e3, z, p⟩ o => by
  subst e1; subst e2
  obtain ⟨yv, rfl, ry⟩ := rxs.one
  obtain ⟨b, us, rfl, h2, h3⟩ := seqAt_ok hm ry e3
  rw [h3.strs_inv] at h2
  exact ⟨a, b, ys, rx.str_inv, rfl, h2, z, o _ _ _ _ _ Grow.refl hm RT.str_ p⟩⟩
theorem sim_BM0S (s : SimM K r fr) (a : SimE K B to fo) : SimE K B (tBM0 K "str" r to) (fBM0S fr fo) :=
  ⟨fun hl hm h o => a.run hl hm h fun x xv H1 ρ1 M1 g1 m1 rx ⟨e, h1⟩ => by
    cases x with
    | str z => exact ⟨by rw [rx.str_inv]; rfl, s.run m1 rx RTs.nil h1 (o.step g1)⟩
    | _ => cases e⟩
theorem sim_BMS (s : SimM K r fr) (a : SimE K B to fo) (b : SimA K B ta fa) : SimE K B (tBM K "str" r to ta) (fBMS fr fo fa) :=
  ⟨fun hl hm h o => a.run hl hm h fun x xv H1 ρ1 M1 g1 m1 rx ⟨e, h1⟩ => by
    cases x with
    | str z => exact ⟨by rw [rx.str_inv]; rfl, b.run (hl.mono g1) m1 h1 fun xs xvs H2 ρ2 M2 g2 m2 rxs h2 => s.run m2 (rx.mono g2) rxs h2 (o.step (g1.trans g2))⟩
    | _ => cases e⟩
theorem sim_fmt (a : SimE K B te fe) : SimE K B (tFmt te) (fFmt fe) := ⟨fun hl hm h o => a.run hl hm h fun x xv H1 ρ1 M1 g1 m1 rx ⟨z, p⟩ => by
  cases x with
  | str y => exact .inl ⟨y, rx.str_inv, z, o _ _ _ _ _ g1 m1 RT.str_ p⟩
  | int i => exact .inr ⟨i, rx.int_inv, z, o _ _ _ _ _ g1 m1 RT.str_ p⟩
  | _ => exact z.elim⟩
/-- the parts of a joined text -/
inductive SimJ (K : PySem.W.Frag) (B : Bs) : List TE → List FE → Prop where
  | nil : SimJ K B [] []
  | cons {te : TE} {fe : FE} {ts : List TE} {fs : List FE} (a : SimE K B te fe) (b : SimJ K B ts fs) : SimJ K B (te :: ts) (fe :: fs)
theorem js_run {ts : List TE} {fs : List FE} (s : SimJ K B ts fs) : ∀ {acc : Str} {σ : L2.St} {H : Hp} {ρ : List Addr} {L : Loc} {M : Mem} {P : Str → Mem → Prop} {Q : Str → Hp → Prop}, RX K B H ρ L σ → RM K H ρ M → fJs fs acc L M P →
    (∀ out H' ρ' M', Grow K H ρ H' ρ' → RM K H' ρ' M' → P out M' → Q out H') → tJs ts acc σ H Q := by
  induction s with
  | nil => intro acc σ H ρ L M P Q hl hm p o; exact o _ _ _ _ Grow.refl hm p
  | cons a b ih =>
    intro acc σ H ρ L M P Q hl hm p o
    refine a.run hl hm p fun x xv H1 ρ1 M1 g1 m1 rx ⟨y, e, z, p1⟩ => ?_
    subst e
    exact ⟨y, rx.str_inv, z, ih (hl.mono g1) m1 p1 fun out H' ρ' M' g m p => o out H' ρ' M' (g1.trans g) m p⟩
theorem sim_joined {ts : List TE} {fs : List FE} (s : SimJ K B ts fs) : SimE K B (fun σ H Q => tJs ts Str.empty σ H fun out H1 => Q (V.str out) H1) (fJoined fs) :=
  ⟨fun hl hm p o => js_run s hl hm p fun out H' ρ' M' g m p => o _ _ _ _ _ g m RT.str_ p⟩
end
end Fm
namespace Fm
open PySem PySem.Spec PyProof.Rows L2
theorem nox_K {CX : CXT} {P : Program} {w : World} {K : PySem.W.Frag} {mg : Str → Option Value} {base : Heap} {N : List Str} {qual : Str} {scope : Scope} {f : Addr} {cd : Value} {A : Around} {outer : List Env} {s : Shared} {H : Hp} {E : XK} : (cxOf CX P w K mg base N qual scope f cd A outer s H E).nox.K = K := rfl
theorem cx_K {CX : CXT} {P : Program} {w : World} {K : PySem.W.Frag} {mg : Str → Option Value} {base : Heap} {N : List Str} {qual : Str} {scope : Scope} {f : Addr} {cd : Value} {A : Around} {outer : List Env} {s : Shared} {H : Hp} {E : XK} : (cxOf CX P w K mg base N qual scope f cd A outer s H E).K = K := rfl
section
variable {K : PySem.W.Frag} {H : Hp} {ρ : List Addr} {M : Mem}
theorem keepX_of {PX : PXF} {E : XK} (m : RM K H ρ M) (ox : OutX K H ρ PX E) : OutX K (H, ρ).1 (H, ρ).2 (KeepX M.length PX) E := by rw [← m.len]; exact outX_keep ox
theorem run_in {N : List Str} {t : TS} {f : FS} {ts : List Tr} {vs : List V} {P : PF} {Q : VK} (r : RTs K H ρ ts vs) (m : RM K H ρ M) (o : Out K H ρ P Q) (sim : SimS K (H, ρ) t f)
    (sp : f { nx := fun _ M' => Keep M.length P .non M', rt := Keep M.length P } (startL N ts) M) : t { nx := fun _ H' => Q .non H', rt := Q } (L2.start N vs) H := by
  have hl : RX K (H, ρ) H ρ (startL N ts) (L2.start N vs) := ⟨by
    unfold startL L2.start
    rw [← r.len]
    exact RL.start r (RL.nones _ _ (by simp)), Grow.refl⟩
  have o' : Out K H ρ (Keep M.length P) Q := by rw [← m.len]; exact out_keep o
  exact sim.run hl m sp ⟨fun L σ H' ρ' M' g _ m' p => o' .non .non H' ρ' M' g m' RT.non_ p, o', fun _ _ _ _ _ _ _ _ p => p.elim, fun _ _ _ _ _ _ _ _ p => p.elim⟩
/-- nothing is left behind: what the def has made is forgotten -/
theorem keep_all {P : PF} {v : Tr} {M' : Mem} {k : Nat} (hk : k ≤ M'.length) (b : Tr.bel k v = true) (bm : belM k (M'.take k) = true) (p : P v (M'.take k)) : Keep k P v M' := ⟨k, Nat.le_refl _, b, bm, p⟩
end
mutual
theorem RT.belT {K : PySem.W.Frag} {H : Hp} {ρ : List Addr} : ∀ {t : Tr} {v : V}, RT K H ρ t v → Tr.bel ρ.length t = true
  | .non, _, _ => rfl
  | .bl _, _, _ => rfl
  | .int _, _, _ => rfl
  | .str _, _, _ => rfl
  | .raw _, _, _ => rfl
  | .ref k, _, h => by
    unfold RT at h
    obtain ⟨a, h1, _⟩ := h
    unfold Tr.bel
    exact decide_eq_true (List.getElem?_eq_some_iff.mp h1).1
  | .tup ts, _, h => by
    unfold RT at h
    obtain ⟨a, xs, _, _, h3⟩ := h
    unfold Tr.bel
    exact RTs.belT h3
theorem RTs.belT {K : PySem.W.Frag} {H : Hp} {ρ : List Addr} : ∀ {ts : List Tr} {vs : List V}, RTs K H ρ ts vs → Tr.bels ρ.length ts = true
  | [], _, _ => rfl
  | t :: ts, _, h => by
    unfold RTs at h
    obtain ⟨x, ys, _, h3, h4⟩ := h
    unfold Tr.bels
    rw [Bool.and_eq_true]
    exact ⟨RT.belT h3, RTs.belT h4⟩
end
theorem RFs.belT {K : PySem.W.Frag} {H : Hp} {ρ : List Addr} : ∀ {fs : List (Str × Tr)} {gs : List (Str × V)}, RFs K H ρ fs gs → belF ρ.length fs = true
  | [], _, _ => rfl
  | t :: ts, _, h => by
    obtain ⟨x, ys, _, h3, h4⟩ := h
    unfold belF
    rw [Bool.and_eq_true]
    exact ⟨RT.belT h3, RFs.belT h4⟩
theorem RKs.belT {K : PySem.W.Frag} {H : Hp} {ρ : List Addr} : ∀ {fs : List (L2.Key × Tr)} {gs : List (L2.Key × V)}, RKs K H ρ fs gs → belK ρ.length fs = true
  | [], _, _ => rfl
  | t :: ts, _, h => by
    obtain ⟨x, ys, _, h3, h4⟩ := h
    unfold belK
    rw [Bool.and_eq_true]
    exact ⟨RT.belT h3, RKs.belT h4⟩
theorem belM_of {n : Nat} : ∀ {M : Mem}, (∀ (k : Nat) (o : O), M[k]? = some o → O.bel n o = true) → belM n M = true
  | [], _ => rfl
  | o :: M, h => by
    unfold belM
    rw [Bool.and_eq_true]
    exact ⟨h 0 o rfl, belM_of fun k u e => h (k + 1) u (by simpa using e)⟩
/-- a memory that is held has no number beyond itself -/
theorem RM.belM {K : PySem.W.Frag} {H : Hp} {ρ : List Addr} {M : Mem} (r : RM K H ρ M) : Fm.belM M.length M = true := belM_of fun k o e => by
  obtain ⟨a, _, h⟩ := r.at_ k o e
  rw [← r.len]
  cases o with
  | lst ts =>
    obtain ⟨xs, _, h2⟩ := h
    exact RTs.belT h2
  | ins C fs =>
    obtain ⟨dx, gs, _, _, h2⟩ := h
    exact RFs.belT h2
  | tab P q =>
    have e1 := (List.getElem?_eq_some_iff.mp e).1
    have e2 := r.len
    exact decide_eq_true (by omega)
  | scr ns k m r => rfl
  | dic ps =>
    obtain ⟨kvs, _, h2⟩ := h
    exact RKs.belT h2
end Fm
namespace Fm
open PySem PySem.Spec PyProof.Rows L2
theorem keep_app {K : PySem.W.Frag} {H : Hp} {ρ : List Addr} {M g : Mem} {P : PF} {v : Tr} (m : RM K H ρ M) (b : Tr.bel M.length v = true) (p : P v M) : Keep M.length P v (M ++ g) :=
  ⟨M.length, Nat.le_refl _, b, by rw [List.take_left]; exact m.belM, by rw [List.take_left]; exact p⟩
theorem keep_same {K : PySem.W.Frag} {H : Hp} {ρ : List Addr} {M : Mem} {P : PF} {v : Tr} (m : RM K H ρ M) (b : Tr.bel M.length v = true) (p : P v M) : Keep M.length P v M :=
  ⟨M.length, Nat.le_refl _, b, by rw [List.take_length]; exact m.belM, by rw [List.take_length]; exact p⟩
/-- all is kept -/
theorem keep_whole {M M' : Mem} {P : PF} {v : Tr} (h : M.length ≤ M'.length) (b : Tr.bel M'.length v = true) (bm : belM M'.length M' = true) (p : P v M') : Keep M.length P v M' :=
  ⟨M'.length, h, b, by rw [List.take_length]; exact bm, by rw [List.take_length]; exact p⟩
theorem belM_app {n : Nat} : ∀ {M g : Mem}, belM n (M ++ g) = (belM n M && belM n g)
  | [], g => by simp [belM]
  | o :: M, g => by simp [belM, belM_app (M := M), Bool.and_assoc]
theorem Tr.bels_mono {n m : Nat} (h : n ≤ m) : ∀ {ts : List Tr}, Tr.bels n ts = true → Tr.bels m ts = true
  | [], _ => rfl
  | t :: ts, b => by
    unfold Tr.bels at b ⊢
    rw [Bool.and_eq_true] at b ⊢
    exact ⟨Tr.bel_mono h b.1, Tr.bels_mono h b.2⟩
theorem belF_mono {n m : Nat} (h : n ≤ m) : ∀ {ts : List (Str × Tr)}, belF n ts = true → belF m ts = true
  | [], _ => rfl
  | t :: ts, b => by
    unfold belF at b ⊢
    rw [Bool.and_eq_true] at b ⊢
    exact ⟨Tr.bel_mono h b.1, belF_mono h b.2⟩
theorem belK_mono {n m : Nat} (h : n ≤ m) : ∀ {ts : List (L2.Key × Tr)}, belK n ts = true → belK m ts = true
  | [], _ => rfl
  | t :: ts, b => by
    unfold belK at b ⊢
    rw [Bool.and_eq_true] at b ⊢
    exact ⟨Tr.bel_mono h b.1, belK_mono h b.2⟩
theorem belM_mono {n m : Nat} (h : n ≤ m) : ∀ {M : Mem}, belM n M = true → belM m M = true
  | [], _ => rfl
  | .lst ts :: M, b => by
    unfold belM at b ⊢
    rw [Bool.and_eq_true] at b ⊢
    exact ⟨Tr.bels_mono h b.1, belM_mono h b.2⟩
  | .ins C fs :: M, b => by
    unfold belM at b ⊢
    rw [Bool.and_eq_true] at b ⊢
    exact ⟨belF_mono h b.1, belM_mono h b.2⟩
  | .tab P q :: M, b => by
    unfold belM at b ⊢
    rw [Bool.and_eq_true] at b ⊢
    exact ⟨decide_eq_true (Nat.le_trans (of_decide_eq_true b.1) h), belM_mono h b.2⟩
  | .scr ns k q r :: M, b => by
    unfold belM at b ⊢
    rw [Bool.and_eq_true] at b ⊢
    exact ⟨rfl, belM_mono h b.2⟩
  | .dic ps :: M, b => by
    unfold belM at b ⊢
    rw [Bool.and_eq_true] at b ⊢
    exact ⟨belK_mono h b.1, belM_mono h b.2⟩
theorem bels_strs {n : Nat} : ∀ ys : List Str, Tr.bels n (ys.map Tr.str) = true
  | [] => rfl
  | y :: ys => by
    rw [List.map_cons]
    unfold Tr.bels
    rw [Bool.and_eq_true]
    exact ⟨rfl, bels_strs ys⟩
theorem bels_ints {n : Nat} : ∀ ys : List Int, Tr.bels n (ys.map Tr.int) = true
  | [] => rfl
  | y :: ys => by
    rw [List.map_cons]
    unfold Tr.bels
    rw [Bool.and_eq_true]
    exact ⟨rfl, bels_ints ys⟩
theorem lstAt_of {M : Mem} {n : Nat} {ts : List Tr} (h : M[n]? = some (.lst ts)) : lstAt M (.ref n) = some ts := by simp only [lstAt, h]
theorem seqAt_of {M : Mem} {n : Nat} {ts : List Tr} (h : M[n]? = some (.lst ts)) : seqAt M (.ref n) = some ts := lstAt_of h
theorem refAt_of {M : Mem} {n : Nat} {ts : List Tr} (h : M[n]? = some (.lst ts)) : refAt M (.ref n) = some (n, ts) := by simp only [refAt, h]
/-- what stands behind M -/
theorem at_0 {M g : Mem} {o : O} : (M ++ o :: g)[M.length]? = some o := by rw [List.getElem?_append_right (Nat.le_refl _), Nat.sub_self]; rfl
theorem at_k {M g : Mem} {k : Nat} : (M ++ g)[M.length + k]? = g[k]? := by rw [List.getElem?_append_right (Nat.le_add_right _ _), Nat.add_sub_cancel_left]
theorem set_k {M g : Mem} {k : Nat} {o : O} : (M ++ g).set (M.length + k) o = M ++ g.set k o := by rw [List.set_append_right _ _ (Nat.le_add_right _ _), Nat.add_sub_cancel_left]
theorem set_0 {M g : Mem} {o u : O} : (M ++ u :: g).set M.length o = M ++ o :: g := by rw [List.set_append_right _ _ (Nat.le_refl _), Nat.sub_self]; rfl
end Fm
namespace Fm
open PySem PySem.Spec PyProof.Rows L2
def lstO : Option O → Option (List Tr)
  | some (.lst ts) => some ts
  | _ => none
theorem lstO_lst (ts : List Tr) : lstO (some (.lst ts)) = some ts := rfl
theorem lstAt_ref (M : Mem) (n : Nat) : lstAt M (.ref n) = lstO (M[n]?) := by
  simp only [lstAt]
  cases M[n]? with
  | none => rfl
  | some o => cases o <;> rfl
theorem seqAt_ref (M : Mem) (n : Nat) : seqAt M (.ref n) = lstO (M[n]?) := lstAt_ref M n
theorem seqAt_tup (M : Mem) (ts : List Tr) : seqAt M (.tup ts) = some ts := rfl
theorem refAt_ref (M : Mem) (n : Nat) : refAt M (.ref n) = (lstO (M[n]?)).map fun ts => (n, ts) := by
  simp only [refAt]
  cases M[n]? with
  | none => rfl
  | some o => cases o <;> rfl
theorem app_assoc2 (M : Mem) (a b : List O) : (M ++ a) ++ b = M ++ (a ++ b) := List.append_assoc ..
theorem len_app1 (M : Mem) (g : List O) : List.length (M ++ g) = List.length M + List.length g := List.length_append
theorem at_kk {M g : Mem} {k : Nat} : (M ++ g)[List.length M + k]? = g[k]? := at_k
theorem at_00 {M g : Mem} : (M ++ g)[List.length M]? = g[0]? := by
  have := at_k (M := M) (g := g) (k := 0)
  simpa using this
theorem set_00 {M g : Mem} {o : O} : (M ++ g).set (List.length M) o = M ++ g.set 0 o := by
  have := set_k (M := M) (g := g) (k := 0) (o := o)
  simpa using this
theorem at_left {M g : Mem} {n : Nat} {o : O} (h : M[n]? = some o) : (M ++ g)[n]? = some o := by
  rw [List.getElem?_append_left (List.getElem?_eq_some_iff.mp h).1]; exact h
theorem int_cast_inj {a b : Nat} : ((a : Int) = (b : Int)) = (a = b) := propext Int.ofNat_inj
end Fm
namespace Fm
open PySem PySem.Spec PyProof.Rows L2
theorem asg_len (env : Env) : ∀ ts : List Expr, (assignEach ts env).length = ts.length
  | [] => by simp [assignEach]
  | t :: ts => by cases t <;> simp [assignEach, asg_len env ts]
theorem belM_ext {M g : Mem} (hM : belM M.length M = true) (hg : belM (M.length + g.length) g = true) : belM (List.length M + List.length g) (M ++ g) = true := by
  rw [belM_app, Bool.and_eq_true]
  exact ⟨belM_mono (Nat.le_add_right _ _) hM, hg⟩
/-- nothing is forgotten -/
theorem forget_not {k : Nat} {J : Loc → Mem → Prop} {L : Loc} {M g : Mem} (hk : k ≤ List.length M + List.length g) (j : J L (M ++ g)) (bl : belL (List.length M + List.length g) L = true) (hM : belM M.length M = true) (hg : belM (M.length + g.length) g = true) : Forget k J L (M ++ g) :=
  ⟨List.length M + List.length g, L, hk, LocLe.refl L, bl, by rw [List.take_of_length_le (by rw [List.length_append]; exact Nat.le_refl _)]; exact belM_ext hM hg, by rw [List.take_of_length_le (by rw [List.length_append]; exact Nat.le_refl _)]; exact j⟩
/-- what lies behind M ++ g is forgotten -/
theorem forget_to {k : Nat} {J : Loc → Mem → Prop} {L L' : Loc} {M g h : Mem} (hk : k ≤ List.length M + List.length g) (le : LocLe L' L) (j : J L' (M ++ g)) (bl : belL (List.length M + List.length g) L' = true) (hM : belM M.length M = true) (hg : belM (M.length + g.length) g = true) : Forget k J L (M ++ (g ++ h)) :=
  ⟨List.length M + List.length g, L', hk, le, bl, by rw [← List.append_assoc, ← List.length_append, List.take_left, List.length_append]; exact belM_ext hM hg, by rw [← List.append_assoc, ← List.length_append, List.take_left]; exact j⟩
theorem zip_strs {ws ps : List Str} {i : Nat} {t : Tr} (e : (zipT (ws.map Tr.str) (ps.map Tr.str))[i]? = some t) : ∃ w p, ws[i]? = some w ∧ ps[i]? = some p ∧ t = .tup [.str w, .str p] := by
  obtain ⟨a, b, h1, h2, rfl⟩ := zipT_get e
  rw [List.getElem?_map] at h1 h2
  cases e1 : ws[i]? with
  | none => rw [e1] at h1; cases h1
  | some w =>
    cases e2 : ps[i]? with
    | none => rw [e2] at h2; cases h2
    | some p =>
      rw [e1] at h1
      rw [e2] at h2
      cases h1
      cases h2
      exact ⟨w, p, rfl, rfl, rfl⟩
theorem drop_at {α : Type} {l : List α} {i : Nat} {x : α} (h : l[i]? = some x) : l.drop i = x :: l.drop (i + 1) := by
  obtain ⟨h1, h2⟩ := List.getElem?_eq_some_iff.mp h
  rw [List.drop_eq_getElem_cons h1, h2]
end Fm
namespace Fm
open PySem PySem.Spec PyProof.Rows L2
theorem tupOf_tup (ts : List Tr) : tupOf (.tup ts) = some ts := rfl
theorem eqS_ii (i j : Int) : eqS (.int i) (.int j) = some (decide (i = j)) := rfl
theorem eqS_ss (i j : Str) : eqS (.str i) (.str j) = some (decide (i = j)) := rfl
theorem eqS_bb (i j : Bool) : eqS (.bl i) (.bl j) = some (decide (i = j)) := rfl
theorem eqS_ni (i : Int) : eqS .non (.int i) = some false := rfl
theorem eqS_in (i : Int) : eqS (.int i) .non = some false := rfl
theorem eqS_nn : eqS .non .non = some true := rfl
theorem isStr_s (z : Str) : isStr (.str z) = true := rfl
theorem isN_n : isN .non = true := rfl
theorem isN_i (i : Int) : isN (.int i) = false := rfl
theorem isN_b (i : Bool) : isN (.bl i) = false := rfl
theorem isN_s (i : Str) : isN (.str i) = false := rfl
theorem isN_t (i : List Tr) : isN (.tup i) = false := rfl
theorem isN_r (i : Nat) : isN (.ref i) = false := rfl
theorem noRaw_n : noRaw .non = true := rfl
theorem noRaw_i (i : Int) : noRaw (.int i) = true := rfl
theorem noRaw_b (i : Bool) : noRaw (.bl i) = true := rfl
theorem noRaw_s (i : Str) : noRaw (.str i) = true := rfl
theorem noRaw_t (i : List Tr) : noRaw (.tup i) = true := rfl
theorem noRaw_r (i : Nat) : noRaw (.ref i) = true := rfl
end Fm

set_option Elab.async false
set_option linter.all false
set_option maxRecDepth 100000
set_option maxHeartbeats 4000000
namespace Fm
open PySem PySem.Spec PyProof.Rows L2
/-! ### objects -/
def insAt (M : Mem) : Tr → Option (Nat × Addr × List (Str × Tr))
  | .ref n => match M[n]? with
    | some (.ins C fs) => some (n, C, fs)
    | _ => none
  | _ => none
def insO : Option O → Option (Addr × List (Str × Tr))
  | some (.ins C fs) => some (C, fs)
  | _ => none
theorem insO_ins (C : Addr) (fs : List (Str × Tr)) : insO (some (.ins C fs)) = some (C, fs) := rfl
theorem insAt_ref (M : Mem) (n : Nat) : insAt M (.ref n) = (insO (M[n]?)).map fun p => (n, p.1, p.2) := by
  simp only [insAt]
  cases M[n]? with
  | none => rfl
  | some o => cases o <;> rfl
def putT (f : Str) (v : Tr) : List (Str × Tr) → List (Str × Tr)
  | [] => [(f, v)]
  | (g, x) :: r => if g = f then (g, v) :: r else (g, x) :: putT f v r
def fFld (K : PySem.W.Frag) (fe : FE) (f : Str) : FE := fun L M P => fe L M fun x M1 => ∃ n C fs v, insAt M1 x = some (n, C, fs) ∧ Cls K C ∧ NoAttr K C f ∧ fs.lookup f = some v ∧ P v M1
def fCon (K : PySem.W.Frag) (fe : FE) (f : Str) : FE := fun L M P => fe L M fun x M1 => ∃ n C fs v i u, insAt M1 x = some (n, C, fs) ∧ Cls K C ∧ Con K C f (.int i) u ∧ fs.lookup f = none ∧ v = Tr.int i ∧ P v M1
def fSetFld (K : PySem.W.Frag) (fa fv : FE) (f : Str) : FS := fun D L M => fv L M fun y M1 => fa L M1 fun x M2 => ∃ n C fs, insAt M2 x = some (n, C, fs) ∧ Cls K C ∧ NoAttr K C f ∧ fs.length < 1000 ∧ D.nx L (M2.set n (.ins C (putT f y fs)))
def fMake (C : Addr) (fsp : FSp) (PX : PXF) (fa : FA) : FE := fun L M P => fa L M fun ts M1 => fsp (.ref M1.length :: ts) (M1 ++ [.ins C []]) (fun v M2 => v = .non ∧ P (.ref M1.length) M2) PX
def fProp (C : Addr) (fsp : FSp) (PX : PXF) (fe : FE) : FE := fun L M P => fe L M fun x M1 => ∃ n fs, insAt M1 x = some (n, C, fs) ∧ fsp [x] M1 P PX
def fMeth (C : Addr) (m : Str) (fsp : FSp) (PX : PXF) (fe : FE) (fa : FA) : FE := fun L M P => fe L M fun x M1 => ∃ n fs, insAt M1 x = some (n, C, fs) ∧ fs.lookup m = none ∧ fa L M1 fun ts M2 => fsp (x :: ts) M2 P PX
def fCMeth (C : Addr) (fsp : FSp) (PX : PXF) (fe : FE) (fa : FA) : FE := fun L M P => fe L M fun x M1 => x = .raw (.ref C) ∧ fa L M1 fun ts M2 => fsp (.raw (.ref C) :: ts) M2 P PX
section
variable {K : PySem.W.Frag} {B : Bs} {H H' : Hp} {ρ : List Addr} {M : Mem}
theorem insAt_ok {x : Tr} {xv : V} {n : Nat} {C : Addr} {fs : List (Str × Tr)} (hm : RM K H ρ M) (rx : RT K H ρ x xv) (e : insAt M x = some (n, C, fs)) : ∃ a dx gs, x = .ref n ∧ ρ[n]? = some a ∧ M[n]? = some (.ins C fs) ∧ xv = .ref a ∧ H a = some (.ins C dx gs) ∧ H dx = some (.own a) ∧ RFs K H ρ fs gs := by
  cases x with
  | ref m =>
    simp only [insAt] at e
    split at e
    · rename_i C' us hu
      cases e
      obtain ⟨a, h1, dx, gs, h2, h3, h4⟩ := hm.at_ n _ hu
      obtain ⟨b, h5, h6⟩ := rx.ref_inv
      rw [h1] at h5
      cases h5
      exact ⟨a, dx, gs, rfl, h1, hu, h6, h2, h3, h4⟩
    · cases e
  | _ => cases e
theorem RFs.look : ∀ {fs : List (Str × Tr)} {gs : List (Str × V)} {f : Str} {t : Tr}, RFs K H ρ fs gs → fs.lookup f = some t → ∃ v, gs.lookup f = some v ∧ RT K H ρ t v
  | [], _, _, _, _, e => by cases e
  | p :: fs, _, f, t, h, e => by
    obtain ⟨x, hs, rfl, h1, h2⟩ := h
    rw [List.lookup_cons] at e ⊢
    cases hf : (f == p.1) with
    | true =>
      simp only [hf] at e ⊢
      cases e
      exact ⟨x, rfl, h1⟩
    | false =>
      simp only [hf] at e ⊢
      exact RFs.look h2 e
theorem RFs.lookN : ∀ {fs : List (Str × Tr)} {gs : List (Str × V)} {f : Str}, RFs K H ρ fs gs → fs.lookup f = none → gs.lookup f = none
  | [], _, _, h, _ => by
    have h : _ = ([] : List (Str × V)) := h
    subst h
    rfl
  | p :: fs, _, f, h, e => by
    obtain ⟨x, hs, rfl, h1, h2⟩ := h
    rw [List.lookup_cons] at e ⊢
    cases hf : (f == p.1) with
    | true =>
      simp only [hf] at e
      cases e
    | false =>
      simp only [hf] at e ⊢
      exact RFs.lookN h2 e
theorem RFs.put {f : Str} {t : Tr} {v : V} (r : RT K H ρ t v) : ∀ {fs : List (Str × Tr)} {gs : List (Str × V)}, RFs K H ρ fs gs → RFs K H ρ (putT f t fs) (putF f v gs)
  | [], _, h => by
    have h : _ = ([] : List (Str × V)) := h
    subst h
    exact ⟨v, [], rfl, r, rfl⟩
  | p :: fs, _, h => by
    obtain ⟨x, hs, rfl, h1, h2⟩ := h
    obtain ⟨g, u⟩ := p
    unfold putT putF
    by_cases hf : g = f
    · rw [if_pos hf, if_pos hf]
      exact ⟨v, hs, rfl, r, h2⟩
    · rw [if_neg hf, if_neg hf]
      exact ⟨x, _, rfl, h1, RFs.put r h2⟩
theorem RFs.len : ∀ {fs : List (Str × Tr)} {gs : List (Str × V)}, RFs K H ρ fs gs → gs.length = fs.length
  | [], _, h => by
    have h : _ = ([] : List (Str × V)) := h
    subst h
    rfl
  | p :: fs, _, h => by
    obtain ⟨x, hs, rfl, h1, h2⟩ := h
    simp [RFs.len h2]
variable {te ta tv : TE} {fe fa fv : FE} {as : TA} {fs : FA} {sp : Sp} {fsp : FSp} {E : XK} {PX : PXF} {C : Addr}
theorem sim_fld {f : Str} (a : SimE K B te fe) : SimE K B (tFld K te f) (fFld K fe f) := ⟨fun hl hm h o => a.run hl hm h fun x xv H1 ρ1 M1 g1 m1 rx ⟨n, C, fs, v, e, c, na, lk, p⟩ => by
  obtain ⟨b, dx, gs, rfl, h1, h2, rfl, h3, h4, h5⟩ := insAt_ok m1 rx e
  obtain ⟨w, k1, k2⟩ := h5.look lk
  exact ⟨b, C, dx, gs, w, rfl, h3, c, na, k1, o _ _ _ _ _ g1 m1 k2 p⟩⟩
theorem sim_con {f : Str} (a : SimE K B te fe) : SimE K B (tCon K te f) (fCon K fe f) := ⟨fun hl hm h o => a.run hl hm h fun x xv H1 ρ1 M1 g1 m1 rx ⟨n, C, fs, v, i, u, e, c, co, lk, ev, p⟩ => by
  subst ev
  obtain ⟨b, dx, gs, rfl, h1, h2, rfl, h3, h4, h5⟩ := insAt_ok m1 rx e
  exact ⟨b, C, dx, gs, .int i, u, rfl, h3, c, co, h5.lookN lk, o _ _ _ _ _ g1 m1 RT.int_ p⟩⟩
theorem sim_setFld {f : Str} (a : SimE K B ta fa) (b : SimE K B tv fv) : SimS K B (sFld K ta tv f) (fSetFld K fa fv f) := ⟨fun hl hm h e => b.run hl hm h fun y yv H1 ρ1 M1 g1 m1 ry h1 => a.run (hl.mono g1) m1 h1 fun x xv H2 ρ2 M2 g2 m2 rx ⟨n, C, fs, ei, c, na, z, p⟩ => by
  obtain ⟨b, dx, gs, rfl, h1, h2, rfl, h3, h4, h5⟩ := insAt_ok m2 rx ei
  have g3 := Grow.wi (hs := putF f yv gs) m2 h3 (List.mem_of_getElem? h1)
  exact ⟨b, C, dx, gs, rfl, h3, c, na, by rw [h5.len]; exact z, e.nx _ _ _ _ _ ((g1.trans g2).trans g3) (hl.mono ((g1.trans g2).trans g3)) (m2.wi h3 h4 h1 (RFs.put (ry.mono g2) h5)) p⟩⟩
theorem RM.ins {x dx : Addr} (r : RM K H ρ M) (hx : H x = none) (hd : H dx = none) (n : dx ≠ x) : Grow K H ρ (upd (upd H dx (.own x)) x (.ins C dx [])) (ρ ++ [x]) ∧ RM K (upd (upd H dx (.own x)) x (.ins C dx [])) (ρ ++ [x]) (M ++ [.ins C []]) := by
  have g1 : Grow K H ρ (upd H dx (.own x)) ρ := Grow.laid hd
  have m1 : RM K (upd H dx (.own x)) ρ M := r.laid hd
  have hx1 : upd H dx (.own x) x = none := by rw [upd_ne (Ne.symm n)]; exact hx
  have g2 := Grow.list (o := .ins C dx []) m1 hx1
  have lt := r.len
  refine ⟨g1.trans g2, by simp [lt], fun k o e => ?_, ?_⟩
  · by_cases hn : k < M.length
    · rw [List.getElem?_append_left hn] at e
      obtain ⟨a, h1, h2⟩ := m1.at_ k o e
      refine ⟨a, by rw [List.getElem?_append_left (by rw [lt]; exact hn)]; exact h1, h2.mono g2 (upd_ne fun e => m1.fresh hx1 (e ▸ List.mem_of_getElem? h1)) fun d q => by rw [upd_ne (ne_of_none q hx1)]; exact q⟩
    · rw [List.getElem?_append_right (by omega)] at e
      match hz : k - M.length, e with
      | 0, e =>
        cases e
        refine ⟨x, by rw [List.getElem?_append_right (by omega), lt, hz]; rfl, dx, [], upd_same, ?_, rfl⟩
        rw [upd_ne n, upd_same]
      | j + 1, e => simp at e
  · rw [List.nodup_append]
    exact ⟨r.nd, by simp, fun a ha b hb => by rw [List.mem_singleton.mp hb]; exact fun e => r.fresh hx (e ▸ ha)⟩
theorem sim_makeX (hE : OutX K B.1 B.2 PX E) (s : SimSp K sp fsp) (a : SimA K B as fs) : SimE K B (tMake C sp [] E as) (fMake C fsp PX fs) :=
  ⟨fun hl hm h o => a.run hl hm h fun ts xs H1 ρ1 M1 g1 m1 rx h1 => fun x dx hx hd n => by
    obtain ⟨g2, m2⟩ := m1.ins (C := C) hx hd n
    have rself : RT K (upd (upd H1 dx (.own x)) x (.ins C dx [])) (ρ1 ++ [x]) (.ref M1.length) (.ref x) := by unfold RT; exact ⟨x, m1.ref, rfl⟩
    refine s.run (P := fun v M2 => v = .non ∧ _) (RTs.cons rself (by rw [List.append_nil]; exact rx.mono g2)) m2 h1 (fun v xv H3 ρ3 M3 g3 m3 rv ⟨ev, p⟩ => ?_) (hE.step ((hl.gr.trans g1).trans g2))
    subst ev
    exact ⟨rv.non_inv, o _ _ _ _ _ ((g1.trans g2).trans g3) m3 (rself.mono g3) p⟩⟩
theorem sim_make (s : SimSp K sp fsp) (a : SimA K B as fs) : SimE K B (tMake C sp [] E as) (fMake C fsp noX fs) := sim_makeX outX_no s a
theorem sim_prop (s : SimSp K sp fsp) (a : SimE K B te fe) : SimE K B (tProp C sp [] E te) (fProp C fsp noX fe) := ⟨fun hl hm h o => a.run hl hm h fun x xv H1 ρ1 M1 g1 m1 rx ⟨n, fs, e, p⟩ => by
  obtain ⟨b, dx, gs, rfl, h1, h2, rfl, h3, h4, h5⟩ := insAt_ok m1 rx e
  exact ⟨b, dx, gs, rfl, h3, s.run (RTs.cons rx RTs.nil) m1 p (o.step g1) outX_no⟩⟩
theorem sim_methX {m : Str} (hE : OutX K B.1 B.2 PX E) (s : SimSp K sp fsp) (a : SimE K B te fe) (b : SimA K B as fs) : SimE K B (tMeth C m sp [] E te as) (fMeth C m fsp PX fe fs) := ⟨fun hl hm h o => a.run hl hm h fun x xv H1 ρ1 M1 g1 m1 rx ⟨n, fs, e, lk, p⟩ => by
  obtain ⟨b', dx, gs, rfl, h1, h2, rfl, h3, h4, h5⟩ := insAt_ok m1 rx e
  exact ⟨b', dx, gs, rfl, h3, h5.lookN lk, b.run (hl.mono g1) m1 p fun ts xs H2 ρ2 M2 g2 m2 rts p2 => s.run (RTs.cons (rx.mono g2) (by rw [List.append_nil]; exact rts)) m2 p2 (o.step (g1.trans g2)) (hE.step ((hl.gr.trans g1).trans g2))⟩⟩
theorem sim_meth {m : Str} (s : SimSp K sp fsp) (a : SimE K B te fe) (b : SimA K B as fs) : SimE K B (tMeth C m sp [] E te as) (fMeth C m fsp noX fe fs) := sim_methX outX_no s a b
theorem sim_cmethX (hE : OutX K B.1 B.2 PX E) (s : SimSp K sp fsp) (a : SimE K B te fe) (b : SimA K B as fs) : SimE K B (ClX.tCMeth C sp E te as) (fCMeth C fsp PX fe fs) := ⟨fun hl hm h o => a.run hl hm h fun x xv H1 ρ1 M1 g1 m1 rx ⟨e, p⟩ => by
  subst e
  exact ⟨rx.raw_inv, b.run (hl.mono g1) m1 p fun ts xs H2 ρ2 M2 g2 m2 rts p2 => s.run (RTs.cons (by unfold RT; rfl) rts) m2 p2 (o.step (g1.trans g2)) (hE.step ((hl.gr.trans g1).trans g2))⟩⟩
theorem sim_cmeth (s : SimSp K sp fsp) (a : SimE K B te fe) (b : SimA K B as fs) : SimE K B (ClX.tCMeth C sp E te as) (fCMeth C fsp noX fe fs) := sim_cmethX outX_no s a b
end
/-! ### isinstance -/
def tyN (M : Mem) : Tr → Option String
  | .non => some "NoneType"
  | .bl _ => some "bool"
  | .int _ => some "int"
  | .str _ => some "str"
  | .tup _ => some "tuple"
  | t => match lstAt M t with
    | some _ => some "list"
    | none => none
def fIsi : FC := fun xs M P => ∃ x b a r, xs = [x, .raw (.ty b)] ∧ tyN M x = some a ∧ kitB a b = some r ∧ P (.bl r) M
def fIsiT (b c : String) (fe : FE) : FE := fun L M P => fe L M fun x M1 => ∃ a r s, tyN M1 x = some a ∧ kitB a b = some r ∧ kitB a c = some s ∧ P (.bl (r || s)) M1
section
variable {K : PySem.W.Frag} {B : Bs} {H : Hp} {ρ : List Addr} {M : Mem} {te : TE} {fe : FE}
theorem sq_ty {a : Addr} {xs : List V} (h : SqT K H a xs) : TyX K H (.ref a) (.type "tuple") := by
  rcases h with (h | ⟨o, h⟩) | ⟨o, its, n, h, c, _⟩
  · exact .base (.tup h)
  · exact .fTuple h
  · exact .kTuple h c
theorem ty_ok {x : Tr} {xv : V} {a : String} (hm : RM K H ρ M) (rx : RT K H ρ x xv) (e : tyN M x = some a) : TyX K H xv (.type a) := by
  cases x with
  | non => cases e; rw [rx.non_inv]; exact .base .non
  | bl b => cases e; rw [rx.bl_inv]; exact .base (.bl b)
  | int b => cases e; rw [rx.int_inv]; exact .base (.int b)
  | str b => cases e; rw [rx.str_inv]; exact .base (.str b)
  | tup ts =>
    cases e
    obtain ⟨p, xs, rfl, h2, _⟩ := rx.tup_inv
    exact sq_ty h2
  | ref n =>
    simp only [tyN] at e
    split at e
    · rename_i ts hts
      cases e
      obtain ⟨n, p, xs, _, _, _, rfl, h3, _⟩ := lstAt_ok hm rx hts
      exact .base (.lst h3)
    · cases e
  | raw v => simp [tyN, lstAt] at e
theorem kitA2 {a b c : String} {r s : Bool} (h1 : kitB a b = some r) (h2 : kitB a c = some s) : PySem.W.kitAny K (.type a) [.type b, .type c] = some (r || s) := by
  refine kitAny_cons (kit_ty h1) (fun e => ?_) fun e => by rw [e] <;> rfl
  subst e
  refine kitAny_cons (kit_ty h2) (fun e => ?_) fun e => by rw [e] <;> rfl
  subst e
  exact kitAny_nil
theorem c_isi : SimC K (rIsi K) fIsi := ⟨fun hm rx ⟨x, b, a, r, e, ty, k, p⟩ o => by
  subst e
  obtain ⟨xv, cv, rfl, r1, r2⟩ := rx.two
  rw [r2.raw_inv]
  exact ⟨xv, .ty b, .type a, .type b, r, rfl, .ty b, ty_ok hm r1 ty, kit_ty k, o _ _ _ _ _ Grow.refl hm RT.bl_ p⟩⟩
theorem sim_isiT {b c : String} (s : SimE K B te fe) : SimE K B (tCB (rIsiT K) (tCons te (tCons (tTup (tCons (tC (.ty b)) (tCons (tC (.ty c)) tNil))) tNil))) (fIsiT b c fe) := ⟨fun hl hm h o => s.run hl hm h fun x xv H1 ρ1 M1 g1 m1 rx ⟨a, r, s, ty, k1, k2, p⟩ => by
  refine ⟨by show 2 ≤ sizeLine; rw [sizeLine_eq]; decide, fun q hq => ?_⟩
  have g2 := Grow.laid (K := K) (ρ := ρ1) (o := .tup [.ty b, .ty c]) hq
  exact ⟨xv, q, [.ty b, .ty c], .type a, [.type b, .type c], r || s, rfl, upd_same, .cons (.ty b) (.cons (.ty c) .nil), ty_ok (m1.laid hq) (rx.mono g2) ty, kitA2 k1 k2, o _ _ _ _ _ (g1.trans g2) (m1.laid hq) RT.bl_ p⟩⟩
end
/-! ### == of data -/
mutual
inductive Da (M : Mem) : Tr → PyData → Prop
  | non : Da M .non .none
  | bl (b : Bool) : Da M (.bl b) (.bool b)
  | int (i : Int) : Da M (.int i) (.int i)
  | str (x : Str) : Da M (.str x) (.str x)
  | lst {t : Tr} {ts : List Tr} {ds : List PyData} : lstAt M t = some ts → DaAll M ts ds → Da M t (.list ds)
  | tup {ts : List Tr} {ds : List PyData} : DaAll M ts ds → Da M (.tup ts) (.tuple ds)
inductive DaAll (M : Mem) : List Tr → List PyData → Prop
  | nil : DaAll M [] []
  | cons {v : Tr} {vs : List Tr} {d : PyData} {ds : List PyData} : Da M v d → DaAll M vs ds → DaAll M (v :: vs) (d :: ds)
end
section
variable {K : PySem.W.Frag} {B : Bs} {H : Hp} {ρ : List Addr} {M : Mem}
mutual
theorem Da.dp (hm : RM K H ρ M) : ∀ {t : Tr} {d : PyData} {v : V}, Da M t d → RT K H ρ t v → Dp K H v d
  | _, _, _, .non, r => by rw [r.non_inv]; exact .non
  | _, _, _, .bl b, r => by rw [r.bl_inv]; exact .bl b
  | _, _, _, .int i, r => by rw [r.int_inv]; exact .int i
  | _, _, _, .str x, r => by rw [r.str_inv]; exact .str x
  | _, _, _, .lst e a, r => by
    obtain ⟨n, p, xs, _, _, _, rfl, h3, h4⟩ := lstAt_ok hm r e
    exact .lst (.inl (.inl h3)) (DaAll.dp hm a h4)
  | _, _, _, .tup a, r => by
    obtain ⟨p, xs, rfl, h2, h3⟩ := r.tup_inv
    exact .tup h2 (DaAll.dp hm a h3)
theorem DaAll.dp (hm : RM K H ρ M) : ∀ {ts : List Tr} {ds : List PyData} {vs : List V}, DaAll M ts ds → RTs K H ρ ts vs → DpAll K H vs ds
  | _, _, _, .nil, r => by unfold RTs at r; rw [r]; exact .nil
  | _, _, _, .cons a b, r => by
    unfold RTs at r
    obtain ⟨x, ys, rfl, h1, h2⟩ := r
    exact .cons (Da.dp hm a h1) (DaAll.dp hm b h2)
end
def fEqD : F2 := fun x y M P => ∃ d e, Da M x d ∧ Da M y e ∧ SeqAt.shaped d = true ∧ SeqAt.shaped e = true ∧ P (.bl (PyData.eqv d e)) M
def fNeD : F2 := fun x y M P => ∃ d e, Da M x d ∧ Da M y e ∧ SeqAt.shaped d = true ∧ SeqAt.shaped e = true ∧ P (.bl (!PyData.eqv d e)) M
theorem s_eqD : Sim2 K (rEqD K) fEqD := ⟨fun hm rx ry ⟨d, e, h1, h2, s1, s2, p⟩ o => ⟨d, e, h1.dp hm rx, h2.dp hm ry, s1, s2, o _ _ _ _ _ Grow.refl hm RT.bl_ p⟩⟩
theorem s_neD : Sim2 K (rNeD K) fNeD := ⟨fun hm rx ry ⟨d, e, h1, h2, s1, s2, p⟩ o => ⟨d, e, h1.dp hm rx, h2.dp hm ry, s1, s2, o _ _ _ _ _ Grow.refl hm RT.bl_ p⟩⟩
end
end Fm

set_option Elab.async false
set_option linter.all false
set_option maxRecDepth 100000
set_option maxHeartbeats 4000000
namespace Fm
open PySem PySem.Spec PyProof.Rows L2
/-! ### comprehensions whose elements leave nothing behind -/
section
variable {L : Loc} {M : Mem} {P : PF} {fg : FG} {ft : FT} {fe : FE} {vs : List Nat}
/-- one turn: what the element is (none: passed by) -/
def LcStep (F : Tr → Option Tr) (fg : FG) (ft : FT) (fe : FE) (vs : List Nat) (L : Loc) (M : Mem) (t : Tr) : Prop :=
  ∀ (R : Tr → Mem → Prop) (N : Mem → Prop), (∀ y, F t = some y → R y M ∧ ∀ g, R y (M ++ g)) → (F t = none → N M ∧ ∀ g, N (M ++ g)) →
    fg t (wipeF L vs) M fun L3 M3 => ft L3 M3 fun b M4 => if b = true then fe L3 M4 fun y M5 => R y M5 else N M4
theorem bels_all {n : Nat} : ∀ {ts : List Tr}, (∀ t ∈ ts, Tr.bel n t = true) → Tr.bels n ts = true
  | [], _ => rfl
  | t :: ts, h => by
    unfold Tr.bels
    rw [Bool.and_eq_true]
    exact ⟨h t List.mem_cons_self, bels_all fun u hu => h u (List.mem_cons_of_mem _ hu)⟩
theorem lc_core {it : FIt} (F : Tr → Option Tr) (hok : it.ok M) (hM : belM M.length M = true) (hn : it.items.length ≤ sizeLine) (hF : ∀ t ∈ it.items, ∀ y, F t = some y → Tr.bel M.length y = true)
    (step : ∀ t ∈ it.items, LcStep F fg ft fe vs L M t) (fin : P (.ref M.length) (M ++ [.lst (it.items.filterMap F)])) :
    ∃ I : Nat → List Tr → Mem → Prop, I 0 [] M ∧ (∀ i acc M2, i ≤ it.items.length → I i acc M2 → it.ok M2) ∧
  (∀ (i : Nat) (t : Tr) acc M2, it.items[i]? = some t → I i acc M2 → fg t (wipeF L vs) M2 fun L3 M3 => ft L3 M3 fun b M4 => if b = true then fe L3 M4 fun y M5 => acc.length < sizeLine ∧ ForgetA M.length (I (i + 1)) (acc ++ [y]) M5 else ForgetA M.length (I (i + 1)) acc M4) ∧
  (∀ acc M2, I it.items.length acc M2 → P (.ref M2.length) (M2 ++ [.lst acc])) := by
  have hb : ∀ i, Tr.bels M.length ((it.items.take i).filterMap F) = true := fun i => bels_all fun u hu => by
    obtain ⟨t, ht, e⟩ := List.mem_filterMap.mp hu
    exact hF t (List.mem_of_mem_take ht) u e
  refine ⟨fun i acc M2 => M2 = M ∧ acc = (it.items.take i).filterMap F, ⟨rfl, rfl⟩, fun i acc M2 _ ⟨e, _⟩ => e ▸ hok, ?_, ?_⟩
  · rintro i t acc M2 ht ⟨rfl, rfl⟩
    have hi := (List.getElem?_eq_some_iff.mp ht).1
    have snoc : (it.items.take (i + 1)).filterMap F = (it.items.take i).filterMap F ++ (F t).toList := by
      rw [List.take_succ, ht, List.filterMap_append]
      congr 1
    have hl : ((it.items.take i).filterMap F).length < sizeLine := by
      have h1 := List.length_filterMap_le F (it.items.take i)
      rw [List.length_take] at h1
      omega
    have hb1 := hb (i + 1)
    refine step t (List.mem_of_getElem? ht) _ _ (fun y hy => ?_) fun hy => ?_
    · have key : ∀ g, ForgetA M2.length (fun acc M3 => M3 = M2 ∧ acc = (it.items.take (i + 1)).filterMap F) ((it.items.take i).filterMap F ++ [y]) (M2 ++ g) := fun g =>
        ⟨M2.length, Nat.le_refl _, by rw [snoc, hy] at hb1; exact hb1, by rw [List.take_left]; exact hM, by rw [List.take_left], by rw [snoc, hy]; rfl⟩
      exact ⟨⟨hl, by have := key []; rwa [List.append_nil] at this⟩, fun g => ⟨hl, key g⟩⟩
    · have key : ∀ g, ForgetA M2.length (fun acc M3 => M3 = M2 ∧ acc = (it.items.take (i + 1)).filterMap F) ((it.items.take i).filterMap F) (M2 ++ g) := fun g =>
        ⟨M2.length, Nat.le_refl _, hb i, by rw [List.take_left]; exact hM, by rw [List.take_left], by rw [snoc, hy]; simp⟩
      exact ⟨by have := key []; rwa [List.append_nil] at this, key⟩
  · rintro acc M2 ⟨rfl, rfl⟩
    rw [List.take_length]
    exact fin
theorem lc_T {i : Nat} {ts : List Tr} (F : Tr → Option Tr) (hv : L[i]? = some (some (.tup ts))) (hM : belM M.length M = true) (hn : ts.length ≤ sizeLine) (hF : ∀ t ∈ ts, ∀ y, F t = some y → Tr.bel M.length y = true)
    (step : ∀ t ∈ ts, LcStep F fg ft fe vs L M t) (fin : P (.ref M.length) (M ++ [.lst (ts.filterMap F)])) : fLc (fIT (fVar i)) fg ft fe vs L M P :=
  ⟨.tup ts, hv, ts, rfl, lc_core F trivial hM hn hF step fin⟩
theorem lc_S {i : Nat} {z : Str} (F : Tr → Option Tr) (hv : L[i]? = some (some (.str z))) (hM : belM M.length M = true) (hn : z.length ≤ sizeLine) (hF : ∀ t ∈ chrsT z, ∀ y, F t = some y → Tr.bel M.length y = true)
    (step : ∀ t ∈ chrsT z, LcStep F fg ft fe vs L M t) (fin : P (.ref M.length) (M ++ [.lst ((chrsT z).filterMap F)])) : fLc (fIS (fVar i)) fg ft fe vs L M P :=
  ⟨.str z, hv, z, rfl, lc_core (it := ⟨chrsT z, fun _ => True⟩) F trivial hM (by show (chrsT z).length ≤ _; unfold chrsT; rw [List.length_map]; exact hn) hF step fin⟩
theorem lc_L {i : Nat} {x : Tr} {ts : List Tr} (F : Tr → Option Tr) (hv : L[i]? = some (some x)) (hx : lstAt M x = some ts) (hM : belM M.length M = true) (hn : ts.length ≤ sizeLine) (hF : ∀ t ∈ ts, ∀ y, F t = some y → Tr.bel M.length y = true)
    (step : ∀ t ∈ ts, LcStep F fg ft fe vs L M t) (fin : P (.ref M.length) (M ++ [.lst (ts.filterMap F)])) : fLc (fIL (fVar i)) fg ft fe vs L M P :=
  ⟨x, hv, ts, hx, lc_core (it := ⟨ts, fun M => lstAt M x = some ts⟩) F hx hM hn hF step fin⟩
end
end Fm

set_option Elab.async false
set_option linter.all false
set_option maxRecDepth 100000
set_option maxHeartbeats 4000000
namespace Fm
open PySem PySem.Spec PyProof.Rows L2
/-! ### a cut that forgets; xs[::-1] -/
def fCutF (f g : FS) : FS := fun D L M => ∃ J : Loc → Mem → Prop, f { D with nx := Forget M.length J } L M ∧ ∀ L' M', J L' M' → g D L' M'
def fRevL (fe : FE) : FE := fun L M P => fe L M fun x M1 => ∃ ts, lstAt M1 x = some ts ∧ P (.ref M1.length) (M1 ++ [.lst ts.reverse])
section
variable {K : PySem.W.Frag} {B : Bs} {H : Hp} {ρ : List Addr} {t u : TS} {f f' : FS} {te : TE} {fe : FE}
theorem sim_cutF (a : SimS K B t f) (b : SimS K B u f') : SimS K B (C8.tCut t u) (fCutF f f') :=
  ⟨fun {σ H ρ L M D' D} hl hm ⟨J, p, q⟩ e => ⟨u D, a.run hl hm p ⟨fun L1 σ1 H1 ρ1 M1 g1 l1 m1 p1 => by
    have hB := base_len hl hm
    obtain ⟨ρ6, L6, M6, l6, m6, j6, up⟩ := forget_at l1 m1 p1 hB
    have g6 : Grow K H ρ H1 ρ6 := up (Nat.le_of_eq hm.len) g1
    exact b.run l6 m6 (q _ _ j6) (e.step g6), e.rt, e.bk, e.ct⟩, fun _ _ h => h⟩⟩
theorem RTs.rev : ∀ {ts : List Tr} {xs : List V}, RTs K H ρ ts xs → RTs K H ρ ts.reverse xs.reverse
  | [], _, h => by
    unfold RTs at h
    subst h
    exact RTs.nil
  | t :: ts, _, h => by
    unfold RTs at h
    obtain ⟨x, ys, rfl, h1, h2⟩ := h
    rw [List.reverse_cons, List.reverse_cons]
    exact (RTs.rev h2).app (RTs.cons h1 RTs.nil)
theorem sim_revL (a : SimE K B te fe) : SimE K B (tRevL K te) (fRevL fe) := ⟨fun hl hm h o => a.run hl hm h fun x xv H1 ρ1 M1 g1 m1 rx ⟨ts, e, p⟩ => by
  obtain ⟨n, b, us, _, _, _, h1, h2, h3⟩ := lstAt_ok m1 rx e
  exact ⟨b, us, h1, .inl (.inl h2), out_list m1 h3.rev (o.step g1) p⟩⟩
end
end Fm

set_option Elab.async false
set_option linter.all false
set_option maxRecDepth 100000
set_option maxHeartbeats 3200000
/-! XN: own errors raised where nothing is handled (context None); a base's __init__ by name; C(*xs) by a variable; one of two readings. -/
namespace XNx
open PySem PySem.Spec PyProof.Rows L2
section
variable {X : Cx} {e : Expr} {es : List Expr} {ta : TA} {p pos : Pos}
theorem pmkN_oex {CX : CXT} {x : Str} {C fI : Addr} {k : Nat} {fd : FuncData} {ps : List Str} {sp : Sp} (T : OexC X.K C) (iC : PySem.W.findIn X.K (.ref C) "__init__" = some (some (.ref fI))) (tI : PySem.W.typeIn X.K (.ref fI) = some (.type "function"))
    (F1 : FnOk X.prog X.w X.K X.mg X.base CX k fI fd ps sp) (hr : Room (k + 1) X.A) (hb : Binds X.K fd ps []) (hx : Passes CX X (fun _ _ _ => False)) (hg : Gl X x) (hm : X.mg x = some (.ref C)) (ha : PA X (e :: es) ta)
    (hdb : (x == ("__debug__" : Str)) = false := by decide) (he : starEach (e :: es) X.env = (false, eval e X.env) :: starEach es X.env := by rfl) (hpl : (backTo pos (starEach es X.env)).any (·.1) = false := by rfl) :
    L2N.PMk X (.Call (.Name x p) (e :: es) [] pos) (tMkO C sp [] ta) := by
  intro pins s σ H Q I h
  obtain ⟨nm, q, N, bs, bm, sn, sub, ab, col, dd, k0, k1, k2, k3, k5, hC, hbm⟩ := T.cls
  refine wpAny_Call_Name_kw (ld_glob I hg hm ?_ hdb)
  refine PySem.W.callWith_K (h₀ := X.base) I.ok.mod.kin T.kC (thn (ha.run pos pins s σ H _ I h) fun us s1 ⟨vs, H1, I1, r1, hz, q1⟩ => ⟨I1.kIn, ?_⟩) he hpl
  show wpAny _ _ (call (.ref C) us) _ _ _
  obtain ⟨hp, g, dr, tk, os⟩ := s1
  have hsz : hp.objs.size ≤ hp.objs.size + 1 := Nat.le_succ _
  have hn : H1 (hp.objs.size + 1) = none := I1.hok.fresh hsz
  have hq := q1 (hp.objs.size + 1) hn
  rw [List.append_nil] at hq
  have kk : ∀ b o, hp.get? b = some o → ((hp.push (PySem.W.kdv_tup us)).push (PySem.HandSPX.excO C hp.objs.size)).get? b = some o := fun b o e => Heap.get?_push_of_some _ (Heap.get?_push_of_some _ e)
  have hget : ((hp.push (PySem.W.kdv_tup us)).push (PySem.HandSPX.excO C hp.objs.size)).get? (hp.objs.size + 1) = some (PySem.HandSPX.excO C hp.objs.size) := by heap_get
  have I2 : Inv X pins σ (upd H1 (hp.objs.size + 1) (exo (hp.objs.size + 1) C none)) ⟨(hp.push (PySem.W.kdv_tup us)).push (PySem.HandSPX.excO C hp.objs.size), g, dr, tk, os⟩ :=
    I1.laid (t' := tk) (a := hp.objs.size + 1) (o := exo (hp.objs.size + 1) C none) (h' := (hp.push (PySem.W.kdv_tup us)).push (PySem.HandSPX.excO C hp.objs.size)) kk hsz (exo_ok hget)
  have r2 : Vals (V.ref (hp.objs.size + 1) :: vs) (Value.ref (hp.objs.size + 1) :: us) := .cons rfl r1
  have hl : (Value.ref (hp.objs.size + 1) :: us ++ []).length = ps.length := by
    have e := r2.length
    rw [F1.len _ _ _ _ hq] at e
    rw [List.append_nil]
    exact e.symm
  have hus : us.length ≤ sizeLine := by
    rw [← Paired.length r1, sizeLine_eq]
    omega
  have b2 := hb _ (Value.ref (hp.objs.size + 1) :: us) I2.kIn hl
  rw [List.append_nil] at b2
  refine wpAny_call (PySem.HandSPX.call_own F.excBase_ValueError (fun Y => PySem.HandSPX.refsVE_contains Y bm hbm) (I1.kIn _ _ hC) (PySem.W.looks_findIn I1.kIn iC) (fun self => PySem.W.bind_fn I1.kIn self tI) hus
    (codeAny_mono (F1.run _ X.stack _ _ ⟨Value.ref (hp.objs.size + 1) :: us, []⟩ (Value.ref (hp.objs.size + 1) :: us) _ _ (fun _ _ _ => False) (hr.make C us []) (I2.env0.make C us []) b2 r2 hq) fun r s' hq' => ?_))
  cases r with
  | error er => exact hx pins σ _ _ er s' I2 hq'
  | ok fl =>
    cases fl with
    | ret u =>
      obtain ⟨v, H2, os2, bare2, un2, hok2, rv, ev, d, fs, ea, ed, hd1, q2⟩ := hq'
      subst ev
      obtain ⟨h2, g2, d2, t2, os'⟩ := s'
      obtain ⟨t0, G, J, kG, ge, hoe, na⟩ := mk_end0 (d2 := d2) (t2 := t2) I1 hsz kk un2 hok2 os2 bare2 ea ed hd1
      refine ⟨rv, hp.objs.size + 1, _, _, ⟨G, g2, d2, t2, os'⟩, _, .ref C, some d, rfl, J, kG, ge, hoe, ⟨rfl, rfl, fun vs hv => ?_⟩, rfl, rfl, na, rfl, bare2, raises_own T.exC T.tyC, q2⟩
      cases hv
      rfl
    | next => exact False.elim hq'
    | brk => exact False.elim hq'
    | cont => exact False.elim hq'
/-- one of two readings -/
def tOr (t1 t2 : TE) : TE := fun σ H Q => t1 σ H Q ∨ t2 σ H Q
theorem pe_or {t1 t2 : TE} (a : PE X e t1) (b : PE X e t2) : PE X e (tOr t1 t2) := ⟨fun pins s σ H Q I h => h.elim (a.run pins s σ H Q I) (b.run pins s σ H Q I)⟩
def tOrG (t1 t2 : TGen) : TGen := fun σ H Q => t1 σ H Q ∨ t2 σ H Q
theorem pgen_or {k : Nat} {E : XK} {t1 t2 : TGen} (a : PGen X k e t1 E) (b : PGen X k e t2 E) : PGen X k e (tOrG t1 t2) E := ⟨fun pins s σ H c I h => h.elim (a.run pins s σ H c I) (b.run pins s σ H c I)⟩
/-- B.__init__(self, ..), B a plain class with an own __init__ -/
theorem pe_unb {CX : CXT} {k : Nat} {C f : Addr} {mc : Value} {fd : FuncData} {ps : List Str} {sp : Sp} {E : XK} {B m : Str} {p1 p3 : Pos} {pl : Sem Bool} (hg : Gl X B) (hm : X.mg B = some (.ref C)) (r : ClX.CRead X.K C mc)
    (at_ : PySem.W.findCls X.K (.ref C) mc m = some (.val (.ref f))) (kp : PySem.W.keepIn X.K (.ref f) = true) (F : FnOk X.prog X.w X.K X.mg X.base CX k f fd ps sp) (hr : Room k X.A) (hb : Binds X.K fd ps []) (hx : Passes CX X E) (ha : PA X (e :: es) ta)
    (hh : PySem.W.handedIn (.ref f) = true := by rfl) (hd : (B == ("__debug__" : Str)) = false := by decide) (he : starEach (e :: es) X.env = (false, eval e X.env) :: starEach es X.env := by rfl) (hpl : (backTo pos (starEach es X.env)).any (·.1) = false := by rfl)
    (hc : eval (.Call (.Attribute (.Name B p3) m p1) (e :: es) [] pos) X.env =
    (eval (.Name B p3) X.env >>= fun ov => standAt p1.atName >>= fun _ => holding [ov] (getMethod ov m pl) >>= fun r => callWith pos r.1 r.2 (backTo pos (starEach (e :: es) X.env)) (backToKw pos (keywordEach [] X.env))) := by rfl) :
    PE X (.Call (.Attribute (.Name B p3) m p1) (e :: es) [] pos) (tCall sp [] E ta) where
  run := fun pins s σ H Q I h => by
    refine PySem.W.methodCall_KW (pl := pl) (ld_glob I hg hm (PySem.W.method_cls I.kIn r.ga (PySem.W.cls_value I.kIn r.rd at_ hh (PySem.W.callWith_K (first := []) (h₀ := X.base) I.ok.mod.kin kp (thn (ha.run pos pins _ σ H _ (I.tok _) h) ?_) he hpl))) hd) hc
    rintro us z ⟨vs, H1, I1, rvs, q⟩
    exact ⟨I1.kIn, run_fn F hr hb .nil hx I1 rvs q⟩
/-- x(*y), x a variable that holds the class -/
def tMakeVS (K : PySem.W.Frag) (i : Nat) (C : Addr) (sp : Sp) (E : XK) (te : TE) : TE := fun σ H Q => σ[i]? = some (some (V.ref C)) ∧ te σ H fun y H1 => ∃ a xs, y = V.ref a ∧ (SqT K H1 a xs ∨ SqL K H1 a xs) ∧ ∀ x dx, H1 x = none → H1 dx = none → dx ≠ x →
  sp (V.ref x :: xs) (upd (upd H1 dx (.own x)) x (.ins C dx [])) (fun v H2 => v = .non ∧ Q (.ref x) H2) E
theorem pe_makeVS {CX : CXT} {k i : Nat} {f C : Addr} {sp : Sp} {E : XK} {x : Str} {ex : Expr} {sp_ : Pos} {te : TE} (M : Mk X.K C f) (F : FnR X.prog X.w X.K X.mg X.base CX k f sp) (hr : Room (k + 1) X.A)
    (hN : X.N[i]? = some x) (hv : Vis X.env.scope x) (hx : Passes CX X E) (he : PE X ex te) (hdb : (x == ("__debug__" : Str)) = false := by decide) (hcd : (x == ("__classdict__" : Str)) = false := by decide)
    (hst : starEach [.Starred ex sp_] X.env = [(true, eval ex X.env)] := by rfl) :
    PE X (.Call (.Name x p) [.Starred ex sp_] [] pos) (tMakeVS X.K i C sp E te) := by
  refine ⟨fun pins s σ H Q I ⟨hs, h⟩ => ?_⟩
  refine wpAny_Call_Name_kw (thn ((pe_var (pos := p) (i := i) hN hv hdb hcd).run pins s σ H (fun v H1 => v = .ref C ∧ H1 = H) I ⟨.ref C, hs, rfl, rfl⟩) fun u s1 ⟨v, H1, I1, r1, ev, eH⟩ => ?_)
  subst ev
  rw [eH] at I1
  cases r1
  refine PySem.W.callWith_S (h₀ := X.base) I.ok.mod.kin M.kp (thn (he.run pins s1 σ H _ I1 h) fun v s2 ⟨y, H2, I2, ry, a, xs, ey, hxs, q⟩ => ?_) hst
  subst ey
  obtain rfl : v = Value.ref a := ry
  exact StX.star_any I2 hxs fun us s3 I3 rv => ⟨I3.kIn, StX.run_makeR M F hr hx I3 rv q⟩
end
end XNx

set_option Elab.async false
set_option linter.all false
set_option maxRecDepth 100000
set_option maxHeartbeats 1000000
/-! GL: yield from a list. -/
namespace GCx
open PySem PySem.Spec PyProof.Rows L2 GenW
section
variable {prog : Program} {w : World} {A : Around} {E : Value → Shared → Prop} {s : Shared}
theorem lst_item {z l : Addr} {k : Nat} {vs : Array Value} {u : Value} {Q : Option Value → Shared → Prop} (hz : s.heap.IsListIter z l k) (hv : s.heap.IsList l vs) (hu : vs[k]? = some u)
    (q : ∀ g, g.IsListIter z l (k + 1) → Heap.SameBut z s.heap g → Q (some u) { s with heap := g }) : wpAny (model prog w) A (callSpecial? (.ref z) "__next__") Q E s := by
  obtain ⟨oz, e1, e2, e3⟩ := id hz
  obtain ⟨ov, f1, _, nv, f3⟩ := hv
  refine wpAny_callSpecial?_slot (name := Str.ofString "__next__") hz.typeIs slot_listiter_next (wpAny_call_entry slot_listiter_next hz.typeIs entry_listiter_next ?_ (args_listiter_next _))
  show wpAny _ _ (field (.ref z) 0 >>= _) _ _ s
  refine wpAny_bind (wpAny_field e1 e3 (x := .ref l) rfl ?_)
  show wpAny _ _ (if (Value.ref l == Value.none) = true then _ else _) _ _ s
  rw [if_neg (fun c : (Value.ref l == Value.none) = true => Bool.noConfusion c)]
  show wpAny _ _ (field (.ref z) 1 >>= _) _ _ s
  refine wpAny_bind (wpAny_field e1 e3 (x := .int k 0) rfl ?_)
  show wpAny _ _ (seqItems? (.ref l) >>= _) _ _ s
  refine wpAny_bind (wpAny_seqItems f1 f3 ?_)
  simp only [Int.toNat_natCast, hu]
  refine wpAny_bind (wpAny_setField e1 e3 (by simp) (wpAny_pure ⟨u, rfl, q _ ?_ (Heap.SameBut.update ..)⟩))
  refine ⟨_, Heap.get?_update_self _ e1 (Obj.isFreed_of_fields (Obj.data_mapFields e3 _)), (Obj.cls_mapFields ..).trans e2, ?_⟩
  rw [Obj.data_mapFields e3]
  simp [rawInt]
theorem lst_end {z l : Addr} {k : Nat} {vs : Array Value} {Q : Option Value → Shared → Prop} (ha : A.handled = none) (hz : s.heap.IsListIter z l k) (hv : s.heap.IsList l vs) (hu : vs[k]? = none)
    (q : ∀ e g, StopX e g → Heap.ExtBut z s.heap g → E e { s with heap := g }) : wpAny (model prog w) A (callSpecial? (.ref z) "__next__") Q E s := by
  obtain ⟨oz, e1, e2, e3⟩ := id hz
  obtain ⟨ov, f1, _, nv, f3⟩ := hv
  refine wpAny_callSpecial?_slot (name := Str.ofString "__next__") hz.typeIs slot_listiter_next (wpAny_call_entry slot_listiter_next hz.typeIs entry_listiter_next ?_ (args_listiter_next _))
  show wpAny _ _ (field (.ref z) 0 >>= _) _ _ s
  refine wpAny_bind (wpAny_field e1 e3 (x := .ref l) rfl ?_)
  show wpAny _ _ (if (Value.ref l == Value.none) = true then _ else _) _ _ s
  rw [if_neg (fun c : (Value.ref l == Value.none) = true => Bool.noConfusion c)]
  show wpAny _ _ (field (.ref z) 1 >>= _) _ _ s
  refine wpAny_bind (wpAny_field e1 e3 (x := .int k 0) rfl ?_)
  show wpAny _ _ (seqItems? (.ref l) >>= _) _ _ s
  refine wpAny_bind (wpAny_seqItems f1 f3 ?_)
  simp only [Int.toNat_natCast, hu]
  refine wpAny_bind (wpAny_rule (wpAny_bind (wpAny_setField e1 e3 (by simp) ?_)))
  show wpAny _ _ (newExc (.type "StopIteration") [] >>= _) _ _ _
  refine wpAny_bind ?_
  simp only [newExc, newTuple]
  refine wpAny_bind (wpAny_newObj_type ?_ (by size_fits))
  refine wpAny_bind (m := firstArgMember _ _) (wpAny_of_eq (a := Value.none) (by first | rfl | (simp only [firstArgMember]; rfl)) ?_)
  refine wpAny_newObj_type ?_ (by size_fits)
  simp only [raiseNew]
  refine wpAny_bind (wpAny_handled ?_)
  first | rw [show A.in1.handled = none from ha] | rw [ha]
  refine wpAny_bind (wpAny_pure (wpAny_throw ?_))
  refine q _ _ ⟨_, _, _, rfl, Heap.get?_push_size _ rfl, rfl, rfl, ?_⟩ (((Heap.SameBut.update ..).extBut.push _).push _)
  first
    | rfl
    | (rw [Array.getElem?_append_left (by decide)]; rfl)
    | kernel_rfl
end
section
variable {X : Cx} {e : Expr} {te : TE}
def tYfL (K : PySem.W.Frag) (te : TE) : TYf := fun σ H Q => te σ H fun x H1 => ∃ a xs, x = .ref a ∧ H1 a = some (.lst xs) ∧ Q xs H1
theorem close_lst : typeLookup (.type "list_iterator") "close" = pure none := by rw [typeLookup_type, builtinLookup_eq_fast]; kernel_rfl
theorem yf_lst (he : PE X e te) : YfE X e (tYfL X.K te) := by
  refine ⟨fun pins s σ H Q I h => ?_⟩
  refine thn (he.run pins s σ H _ I h) fun v s1 ⟨x, H1, I1, r1, a, xs, ex, ha, hq⟩ => ?_
  subst ex
  obtain rfl : v = Value.ref a := r1
  obtain ⟨its, ri, pl, hz⟩ := I1.list (.inl (.inl ha))
  have hl := pl.isList
  refine ⟨"list", hl.typeIs, by decide, wpAny_pyIter_list hl ?_⟩
  have young : ∀ b o, s1.heap.get? b = some o → b ≠ s1.heap.objs.size := fun b o q => Nat.ne_of_lt (Heap.lt_size q)
  have kp : ∀ b o, s1.heap.get? b = some o → (s1.heap.push { cls := .type "list_iterator", data := .fields #[.ref a, .int 0 0] }).get? b = some o := fun b o q => Heap.get?_push_of_some _ q
  have neA : a ≠ s1.heap.objs.size := let ⟨o, q, _⟩ := hl; young a o q
  refine ⟨s1.heap.objs.size, H1, xs, fun j g => g.IsListIter s1.heap.objs.size a j ∧ g.IsList a its.toArray, rfl, I1.kept (t' := s1.toks) kp, .inr I1.sz, Nat.ne_of_gt I1.lt, fun y c hy => ?_, I1.hok.fresh (Nat.le_refl _), fun p hp => ?_,
    ⟨⟨_, Heap.get?_push_size _ rfl, rfl, rfl⟩, hl.push _⟩, ⟨⟨"list_iterator", fun j g q => ?_, close_lst, by decide⟩, fun j g g' q hk => ?_, fun A' j x s2 Q' E' hA hx q hQ => ?_, fun A' s2 Q' E' hA q hE => ?_⟩, hq⟩
  · obtain ⟨v, o, ho, _⟩ := I1.cell y c hy
    exact young c o ho
  · exact young p.1 _ (I1.pin p hp).1
  · obtain ⟨⟨o, ho, hc, _⟩, _⟩ := q
    exact ⟨o, ho, hc⟩
  · obtain ⟨⟨o, ho, r⟩, o2, ho2, r2⟩ := q
    exact ⟨⟨o, hk _ o (.inl rfl) ho, r⟩, o2, hk _ o2 (.inr (by rw [ha]; exact fun z => by cases z)) ho2, r2⟩
  · obtain ⟨u, hu, ru⟩ := ri.get hx
    exact lst_item q.1 q.2 (u := u) (by simpa using hu) fun g q1 sb => hQ u g s2.toks ru ⟨q1, q.2.extBut sb.extBut neA⟩ fun b o hb eb => sb.extBut b o hb eb
  · have hnone : its.toArray[xs.length]? = none := by
      have e1 := ri.length
      have e2 : its[xs.length]? = none := List.getElem?_eq_none_iff.mpr (by omega)
      simpa using e2
    exact lst_end hA q.1 q.2 hnone fun e g hS hk => hE e g s2.toks hS fun b o hb eb => hk b o hb eb
end
end GCx

set_option Elab.async false
set_option linter.all false
set_option maxRecDepth 100000
set_option maxHeartbeats 1000000
/-! GC: [x for x in g()], g a generator def whose last statement is yield from a list. -/
namespace GCx
open PySem PySem.Spec PyProof.Rows L2 GenW
/-- asleep: the consumer lays v behind its list at S and writes its own names at C -/
structure Nap (S C : Addr) (v : Value) (s s' : Shared) : Prop where
  same : s'.os = s.os
  bare : AllBare s'.gens
  rest : ∀ b o, b ≠ S → b ≠ C → s.heap.get? b = some o → s'.heap.get? b = some o
  more : ∀ acc c, s.heap.get? S = some (lstObj acc c) → ∃ c', s'.heap.get? S = some (lstObj (acc.push v) c')
  own : ∃ co, s'.heap.get? C = some co ∧ ∀ u, co.data ≠ .cell u
/-- ys is out and stands in the list at S; co stands at C -/
def GJ (X : Cx) (S C : Addr) (co : Obj) (ys : List V) (σ : L2.St) (H : Hp) (s : Shared) : Prop :=
  ∃ (acc : Array Value) (c : Nat), Vals ys acc.toList ∧ Inv X [(S, lstObj acc c), (C, co)] σ H s
/-- S and C: younger than the call, none of its frame's -/
structure Far (X : Cx) (S C : Addr) : Prop where
  s : Apart X S
  c : Apart X C
  ne : S ≠ C
  pn : ∀ p ∈ X.pn, p.1 ≠ S ∧ p.1 ≠ C
section
variable {X : Cx} {S C : Addr} {co : Obj} {ys : List V} {σ : L2.St} {H : Hp} {s s' : Shared}
theorem GJ.facts (h : GJ X S C co ys σ H s) : (H S = none ∧ S ≠ X.env.locals ∧ S ∉ X.fs) ∧ (s.heap.get? C = some co ∧ H C = none ∧ C ≠ X.env.locals ∧ C ∉ X.fs) ∧ ∃ acc c, Vals ys acc.toList ∧ s.heap.get? S = some (lstObj acc c) := by
  obtain ⟨acc, c, r, I⟩ := h
  obtain ⟨h1, h2, h3, h4, _⟩ := I.pin (S, lstObj acc c) (List.mem_append_right _ List.mem_cons_self)
  obtain ⟨k1, k2, k3, k4, _⟩ := I.pin (C, co) (List.mem_append_right _ (List.mem_cons_of_mem _ List.mem_cons_self))
  exact ⟨⟨h2, h3, h4⟩, ⟨k1, k2, k3, k4⟩, acc, c, r, h1⟩
theorem GJ.wakes {x : V} {v : Value} (f : Far X S C) (h : GJ X S C co ys σ H s) (rv : RelV x v) (z : Nap S C v s s') : ∃ co', s'.heap.get? C = some co' ∧ GJ X S C co' (ys ++ [x]) σ H s' := by
  obtain ⟨⟨nS, sL, sF⟩, ⟨eC, nC, cL, cF⟩, _⟩ := h.facts
  obtain ⟨acc, c, r, I⟩ := h
  have eS : s.heap.get? S = some (lstObj acc c) := (I.pin (S, lstObj acc c) (List.mem_append_right _ List.mem_cons_self)).1
  have I0 : Inv X [] σ H s := I.pins_of fun p hp => nomatch hp
  have tS : ∀ b u, H b = some u → b ≠ S ∧ b ≠ C := fun b u q => ⟨fun e => by rw [e, nS] at q; (cases q), fun e => by rw [e, nC] at q; cases q⟩
  obtain ⟨z1, z2, z3, z4, co', z5, z6⟩ := z
  obtain ⟨c', eS'⟩ := z4 acc c eS
  obtain ⟨hh, g, d, t, o⟩ := s'
  have ho : o = s.os := z1
  subst ho
  have out : ∀ b, b ∉ [S, C] → b ≠ S ∧ b ≠ C := fun b hb => ⟨fun e => hb (by rw [e]; simp), fun e => hb (by rw [e]; simp)⟩
  have J : Inv X [] σ H { s with heap := hh, gens := g, drawn := d, toks := t } := by
    refine I0.step (g' := g) (t' := t) (d' := d) (ch := [S, C]) (fun b hb => ?_)
      (fun b ob _ _ hc q _ => z3 b ob (out b hc).1 (out b hc).2 q) (fun b ob _ _ hc q _ => ⟨ob.slots, z3 b ob (out b hc).1 (out b hc).2 q⟩) (fun _ _ _ _ n => n) (fun b ob hc q => ⟨ob, z3 b ob (out b hc).1 (out b hc).2 q⟩)
      (fun _ _ q => q) (fun _ _ _ q => q) (fun b ps q => ⟨#[], by rw [q]; simp⟩) (fun m hm => ?_) (fun b u q => ?_) z2
    · have hb : b = S ∨ b = C := by simpa using hb
      rcases hb with rfl | rfl
      · exact ⟨.inr f.s.1, f.s.2.1, f.s.2.2, fun p hp => (f.pn p (by simpa using hp)).1⟩
      · exact ⟨.inr f.c.1, f.c.2.1, f.c.2.2, fun p hp => (f.pn p (by simpa using hp)).2⟩
    · obtain ⟨ob, es, ep, ho, r⟩ := hm
      exact ⟨ob, es, ep, z3 _ ob (Ne.symm sL) (Ne.symm cL) ho, r⟩
    · refine (I0.hok b u q).stay (fun c v hc y => ?_) (fun _ y => y) fun _ _ y => y
      have : c ≠ S ∧ c ≠ C := by
        rcases hc with e | e
        · rw [e]; exact tS b u q
        · exact tS c _ e
      exact z3 c v this.1 this.2 y
  refine ⟨co', z5, acc.push v, c', ?_, J.pins_of fun p hp => ?_⟩
  · rw [Array.toList_push]
    exact r.append (.cons rv .nil)
  · have hp : p = (S, lstObj (acc.push v) c') ∨ p = (C, co') := by simpa using hp
    rcases hp with rfl | rfl
    · exact ⟨eS', nS, sL, sF, fun v q => by cases q⟩
    · exact ⟨z5, nC, cL, cF, z6⟩
end
/-- the protocol of such a generator -/
def YJ (X : Cx) (S C : Addr) : Protocol := fun n s₀ v s kap => ∃ ys x σ H co, n + 1 + ys.length = sizeLine ∧ RelV x v ∧ GJ X S C co ys σ H s ∧ s₀.heap.get? C = some co ∧ ∀ s', Nap S C v s s' → kap (.send .none) s'
structure GCJ (X : Cx) (S C : Addr) (A : Around) (c : Code) (fs : List Frame) (gd : Bool → Bool) : Prop where
  far : Far X S C
  over : A.over c fs = X.A
  split : splitAtGen fs = none
  guard : fs.any Frame.guarded = false
  gd : gd false = false
/-- what follows the body: all that it hands out is out -/
structure GKJ (X : Cx) (S C : Addr) (A : Around) (R : GenEnd) (c : Code) (fs : List Frame) (K : Flow → Sem PySem.Fin) (J : Value → Sem PySem.Fin) (Q : List V → Hp → Prop) : Prop where
  ok : ∀ (n : Nat) (ys : List V) (s₀ s : Shared) (σ : L2.St) (H : Hp) (co : Obj), n + ys.length = sizeLine → GJ X S C co ys σ H s → s₀.heap.get? C = some co → Q ys H → Seg (model X.prog X.w) A R (YJ X S C) n s₀ c (K .next) fs s
  exc : ∀ (n : Nat) (s₀ : Shared) (e : Value) (s : Shared), X.xe e s → Seg (model X.prog X.w) A R (YJ X S C) n s₀ c (J e) fs s
abbrev TGj := L2.St → Hp → (List V → Hp → Prop) → Prop
structure GB (X : Cx) (st : List Stmt) (t : TGj) : Prop where
  run : ∀ (A : Around) (S C : Addr) (R : GenEnd) (s₀ : Shared) (c : Code) (fs : List Frame) (K : Flow → Sem PySem.Fin) (J : Value → Sem PySem.Fin) (gd : Bool → Bool) (lv : List Value → List Value) (s : Shared) (σ : L2.St) (H : Hp) (co : Obj) (Q : List V → Hp → Prop),
    GCJ X S C A c fs gd → GKJ X S C A R c fs K J Q → GJ X S C co [] σ H s → s₀.heap.get? C = some co → t σ H Q →
    Seg (model X.prog X.w) A R (YJ X S C) sizeLine s₀ c ((execs st X.env).wrap K J gd lv) fs s
section
variable {X : Cx}
theorem gb_cons {st : Stmt} {rest : List Stmt} {t : TS} {u : TGj} (h : PS X st t) (b : GB X rest u) : GB X (st :: rest) (fun σ H Q => t { nx := fun σ' H' => u σ' H' Q, rt := fun _ _ => False } σ H) := by
  refine ⟨fun A S C R s₀ c fs K J gd lv s σ H co Q g k hI hC ht => ?_⟩
  refine seg_execs_cons ?_
  obtain ⟨acc, cc, r, I⟩ := hI
  refine seg_wrap ?_
  rw [g.over]
  refine wpAny_mono (h.run _ s σ H _ I ht) (fun f s' hs => ?_) fun x s' hx => k.exc _ s₀ x s' hx
  cases f with
  | next =>
    obtain ⟨σ', H', I', q⟩ := hs
    exact b.run A S C R s₀ c fs K J gd lv s' σ' H' co Q g k ⟨acc, cc, r, I'⟩ hC q
  | brk => obtain ⟨_, _, _, q⟩ := hs; exact q.elim
  | cont => obtain ⟨_, _, _, q⟩ := hs; exact q.elim
  | ret u => obtain ⟨_, _, _, _, _, q⟩ := hs; exact q.elim
theorem yf_turns {S C : Addr} {A : Around} {R : GenEnd} {fs : List Frame} {z : Addr} {xs : List V} {St : Nat → Heap → Prop} {σ : L2.St} {H : Hp} (f : Far X S C) (hp : ∀ p ∈ X.pn, p.1 ≠ z) (hx : z ∈ X.ex ∨ X.s_0.heap.objs.size ≤ z) (hL : z ≠ X.env.locals) (hc : ∀ x c, X.env.cells.lookup x = some c → c ≠ z) (hS : z ≠ S) (hC : z ≠ C) (hH : H z = none) (q : QIt X H z xs St)
    (ho : (A.over (.builtin "proto.yield_from" ⟨[.ref z, .bool false, .none], []⟩) fs).handled = none) (hsp : splitAtGen fs = none) (hgd : fs.any Frame.guarded = false)
    (fin : ∀ (n : Nat) (s₀ s : Shared) (co : Obj), n + xs.length = sizeLine → GJ X S C co xs σ H s → s₀.heap.get? C = some co → Seg (model X.prog X.w) A R (YJ X S C) n s₀ (.builtin "proto.yield_from" ⟨[.ref z, .bool false, .none], []⟩) (.pure (.done (.ret .none))) fs s) :
    ∀ (m j n : Nat) (s₀ s : Shared) (co : Obj), j + m = xs.length → n + j = sizeLine → GJ X S C co (xs.take j) σ H s → s₀.heap.get? C = some co → St j s.heap → xs.length ≤ sizeLine →
      Seg (model X.prog X.w) A R (YJ X S C) n s₀ (.builtin "proto.yield_from" ⟨[.ref z, .bool false, .none], []⟩) ((model X.prog X.w).den (.builtin "proto.yield_from" ⟨[.ref z, .bool false, .none], []⟩)) fs s := by
  obtain ⟨T, hT, hcl, hng⟩ := q.ty
  have turn : ∀ {co : Obj} {zs : List V} {s : Shared} {h' : Heap} {tk : Nat}, GJ X S C co zs σ H s → (∀ b o, b ≠ z → s.heap.get? b = some o → h'.get? b = some o) → GJ X S C co zs σ H { s with heap := h', toks := tk } := fun {co zs s h' tk} hI hk => by
    obtain ⟨acc, cc, r, I⟩ := hI
    refine ⟨acc, cc, r, I.turned (it := z) hk hH hL hx hc fun p hp' => ?_⟩
    rcases List.mem_append.mp hp' with h | h
    · exact hp p h
    · have h : p = (S, lstObj acc cc) ∨ p = (C, co) := by simpa using h
      rcases h with rfl | rfl
      · exact Ne.symm hS
      · exact Ne.symm hC
  intro m
  induction m with
  | zero =>
    intro j n s₀ s co hj hn hI hC0 hst hle
    have hj' : j = xs.length := by omega
    subst hj'
    rw [List.take_length] at hI
    rw [den_yf]
    unfold Builtin.«proto.yield_from»
    try dsimp only
    refine seg_bind (wpAny_pure ?_)
    try dsimp only
    refine seg_bind (wpAny_attempt (wpAny_holding ?_))
    rw [if_neg (fun c : false = true => Bool.noConfusion c), if_pos (show (Value.none == Value.none) = true by rfl)]
    refine wpAny_bind (wpAny_rule (wpAny_bind ?_))
    refine q.done _ s _ _ ho hst fun e g tk hX hk => ?_
    obtain ⟨a, o, vs, rfl, b1, b2, b3, b4⟩ := hX
    try dsimp only
    refine seg_bind (wpAny_endsTurn b1 b2 ?_)
    try dsimp only
    rw [if_pos rfl]
    first
      | refine seg_bind (wpAny_rule ?_)
      | (rw [if_neg (fun c : false = true => Bool.noConfusion c)]; refine seg_bind (wpAny_rule ?_))
      | (rw [if_neg (fun c : false = true => Bool.noConfusion c)]; refine seg_bind (wpAny_pure ?_); refine seg_bind (wpAny_rule ?_))
    refine seg_bind (wpAny_field b1 b3 b4 ?_)
    exact fin n s₀ _ co hn (turn hI hk) hC0
  | succ m ih =>
    intro j n s₀ s co hj hn hI hC0 hst hle
    obtain ⟨x, hx'⟩ : ∃ x, xs[j]? = some x := ⟨_, List.getElem?_eq_getElem (by omega)⟩
    obtain ⟨n, rfl⟩ : ∃ m, n = m + 1 := ⟨n - 1, by omega⟩
    have htl : (xs.take j).length = j := by rw [List.length_take]; omega
    rw [den_yf]
    unfold Builtin.«proto.yield_from»
    try dsimp only
    refine seg_bind (wpAny_pure ?_)
    try dsimp only
    refine seg_bind (wpAny_attempt (wpAny_holding ?_))
    rw [if_neg (fun c : false = true => Bool.noConfusion c), if_pos (show (Value.none == Value.none) = true by rfl)]
    refine wpAny_bind (wpAny_rule (wpAny_bind ?_))
    refine q.item _ j x s _ _ ho hx' hst fun v g tk rv hst' hk => ?_
    have hI' := turn (tk := tk) hI hk
    obtain ⟨oi, k1, k2⟩ := hT (j + 1) g hst'
    refine wpAny_pure ?_
    try dsimp only
    refine seg_bind (wpAny_typeOf (T := T) ⟨oi, k1, k2⟩ ?_)
    try dsimp only
    first
      | (refine seg_bind (wpAny_of_eq hcl ?_); refine seg_bind (wpAny_pure ?_))
      | refine seg_bind (wpAny_bind (wpAny_of_eq hcl (wpAny_pure ?_)))
      | refine seg_bind (wpAny_of_eq hcl ?_)
    try dsimp only
    refine seg_bind (wpAny_sleptOver k1 k2 hng ?_)
    refine seg_yield hsp rfl hgd ?_
    refine ⟨xs.take j, x, σ, H, co, ?_, rv, hI', hC0, fun s2 nap => ?_⟩
    · rw [htl]; omega
    obtain ⟨⟨nS, _⟩, ⟨_, nC, _⟩, _⟩ := hI'.facts
    obtain ⟨co2, eC2, hI2⟩ := hI'.wakes f rv nap
    have hst2 : St (j + 1) s2.heap := q.frame (j + 1) g s2.heap hst' fun b o hb e => by
      refine nap.rest b o (fun w => ?_) (fun w => ?_) e
      · rcases hb with y | y
        · exact hS (y.symm.trans w)
        · exact y (by rw [w]; exact nS)
      · rcases hb with y | y
        · exact hC (y.symm.trans w)
        · exact y (by rw [w]; exact nC)
    obtain ⟨oj, m1, m2⟩ := hT (j + 1) s2.heap hst2
    have etk : xs.take j ++ [x] = xs.take (j + 1) := by rw [List.take_add_one, hx']; rfl
    rw [etk] at hI2
    show Seg _ _ _ _ n s2 _ (Builtin.Generator.sleptOver (.ref z) false >>= fun _ => _) fs s2
    refine seg_bind (wpAny_sleptOver m1 m2 hng ?_)
    try dsimp only
    refine seg_bind (wpAny_pure ?_)
    exact seg_again (plainId_quiet plain_yf _) (ih (j + 1) n s2 s2 co2 (by omega) (by omega) hI2 eC2 hst2 hle)
def tYfEnd (t : TYf) : TGj := fun σ H Q => t σ H fun xs H1 => xs.length ≤ sizeLine ∧ Q xs H1
theorem gb_yf {e : Expr} {yp pos : Pos} {t : TYf} (he : YfE X e t) (hc : X.A.handled = none) (hi : interactive X.env = false := by rfl) : GB X [.Expr (.YieldFrom e yp) pos] (tYfEnd t) := by
  refine ⟨fun A S C R s₀ c fs K J gd lv s σ H co Q g k hI hC ht => ?_⟩
  refine seg_execs_cons ?_
  rw [exec_Expr X.env _ pos hi rfl]
  refine seg_at ?_
  obtain ⟨acc, cc, r, I⟩ := hI
  refine segw_bind2 ?_
  rw [g.over]
  refine wpAny_mono (he.run _ s σ H _ I ht) (fun v s1 hv => ?_) fun x s' hx => k.exc _ s₀ x s' hx
  obtain ⟨T, hT, hne, hit⟩ := hv
  refine seg_at ?_
  show Seg _ _ _ _ sizeLine s₀ c ((yieldFrom X.env v).wrap (fun b => (dropValue (.YieldFrom e yp) pos b).wrap _ J gd lv) J gd lv) fs s1
  unfold yieldFrom
  refine seg_bind_wrap (wpAny_typeOf hT ?_)
  rw [if_neg (fun c => by rw [hne] at c; cases c)]
  refine seg_bind_wrap (wpAny_holding ?_)
  rw [g.over]
  refine wpAny_mono hit (fun u s2 hu => ?_) fun x s' hx => k.exc _ s₀ x s' hx
  obtain ⟨z, H', xs, St, rfl, I2, q1, q2, q3, q4, q5, q6, q7, hle, hq⟩ := hu
  refine seg_call fun p => ?_
  have hS : z ≠ S := fun w => q5 (S, lstObj acc cc) (List.mem_append_right _ List.mem_cons_self) w.symm
  have hC' : z ≠ C := fun w => q5 (C, co) (List.mem_append_right _ (List.mem_cons_of_mem _ List.mem_cons_self)) w.symm
  refine yf_turns (xs := xs) (St := St) (σ := σ) (H := H') g.far (fun p hp => q5 p (List.mem_append_left _ hp)) q1 q2 q3 hS hC' q4 q7 ?_ ?_ ?_
    (fun n' s₀' s' co' hn' hG hC2 => ?_) xs.length 0 sizeLine s₀ s2 co (Nat.zero_add _) rfl ⟨acc, cc, by rw [List.take_zero]; exact r, I2⟩ hC q6 hle
  · show (A.over c fs).handled = none
    rw [g.over]; exact hc
  · show (splitAtGen fs).map _ = none
    rw [g.split]; rfl
  · show (gd false || fs.any Frame.guarded) = false
    rw [g.gd, g.guard]; rfl
  · exact seg_leaf (.ok (.ret .none)) (k.ok n' xs s₀' s' σ H' co' hn' hG hC2 hq)
end
end GCx

set_option Elab.async false
set_option linter.all false
set_option maxRecDepth 100000
set_option maxHeartbeats 1000000
/-! GD: the call of such a generator def; the comprehension over it. -/
namespace GCx
open PySem PySem.Spec PyProof.Rows L2 GenW
abbrev noE : XK := fun _ _ _ => False
/-- a run's end -/
def EJ (P : Program) (w : World) (outer : List Env) (H : Hp) (s : Shared) (S C : Addr) (Q : List V → Hp → Prop) : Nat → Shared → Shared → Prop := fun n s₀ s1 =>
  ∃ H' ys acc c, s1.os = s.os ∧ AllBare s1.gens ∧ Un (frs outer) [] H H' s.heap s1.heap ∧ HOk P w H' s1.heap ∧ H' S = none ∧ H' C = none ∧ s1.heap.get? S = some (lstObj acc c) ∧ Vals ys acc.toList ∧ ys.length ≤ sizeLine ∧ (∃ co, s₀.heap.get? C = some co ∧ s1.heap.get? C = some co) ∧ Q ys H'
def RJ (P : Program) (w : World) (outer : List Env) (H : Hp) (s : Shared) (S C : Addr) (Q : List V → Hp → Prop) : GenEnd := fun n s₀ r s1 => ((r = .ok (.ret .none) ∨ r = .ok .next) ∧ EJ P w outer H s S C Q n s₀ s1) ∨ ∃ e, r = .error e ∧ False
/-- an item comes -/
def XJ (s : Shared) (S C a : Addr) (g : Nat) : Protocol := fun n s₀ v s1 kap =>
  s1.os = s.os ∧ AllBare s1.gens ∧ s1.heap.NoLimit ∧ s1.heap.IsGen a g ∧ (∃ (acc : Array Value) (c : Nat), s1.heap.get? S = some (lstObj acc c) ∧ n + 1 + acc.size = sizeLine) ∧ (∃ co, s₀.heap.get? C = some co ∧ s1.heap.get? C = some co) ∧ ∀ s', Nap S C v s1 s' → kap (.send .none) s'
/-- a generator that has not begun -/
def MadeJ (P : Program) (w : World) (k : Nat) (outer : List Env) (H : Hp) (s : Shared) (Q : List V → Hp → Prop) (u : Value) (s' : Shared) : Prop :=
  ∃ (a : Addr) (g : Nat) (c : Code), u = .ref a ∧ s.heap.objs.size ≤ a ∧ a < s'.heap.objs.size ∧ s'.heap.IsGen a g ∧ s'.gens[g]? = some (.fresh c) ∧ s'.os = s.os ∧ AllBare s'.gens ∧ s'.heap.NoLimit ∧ (∀ b o, s.heap.get? b = some o → s'.heap.get? b = some o) ∧
    ∀ (A : Around) (S C : Addr) (s2 : Shared) (co : Obj), Room k A → A.frames = some outer → s'.heap.objs.size ≤ S → s'.heap.objs.size ≤ C → S ≠ C → (∀ b o, s'.heap.get? b = some o → s2.heap.get? b = some o) → (∃ c, s2.heap.get? S = some (lstObj #[] c)) →
      s2.heap.get? C = some co → (∀ v, co.data ≠ .cell v) → s2.os = s.os → AllBare s2.gens → Seg (model P w) A (RJ P w outer H s S C Q) (XJ s S C a g) sizeLine s2 c ((model P w).den c) [] s2
abbrev SpJ := List V → Hp → (List V → Hp → Prop) → Prop
structure GFnJ (P : Program) (w : World) (K : PySem.W.Frag) (mg : Str → Option Value) (base : Heap) (k : Nat) (f : Addr) (fd : FuncData) (ps : List Str) (sp : SpJ) : Prop where
  len : ∀ vs H Q, sp vs H Q → vs.length = ps.length
  run : ∀ (A : Around) (outer : List Env) (s : Shared) (H : Hp) (args : Args) (us : List Value) (vs : List V) (Q : List V → Hp → Prop), Room k A → Env0 P w K mg base A outer s H → BindsTo s fd args (ps.zip us) → Vals vs us → sp vs H Q →
    codeAny (model P w) A (.call (.ref f) args) (fun r s' => match r with | .ok (.ret u) => MadeJ P w k outer H s Q u s' | _ => False) s
theorem gfnJ_of {P : Program} {w : World} {K : PySem.W.Frag} {mg : Str → Option Value} {base : Heap} {k : Nat} {f : Addr} {name qual : Str} {params : Arguments} {body : List Stmt} {scope : Scope} {dV kV doc pm cdv ct oc : Value} {an od : Option Addr}
    {osl : Array (Option Value)} {N ps : List Str} {sp : SpJ} (lk : K.lookup f = some ⟨oc, od, .func (PySem.W.fnOf name qual params body scope dV kV doc pm an cdv ct), osl⟩) (hcd : PySem.W.codeIn K cdv qual = true) (S : GScope N ps scope)
    (len : ∀ vs H Q, sp vs H Q → vs.length = ps.length)
    (hbody : ∀ (A : Around) (outer : List Env) (s : Shared) (H : Hp) (vs : List V) (Q : List V → Hp → Prop) (pn : List (Addr × Obj)), Room k (A.deeper (envOfC qual scope s.heap.objs.size f cdv)) → sp vs H Q →
      ∃ t, GB (gcxOf P w K mg base N qual scope f cdv A outer s H noE pn) body t ∧ t (L2.start N vs) H Q) :
    GFnJ P w K mg base (k + 1) f (PySem.W.fnOf name qual params body scope dV kV doc pm an cdv ct) ps sp := by
  refine ⟨len, fun A outer s H args us vs Q hr e0 hb r hsp => ?_⟩
  have hl := len _ _ _ hsp
  have KX : K.In s.heap := e0.mod.kin.keeps fun b o e => (e0.bs b o e).1
  have lim : s.heap.NoLimit := e0.mod.nolimit.keeps fun b o e => (e0.bs b o e).1
  have kinds : ∀ y ∈ ps.zip us, scope.names.lookup y.1 = some .local ∨ (scope.names.lookup y.1 = some .cell ∧ ((cellsFrom (s.heap.objs.size + 1) scope.names []).lookup y.1).isSome = true) := fun ⟨n, v⟩ hy => by
    rcases S.par n (List.of_mem_zip hy).1 with q | q
    · exact .inl q
    · exact .inr ⟨q, PySem.W.cellsFrom_some _ _ _ (.inl q)⟩
  refine codeAny_call_generator hr.depth (KX _ _ lk) rfl S.co S.gen rfl (PySem.W.codeRec_of KX hcd) (hb _ _ _ _ ?_)
  refine wpAny_newFunctionEnv_cells S.kind kinds fun env he s1 x => ?_
  subst he
  have lim1 : s1.heap.NoLimit := lim.keeps x.toInCall.keep
  refine ⟨lim1, ?_⟩
  obtain ⟨h1, tk, es1, hk1⟩ := x.done
  have os1 : s1.os = s.os := by rw [es1]
  have gen1 : s1.gens = s.gens := by rw [es1]
  have lt1 : s.heap.objs.size < s1.heap.objs.size := x.toInCall.ns.lt
  have kp1 : ∀ b o, s.heap.get? b = some o → s1.heap.get? b = some o := x.toInCall.keep
  have main : ∀ (go : Obj) (nm qn : Value) (tk2 : Nat), go.cls = .type "generator" → go.data = .fields #[.int s1.gens.size 0, nm, qn] → go.slots = #[] → (∀ h : Heap, (h.push go).get? h.objs.size = some go) →
      MadeJ P w (k + 1) outer H s Q (.ref s1.heap.objs.size) { s1 with gens := s1.gens.push (.fresh (.func body (envOfC qual scope s.heap.objs.size f cdv))), toks := tk2, heap := s1.heap.push go } := by
    intro go nm qn tk2 g1 g2 g3 g4
    have isg : ∀ h : Heap, h.get? s1.heap.objs.size = some go → h.IsGen s1.heap.objs.size s1.gens.size := fun h e => ⟨go, nm, qn, e, g1, g2, g3⟩
    have pushed : (s1.heap.push go).get? s1.heap.objs.size = some go := g4 _
    have sz2 : (s1.heap.push go).objs.size = s1.heap.objs.size + 1 := Heap.size_push ..
    refine ⟨s1.heap.objs.size, s1.gens.size, _, rfl, Nat.le_of_lt lt1, ?_, isg _ pushed, Array.getElem?_push_size .., os1, ?_, lim1.keeps fun b o e => Heap.get?_push_of_some _ e, fun b o e => Heap.get?_push_of_some _ (kp1 b o e), ?_⟩
    · show _ < (s1.heap.push _).objs.size
      rw [sz2]; exact Nat.lt_succ_self _
    · exact AllBare.push (by rw [gen1]; exact e0.bare) rfl
    intro Aw Sx Cx s2 co hrw hfr hS hC hSC hk2 hSo hCo hcc hos hba
    have hS : (s1.heap.push go).objs.size ≤ Sx := hS
    have hC : (s1.heap.push go).objs.size ≤ Cx := hC
    rw [sz2] at hS hC
    have e0w : Env0 P w K mg base Aw outer s H := ⟨hfr, e0.mod, e0.bs, e0.bsz, e0.funs, e0.frf, e0.hok, e0.bare⟩
    obtain ⟨t, ht, hq⟩ := hbody Aw outer s H vs Q [(s1.heap.objs.size, go)] (hrw.deeper _) hsp
    have I1 : Inv (gcxOf P w K mg base N qual scope f cdv Aw outer s H noE []) [] (L2.start N vs) H s1 := inv_startG S hrw.hd e0w hl r x
    have kp2 : ∀ b o, s1.heap.get? b = some o → s2.heap.get? b = some o := fun b o e => hk2 b o (Heap.get?_push_of_some _ e)
    have I2 : Inv (gcxOf P w K mg base N qual scope f cdv Aw outer s H noE []) [] (L2.start N vs) H s2 :=
      I1.call' (ch := []) (hos.trans os1.symm) (Un.kept kp2) (I1.hok.kept kp2) hba fun b z => by simp at z
    obtain ⟨cS, heS⟩ := hSo
    have hea : s2.heap.get? s1.heap.objs.size = some go := hk2 s1.heap.objs.size go pushed
    have young : ∀ b, s1.heap.objs.size ≤ b → H b = none ∧ b ≠ s.heap.objs.size ∧ b ∉ frs outer ∧ s.heap.objs.size ≤ b ∧ ∀ y c, (cellsFrom (s.heap.objs.size + 1) scope.names []).lookup y = some c → c ≠ b := fun b hb => by
      refine ⟨I1.hok.fresh hb, Nat.ne_of_gt (Nat.lt_of_lt_of_le lt1 hb), I1.nofs hb, Nat.le_trans (Nat.le_of_lt lt1) hb, fun y c e z => ?_⟩
      obtain ⟨v, ob, ho, _⟩ := I1.cell y c e
      have lt := Heap.lt_size ho
      rw [z] at lt
      exact Nat.lt_irrefl _ (Nat.lt_of_lt_of_le lt hb)
    have yA := young s1.heap.objs.size (Nat.le_refl _)
    have yS := young Sx (by omega)
    have yC := young Cx (by omega)
    have hG : GJ (gcxOf P w K mg base N qual scope f cdv Aw outer s H noE [(s1.heap.objs.size, go)]) Sx Cx co [] (L2.start N vs) H s2 := by
      refine ⟨#[], cS, .nil, Inv.pinnedG I2 fun p hp => ?_⟩
      have hp : p = (s1.heap.objs.size, go) ∨ p = (Sx, lstObj #[] cS) ∨ p = (Cx, co) := by simpa using hp
      rcases hp with rfl | rfl | rfl
      · exact ⟨hea, yA.1, yA.2.1, yA.2.2.1, fun v q => by rw [g2] at q; cases q⟩
      · exact ⟨heS, yS.1, yS.2.1, yS.2.2.1, fun v q => by cases q⟩
      · exact ⟨hCo, yC.1, yC.2.1, yC.2.2.1, hcc⟩
    have far : Far (gcxOf P w K mg base N qual scope f cdv Aw outer s H noE [(s1.heap.objs.size, go)]) Sx Cx :=
      ⟨⟨yS.2.2.2.1, yS.2.1, yS.2.2.2.2⟩, ⟨yC.2.2.2.1, yC.2.1, yC.2.2.2.2⟩, hSC, fun p hp => by
        rw [List.mem_singleton.mp hp]
        exact ⟨by show s1.heap.objs.size ≠ Sx; omega, by show s1.heap.objs.size ≠ Cx; omega⟩⟩
    have pinned : ∀ {co' : Obj} {ys : List V} {s' : Shared} {σ' : L2.St} {H' : Hp}, GJ (gcxOf P w K mg base N qual scope f cdv Aw outer s H noE [(s1.heap.objs.size, go)]) Sx Cx co' ys σ' H' s' → s'.heap.IsGen s1.heap.objs.size s1.gens.size := fun {co' ys s' σ' H'} hI => by
      obtain ⟨acc, cc, _, J⟩ := hI
      exact isg _ (J.pin (s1.heap.objs.size, go) (List.mem_append_left _ (List.mem_singleton.mpr rfl))).1
    refine seg_func ?_
    refine seg_imp (R := RJ P w outer H s Sx Cx Q) (Y := YJ (gcxOf P w K mg base N qual scope f cdv Aw outer s H noE [(s1.heap.objs.size, go)]) Sx Cx) (fun n s₀ r s1' hR => hR) (fun n s₀ v s1' kap kap' hkk hY => ?_) sizeLine ?_
    · obtain ⟨ys, xx, σ', H', co', hn, h2, hI, hC3, h3⟩ := hY
      obtain ⟨_, ⟨eC, _⟩, acc, cc, ra, ea⟩ := hI.facts
      have hg := pinned hI
      obtain ⟨_, _, _, J⟩ := hI
      have hsz : acc.size = ys.length := by
        have e1 := ra.length
        have e2 : acc.toList.length = acc.size := by simp
        omega
      exact ⟨J.os, J.bare, J.nolimit, hg, ⟨acc, cc, ea, by rw [hsz]; exact hn⟩, ⟨co', hC3, eC⟩, fun s' z => hkk _ _ (h3 s' z)⟩
    · refine ht.run Aw Sx Cx _ s2 _ [] _ _ id id s2 (L2.start N vs) H co Q ⟨far, over_func, rfl, rfl, rfl⟩ ⟨fun n ys s₀ s' σ' H' co' hn hI hC3 hQ => ?_, fun n s₀ e s' hx => ?_⟩ hG hCo hq
      · obtain ⟨⟨nS, _⟩, ⟨eC, nC, _⟩, acc, cc, ra, ea⟩ := hI.facts
        obtain ⟨_, _, _, J⟩ := hI
        exact seg_end (.ok (.ret .none)) (.inl ⟨.inl rfl, H', ys, acc, cc, J.os, J.bare, J.base, J.hok, nS, nC, ea, ra, by omega, ⟨co', hC3, eC⟩, hQ⟩)
      · refine seg_wrap ?_
        rw [over_func]
        refine wpAny_mono (show wpAny (model P w) (Aw.deeper (envOfC qual scope s.heap.objs.size f cdv)) (leaving (envOfC qual scope s.heap.objs.size f cdv) e) (fun _ s'' => CX P w outer H s noE e s'' ∧ ∀ p ∈ [(s1.heap.objs.size, go)], s''.heap.get? p.1 = some p.2) (fun _ _ => False) s' from hx) (fun _ s'' q => ?_) fun _ s'' q => q.elim
        obtain ⟨⟨_, _, _, _, _, _, _, _, _, _, _, _, z⟩, _⟩ := q
        exact z.elim
  exact main _ _ _ _ rfl rfl rfl fun h => Heap.get?_push_size _ rfl
end GCx

set_option Elab.async false
set_option linter.all false
set_option maxRecDepth 100000
set_option maxHeartbeats 1000000
/-! GE: the comprehension over such a generator. -/
namespace GCx
open PySem PySem.Spec PyProof.Rows L2 GenW
structure PGenJ (X : Cx) (k : Nat) (e : Expr) (tg : TGj) : Prop where
  run : ∀ (pins : List (Addr × Obj)) (s : Shared) (σ : L2.St) (H : Hp) (Q : List V → Hp → Prop), Inv X pins σ H s → tg σ H Q → wpAny (model X.prog X.w) X.A (eval e X.env)
    (fun u s' => ∃ H1 sc, Inv X pins σ H1 sc ∧ MadeJ X.prog X.w k X.stack H1 sc Q u s') X.xe s
section
variable {X : Cx} {k : Nat} {f C : Addr} {fd : FuncData} {ps : List Str} {sp : SpJ} {x m : Str} {pos apos : Pos} {o : Expr} {ta : TE}
def tMethJ (C : Addr) (m : Str) (sp : SpJ) (ta : TE) : TGj := fun σ H Q => ta σ H fun x H1 => ∃ a dx fs, x = .ref a ∧ H1 a = some (.ins C dx fs) ∧ fs.lookup m = none ∧ sp [x] H1 Q
theorem runJ {pins : List (Addr × Obj)} {σ : L2.St} {H : Hp} {s : Shared} {us : List Value} {vs : List V} {Q : List V → Hp → Prop} {E1 : Value → Shared → Prop} (F : GFnJ X.prog X.w X.K X.mg X.base k f fd ps sp) (hr : Room k X.A) (hb : Binds X.K fd ps [])
    (I : Inv X pins σ H s) (r : Vals vs us) (h : sp vs H Q) : wpAny (model X.prog X.w) X.A (call (.ref f) us) (fun u s' => ∃ H1 sc, Inv X pins σ H1 sc ∧ MadeJ X.prog X.w k X.stack H1 sc Q u s') E1 s := by
  have hl2 : us.length = ps.length := by rw [← r.length]; exact F.len _ _ _ h
  refine wpAny_call (codeAny_mono (F.run X.A X.stack s H ⟨us, []⟩ us vs Q hr I.env0 (by have := hb s us I.kIn (by simpa using hl2); simpa using this) r h) fun r s' hq => ?_)
  cases r with
  | error e => exact False.elim hq
  | ok fl =>
    cases fl with
    | ret u => exact ⟨H, s, I, hq⟩
    | next => exact False.elim hq
    | brk => exact False.elim hq
    | cont => exact False.elim hq
/-- o.m() -/
theorem pgenJ_meth0 {pl : Sem Bool} (he : PE X o ta) (c : Cls X.K C) (hm : Meth X.K C m f) (F : GFnJ X.prog X.w X.K X.mg X.base k f fd ps sp) (hr : Room k X.A) (hb : Binds X.K fd ps [])
    (ht : eval (.Call (.Attribute o m apos) [] [] pos) X.env = (do
      let ov ← eval o X.env
      standAt apos.atName
      let (f, first) ← holding [ov] (getMethod ov m pl)
      callWith pos f first (backTo pos (starEach [] X.env)) (backToKw pos (keywordEach [] X.env))) := by rfl) :
    PGenJ X k (.Call (.Attribute o m apos) [] [] pos) (tMethJ C m sp ta) := by
  refine ⟨fun pins s σ H Q I h => ?_⟩
  refine PySem.W.methodCall_KW (pl := pl) (thn (he.run pins s σ H _ I h) fun u s1 ⟨x, H1, I1, rx, a, dx, fs, ex, ea, l, q⟩ => ?_) ht
  subst ex
  obtain rfl : u = Value.ref a := rx
  refine getmeth_ok I1 ea c hm l ?_
  exact PySem.W.callWith_K0 (first := [.ref a]) I1.kIn hm.kp (runJ (us := [.ref a]) (vs := [.ref a]) F hr hb I1 (.cons rfl .nil) q)
def tLcG (tg : TGj) : TE := fun σ H Q => tg σ H fun out H2 => ∀ p, H2 p = none → Q (.ref p) (upd H2 p (.lst out))
/-- [x for x in g()] -/
theorem pe_lcG {e : Expr} {tg : TGj} {y : Str} {p1 p2 : Pos} {scope : Scope} (hc : X.calm = true) (h : PGenJ X k e tg) (hr : Room (k + 3) X.A) (hk : scope.kind = .function) (hn : scope.names = [((".0" : Str), .local), (y, .local)]) (hy : (y == ("__debug__" : Str)) = false)
    (hs : ∀ x, foldedSetIterable e X.env x = pure x := by intro _; rfl) : PE X (.ListComp (.Name y p1) [⟨.Name y p2, e, [], 0⟩] scope pos) (tLcG tg) := by
  refine ⟨fun pins s σ H Q I hq => ?_⟩
  rw [eval_ListComp]
  have nof : ∀ z ∈ scope.names, z.2 = .free → ∃ c, X.env.cells.lookup z.1 = some c := fun z hz q => by
    rw [hn] at hz
    simp only [List.mem_cons, List.not_mem_nil, or_false] at hz
    rcases hz with rfl | rfl <;> cases q
  have kind : scope.names.lookup y = some .local := by
    rw [hn, List.lookup_cons]
    cases h : (y == (".0" : Str))
    · simp
    · rfl
  have kind0 : scope.names.lookup (".0" : Str) = some .local := by
    rw [hn, List.lookup_cons]
    rfl
  refine wpAny_comprehension_free (use := none) rfl hs (closure_ok nof) hk (fun z hz q => by
    rw [hn] at hz
    simp only [List.mem_cons, List.not_mem_nil, or_false] at hz
    rcases hz with rfl | rfl
    · exact kind0
    · exact kind) (thn (h.run pins s σ H _ I hq) fun u s1 ⟨H1, sc, I1, hG⟩ => ?_)
  obtain ⟨a, g, c, rfl, ha1, ha2, hg, hgs, hos, hb, hl, hkp, wake⟩ := hG
  have ha2 : @LT.lt Nat _ a s1.heap.objs.size := ha2
  refine wpAny_pyIter_gen hg ?_
  refine wpAny_newObj_type (newEnv_comp ?_) (by show 0 ≤ sizeLine; decide)
  have cells : ∀ q : Heap, pushCells q scope.names = q := fun q => by rw [hn]; rfl
  rw [cells]
  generalize hD : s1.heap.objs.size = D
  have hD' : @Eq Nat s1.heap.objs.size D := hD
  have hC : (s1.heap.push { cls := .type "list", data := .seq ([] : List Value).toArray }).objs.size = D + 1 := by rw [Heap.size_push, hD]
  show codeAny _ X.A (.compStart (.ListComp (.Name y p1) [⟨.Name y p2, e, [], 0⟩] scope pos) 0 (.ref a) (.ref D) (compEnvC scope _ _ X.env)) _ _
  simp only [hC]
  generalize hce : compEnvC scope (cellsFrom (D + 1 + 1) scope.names (cloFrom X.env.cells scope.names [])) (D + 1) X.env = ce
  have cL : ce.locals = D + 1 := by rw [← hce]; rfl
  have cK : ce.scope.kind = .function := by rw [← hce]; exact hk
  have cN : ce.kindOf y = some .local := by rw [← hce]; exact lookup_relabel_local kind
  have kp : ∀ b o, s1.heap.get? b = some o → ((s1.heap.push { cls := .type "list", data := .seq ([] : List Value).toArray }).push { cls := .type "dict", data := .dict #[] }).get? b = some o := fun b o q => Heap.get?_push_of_some _ (Heap.get?_push_of_some _ q)
  have eD : ((s1.heap.push { cls := .type "list", data := .seq ([] : List Value).toArray }).push { cls := .type "dict", data := .dict #[] }).get? D = some (lstObj #[] 0) := by
    refine Heap.get?_push_of_some _ ?_
    rw [← hD]
    exact Heap.get?_push_size _ rfl
  have nC := Heap.Ns.new (s1.heap.push { cls := .type "list", data := .seq ([] : List Value).toArray }) (.type "dict")
  rw [hC] at nC
  generalize hs4 : ({ s1 with heap := (s1.heap.push { cls := .type "list", data := .seq ([] : List Value).toArray }).push { cls := .type "dict", data := .dict #[] } } : Shared) = s4
  have h4 : s4.heap = (s1.heap.push { cls := .type "list", data := .seq ([] : List Value).toArray }).push { cls := .type "dict", data := .dict #[] } := by rw [← hs4]
  have g4 : s4.gens = s1.gens := by rw [← hs4]
  have o4 : s4.os = s1.os := by rw [← hs4]
  rw [← h4] at kp eD nC
  have szD : sc.heap.objs.size ≤ D := by omega
  -- the turns
  let St : Nat → Shared → Prop := fun n s' => s'.heap.IsGen a g ∧ s'.heap.NoLimit ∧ s'.os = sc.os ∧ AllBare s'.gens ∧ (∃ ns, s'.heap.Ns (D + 1) ns) ∧ (∃ acc c, s'.heap.get? D = some (lstObj acc c)) ∧
    ∃ gs, s'.gens[g]? = some gs ∧ gs.Goes (model X.prog X.w) X.A.in1 (RJ X.prog X.w X.stack H1 sc D (D + 1) (fun out H2 => ∀ p, H2 p = none → Q (.ref p) (upd H2 p (.lst out)))) (XJ sc D (D + 1) a g) n (.send .none) (s'.setGen g .running)
  have Dne : D ≠ D + 1 := by omega
  have aD : @Ne Nat a D ∧ @Ne Nat a (D + 1) := by omega
  have hcst : cStatics < s1.heap.objs.size := let ⟨_, hn, _⟩ := hl; hn.lt
  have hcst' : @LT.lt Nat _ cStatics s1.heap.objs.size := hcst
  have cD : @Ne Nat cStatics D ∧ @Ne Nat cStatics (D + 1) := by omega
  have st0 : St sizeLine s4 := by
    refine ⟨hg.keeps kp, hl.keeps kp, o4.trans hos, by rw [g4]; exact hb, ⟨_, nC⟩, ⟨_, _, eD⟩, .fresh c, by rw [g4]; exact hgs, rfl, ?_⟩
    obtain ⟨oC, es, ep, eC, dC, _⟩ := nC
    refine wake _ D (D + 1) _ oC ⟨hr.hd, ?_, ?_⟩ I1.ok.frames (by omega) (by omega) Dne (fun b o q => kp b o q) ⟨0, eD⟩ eC (fun v q => by rw [dC] at q; cases q) (o4.trans hos) (allBare_setGen (s := s4) (by rw [g4]; exact hb) rfl)
    · have := hr.dp
      show X.A.depth + 3 * k + 5 < _
      omega
    · have := hr.un
      show X.A.units + 1 + 16 * k + 200 < _
      omega
  have loop : codeAny (model X.prog X.w) X.A (.compLoop (.ListComp (.Name y p1) [⟨.Name y p2, e, [], 0⟩] scope pos) 0 (.ref a) (.ref D) ce) (compPost (model X.prog X.w) X.A X.xe none (EP X pins σ Q) (.ref D) (D + 1)) s4 := by
    refine compLoop_any St ?_ sizeLine st0
    rintro n s5 ⟨hg5, hl5, os5, hb5, ⟨ns5, hns5⟩, ⟨acc5, c5, eD5⟩, gs, hgs5, hgo⟩
    have hgl : g < s5.gens.size := (Array.getElem?_eq_some_iff.mp hgs5).1
    have goes : gs.Goes (model X.prog X.w) X.A.in1 (fun n s₀ r s1 => ((r = .ok (.ret .none) ∨ r = .ok .next) ∧ EJ X.prog X.w X.stack H1 sc D (D + 1) (fun out H2 => ∀ p, H2 p = none → Q (.ref p) (upd H2 p (.lst out))) n s₀ s1) ∨ ∃ e, r = .error e ∧ (fun _ _ => False) e s1) (XJ sc D (D + 1) a g) n (.send .none) (s5.setGen g .running) := hgo
    refine wpAny_gsz (n := g + 1) hgl (next_genG (A := X.A) (I.ok.hd hc) hl5 (by have := hr.dp; omega) hg5 hgs5 goes (fun v s6 gs' hbare hv => ?_) (fun s6 hp h' hk' => ?_) fun _ _ z => z.elim)
    · intro hsz
      obtain ⟨os6, hb6, hl6, hg6, ⟨acc6, c6, eD6, hacc⟩, ⟨co, eC5, eC6⟩, hk6⟩ := hv
      obtain ⟨oC, es, ep, eC, dC, rC⟩ := hns5
      have eC5 : s5.heap.get? (D + 1) = some co := eC5
      rw [eC] at eC5
      cases eC5
      have gsz : g < s6.gens.size := by
        have q : (s6.setGen g gs').gens.size = s6.gens.size := setGen_size _ _ _
        have hsz' : g + 1 ≤ (s6.setGen g gs').gens.size := hsz
        omega
      obtain ⟨og, nm, qn, e1, e2, e3, _⟩ := id hg6
      refine go_of (s := s6.setGen g gs') (o := og) e1 e2 e3 (by decide) ?_
      refine wpAny_assign_Name (wpAny_storeName_local cN (m := ns5) (by rw [cL]; exact ⟨co, es, ep, eC6, dC, rC⟩) (fun h7 n7 sb7 => ?_) (by rw [cK]; rfl))
      rw [cL] at n7 sb7
      refine wpAny_tests_nil ?_
      rw [if_pos rfl]
      refine wpAny_Name (wpAny_loadName_local cK cN (by rw [cL]; exact n7) (v := v) (by simp) ?_) hy
      have e7 : h7.get? D = some { cls := .type "list", data := .seq acc6 c6 } := (sb7.2 D Dne).trans eD6
      refine append_at (hsz := by omega) e7 fun h8 sb8 e8 => ?_
      have nap : Nap D (D + 1) v s6 ({ s6.setGen g gs' with heap := h8, toks := s6.toks + 1 } : Shared) := by
        refine ⟨rfl, allBare_setGen hb6 hbare, fun b o n1 n2 q => (sb8.2 b n1).trans ((sb7.2 b n2).trans q), fun acc c q => ?_, ?_⟩
        · rw [eD6] at q
          cases q
          exact ⟨_, e8⟩
        · obtain ⟨o9, _, _, q9, d9, _⟩ := n7
          exact ⟨o9, (sb8.2 _ (Ne.symm Dne)).trans q9, fun u z => by rw [d9] at z; cases z⟩
      cases n with
      | zero => exact (hk6 _ nap).elim
      | succ n =>
        refine ⟨n, Nat.lt_succ_self n, ?_, ?_, os6, allBare_setGen hb6 hbare, ⟨_, n7.sameBut sb8 (Ne.symm Dne)⟩, ⟨_, _, e8⟩, gs', setGen_at gsz, ?_⟩
        · exact ⟨og, nm, qn, (sb8.2 a aD.1).trans ((sb7.2 a aD.2).trans e1), e2, e3, by assumption⟩
        · obtain ⟨mc, k1, k2⟩ := hl6
          exact ⟨mc, k1.at' fun o q => (sb8.2 _ cD.1).trans ((sb7.2 _ cD.2).trans q), k2⟩
        · refine hk6 _ ⟨rfl, allBare_setGen (allBare_setGen hb6 hbare) rfl, nap.rest, nap.more, nap.own⟩
    · intro _
      obtain ⟨H', out, acc, cc, os6, hb6, un, hok, nD, nC', eD6, hv, hle, ⟨co, eC5, eC6⟩, hQ⟩ := hp
      obtain ⟨oC, es, ep, eC, dC, rC⟩ := hns5
      have eC5 : s5.heap.get? (D + 1) = some co := eC5
      rw [eC] at eC5
      cases eC5
      refine ⟨ns5, ⟨co, es, ep, hk' _ _ eC6, dC, rC⟩, fun h'' sb => ?_⟩
      have I7 := I1.drained (s' := ({ s6.setGen g .finished with heap := h' } : Shared)) szD hle (hk' _ _ eD6) hv .nil os6 (allBare_setGen hb6 rfl) (un.trans (Un.kept hk')) (hok.kept hk') nD
      have nC2 : upd H' D (.lst out) (D + 1) = none := by rw [upd_ne (Ne.symm Dne)]; exact nC'
      obtain ⟨f0, f1, f2, f3, f4, f5⟩ := I1.fpOk (b := D + 1) (H' := upd H' D (.lst out)) (by omega) nC2
      exact ⟨.ref D, upd H' D (.lst out), I7.turned (t' := s6.toks) (fun b o hb e => (sb.2 b hb).trans e) f0 f1 f3 f4 f5, rfl, hQ D nD⟩
  have e := codeAny_compStart_list loop (wpAny_pyIter_gen (hg.keeps kp) loop)
  rw [← hce] at e
  exact e
end
end GCx

set_option Elab.async false
set_option linter.all false
set_option maxRecDepth 100000
set_option maxHeartbeats 2000000
/-! SK: sorted(xs, key=lambda y: y[1]) of a list of tuples. -/
namespace SKx
open PySem PySem.Spec PyProof.Rows L2 LamX
abbrev h00 : Heap := { objs := #[] }
section
variable {prog : Program} {w : World} {A : Around} {s : Shared}
/-- the key function's call -/
theorem key_call {f c' t : Addr} {q y : Str} {params : Arguments} {scope : Scope} {cl : List (Str × Addr)} {pm ctv : Value} {p1 p2 p3 : Pos} {jc : Nat} {items : Array Value} {k : Int} {tk0 : Tok}
    (hd : A.depth < recursionLimit) (hl : s.heap.NoLimit) (hf : s.heap.get? f = some (PySem.W.kla_obj "<lambda>" q params (.Subscript (.Name y p1) (.Constant (.int 1) jc p2) p3) scope cl pm c' ctv))
    (hk : scope.kind = .function) (hco : scope.isCoroutine = false) (hge : scope.isGenerator = false) (hn : scope.names = [(y, .local)]) (hy : (y == ("__debug__" : Str)) = false)
    (hbind : ∀ v : Value, bindArgs (PySem.W.kla_fn "<lambda>" q params (.Subscript (.Name y p1) (.Constant (.int 1) jc p2) p3) scope cl pm (.ref c') ctv) ⟨[v], []⟩ = pure [(y, v)])
    (hc : ∃ (oc : Obj) (vs : Array Value) (t : Tok), s.heap.get? c' = some oc ∧ oc.data = .fields vs ∧ vs[1]? = some (.str q t)) (ht : IsTup s.heap t items) (hi : items[1]? = some (.int k tk0)) :
    wpAny (model prog w) A (call (.ref f) [.ref t]) (fun r s' => ∃ h' tk' t', s' = { s with heap := h', toks := tk' } ∧ r = .int k t' ∧ ∀ b o, s.heap.get? b = some o → h'.get? b = some o) (fun _ _ => False) s := by
  obtain ⟨oc, vs, tq, c1, c2, c3⟩ := hc
  have kind : scope.names.lookup y = some .local := by rw [hn]; simp
  refine wpAny_call (PySem.W.kla_callFunE hd hf rfl hco hge rfl ⟨c', oc, vs, tq, rfl, c1, c2, c3⟩ ?_)
  rw [hbind]
  refine wpAny_pure (wpAny_newFunctionEnv (fun z hz => ?_) (fun z hz => ?_) (fun h1 hns hsb => ⟨hl.fresh _ hsb, ?_⟩) hk)
  · have hz : z ∈ scope.names := hz
    rw [hn] at hz
    rw [List.mem_singleton.mp hz]
    intro e
    cases e
  · rw [List.mem_singleton.mp hz]
    exact kind
  have kp : ∀ b o, s.heap.get? b = some o → h1.get? b = some o := fun b o e => hsb.extBut b o (Nat.ne_of_lt (Heap.lt_size e)) (Heap.get?_push_of_some _ e)
  refine PySem.W.kla_codeExpr (Subscript_ (wpAny_Name (wpAny_loadName_local hk kind hns (v := .ref t) (by simp) ?_) hy))
  refine wpAny_Constant_int ?_
  have ht1 := ht.keeps kp
  have h2 : 1 < items.size := (Array.getElem?_eq_some_iff.mp hi).1
  have ix : seqIndex? 1 items.size = some 1 := by
    unfold seqIndex?
    simp
    omega
  exact subscriptTail_builtinR (x := .int k tk0) ht1.typeIs slot_tuple_getitem.lookup (getItem_tuple (j := 1) ht1 (by decide) (by decide) ix hi ⟨rfl, _, _, tk0, rfl, rfl, kp⟩) rfl
end
/-- the tuples of xs: their second items -/
def Keyed1 (K : PySem.W.Frag) (H : Hp) (xs : List V) (ks : List Int) : Prop := xs.length = ks.length ∧ ∀ (i : Nat) (x : V) (k : Int), xs[i]? = some x → ks[i]? = some k → ∃ t ys, x = .ref t ∧ SqT K H t ys ∧ ys[1]? = some (.int k)
/-- qs: the pairs of keys and items, sorted and stable -/
def SortedBy (ks : List Int) (xs : List V) (qs : List (Int × V)) : Prop := qs.Perm (ks.zip xs) ∧ qs.Pairwise (fun p q => p.1 ≤ q.1) ∧ ∀ c, qs.filter (fun p => p.1 == c) = (ks.zip xs).filter (fun p => p.1 == c)
def tSortKey (K : PySem.W.Frag) (T : List (Addr × Str)) (te : TE) : TE := fun σ H Q => te σ H fun x H1 => Tabs T H1 ∧ ∀ H2, ExtN H1 H2 → Tabs T H2 → ∃ a xs ks, x = .ref a ∧ SqL K H2 a xs ∧ Keyed1 K H2 xs ks ∧ ∀ qs p, SortedBy ks xs qs → H2 p = none → Q (.ref p) (upd H2 p (.lst (qs.map (·.2))))
theorem zip_get {α β : Type} : ∀ {as : List α} {bs : List β} {p : α × β}, p ∈ as.zip bs → ∃ i : Nat, as[i]? = some p.1 ∧ bs[i]? = some p.2
  | a :: as, b :: bs, p, h => by
    rw [List.zip_cons_cons] at h
    rcases List.mem_cons.mp h with rfl | h
    · exact ⟨0, rfl, rfl⟩
    · obtain ⟨i, h1, h2⟩ := zip_get h
      exact ⟨i + 1, h1, h2⟩
  | [], _, _, h => by simp at h
  | _ :: _, [], _, h => by simp at h
theorem obj_has {P : Program} {w : World} {H : Hp} {h : Heap} {a : Addr} {o : HO} (x : ObjOk P w H h a o) : ∃ u, h.get? a = some u := by
  cases o with
  | lst xs => obtain ⟨_, _, _, _, e⟩ := x; exact ⟨_, e⟩
  | tup xs => obtain ⟨_, _, _, u, e, _⟩ := x; exact ⟨u, e⟩
  | dK kvs => obtain ⟨_, _, _, _, o, _, _, e, _⟩ := x; exact ⟨o, e⟩
  | dT kvs => obtain ⟨_, _, _, _, o, _, _, e, _⟩ := x; exact ⟨o, e⟩
  | set S n => obtain ⟨o, _, _, _, e, _⟩ := x; exact ⟨o, e⟩
  | ins C dx fs => obtain ⟨_, _, _, e, _⟩ := x; exact ⟨_, e⟩
  | own y => exact x
  | xd fs => obtain ⟨_, ⟨o, _, _, e, _⟩, _⟩ := x; exact ⟨o, e⟩
  | rng lo hi => obtain ⟨_, _, _, e⟩ := x; exact ⟨_, e⟩
  | frz ob u => exact ⟨_, x.1⟩
  | tbl ps => exact ⟨_, x⟩
  | met f y => exact ⟨_, x⟩
  | ext φ => exact x.2.1
section
variable {X : Cx}
theorem pe_sortKey {T : List (Addr × Str)} {c P : Addr} {k : Nat} {e : Expr} {te : TE} {y : Str} {params : Arguments} {scope : Scope} {p p1 p2 p3 lpos kpos pos : Pos} {jc : Nat} (he : PE X e te) (hcm : X.calm = true) (hg : Gl X "sorted") (hm : X.mg "sorted" = none)
    (TB : TabB X.base X.mg c P) (hcode : X.env.code = .ref c) (hmT : (P, X.env.qual ++ "<lambda>") ∈ T) (hu : ∀ p ∈ T, p.1 = P → p.2 = X.env.qual ++ "<lambda>") (hr : Room (k + 1) X.A) (hdef : defaultsOf params X.env = ([], []))
    (hk : scope.kind = .function) (hco : scope.isCoroutine = false) (hge : scope.isGenerator = false) (hn : scope.names = [(y, .local)]) (hy : (y == ("__debug__" : Str)) = false)
    (hbind : ∀ (q : Str) (cl : List (Str × Addr)) (pm cv ctv v : Value), bindArgs (PySem.W.kla_fn "<lambda>" q params (.Subscript (.Name y p1) (.Constant (.int 1) jc p2) p3) scope cl pm cv ctv) ⟨[v], []⟩ = pure [(y, v)])
    (h1 : backTo pos (starEach [e] X.env) = (false, eval e X.env) :: backTo pos (starEach [] X.env) := by rfl) (h2 : (backTo pos (starEach [e] X.env)).any (·.1) = false := by rfl) :
    PE X (.Call (.Name "sorted" p) [e] [⟨some "key", .Lambda params (.Subscript (.Name y p1) (.Constant (.int 1) jc p2) p3) scope lpos, kpos⟩] pos) (tSortKey X.K T te) := by
  refine ⟨fun pins s σ H Q I h => ?_⟩
  refine wpAny_Call_Name_kw (ld_blt (u := .builtin "sorted") I hg hm (by first | rfl | decide +kernel) ?_ (by decide) (by decide))
  refine PyProof.Rows.callWith_kw ?_ h1 h2 (by rfl) (by rfl)
  rw [h1]
  refine Calls.spliced_cons (thn (he.run pins s σ H _ I h) fun u s1 ⟨x, H1, I1, rx, hT, hq⟩ => ?_)
  refine Calls.spliced_nil ?_
  show wpAny _ _ (evalAll [do let v ← eval _ X.env; standAt pos; pure v]) _ _ s1
  have nof : ∀ z ∈ scope.names, z.2 = .free → ∃ c, X.env.cells.lookup z.1 = some c := fun z hz q => by
    rw [hn] at hz
    rw [List.mem_singleton.mp hz] at q
    cases q
  refine wpAny_evalAll_cons (wpAny_bind (lam_make2 I1 TB hcode hmT hu hT hdef nof fun f c' pm ctv H2 s2 I2 eN T2 hf hfn hfr hco' => wpAny_bind (wpAny_standAt (wpAny_pure (wpAny_evalAll_nil ?_)))))
  obtain ⟨a, xs, ks, rfl, hl, hK, q⟩ := hq H2 eN T2
  obtain rfl : u = Value.ref a := rx
  show wpAny _ X.A (call (.builtin "sorted") [.ref a] [(Str.ofString "key", .ref f)]) _ _ s2
  obtain ⟨its, rv, pl, hz⟩ := I2.list hl
  obtain ⟨m, hns, hlk⟩ := id I2.loc
  obtain ⟨oL, es, ep, eL, dL, rL⟩ := id hns
  -- all that stands, but the frame's own object
  let news : List (Addr × Obj) := (List.range s2.heap.objs.size).filterMap fun b => if b = X.env.locals then none else (s2.heap.get? b).map fun o => (b, o)
  have mem : ∀ b o, b ≠ X.env.locals → s2.heap.get? b = some o → (b, o) ∈ news := fun b o n e => List.mem_filterMap.mpr ⟨b, List.mem_range.mpr (Heap.lt_size e), by rw [if_neg n, e]; rfl⟩
  have inv : ∀ z ∈ news, z.1 ≠ X.env.locals ∧ s2.heap.get? z.1 = some z.2 := fun z hz => by
    obtain ⟨b, _, e⟩ := List.mem_filterMap.mp hz
    by_cases hb : b = X.env.locals
    · rw [if_pos hb] at e
      cases e
    · rw [if_neg hb] at e
      cases ho : s2.heap.get? b with
      | none => rw [ho] at e; cases e
      | some o => rw [ho] at e; cases e; exact ⟨hb, ho⟩
  have h0 : ∀ b, h00.get? b = none := fun b => by rfl
  have F : Fr h00 X.env.locals s2.heap m := ⟨hns, fun b o e => (by rw [h0] at e; cases e), Nat.zero_le _⟩
  have N : News h00 X.env.locals s2.heap news := fun z hz => ⟨(inv z hz).2, (inv z hz).1, h0 _⟩
  obtain ⟨hlen, hitem⟩ := hK
  have hvl := rv.length
  have refs := refs_back rv fun x hx => by
    obtain ⟨i, hi⟩ := List.getElem?_of_mem hx
    obtain ⟨t, ys, e, _⟩ := hitem i x (ks[i]'(by have := (List.getElem?_eq_some_iff.mp hi).1; omega)) hi (List.getElem?_eq_getElem _)
    exact ⟨t, e⟩
  have fL : f ≠ X.env.locals := fun e => by
    rw [e, eL] at hf
    cases hf
    cases dL
  have cL : c' ≠ X.env.locals := fun e => by
    rw [e] at hco'
    have := I2.free
    rw [hco'] at this
    cases this
  obtain ⟨⟨oc, vs, tq, c1, c2, c3⟩, _, _⟩ := I2.hok c' _ hco'
  obtain ⟨mc, k1, k2⟩ := I2.nolimit
  have sL : cStatics ≠ X.env.locals := fun e => by
    have h1 : cStatics < X.base.objs.size := let ⟨_, hn, _⟩ := I2.mod.nolimit; hn.lt
    have h2 := Nat.le_trans I2.ok.bsz I2.ok.above
    rw [e] at h1
    exact Nat.lt_irrefl _ (Nat.lt_of_lt_of_le h1 h2)
  refine PyProof.Rows.ksk_sortedSt (vs := its) (kz := ks) (b := false) F N (by simpa using pl.isList) (by omega) (by omega) (PyProof.Rows.ksk_s1 _ _) (fun _ => PyProof.Rows.ksk_l1 _ _) (fun z => PyProof.Rows.ksk_t1 f z) (fun i v kx hv hkx h tk own F' N' => ?_) fun D h' tk out cc F' N' hD hout => ?_
  · have at_ : ∀ b o, b ≠ X.env.locals → s2.heap.get? b = some o → h.get? b = some o := fun b o n e => (N' (b, o) (List.mem_append_left _ (mem b o n e))).1
    obtain ⟨x, hx, rx⟩ : ∃ x, xs[i]? = some x ∧ RelV x v := by
      have hi := (List.getElem?_eq_some_iff.mp hv).1
      have hi2 : i < xs.length := by omega
      obtain ⟨w', e1, e2⟩ := rv.get (List.getElem?_eq_getElem hi2)
      rw [hv] at e1
      cases e1
      exact ⟨_, List.getElem?_eq_getElem hi2, e2⟩
    obtain ⟨t, ys, rfl, ht, hys⟩ := hitem i x kx hx hkx
    obtain rfl : v = Value.ref t := rx
    obtain ⟨ti, rt, tup, _⟩ := I2.tuple ht
    obtain ⟨w', e1, e2⟩ := rt.get hys
    obtain ⟨tk0, rfl⟩ := e2
    have tL : t ≠ X.env.locals := fun e => by
      obtain ⟨o, ho, _, n, hd⟩ := tup
      rw [e, eL] at ho
      cases ho
      rw [dL] at hd
      cases hd
    have tup' : IsTup h t ti.toArray := by
      obtain ⟨o, ho, r⟩ := tup
      exact ⟨o, at_ t o tL ho, r⟩
    have := hr.dp
    refine wpAny_mono (key_call (s := { s2 with heap := h, toks := tk }) (c' := c') (A := X.A.in1.in1) (by show X.A.depth < _; omega) ⟨mc, k1.at' fun o e => at_ _ o sL e, k2⟩ (at_ f _ fL hf) hk hco hge hn hy (fun v => hbind _ _ _ _ _ v) ⟨oc, vs, tq, at_ c' _ cL c1, c2, c3⟩ tup' (by simpa using e1)) ?_ fun _ _ z => z
    rintro r s' ⟨h', tk', t', rfl, rfl, kp⟩
    exact ⟨h', tk', t', rfl, rfl, F'.kept kp, N'.grown kp⟩
  · have at_ : ∀ b o, b ≠ X.env.locals → s2.heap.get? b = some o → h'.get? b = some o := fun b o n e => (N' (b, o) (List.mem_cons_of_mem _ (mem b o n e))).1
    obtain ⟨eD, DL, _⟩ := N' _ List.mem_cons_self
    have nD : s2.heap.get? D = none := by
      cases e : s2.heap.get? D with
      | none => rfl
      | some o => exact absurd (hD _ (mem D o DL e)) (Nat.lt_irrefl _)
    have nDH : H2 D = none := by
      cases e : H2 D with
      | none => rfl
      | some o =>
        obtain ⟨o', e'⟩ := obj_has (I2.hok D o e)
        rw [nD] at e'
        cases e'
    obtain ⟨ps, o1, o2, o3, o4⟩ := hout
    have o3 : ps.Pairwise (fun p q => p.1 ≤ q.1) := o3
    obtain ⟨rx, rr⟩ := refs
    have inI : ∀ z ∈ ps, z.2 ∈ its := fun z hz => by
      obtain ⟨i, _, e⟩ := zip_get (o1.mem_iff.mp hz)
      exact List.mem_of_getElem? e
    have ez : ks.zip xs = (ks.zip its).map (fun z => (z.1, backV z.2)) := by
      rw [rx, List.zip_map_right]
      rfl
    have sb : SortedBy ks xs (ps.map fun z => (z.1, backV z.2)) := by
      refine ⟨by rw [ez]; exact o1.map _, ?_, fun c => ?_⟩
      · rw [List.pairwise_map]
        exact o3
      · rw [ez, List.filter_map, List.filter_map]
        have e1 : ((fun p : Int × V => p.1 == c) ∘ fun z : Int × Value => (z.1, backV z.2)) = fun p : Int × Value => p.1 == c := rfl
        rw [e1, o4 c]
    have eo : (ps.map fun z => (z.1, backV z.2)).map (·.2) = out.toList.map backV := by
      rw [o2, List.map_map, List.map_map]
      rfl
    have q' := q _ D sb nDH
    rw [eo] at q'
    have rout : Vals (out.toList.map backV) out.toList := vals_back fun u hu => by
      rw [o2] at hu
      obtain ⟨z, hz, rfl⟩ := List.mem_map.mp hu
      exact rr _ (inI z hz)
    have lout : (out.toList.map backV).length ≤ sizeLine := by
      rw [List.length_map, o2, List.length_map, o1.length_eq, List.length_zip]
      omega
    refine ⟨.ref D, upd H2 D (.lst (out.toList.map backV)), ?_, rfl, q'⟩
    refine I2.step (g' := s2.gens) (d' := s2.drawn) (ch := []) (fun b hb => absurd hb (by simp)) (fun b o nb _ _ e _ => at_ b o nb e) (fun b o nb _ _ e _ => ⟨o.slots, at_ b o nb e⟩) (fun b o _ e n => ?_) (fun b o _ e => ?_) (fun b us e => ?_) (fun b o us e => ?_) (fun b us e => ?_) (fun m' hm' => ?_) (fun b o e => ?_) I2.bare
    · rw [upd_ne (fun w => by rw [w, nD] at e; cases e)]
      exact n
    · by_cases hb : b = X.env.locals
      · obtain ⟨o', _, _, e', _⟩ := F'.ns
        exact ⟨o', by rw [hb]; exact e'⟩
      · exact ⟨o, at_ b o hb e⟩
    · rw [upd_ne (ne_of_none e nDH)]; exact e
    · rw [upd_ne (ne_of_none e nDH)]; exact e
    · exact ⟨#[], by rw [upd_ne (ne_of_none e nDH), e]; simp⟩
    · obtain ⟨o1', es', ep', ho', hd', hs', hf'⟩ := hm'
      rw [eL] at ho'
      cases ho'
      rw [dL] at hd'
      cases hd'
      obtain ⟨o2', es2, ep2, ho2, hd2, hs2, hf2⟩ := F'.ns
      exact ⟨o2', es2, ep2, ho2, hd2, hs2, fun nm => (hf2 nm).trans ((rL.2 nm).symm.trans (hf' nm))⟩
    · by_cases hb : b = D
      · subst hb
        rw [upd_same] at e
        cases e
        exact ⟨lout, out.toList, cc, rout, by simpa using eD⟩
      · rw [upd_ne hb] at e
        refine (I2.hok b o e).stay (fun d v hd q => at_ d v (fun w => ?_) q) (fun d q => by rw [upd_ne (ne_of_none q nDH)]; exact q) fun d us q => by rw [upd_ne (ne_of_none q nDH)]; exact q
        rcases hd with z | z
        · rw [w] at z
          rw [← z, I2.free] at e
          cases e
        · rw [w, I2.free] at z
          cases z
end
end SKx

set_option Elab.async false
set_option linter.all false
set_option maxRecDepth 100000
set_option maxHeartbeats 3200000
/-! SE: set(xs) of a list of ints. -/
namespace SEx
open PySem PySem.Spec PyProof.Rows L2
abbrev ob0 (w : World) : Obj := { cls := .type "set", dict := none, data := .set #[] 0 (.fresh 0 0 (!w.params.followText "set-order")) }
section
variable {P : Program} {w : World} {A : Around} {E : Value → Shared → Prop} {s : Shared}
theorem set_list {l : Addr} {xs : Array Value} (ns : List Int) {Q : Value → Shared → Prop} (ha : A.handled = none) (hl : s.heap.IsList l xs) (hi : IntsAre xs.toList ns) (hb : ns.length + 1 < scanBound)
    (q : ∀ (g : Heap) (tk c : Nat), SetR w g s.heap.objs.size (fun j => decide (j ∈ ns)) c → c ≤ ns.length → (∀ b o, s.heap.get? b = some o → g.get? b = some o) → Q (.ref s.heap.objs.size) { s with heap := g, toks := tk }) :
    wpAny (model P w) A (call (.type "set") [.ref l]) Q E s := by
  have sz : xs.size = ns.length := by
    have := IntsAre.length hi
    rwa [Array.length_toList] at this
  obtain ⟨_, _, cm⟩ := F.called_set.mro
  have c1 := F.called_set.made
  have c2 := F.called_set.sub
  refine wpAny_call (codeAny_of_tree ?_)
  show wpAny _ _ (callAny (.type "set") _) _ _ _
  refine wpAny_pure ⟨Code.quiet_builtin _ (by decide +kernel), codeAny_builtin F.entry_type_call ?_⟩
  rw [Around.under_plain (weight_type_call_type "set" [.ref l] []) rfl]
  have c3 := F.called_set.notType
  have c4 := F.called_set.canCreate
  have c5 := F.typeCall_set_1 (.ref l)
  repeat (any_goals (first | assumption | wp_step))
  refine codeAny_mono (code_set_led1 (.ref l) (E := E) (Q₁ := fun u z => u = .ref s.heap.objs.size ∧ z = { s with heap := s.heap.push (ob0 w) }) ⟨rfl, rfl⟩) fun r z hr => ?_
  cases r with
  | error e => exact hr
  | ok fl =>
    cases fl with
    | ret u =>
      obtain ⟨rfl, rfl⟩ := hr
      have hS : (s.heap.push (ob0 w)).get? s.heap.objs.size = some (ob0 w) := Heap.get?_push_size _ rfl
      have hT : Shared.TypeIs { s with heap := s.heap.push (ob0 w) } (.ref s.heap.objs.size) "set" := ⟨_, hS, rfl⟩
      have c6 := F.called_set.init.lookup
      have c7 := F.called_set.init.bind (.ref s.heap.objs.size)
      repeat (any_goals (first | assumption | wp_step))
      refine codeAny_mono (codeAny_call_builtin (R := wants (fun r z => r = .none ∧ ∃ g tk c, z = { s with heap := g, toks := tk } ∧ SetR w g s.heap.objs.size (fun j => decide (j ∈ ns)) c ∧ c ≤ ns.length ∧ ∀ b o, s.heap.get? b = some o → g.get? b = some o) E) F.called_set.init.plain F.entry_set_init (check_set_init_1 hT ?_)) fun r2 z2 hr2 => ?_
      · obtain ⟨⟨oc, od, oda, osl⟩, e1, e2, n, e3⟩ := hl
        simp only at e2 e3
        subst e2; subst e3
        have e1' : (s.heap.push (ob0 w)).get? l = some { cls := .type "list", dict := od, data := .seq xs n, slots := osl } := Heap.get?_push_of_some _ e1
        have d1 := F.sub_list_set
        have d2 := F.sub_list_frozenset
        have d3 : (Value.type "list" == Value.type "dict") = false := by decide
        have hl1 : (s.heap.push (ob0 w)).IsList l xs := ⟨_, e1', rfl, n, rfl⟩
        unfold Builtin.«set.__init__» noKeywords Builtin.Frozenset.updateFrom
        generalize hPI : pyIter = PI
        wp_walk
        subst hPI
        refine wpAny_pyIter_list hl1 ?_
        refine wpAny_bind (wpAny_runValue ?_)
        have lt : l < s.heap.objs.size := Heap.lt_size e1
        have psz : (s.heap.push (ob0 w)).objs.size = s.heap.objs.size + 1 := Heap.size_push ..
        have nI : l ≠ (s.heap.push (ob0 w)).objs.size := by rw [psz]; exact Nat.ne_of_lt (Nat.lt_succ_of_lt lt)
        have nS : s.heap.objs.size ∉ [(s.heap.push (ob0 w)).objs.size, l] := by
          rw [psz]
          simp only [List.mem_cons, List.mem_singleton, List.not_mem_nil, or_false, not_or]
          exact ⟨Nat.ne_of_lt (Nat.lt_succ_self _), Nat.ne_of_gt lt⟩
        have vals : ∀ (i : Nat) (v : Value), xs[i]? = some v → ∃ k t, ns[i]? = some k ∧ v = .int k t := fun i v hv => by
          have hlt : i < ns.length := by rw [← sz]; exact (Array.getElem?_eq_some_iff.mp hv).1
          obtain ⟨t, e⟩ := PyProof.Rows.IntsAre.int_at hi i v (by rw [Array.getElem?_toList]; exact hv)
          exact ⟨ns[i], t, List.getElem?_eq_getElem hlt, by rw [e, List.getD_eq_getElem?_getD, List.getElem?_eq_getElem hlt] <;> rfl⟩
        refine set_update_ints ((Walks.list (by simp [ha]) _ l nI xs).toS) s.heap.objs.size nS ns sz hb vals (xs.size - 0) 0 _ (by omega) (Nat.zero_le _) ⟨⟨_, Heap.get?_push_size _ rfl, rfl, rfl⟩, hl1.push _⟩ ?start ?fin
        case start => exact ⟨0, Nat.le_refl 0, setR_new_at (Heap.get?_push_of_some _ hS)⟩
        case fin =>
          intro z c' hm hc' hR
          obtain ⟨g, g2, d', tk', os'⟩ := z
          have z1 : g2 = s.gens := hm.gens
          have z2 : d' = s.drawn := hm.drawn
          have z3 : os' = s.os := hm.os
          subst z1; subst z2; subst z3
          show wpAny _ _ _ _ _ _
          refine wpAny_pure ?_
          show wpAny _ _ (ret Value.none) _ _ _
          rw [sz] at hc'
          refine wpAny_pure ⟨rfl, g, tk', c', rfl, hR, hc', fun b o e => ?_⟩
          have b0 : b < s.heap.objs.size := Heap.lt_size e
          refine hm.heap b o ?_ (Heap.get?_push_of_some _ (Heap.get?_push_of_some _ e))
          simp only [List.mem_cons, List.mem_singleton, List.not_mem_nil, or_false, not_or]
          exact ⟨Nat.ne_of_lt b0, by rw [psz]; exact Nat.ne_of_lt (Nat.lt_succ_of_lt b0)⟩
      · cases r2 with
        | error e => exact hr2
        | ok fl2 =>
          cases fl2 with
          | ret r =>
            obtain ⟨rfl, g, tk, c', rfl, hR, hc', kp⟩ := hr2
            repeat (any_goals (first | assumption | wp_step))
            exact q _ _ _ hR hc' kp
          | _ => exact hr2.elim
    | _ => exact hr.elim
end
section
variable {X : Cx}
def rSetL (K : PySem.W.Frag) (w : World) : List V → Hp → VK → Prop := fun vs H Q => ∃ (l : Addr) (ns : List Int), vs = [V.ref l] ∧ SqL K H l (ns.map V.int) ∧ ns.length < 1000 ∧ ∀ (p : Addr) (c : Nat), c ≤ ns.length → H p = none → Q (.ref p) (upd H p (SetO w p (fun j => decide (j ∈ ns)) c))
theorem cr_setL (hc : X.calm = true) : CallR X (.type "set") (rSetL X.K X.w) := by
  intro pins s σ H vs us Q I r h
  obtain ⟨l, ns, rfl, hl, hn, q⟩ := h
  obtain rfl := Vals.ref1 r
  obtain ⟨its, rv, pl, hz⟩ := I.list hl
  refine set_list ns (I.ok.hd hc) pl.isList (by simpa using rv.ints) (by unfold scanBound; omega) fun g tk c hR hcn kp => ?_
  have hn := I.hok.fresh (Nat.le_refl s.heap.objs.size)
  exact ⟨.ref s.heap.objs.size, upd H s.heap.objs.size (SetO X.w s.heap.objs.size (fun j => decide (j ∈ ns)) c), I.laid (t' := tk) kp (Nat.le_refl _) (setO_new hR), rfl, q _ c hcn hn⟩
end
end SEx

set_option Elab.async false
set_option linter.all false
set_option maxRecDepth 100000
/-! MA: a list taken apart into so many; match .. case [a, b] over a list. -/
namespace MA
open PySem PySem.Spec PyProof.Rows
section
variable {prog : Program} {w : World} {A : Around} {E : Value → Shared → Prop}
theorem draws {it l : Addr} {xs : Array Value} (ne : l ≠ it) : ∀ (n i : Nat) (s : Shared) (R : List Value → Shared → Prop), s.heap.IsListIter it l i → s.heap.IsList l xs → i + n ≤ xs.size →
    (∀ h', h'.IsListIter it l (i + n) → Heap.SameBut it s.heap h' → R ((xs.toList.drop i).take n) { s with heap := h' }) → wpAny (model prog w) A (draw (.ref it) n) R E s := by
  intro n
  induction n with
  | zero =>
    intro i s R a b c k
    exact wpAny_pure (by simpa using k s.heap a (Heap.SameBut.refl ..))
  | succ n ih =>
    intro i s R a b c k
    have lt : i < xs.size := by omega
    show wpAny _ _ (pyNext (.ref it) >>= _) R E s
    refine wpAny_bind (wpAny_pyNext_list_item a b (x := xs[i]) (by simp [lt]) fun g1 a1 e1 => wpAny_bind (wpAny_holding (ih (i + 1) _ _ a1 (b.extBut e1.extBut ne) (by omega) fun g2 a2 e2 => wpAny_pure ?_)))
    have cut : (xs.toList.drop i).take (n + 1) = xs[i] :: (xs.toList.drop (i + 1)).take n := by simp [List.drop_eq_getElem_cons, lt]
    rw [← cut]
    exact k g2 (by rw [show i + (n + 1) = i + 1 + n by omega]; exact a2) (e1.trans e2)
theorem unpackL {s : Shared} {l : Addr} {xs : Array Value} {R : List Value → Shared → Prop} (hh : A.handled = none) (hl : s.heap.IsList l xs)
    (k : ∀ h', Heap.ExtBut s.heap.objs.size s.heap h' → R xs.toList { s with heap := h' }) : wpAny (model prog w) A (unpackItems (.ref l) xs.size none) R E s := by
  have ne : l ≠ s.heap.objs.size := by
    obtain ⟨o, ho, _⟩ := hl
    exact Nat.ne_of_lt (Heap.lt_size ho)
  unfold unpackItems
  refine wpAny_bind ?_
  unfold notIterableAtAll
  refine wpAny_bind (wpAny_specialOf hl.typeIs slot_list_iter.lookup (wpAny_pure ?_))
  simp only [Bool.false_eq_true, if_false]
  refine wpAny_bind (wpAny_holding (wpAny_pyIter_list hl ?_))
  refine wpAny_bind (wpAny_holding (draws ne xs.size 0 _ _ ⟨_, Heap.get?_push_size _ rfl, rfl, rfl⟩ (hl.push _) (by omega) fun g1 a1 e1 => ?_))
  rw [List.drop_zero, List.take_of_length_le (by simp), if_neg (by simp)]
  refine wpAny_bind (wpAny_holding (wpAny_pyNext_list_end hh a1 ((hl.push _).extBut e1.extBut ne) (by simp) fun g2 e2 => ?_))
  simp only [Option.isSome_none, Bool.false_eq_true, if_false]
  exact wpAny_pure (k g2 fun b o nb e => e2 b o nb (e1.extBut b o nb (Heap.get?_push_of_some _ e)))
/-- patterns that are names: what they bind -/
theorem eachL {env : Env} (ns : List (Str × Pos)) : ∀ {us : List Value} {s : Shared} {R : Option (List (Str × Value)) → Shared → Prop}, us.length = ns.length →
    R (some ((ns.map (·.1)).zip us)) s → wpAny (model prog w) A (matchEach (ns.map fun n => .MatchAs none (some n.1) n.2) env us) R E s := by
  induction ns with
  | nil =>
    intro us s R e k
    cases us with
    | nil => exact wpAny_matchEach_nil k
    | cons u us => simp at e
  | cons n ns ih =>
    intro us s R e k
    cases us with
    | nil => simp at e
    | cons u us =>
      rw [List.map_cons]
      refine wpAny_matchEach_cons (wpAny_matchPattern_Capture ?_) rfl
      exact ih (R := fun r' s₂ => match r' with
        | none => R none s₂
        | some more => R (some ((Option.map (·, u) (some n.1)).toList ++ more)) s₂) (by simpa using e) k
end
end MA
namespace L2
open PySem PySem.Spec PyProof.Rows
/-! ### match e: case [x, ..]: .. over a list -/
def setAll (σ : St) : List Nat → List V → St
  | i :: is, x :: xs => setAll (σ.set i (some x)) is xs
  | _, _ => σ
def goM : List (List Nat × TS) → List V → TS
  | [], _ => fun D σ H => D.nx σ H
  | (is, t) :: r, xs => fun D σ H => (xs.length = is.length → t D (setAll σ is xs) H) ∧ (xs.length ≠ is.length → goM r xs D σ H)
def tMatch (K : PySem.W.Frag) (te : TE) (cs : List (List Nat × TS)) : TS := fun D σ H => te σ H fun x H1 => ∃ a xs, x = .ref a ∧ SqL K H1 a xs ∧ goM cs xs D σ H1
/-- the names of a case: their slots -/
inductive NmOk (X : Cx) : List (Str × Pos) → List Nat → Prop
  | nil : NmOk X [] []
  | cons {x : Str} {p : Pos} {i : Nat} {ns : List (Str × Pos)} {is : List Nat} (hi : X.N[i]? = some x) (hl : Loc X.env.scope x) (hf : X.fn x = true ∨ X.env.scope.names.lookup x = some .local) (r : NmOk X ns is) : NmOk X ((x, p) :: ns) (i :: is)
inductive CsOk (X : Cx) : List MatchCase → List (List Nat × TS) → Prop
  | nil : CsOk X [] []
  | cons {n : Str × Pos} {ns : List (Str × Pos)} {is : List Nat} {p : Pos} {b : List Stmt} {t : TS} {cs : List MatchCase} {l : List (List Nat × TS)} (hn : NmOk X (n :: ns) is) (hb : PSs X b t) (r : CsOk X cs l) :
      CsOk X (⟨.MatchSequence ((n :: ns).map fun n => .MatchAs none (some n.1) n.2) p, none, b⟩ :: cs) ((is, t) :: l)
section
variable {X : Cx}
theorem NmOk.len {ns : List (Str × Pos)} {is : List Nat} (h : NmOk X ns is) : ns.length = is.length := by
  induction h with
  | nil => rfl
  | cons _ _ _ _ ih => simp [ih]
theorem bindAll {pins : List (Addr × Obj)} (nd : X.N.Nodup) {ns : List (Str × Pos)} {is : List Nat} (h : NmOk X ns is) : ∀ {us : List Value} {xs : List V} {σ : St} {H : Hp} {s : Shared} {R : Unit → Shared → Prop}, Vals xs us → us.length = ns.length → Inv X pins σ H s →
    (∀ s', Inv X pins (setAll σ is xs) H s' → R () s') → wpAny (model X.prog X.w) X.A (assignInOrder (((ns.map (·.1)).zip us).map fun (n, _) => bindName X.env n) (((ns.map (·.1)).zip us).map (·.2))) R X.xe s := by
  induction h with
  | nil =>
    intro us xs σ H s R r e I k
    refine wpAny_assignInOrder_none (k s ?_)
    cases xs <;> exact I
  | cons hi hl hf r ih =>
    intro us xs σ H s R rv e I k
    cases rv with
    | nil => simp at e
    | cons r1 rv =>
      refine wpAny_assignInOrder_more (wpAny_bindName (store_ok I nd hi hl r1 (fun s' I' => ?_) hf))
      exact ih rv (by simpa using e) I' k
theorem starNo (ns : List (Str × Pos)) : (ns.map fun n => Pattern.MatchAs none (some n.1) n.2).findIdx? (·.isStar) = none := by
  induction ns with
  | nil => rfl
  | cons n ns ih =>
    rw [List.map_cons, List.findIdx?_cons, ih]
    rfl
theorem wildNo (n : Str × Pos) (ns : List (Str × Pos)) : (((n :: ns).map fun n => Pattern.MatchAs none (some n.1) n.2).all fun p => p.isWildcard || (p.isStar && p.names.isEmpty)) = false := by
  rw [List.map_cons, List.all_cons]
  rfl
theorem casesOk {pins : List (Addr × Obj)} (nd : X.N.Nodup) (hh : X.A.handled = none) {cs : List MatchCase} {l : List (List Nat × TS)} (h : CsOk X cs l) : ∀ {a : Addr} {xs : List V} {σ : St} {H : Hp} {s : Shared} {D : Ends} {first : Bool}, SqL X.K H a xs → Inv X pins σ H s → goM l xs D σ H →
    wpAny (model X.prog X.w) X.A (matchCases cs X.env (.ref a) first) (SP X pins D) X.xe s := by
  induction h with
  | nil => exact fun _ I k => wpAny_matchCases_nil ⟨_, _, I, k⟩
  | @cons n ns is p b t cs l hn hb r ih =>
    intro a xs σ H s D first hs I k
    obtain ⟨its, rv, ⟨o, m, e1, e2, e3, e4⟩, le⟩ := I.list hs
    have hl : s.heap.IsList a its.toArray := ⟨o, e1, e2, m, e4⟩
    have el := rv.length
    have fit : (its.toArray.size : Int) < 2 ^ 63 := by
      have := le
      rw [sizeLine_eq] at this
      simp only [List.size_toArray]
      omega
    have nl := hn.len
    refine wpAny_matchCases_cons ?_
    by_cases hz : xs.length = is.length
    · refine matchSeq_list_hit hl fit (by simp only [List.size_toArray, List.length_map]; omega) ?_ ?_ ?_
      · rw [show ((n :: ns).map fun n => Pattern.MatchAs none (some n.1) n.2).length = its.toArray.size by simp only [List.size_toArray, List.length_map]; omega]
        refine MA.unpackL hh (s := { s with toks := s.toks + 1 + 1 }) hl fun g ex => ?_
        refine MA.eachL (n :: ns) (by simp only [List.toList_toArray]; omega) ?_
        have I1 : Inv X pins σ H { s with heap := g, toks := s.toks + 1 + 1 } := I.kept fun b o e => ex b o (Nat.ne_of_lt (Heap.lt_size e)) e
        exact bindAll nd hn (by simpa using rv) (by simp only [List.toList_toArray]; omega) I1 fun s' I' => hb.run pins s' _ H D I' (k.1 hz)
      · exact starNo (n :: ns)
      · exact wildNo n ns
    · refine matchSeq_list_miss hl fit (by simp only [List.size_toArray, List.length_map]; omega) ?_ ?_ ?_
      · exact ih hs (I.tok _) (k.2 hz)
      · exact starNo (n :: ns)
      · exact wildNo n ns
theorem ps_match {e : Expr} {te : TE} {cs : List MatchCase} {l : List (List Nat × TS)} {pos : Pos} (nd : X.N.Nodup) (hc : X.calm = true) (he : PE X e te) (h : CsOk X cs l) : PS X (.Match e cs pos) (tMatch X.K te l) := by
  refine ⟨fun pins s σ H D I w => wpAny_Match (thn (he.run pins s σ H _ I w) fun u s1 ⟨x, H1, I1, rx, a, xs, ex, hs, k⟩ => ?_)⟩
  subst ex
  cases rx
  exact casesOk nd (I.ok.hd hc) h hs I1 k
end
end L2

set_option Elab.async false
set_option linter.all false
set_option maxRecDepth 100000
set_option maxHeartbeats 4000000
/-! rules of our own: enumerate of a tuple, static methods, the base's __init__ read off the class, isinstance of a caught error that has fields -/
namespace T1
open PySem
open AutoSeq1 (wpAny_loadPart')
/-- an iterator of the tuple at t, at its start; an enumerate over the iterator at q -/
abbrev itO (t : Addr) : Obj := { cls := .type "tuple_iterator", data := .fields #[.ref t, .int 0 0] }
abbrev enO (q : Addr) : Obj := { cls := .type "enumerate", data := .fields #[.none, .bool false, .ref q, rawInt 0, .none, .none] }
abbrev enHeap (h : Heap) (t : Addr) : Heap := (h.push (itO t)).push (enO h.objs.size)
theorem meets_enumT (t : Addr) (vs : Array Value) :
    Meets (Builtin.«enumerate.__new__» ⟨[.type "enumerate", .ref t], []⟩) (fun _ R s => s.heap.IsTuple t vs ∧ R (.ok (.ret (.ref (s.heap.push (itO t)).objs.size))) { s with heap := enHeap s.heap t }) := by
  refine .of_wp fun prog w A R ⟨hp, g, d, tk, os⟩ ⟨tup, fin⟩ => ?_
  have sub := sub_enumerate
  have tup' : Heap.IsTuple (Shared.heap ⟨hp, g, d, tk, os⟩) t vs := tup
  obtain ⟨ot, hot, _⟩ := id tup
  wp_walk using wpAny_loadPart' hot
  refine wpAny_stack_any fun _ => wpAny_pure ?_
  split
  case' h_1 k _ _ _ _ _ => cases (k == Value.type "enumerate")
  all_goals
    wp_walk using wpAny_loadPart' hot, wpAny_pyIter_tuple tup'
    exact ⟨_, rfl, fin⟩
theorem t1_call_enumT {prog : Program} {w : World} {A : Around} {E : Value → Shared → Prop} {s : Shared} {t : Addr} {vs : Array Value} {Q : Value → Shared → Prop} (tup : s.heap.IsTuple t vs)
    (k : ∀ h', IsEnum h' (s.heap.objs.size + 1) s.heap.objs.size 0 .none → h'.IsTupleIter s.heap.objs.size t 0 → True → (∀ b o, s.heap.get? b = some o → h'.get? b = some o) → Q (.ref (s.heap.objs.size + 1)) { s with heap := h' }) :
    wpAny (model prog w) A (call (.type "enumerate") [.ref t]) Q E s := by
  have sz : (s.heap.push (itO t)).objs.size = s.heap.objs.size + 1 := Heap.size_push ..
  have en : IsEnum (enHeap s.heap t) (s.heap.objs.size + 1) s.heap.objs.size 0 .none := by
    have z := Heap.get?_push_size (s.heap.push (itO t)) (o := enO s.heap.objs.size) rfl
    rwa [sz] at z
  refine callType_new F.called_enumerate (by decide) (F.typeCall_enumerate_1 _) (F.newCall_enumerate_1 _) (fun _ => F.args_object_init_2 ..) F.entry_enumerate_new (meets_enumT t vs) ⟨tup, ?_⟩
  rw [sz]
  exact ⟨⟨_, en, rfl⟩, k _ en ⟨_, Heap.get?_push_of_some _ (Heap.get?_push_size _ rfl), rfl, rfl⟩ trivial fun _ _ z => Heap.get?_push_of_some _ (Heap.get?_push_of_some _ z)⟩
end T1
namespace T1
open PySem PySem.Spec PyProof.Rows L2 C8
/-! ### enumerate of a tuple -/
/-- what a turn hands out: a pair that is new at T, of the turn's number and the tuple's item -/
def PairOut (K : PySem.W.Frag) (a : Addr) (i : Nat) (H : Hp) (v : V) (H' : Hp) : Prop :=
  ∃ T y, v = .ref T ∧ H T = none ∧ H' = upd H T (.tup [.int (i : Nat), y]) ∧ ∀ ys, SqT K H a ys → ys[i]? = some y
def IteT (K : PySem.W.Frag) (a : Addr) : It where
  go i H := ∃ ys y, SqT K H a ys ∧ ys[i]? = some y
  yld i H v H' := PairOut K a i H v H'
  stop i H := ∃ ys, SqT K H a ys ∧ ys.length = i
/-- where the two records stand, the enumerate at e over the iterator at q -/
structure EnAt (a e q : Addr) (i : Nat) (h : Heap) : Prop where
  en : ∃ u, IsEnum h e q (i : Int) u
  tu : h.IsTupleIter q a i
  eq : e ≠ q
  aq : a ≠ q
theorem EnAt.big {a e q : Addr} {i : Nat} {h : Heap} (x : EnAt a e q i h) : e < h.objs.size ∧ q < h.objs.size := by
  obtain ⟨⟨u, hu⟩, ⟨o, ho, _⟩, _, _⟩ := x
  exact ⟨Heap.lt_size hu, Heap.lt_size ho⟩
theorem two {α : Type} {x y b : α} (h : b ∈ [x, y]) : b = x ∨ b = y := by simpa using h
theorem turn_enumT {P : Program} {w : World} {K : PySem.W.Frag} {es : List Expr} {n : Nat} {tp : Pos} (a e q : Addr) : Turn P w K (.Tuple es n tp) (IteT K a) [e, q] e (EnAt a e q) where
  mem := List.mem_cons_self
  obj := fun i h x b hb => by
    obtain ⟨⟨u, hu⟩, ⟨o, ho, _, hd⟩, _, _⟩ := x
    rcases two hb with rfl | rfl
    · exact ⟨_, hu, fun _ z => nomatch z⟩
    · exact ⟨o, ho, fun _ z => by rw [hd] at z; cases z⟩
  keep := fun i h h' x k => by
    obtain ⟨⟨u, hu⟩, ht, n1, n2⟩ := x
    exact ⟨⟨u, k e List.mem_cons_self _ hu⟩, ht.at fun o z => k q (List.mem_cons_of_mem _ List.mem_cons_self) o z, n1, n2⟩
  item := by
    rintro X rfl rfl rfl hc i pins s σ H E I ff x ⟨ys, y, hys, hy⟩
    obtain ⟨be, bq⟩ := x.big
    obtain ⟨⟨u, hu⟩, ht, n1, n2⟩ := x
    obtain ⟨vs, rv, tup, _⟩ := I.tuple hys
    obtain ⟨v, hv, ry⟩ := rv.get hy
    have nea : a ≠ e := by
      rintro rfl
      obtain ⟨o, ho, _, _, hd⟩ := tup
      rw [hu] at ho
      cases ho
      cases hd
    have hlt : i < vs.toArray.size := by
      have := (List.getElem?_eq_some_iff.mp hv).1
      simpa using this
    have DT := PySem.Draws.tuple (prog := X.prog) (w := X.w) (A := X.A.in1) (I.ok.hd hc) q a n2 vs.toArray
    refine wpAny_pyNext_enum_itemD DT hu ⟨ht, tup⟩ hlt n1 (fun z => (two z).elim n1 (Ne.symm nea)) fun v' h1 tk hv' out st at1 _ keep1 => ?_
    obtain rfl : v' = v := by
      have z : vs.toArray[i]? = some v := by simpa using hv
      exact Option.some.inj (hv'.symm.trans z)
    refine ⟨_, rfl, wpAny_letOwnedTupleGo_enum (s := { s with heap := h1, toks := tk + 1 }) out fun h2 hu2 sb => ?_⟩
    -- the new pair's address
    generalize hT : s.heap.objs.size = T at *
    have freshT : H T = none := I.hok.fresh (Nat.le_of_eq hT)
    have at2 := (sb.2 T (Nat.ne_of_gt be)).trans at1
    have okT : ObjOk X.prog X.w (upd H T (.tup [.int (i : Nat), y])) h2 T (.tup [.int (i : Nat), y]) := ⟨by show 2 ≤ sizeLine; decide, _, .cons ⟨tk, rfl⟩ (.cons ry .nil), _, at2, rfl, _, rfl⟩
    have J : Inv X pins σ (upd H T (.tup [.int (i : Nat), y])) { s with heap := h2, toks := tk + 1 } := by
      refine I.turnedNew (ch := [e, q]) (fun b o nb ho => ?_) ff (Nat.le_of_eq hT) okT
      have b1 : b ≠ e := fun z => nb (by rw [z]; exact List.mem_cons_self)
      have b2 : b ≠ q := fun z => nb (by rw [z]; exact List.mem_cons_of_mem _ List.mem_cons_self)
      exact (sb.2 b b1).trans (keep1 b o b1 b2 ho)
    refine ⟨.ref T, _, J, rfl, ⟨T, y, rfl, freshT, rfl, fun zs hz => by rw [I.tuple_inj hz hys]; exact hy⟩, ⟨⟨v', ?_⟩, st.1.at fun o z => (sb.2 q (Ne.symm n1)).trans z, n1, n2⟩, fun b hb => ?_⟩
    · rw [show ((i + 1 : Nat) : Int) = (i : Int) + 1 from rfl]
      exact hu2
    · have bT : b ≠ T := by
        rcases two hb with rfl | rfl
        · exact Nat.ne_of_lt be
        · exact Nat.ne_of_lt bq
      rw [upd_ne bT]
      exact (ff b hb).1
  done := by
    rintro X rfl rfl rfl hc i pins s σ H E I ff x ⟨ys, hys, hi⟩
    obtain ⟨⟨u, hu⟩, ht, n1, n2⟩ := x
    obtain ⟨vs, rv, tup, _⟩ := I.tuple hys
    obtain ⟨g0, g1, _, g3, g4, g5⟩ := ff q (List.mem_cons_of_mem _ List.mem_cons_self)
    obtain rfl : i = vs.toArray.size := by
      have := rv.length
      simp; omega
    have DT := PySem.Draws.tuple (prog := X.prog) (w := X.w) (A := X.A.in1) (I.ok.hd hc) q a n2 vs.toArray
    exact wpAny_pyNext_enum_endD DT hu ⟨ht, tup⟩ fun h1 eb => ⟨rfl, I.turned (t' := s.toks) (fun b o nb z => eb b o nb z) g0 g1 g3 g4 g5⟩
  self := fun _ _ _ _ _ x hq => by
    obtain ⟨⟨u, hu⟩, _⟩ := x
    exact wpAny_pyIter_enum hu hq
def iEnumT (K : PySem.W.Frag) (ta : TA) : TI := fun σ H R => ta σ H fun vs H1 => ∃ a ys, vs = [.ref a] ∧ SqT K H1 a ys ∧ R (IteT K a) H1
theorem pi_enumT {X : Cx} {x : Expr} {ta : TA} {p1 p2 p3 : Pos} {es : List Expr} {n : Nat} (hg : Gl X "enumerate") (hm : X.mg "enumerate" = none) (ha : PA X [x] ta) (st : starEach [x] X.env = [(false, eval x X.env)] := by rfl) :
    PI X (.Tuple es n p3) (.Call (.Name "enumerate" p1) [x] [] p2) (iEnumT X.K ta) where
  run := fun pins s σ H R I h => by
    refine Call_ (ld_blt I hg hm boot_enumerate (PyProof.Rows.callWith_type1 (thn (ha.run p2 pins s σ H _ I h) ?_) st rfl))
    rintro us s1 ⟨vs, H1, I1, rvs, a, ys, rfl, hys, q⟩
    obtain _ | ⟨ra, _ | _⟩ := rvs
    cases ra
    obtain ⟨_, _, tup, _⟩ := I1.tuple hys
    obtain ⟨o, ho, _⟩ := id tup
    generalize hz : s1.heap.objs.size = z
    refine t1_call_enumT tup fun h' he ht _ keep => wpAny_pyIter_enum he ?_
    rw [hz] at he ht
    rw [hz]
    have far : ∀ b ∈ [z + 1, z], s1.heap.objs.size ≤ b := fun b hb => by rcases two hb with rfl | rfl <;> omega
    refine ⟨z + 1, [z + 1, z], _, _, H1, rfl, I1.kept (t' := s1.toks) keep, turn_enumT a (z + 1) z, ⟨⟨.none, he⟩, ht, Nat.succ_ne_self z, Nat.ne_of_lt (by rw [← hz]; exact Heap.lt_size ho)⟩, fun b hb => ?_, q⟩
    exact I1.fpOk (far b hb) (I1.hok.fresh (far b hb))
/-- for i, x in enumerate(t): Pv by the turn; the pair of a turn is new at T -/
theorem for_enumT {K : PySem.W.Frag} {a : Addr} {ys : List V} {g : TG} {tb : TS} {D : Ends} {σ : L2.St} {H : Hp} (Pv : Nat → L2.St → Hp → Prop) (h0 : Pv 0 σ H) (hl : ∀ i σ H, Pv i σ H → SqT K H a ys)
    (hs : ∀ i y T σ H, ys[i]? = some y → H T = none → Pv i σ H → g (.ref T) σ (upd H T (.tup [.int (i : Nat), y])) (tb { nx := Pv (i + 1), rt := D.rt, bk := D.nx, ct := Pv (i + 1) }))
    (hd : ∀ σ H, Pv ys.length σ H → D.nx σ H) :
    ∃ W : Nat → Nat → L2.St → Hp → Prop, (∃ m, W 0 m σ H) ∧ ∀ j m τ G, W j m τ G →
      ((IteT K a).stop j G ∧ D.nx τ G) ∨ ((IteT K a).go j G ∧ ∃ N : L2.St → Hp → Prop, (∀ τ' G', N τ' G' → ∃ m', m' < m ∧ W (j + 1) m' τ' G') ∧ ∀ v G', (IteT K a).yld j G v G' → g v τ G' fun τ2 G2 => tb { nx := N, rt := D.rt, bk := D.nx, ct := N } τ2 G2) := by
  refine ⟨fun j m τ G => j + m = ys.length ∧ Pv j τ G, ⟨ys.length, Nat.zero_add _, h0⟩, fun j m τ G ⟨hm, pv⟩ => ?_⟩
  have tup := hl _ _ _ pv
  match m, hm with
  | 0, hm =>
    obtain rfl : j = ys.length := by omega
    exact .inl ⟨⟨ys, tup, rfl⟩, hd _ _ pv⟩
  | m + 1, hm =>
    have hlt : j < ys.length := by omega
    refine .inr ⟨⟨ys, ys[j], tup, List.getElem?_eq_getElem hlt⟩, Pv (j + 1), fun _ _ z => ⟨m, Nat.lt_succ_self m, by omega, z⟩, ?_⟩
    rintro v G' ⟨T, y, rfl, hT, rfl, hy⟩
    exact hs j y T τ G (hy ys tup) hT pv
/-! ### methods that are handed out unbound -/
/-- the call of a method, as the model unfolds it -/
abbrev MCall (X : Cx) (o : Expr) (m : Str) (args : List Expr) (p1 p2 : Pos) (pl : Sem Bool) : Prop :=
  eval (.Call (.Attribute o m p1) args [] p2) X.env =
    (eval o X.env >>= fun ov => standAt p1.atName >>= fun _ => holding [ov] (getMethod ov m pl) >>= fun r => callWith p2 r.1 r.2 (backTo p2 (starEach args X.env)) (backToKw p2 (keywordEach [] X.env)))
/-- m of what G tells is f, nothing bound to it -/
def Hands (X : Cx) (m : Str) (pl : Sem Bool) (G : V → Hp → Prop) (f : Value) : Prop :=
  ∀ (pins : List (Addr × Obj)) (σ : L2.St) (H : Hp) (s : Shared) (x : V) (u : Value) (Q : Value × List Value → Shared → Prop), Inv X pins σ H s → RelV x u → G x H → Q (f, []) { s with toks := s.toks + 1 } → wpAny (model X.prog X.w) X.A (getMethod u m pl) Q X.xe s
/-- o.m(..), m a def that is not bound -/
def tPlain (G : V → Hp → Prop) (sp : Sp) (E : XK) (ta : TE) (t : TA) : TE := fun σ H Q => ta σ H fun x H1 => G x H1 ∧ t σ H1 fun vs H2 => sp (vs ++ []) H2 Q E
section
variable {X : Cx} {CX : CXT} {k : Nat} {C CB p g : Addr} {mc : Value} {m : Str} {fd : FuncData} {ps : List Str} {sp : Sp} {E : XK} {o x : Expr} {xs : List Expr} {p1 p2 p3 : Pos} {ta : TE} {t : TA} {pl : Sem Bool} {G : V → Hp → Prop}
theorem pe_plain (ho : PE X o ta) (hh : Hands X m pl G (.ref g)) (kp : PySem.W.keepIn X.K (.ref g) = true) (F : FnOk X.prog X.w X.K X.mg X.base CX k g fd ps sp) (hr : Room k X.A) (hb : Binds X.K fd ps []) (hx : Passes CX X E) (ha : PA X (x :: xs) t)
    (s1 : starEach (x :: xs) X.env = (false, eval x X.env) :: starEach xs X.env := by rfl) (s2 : (backTo p2 (starEach xs X.env)).any (·.1) = false := by rfl) (hc : MCall X o m (x :: xs) p1 p2 pl := by rfl) :
    PE X (.Call (.Attribute o m p1) (x :: xs) [] p2) (tPlain G sp E ta t) where
  run := fun pins s σ H Q I h => by
    refine PySem.W.methodCall_KW (pl := pl) (thn (ho.run pins s σ H _ I h) ?_) hc
    rintro u z ⟨y, H1, I1, ry, gy, q⟩
    refine hh pins σ H1 z y u _ I1 ry gy (PySem.W.callWith_K (first := []) (h₀ := X.base) I1.ok.mod.kin kp (thn (ha.run p2 pins _ σ H1 _ (I1.tok _) q) ?_) s1 s2)
    rintro us z' ⟨vs, H2, I2, rv, q2⟩
    exact ⟨I2.kIn, run_fn F hr hb .nil hx I2 rv q2⟩
/-- what is asked of a static method of the class at C, read off an object -/
structure SInst (K : PySem.W.Frag) (C : Addr) (m : Str) (p g : Addr) : Prop where
  plain : PySem.W.plainGet K C Str.empty = true
  isC : PySem.W.isClsIn K C = true
  find : PySem.W.findIn K (.ref C) m = some (some (.ref p))
  ty : PySem.W.typeIn K (.ref p) = some (.type "staticmethod")
  sp : PySem.W.specialIn K (.ref p) "__get__" = some (some (.builtin "staticmethod.__get__"))
  tk : PySem.W.takesIn K (.ref p) = some false
  cn : PySem.W.copiedNames.contains m = false
  fn : ∃ l, PySem.W.recIn K p "staticmethod" = some (.ref g :: l)
theorem hands_inst (c : SInst X.K C m p g) : Hands X m pl (fun x H => ∃ a dx fs, x = .ref a ∧ H a = some (.ins C dx fs) ∧ fs.lookup m = none) (.ref g) := by
  rintro pins σ H s x u Q I ru ⟨a, dx, fs, rfl, ha, nm⟩ q
  cases ru
  obtain ⟨mA, O, hr, _⟩ := ins_get I.hok ha
  obtain ⟨od, J, look⟩ := O.look
  obtain ⟨l, hl⟩ := c.fn
  have pg := PySem.W.plainGet_of (show PySem.W.plainGet X.K C m = true from c.plain)
  have own : PySem.W.lookIn m od = some none := by
    rw [look m]
    exact congrArg some (RelO.none_of (by rw [← nm]; exact hr m))
  refine PySem.W.method_usual (r := some (.ref p)) I.kIn J pg.1 pg.2 c.find (by rw [Option.all_some, c.ty]; decide +kernel) ?_
  exact PySem.W.get_bind I.kIn J pg.1 (ClX.find_cm c.isC c.find c.sp c.tk c.cn own) pg.2 (wpAny_call (PySem.W.sm_get (s := { s with toks := s.toks + 1 }) I.kIn hl (PySem.W.handed_on rfl q)))
/-- .. read off the class -/
structure SCls (K : PySem.W.Frag) (C : Addr) (mc : Value) (m : Str) (p g : Addr) : Prop where
  reads : PySem.W.readsIn K C mc = true
  sga : PySem.W.specialIn K (.ref C) "__getattribute__" = some (some (.builtin "type.__getattribute__"))
  find : PySem.W.findCls K (.ref C) mc m = some (.get (.builtin "staticmethod.__get__") (.ref p) .none (.ref C))
  fn : ∃ l, PySem.W.recIn K p "staticmethod" = some (.ref g :: l)
theorem hands_cls (c : SCls X.K C mc m p g) : Hands X m pl (fun x _ => x = .ref C) (.ref g) := by
  rintro pins σ H s x u Q I ru rfl q
  cases ru
  obtain ⟨l, hl⟩ := c.fn
  exact PySem.W.method_cls I.kIn c.sga (PySem.W.cls_bind I.kIn c.reads c.find (wpAny_call (PySem.W.sm_get (s := { s with toks := s.toks + 1 }) I.kIn hl (PySem.W.handed_on rfl q))))
/-- B.__init__(self, ..), B an own error class that has none of its own -/
theorem pe_beinit {B : Str} (hg : Gl X B) (hm : X.mg B = some (.ref CB)) (rd : PySem.W.readsIn X.K CB mc = true) (sga : PySem.W.specialIn X.K (.ref CB) "__getattribute__" = some (some (.builtin "type.__getattribute__")))
    (at_ : PySem.W.findCls X.K (.ref CB) mc "__init__" = some (.val (.builtin "ValueError.__init__"))) (ha : PA X (x :: xs) t)
    (s1 : starEach (x :: xs) X.env = (false, eval x X.env) :: starEach xs X.env := by rfl) (s2 : (backTo p2 (starEach xs X.env)).any (·.1) = false := by rfl) (hc : MCall X (.Name B p3) "__init__" (x :: xs) p1 p2 pl := by rfl) (hd : (B == ("__debug__" : Str)) = false := by decide) :
    PE X (.Call (.Attribute (.Name B p3) "__init__" p1) (x :: xs) [] p2) (tVeI X.K t) where
  run := fun pins s σ H Q I h => by
    refine PySem.W.methodCall_KW (pl := pl) (ld_glob I hg hm (PySem.W.method_cls I.kIn sga (PySem.W.cls_value I.kIn rd at_ rfl (PyProof.Rows.callWith_method1 (thn (ha.run p2 pins _ σ H _ (I.tok _) h) ?_) s1 s2))) hd) hc
    rintro us z ⟨vs, H1, I1, rvs, a, C', ws, rfl, few, T, ea, q⟩
    obtain _ | ⟨ra, rest⟩ := rvs
    cases ra
    exact oinit_ok T I1 ea (by rw [sizeLine_eq, ← Paired.length rest]; omega) fun z' J => ⟨.non, H1, J, rfl, q⟩
end
end T1

set_option Elab.async false
set_option linter.all false
set_option maxRecDepth 100000
set_option maxHeartbeats 4000000
namespace Fm
open PySem PySem.Spec PyProof.Rows L2
/-! F11: one of two readings; constants that are texts; match; keywords; *xs; generators; sorted by a key. -/
section
variable {K : PySem.W.Frag} {B : Bs}
def fEither (f1 f2 : FE) : FE := fun L M P => f1 L M P ∨ f2 L M P
theorem sim_either {t1 t2 : TE} {f1 f2 : FE} (a : SimE K B t1 f1) (b : SimE K B t2 f2) : SimE K B (XNx.tOr t1 t2) (fEither f1 f2) := ⟨fun hl hm h o => h.elim (fun h => .inl (a.run hl hm h o)) fun h => .inr (b.run hl hm h o)⟩
def fConS (K : PySem.W.Frag) (fe : FE) (f : Str) : FE := fun L M P => fe L M fun x M1 => ∃ n C fs s u, insAt M1 x = some (n, C, fs) ∧ Cls K C ∧ Con K C f (.str s) u ∧ fs.lookup f = none ∧ P (.str s) M1
theorem sim_conS {te : TE} {fe : FE} {f : Str} (a : SimE K B te fe) : SimE K B (tCon K te f) (fConS K fe f) := ⟨fun hl hm h o => a.run hl hm h fun x xv H1 ρ1 M1 g1 m1 rx ⟨n, C, fs, z, u, e, c, co, lk, p⟩ => by
  obtain ⟨b, dx, gs, rfl, _, _, rfl, h3, _, h4⟩ := insAt_ok m1 rx e
  exact ⟨b, C, dx, gs, _, u, rfl, h3, c, co, h4.lookN lk, o _ _ _ _ _ g1 m1 RT.str_ p⟩⟩
/-- the truth of a text -/
def fTruS (fe : FE) : FT := fun L M P => fe L M fun x M1 => ∃ z : Str, x = .str z ∧ z.length ≤ sizeLine ∧ P (decide (z.length ≠ 0)) M1
theorem sim_truS {te : TE} {fe : FE} (a : SimE K B te fe) : SimT K B (fun σ H Q => te σ H fun x H' => ∃ k, TruV K x H' k ∧ Q k H') (fTruS fe) := ⟨fun hl hm h o => a.run hl hm h fun x xv H1 ρ1 M1 g1 m1 rx ⟨z, e, hz, p⟩ => by
  subst e
  rw [rx.str_inv]
  refine ⟨decide (z.length ≠ 0), ⟨hz, ?_⟩, o _ _ _ _ g1 m1 p⟩
  by_cases h : z.length = 0
  · rw [h]; rfl
  · have : (z.length : Int) ≠ 0 := by omega
    simp [h, this]⟩
/-- enumerate of a tuple -/
def fIEnT (fa : FA) : FI := fun L M R => fa L M fun vs M1 => ∃ ts, vs = [.tup ts] ∧ R ⟨enumT 0 ts, fun _ => True⟩ M1
theorem i_enumT {ta : TA} {fa : FA} (a : SimA K B ta fa) : SimI K B (T1.iEnumT K ta) (fIEnT fa) := ⟨fun hl hm h k => a.run hl hm h fun xs xvs H1 ρ1 M1 g1 m1 rx ⟨ts, e, r⟩ => by
  subst e
  obtain ⟨xv, rfl, r1⟩ := rx.one
  obtain ⟨b, xs, rfl, h3, h4⟩ := r1.tup_inv
  refine ⟨b, xs, rfl, h3, k _ _ (fun H ρ => SqT K H b xs ∧ RTs K H ρ ts xs) H1 ρ1 M1 g1 m1 ⟨fun g ⟨s1, s2⟩ => ⟨g.tup _ _ s1, s2.mono g⟩, fun s hm e => ?_, fun s hm e ei => ?_, fun {H ρ M i t x H'} s hm e ei y => ?_⟩ ⟨h3, h4⟩ r⟩
  · exact ⟨xs, s.1, by rw [s.2.len]; exact (enumT_len ts 0).symm⟩
  · obtain ⟨u, hu, _⟩ := enumT_get ei
    obtain ⟨x, h5, _⟩ := s.2.get hu
    exact ⟨xs, x, s.1, h5⟩
  · obtain ⟨u, hu, e2⟩ := enumT_get ei
    obtain ⟨x, h5, h6⟩ := s.2.get hu
    obtain ⟨T, y, rfl, hT, rfl, hy⟩ := y
    have := hy xs s.1
    rw [h5] at this
    cases this
    rw [e2]
    have := pair_new (a := .int ((0 + i : Nat) : Int)) (b := u) (x := .int ((0 + i : Nat) : Int)) (y := _) hm hT RT.int_ h6
    simpa using this⟩
/-! ### match -/
def setAllT (L : Loc) : List Nat → List Tr → Loc
  | i :: is, x :: xs => setAllT (L.set i (some x)) is xs
  | _, _ => L
theorem rx_setAll {H : Hp} {ρ : List Addr} : ∀ {is : List Nat} {ts : List Tr} {xs : List V} {L : Loc} {σ : L2.St}, RTs K H ρ ts xs → RX K B H ρ L σ → RX K B H ρ (setAllT L is ts) (setAll σ is xs)
  | [], ts, xs, _, _, r, x => by cases ts <;> cases xs <;> exact x
  | i :: is, [], xs, _, _, r, x => by
    unfold RTs at r
    subst r
    exact x
  | i :: is, t :: ts, _, _, _, r, x => by
    unfold RTs at r
    obtain ⟨y, ys, rfl, r1, r2⟩ := r
    exact rx_setAll (is := is) r2 (x.set r1 i)
def fGoM : List (List Nat × FS) → List Tr → FS
  | [], _ => fun D L M => D.nx L M
  | (is, t) :: r, xs => fun D L M => (xs.length = is.length → t D (setAllT L is xs) M) ∧ (xs.length ≠ is.length → fGoM r xs D L M)
def fMatch (fe : FE) (cs : List (List Nat × FS)) : FS := fun D L M => fe L M fun x M1 => ∃ xs, lstAt M1 x = some xs ∧ fGoM cs xs D L M1
inductive SimM2 (K : PySem.W.Frag) (B : Bs) : List (List Nat × TS) → List (List Nat × FS) → Prop
  | nil : SimM2 K B [] []
  | cons {is : List Nat} {t : TS} {f : FS} {r : List (List Nat × TS)} {r' : List (List Nat × FS)} (a : SimS K B t f) (b : SimM2 K B r r') : SimM2 K B ((is, t) :: r) ((is, f) :: r')
theorem go_run {cs : List (List Nat × TS)} {fs : List (List Nat × FS)} (s : SimM2 K B cs fs) : ∀ {H : Hp} {ρ : List Addr} {M : Mem} {L : Loc} {σ : L2.St} {ts : List Tr} {xs : List V} {D' : FEnds} {D : Ends}, RTs K H ρ ts xs → RX K B H ρ L σ → RM K H ρ M → EndR K B H ρ D' D → fGoM fs ts D' L M → goM cs xs D σ H := by
  induction s with
  | nil => exact fun r x m e p => e.nx _ _ _ _ _ Grow.refl x m p
  | cons a b ih =>
    intro H ρ M L σ ts xs D' D r x m e ⟨p1, p2⟩
    refine ⟨fun hl => ?_, fun hl => ?_⟩
    · exact a.run (rx_setAll r x) m (p1 (by rw [← r.len]; exact hl)) e
    · exact ih r x m e (p2 (by rw [← r.len]; exact hl))
theorem sim_match {te : TE} {fe : FE} {cs : List (List Nat × TS)} {fs : List (List Nat × FS)} (a : SimE K B te fe) (s : SimM2 K B cs fs) : SimS K B (tMatch K te cs) (fMatch fe fs) := ⟨fun hl hm h e => a.run hl hm h fun x xv H1 ρ1 M1 g1 m1 rx ⟨ts, ex, p⟩ => by
  obtain ⟨n, b, xs, rfl, hn, _, rfl, h3, h4⟩ := lstAt_ok m1 rx ex
  exact ⟨b, xs, rfl, .inl (.inl h3), go_run s h4 (hl.mono g1) m1 (e.step g1) p⟩⟩
/-! ### C(e, .., k = v, ..) -/
def fMakeK (C : Addr) (n m : Nat) (fsp : FSp) (PX : PXF) (fa fk : FA) : FE := fun L M P => fa L M fun ts M1 => fk L M1 fun us M2 => ts.length = n ∧ us.length = m ∧ fsp (.ref M2.length :: (ts ++ us)) (M2 ++ [.ins C []]) (fun v M3 => v = .non ∧ P (.ref M2.length) M3) PX
theorem sim_makeKX {C : Addr} {n m : Nat} {sp : Sp} {fsp : FSp} {E : XK} {PX : PXF} {as ks : TA} {fs fk : FA} (hE : OutX K B.1 B.2 PX E) (s : SimSp K sp fsp) (a : SimA K B as fs) (b : SimA K B ks fk) :
    SimE K B (tMakeK C n m sp (fun vs zs => vs ++ zs) E as ks) (fMakeK C n m fsp PX fs fk) :=
  ⟨fun hl hm h o => a.run hl hm h fun ts xs H1 ρ1 M1 g1 m1 rx h1 => b.run (hl.mono g1) m1 h1 fun us ys H2 ρ2 M2 g2 m2 ry ⟨e1, e2, h2⟩ => ⟨by rw [(rx.mono g2).len]; exact e1, by rw [ry.len]; exact e2, fun x dx hx hd nd => by
    obtain ⟨g3, m3⟩ := m2.ins (C := C) hx hd nd
    have rself : RT K (upd (upd H2 dx (.own x)) x (.ins C dx [])) (ρ2 ++ [x]) (.ref M2.length) (.ref x) := by unfold RT; exact ⟨x, m2.ref, rfl⟩
    refine s.run (P := fun v M3 => v = .non ∧ _) (RTs.app (RTs.cons rself ((rx.mono g2).mono g3)) (ry.mono g3)) m3 h2 (fun v xv H4 ρ4 M4 g4 m4 rv ⟨ev, p⟩ => ?_) (hE.step (((hl.gr.trans g1).trans g2).trans g3))
    subst ev
    exact ⟨rv.non_inv, o _ _ _ _ _ (((g1.trans g2).trans g3).trans g4) m4 (rself.mono g4) p⟩⟩⟩
/-! ### a def with *xs, a class made by x(*y) -/
def spStar (n : Nat) (sp : Sp) : Sp := fun vs H Q E => ∃ ws rest, vs = ws ++ rest ∧ ws.length = n ∧ rest.length ≤ sizeLine ∧ ∀ p, H p = none → sp (ws ++ [V.ref p]) (upd H p (.tup rest)) Q E
def fMakeVS (i : Nat) (C : Addr) (fsp : FSp) (PX : PXF) (fe : FE) : FE := fun L M P => L[i]? = some (some (.raw (.ref C))) ∧ fe L M fun x M1 => ∃ ts, lstAt M1 x = some ts ∧ ts.length ≤ sizeLine ∧ fsp [.ref M1.length, .tup ts] (M1 ++ [.ins C []]) (fun v M2 => v = .non ∧ P (.ref M1.length) M2) PX
theorem sim_makeVSX {i : Nat} {C : Addr} {sp : Sp} {fsp : FSp} {E : XK} {PX : PXF} {te : TE} {fe : FE} (hE : OutX K B.1 B.2 PX E) (s : SimSp K sp fsp) (a : SimE K B te fe) :
    SimE K B (XNx.tMakeVS K i C (spStar 1 sp) E te) (fMakeVS i C fsp PX fe) := ⟨fun hl hm ⟨e, h⟩ o => by
  obtain ⟨x, h1, h2⟩ := hl.get e
  cases h2.raw_inv
  refine ⟨h1, a.run hl hm h fun y yv H1 ρ1 M1 g1 m1 ry ⟨ts, ey, hz, h⟩ => ?_⟩
  obtain ⟨n, b, xs, rfl, hn, _, rfl, h3, h4⟩ := lstAt_ok m1 ry ey
  refine ⟨b, xs, rfl, .inr (.inl (.inl h3)), fun x dx hx hd nd => ?_⟩
  obtain ⟨g2, m2⟩ := m1.ins (C := C) hx hd nd
  have rself : RT K (upd (upd H1 dx (.own x)) x (.ins C dx [])) (ρ1 ++ [x]) (.ref M1.length) (.ref x) := by unfold RT; exact ⟨x, m1.ref, rfl⟩
  refine ⟨[.ref x], xs, rfl, rfl, by rw [h4.len]; exact hz, fun p hp => ?_⟩
  have g3 : Grow K (upd (upd H1 dx (.own x)) x (.ins C dx [])) (ρ1 ++ [x]) (upd (upd (upd H1 dx (.own x)) x (.ins C dx [])) p (.tup xs)) (ρ1 ++ [x]) := Grow.laid hp
  have m3 := m2.laid (o := .tup xs) hp
  have rt : RT K (upd (upd (upd H1 dx (.own x)) x (.ins C dx [])) p (.tup xs)) (ρ1 ++ [x]) (.tup ts) (.ref p) := by unfold RT; exact ⟨p, xs, rfl, .inl (.inl upd_same), (h4.mono g2).mono g3⟩
  refine s.run (P := fun v M2 => v = .non ∧ _) (RTs.cons (rself.mono g3) (RTs.cons rt RTs.nil)) m3 h (fun v xv H4 ρ4 M4 g4 m4 rv ⟨ev, p⟩ => ?_) (hE.step (((hl.gr.trans g1).trans g2).trans g3))
  subst ev
  exact ⟨rv.non_inv, o _ _ _ _ _ (((g1.trans g2).trans g3).trans g4) m4 ((rself.mono g3).mono g4) p⟩⟩
/-! ### generators -/
abbrev FGn := Loc → Mem → (List Tr → Mem → Prop) → Prop
abbrev TGa := L2.St → Hp → (List V → Hp → Prop) → Prop
structure SimGn (K : PySem.W.Frag) (B : Bs) (t : TGa) (f : FGn) : Prop where
  run : ∀ {σ H ρ L M P Q}, RX K B H ρ L σ → RM K H ρ M → f L M P → OutS K H ρ P Q → t σ H Q
abbrev FSg := List Tr → Mem → (List Tr → Mem → Prop) → Prop
def spFJ (K : PySem.W.Frag) (fsp : FSg) : List V → Hp → (List V → Hp → Prop) → Prop := fun vs H Q => ∃ ts ρ M P, RTs K H ρ ts vs ∧ RM K H ρ M ∧ fsp ts M P ∧ OutS K H ρ P Q
def spFJX (K : PySem.W.Frag) (fsp : FSg) : List V → Hp → (List V → Hp → Prop) → XK → Prop := fun vs H Q _ => spFJ K fsp vs H Q
def fMethJ (C : Addr) (m : Str) (fsp : FSg) (fe : FE) : FGn := fun L M P => fe L M fun x M1 => ∃ n fs, insAt M1 x = some (n, C, fs) ∧ fs.lookup m = none ∧ fsp [x] M1 P
theorem sim_methJ {C : Addr} {m : Str} {fsp : FSg} {te : TE} {fe : FE} (a : SimE K B te fe) : SimGn K B (GCx.tMethJ C m (spFJ K fsp) te) (fMethJ C m fsp fe) := ⟨fun hl hm h o => a.run hl hm h fun x xv H1 ρ1 M1 g1 m1 rx ⟨n, fs, e, lk, p⟩ => by
  obtain ⟨b, dx, gs, rfl, _, _, rfl, h3, _, h4⟩ := insAt_ok m1 rx e
  exact ⟨b, dx, gs, rfl, h3, h4.lookN lk, _, _, _, _, RTs.cons rx RTs.nil, m1, p, o.step g1⟩⟩
theorem sim_methG {C : Addr} {m : Str} {fsp : FSg} {te : TE} {fe : FE} {E : XK} (a : SimE K B te fe) : SimGn K B (tMethG C m (spFJX K fsp) [] E te tNil) (fMethJ C m fsp fe) := ⟨fun hl hm h o => a.run hl hm h fun x xv H1 ρ1 M1 g1 m1 rx ⟨n, fs, e, lk, p⟩ => by
  obtain ⟨b, dx, gs, rfl, _, _, rfl, h3, _, h4⟩ := insAt_ok m1 rx e
  exact ⟨b, dx, gs, rfl, h3, h4.lookN lk, _, _, _, _, RTs.cons rx RTs.nil, m1, p, o.step g1⟩⟩
def fEitherG (f1 f2 : FGn) : FGn := fun L M P => f1 L M P ∨ f2 L M P
theorem sim_eitherG {t1 t2 : TGen} {f1 f2 : FGn} (a : SimGn K B t1 f1) (b : SimGn K B t2 f2) : SimGn K B (XNx.tOrG t1 t2) (fEitherG f1 f2) := ⟨fun hl hm h o => h.elim (fun h => .inl (a.run hl hm h o)) fun h => .inr (b.run hl hm h o)⟩
def fListG (fg : FGn) : FE := fun L M P => fg L M fun ts M1 => P (.ref M1.length) (M1 ++ [.lst ts])
theorem sim_listG {t : TGen} {f : FGn} (a : SimGn K B t f) : SimE K B (tListG t) (fListG f) := ⟨fun hl hm h o => a.run hl hm h fun ts xs H1 ρ1 M1 g1 m1 rx p => out_list m1 rx (o.step g1) p⟩
theorem sim_lcG {t : TGa} {f : FGn} (a : SimGn K B t f) : SimE K B (GCx.tLcG t) (fListG f) := ⟨fun hl hm h o => a.run hl hm h fun ts xs H1 ρ1 M1 g1 m1 rx p => out_list m1 rx (o.step g1) p⟩
/-- yield from a list -/
def fYfL (fe : FE) : FGn := fun L M P => fe L M fun x M1 => ∃ ts, lstAt M1 x = some ts ∧ P ts M1
theorem sim_yfL {te : TE} {fe : FE} (a : SimE K B te fe) : SimGn K B (GCx.tYfL K te) (fYfL fe) := ⟨fun hl hm h o => a.run hl hm h fun x xv H1 ρ1 M1 g1 m1 rx ⟨ts, e, p⟩ => by
  obtain ⟨n, b, xs, rfl, hn, _, rfl, h3, h4⟩ := lstAt_ok m1 rx e
  exact ⟨b, xs, rfl, h3, o _ _ _ _ _ g1 m1 h4 p⟩⟩
end
/-! ### the stable sort -/
section
variable {α β : Type} (key : α → Int)
def insK (x : α) : List α → List α
  | [] => [x]
  | y :: ys => if key x ≤ key y then x :: y :: ys else y :: insK x ys
def stab : List α → List α
  | [] => []
  | x :: xs => insK key x (stab xs)
theorem mem_insK {x y : α} : ∀ {l : List α}, y ∈ insK key x l ↔ y = x ∨ y ∈ l
  | [] => by simp [insK]
  | z :: l => by
    unfold insK
    split
    · simp
    · rw [List.mem_cons, mem_insK (l := l), List.mem_cons]
      constructor
      · rintro (h | h | h)
        · exact .inr (.inl h)
        · exact .inl h
        · exact .inr (.inr h)
      · rintro (h | h | h)
        · exact .inr (.inl h)
        · exact .inl h
        · exact .inr (.inr h)
theorem mem_stab {y : α} : ∀ {l : List α}, y ∈ stab key l ↔ y ∈ l
  | [] => Iff.rfl
  | z :: l => by
    show y ∈ insK key z (stab key l) ↔ _
    rw [mem_insK, mem_stab (l := l), List.mem_cons]
theorem len_insK {x : α} : ∀ {l : List α}, (insK key x l).length = l.length + 1
  | [] => rfl
  | z :: l => by
    unfold insK
    split
    · rfl
    · rw [List.length_cons, len_insK (l := l), List.length_cons]
theorem len_stab : ∀ {l : List α}, (stab key l).length = l.length
  | [] => rfl
  | z :: l => by
    show (insK key z (stab key l)).length = _
    rw [len_insK, len_stab (l := l), List.length_cons]
theorem insK_pw {x : α} : ∀ {l : List α}, l.Pairwise (fun p q => key p ≤ key q) → (insK key x l).Pairwise (fun p q => key p ≤ key q)
  | [], _ => List.pairwise_singleton ..
  | z :: l, h => by
    unfold insK
    rw [List.pairwise_cons] at h
    split
    · rename_i hx
      refine List.pairwise_cons.mpr ⟨fun y hy => ?_, List.pairwise_cons.mpr h⟩
      rcases List.mem_cons.mp hy with rfl | hy
      · exact hx
      · exact Int.le_trans hx (h.1 y hy)
    · rename_i hx
      refine List.pairwise_cons.mpr ⟨fun y hy => ?_, insK_pw h.2⟩
      rcases (mem_insK key).mp hy with rfl | hy
      · omega
      · exact h.1 y hy
theorem stab_pw : ∀ {l : List α}, (stab key l).Pairwise (fun p q => key p ≤ key q)
  | [] => List.Pairwise.nil
  | z :: l => insK_pw key (stab_pw (l := l))
theorem insK_fl {x : α} {c : Int} : ∀ {l : List α}, l.Pairwise (fun p q => key p ≤ key q) → (insK key x l).filter (fun p => key p == c) = (x :: l).filter (fun p => key p == c)
  | [], _ => rfl
  | z :: l, h => by
    unfold insK
    rw [List.pairwise_cons] at h
    split
    · rfl
    · rename_i hx
      rw [List.filter_cons, insK_fl h.2, List.filter_cons, List.filter_cons, List.filter_cons]
      by_cases h1 : key z = c
      · have h2 : ¬ key x = c := by omega
        simp [h1, h2]
      · simp [h1]
theorem stab_fl {c : Int} : ∀ {l : List α}, (stab key l).filter (fun p => key p == c) = l.filter (fun p => key p == c)
  | [] => rfl
  | z :: l => by
    show (insK key z (stab key l)).filter _ = _
    rw [insK_fl key (stab_pw key), List.filter_cons, List.filter_cons, stab_fl (l := l)]
theorem sorted_eq : ∀ {p q : List α}, p.Pairwise (fun p q => key p ≤ key q) → q.Pairwise (fun p q => key p ≤ key q) → (∀ c, p.filter (fun p => key p == c) = q.filter (fun p => key p == c)) → p = q
  | [], [], _, _, _ => rfl
  | [], b :: q, _, _, h => by
    have := h (key b)
    simp at this
  | a :: p, [], _, _, h => by
    have := h (key a)
    simp at this
  | a :: p, b :: q, hp, hq, h => by
    rw [List.pairwise_cons] at hp hq
    have e1 : key b ≤ key a := by
      have : a ∈ (b :: q).filter (fun p => key p == key a) := by rw [← h (key a)]; simp
      rcases List.mem_cons.mp (List.mem_filter.mp this).1 with e | e
      · rw [e]; exact Int.le_refl _
      · exact hq.1 _ e
    have e2 : key a ≤ key b := by
      have : b ∈ (a :: p).filter (fun p => key p == key b) := by rw [h (key b)]; simp
      rcases List.mem_cons.mp (List.mem_filter.mp this).1 with e | e
      · rw [e]; exact Int.le_refl _
      · exact hp.1 _ e
    have e3 : key a = key b := by omega
    have h1 := h (key a)
    rw [List.filter_cons, List.filter_cons, if_pos (by simp), if_pos (by simp [e3])] at h1
    have hab : a = b := (List.cons.inj h1).1
    subst hab
    rw [sorted_eq hp.2 hq.2 fun c => ?_]
    have h2 := h c
    rw [List.filter_cons, List.filter_cons] at h2
    split at h2
    · exact (List.cons.inj h2).2
    · exact h2
theorem insK_map {key2 : β → Int} {f : α → β} (hk : ∀ a, key2 (f a) = key a) {x : α} : ∀ {l : List α}, (insK key x l).map f = insK key2 (f x) (l.map f)
  | [] => rfl
  | z :: l => by
    unfold insK
    rw [List.map_cons]
    simp only [hk]
    split
    · rfl
    · rw [List.map_cons, insK_map hk (l := l)]
theorem stab_map {key2 : β → Int} {f : α → β} (hk : ∀ a, key2 (f a) = key a) : ∀ {l : List α}, (stab key l).map f = stab key2 (l.map f)
  | [] => rfl
  | z :: l => by
    show (insK key z (stab key l)).map f = insK key2 (f z) (stab key2 (l.map f))
    rw [insK_map key hk, stab_map hk (l := l)]
end
/-! ### sorted(e, key=lambda y: y[1]) -/
def keyT : Tr → Int
  | .tup (_ :: .int k :: _) => k
  | _ => 0
def keyed : Tr → Bool
  | .tup (_ :: .int _ :: _) => true
  | _ => false
/-- the tables in the memory are those of T -/
def TabsM (T : List (Addr × Str)) (M : Mem) : Prop := (∀ p ∈ T, O.tab p.1 p.2 ∈ M) ∧ ∀ P q, O.tab P q ∈ M → (P, q) ∈ T
def ntab (M : Mem) : Bool := M.all fun o => match o with
  | .tab _ _ => false
  | _ => true
theorem ntab_app {a b : Mem} : ntab (a ++ b) = (ntab a && ntab b) := List.all_append
theorem ntab_mem {g : Mem} (h : ntab g = true) {P : Addr} {q : Str} : O.tab P q ∉ g := fun hm => by
  have := List.all_eq_true.mp h _ hm
  cases this
theorem TabsM.app {T : List (Addr × Str)} {M g : Mem} (h : TabsM T M) (n : ntab g = true) : TabsM T (M ++ g) := ⟨fun p hp => List.mem_append_left _ (h.1 p hp), fun P q hm => (List.mem_append.mp hm).elim (h.2 P q) fun z => absurd z (ntab_mem n)⟩
theorem TabsM.set {T : List (Addr × Str)} {M : Mem} {n : Nat} {u o : O} (h : TabsM T M) (e : M[n]? = some u) (h1 : ∀ P q, u ≠ .tab P q) (h2 : ∀ P q, o ≠ .tab P q) : TabsM T (M.set n o) := by
  refine ⟨fun p hp => ?_, fun P q hm => ?_⟩
  · obtain ⟨i, hi, ei⟩ := List.getElem_of_mem (h.1 p hp)
    have hne : n ≠ i := fun z => by
      subst z
      rw [List.getElem?_eq_getElem hi, ei] at e
      cases e
      exact h1 _ _ rfl
    have : (M.set n o)[i]? = some (O.tab p.1 p.2) := by rw [List.getElem?_set_ne hne, List.getElem?_eq_getElem hi, ei]
    exact List.mem_of_getElem? this
  · obtain ⟨i, hi, ei⟩ := List.getElem_of_mem hm
    by_cases hne : n = i
    · subst hne
      rw [List.getElem_set_self] at ei
      exact absurd ei (h2 P q)
    · rw [List.getElem_set_ne hne] at ei
      exact h.2 P q (by rw [← ei]; exact List.getElem_mem _)
def fSortKey (T : List (Addr × Str)) (fe : FE) : FE := fun L M P => fe L M fun x M1 => TabsM T M1 ∧ ∃ ts, lstAt M1 x = some ts ∧ ts.all keyed = true ∧ P (.ref M1.length) (M1 ++ [.lst (stab keyT ts)])
section
variable {K : PySem.W.Frag} {B : Bs} {H H1 : Hp} {ρ : List Addr} {M : Mem} {T : List (Addr × Str)}
theorem sqT_ext (e : LamX.ExtN H H1) {a : Addr} {xs : List V} (h : SqT K H a xs) : SqT K H1 a xs := by
  rcases h with (h | ⟨u, h⟩) | h
  · exact .inl (.inl (e _ _ h fun ps z => nomatch z))
  · exact .inl (.inr ⟨u, e _ _ h fun ps z => nomatch z⟩)
  · exact .inr h
theorem TabsM.heap (h : TabsM T M) (m : RM K H ρ M) : LamX.Tabs T H := fun p hp => by
  obtain ⟨i, hi⟩ := List.mem_iff_getElem?.mp (h.1 p hp)
  obtain ⟨a, _, rfl, h2⟩ := m.at_ i _ hi
  exact h2
theorem tabs_grow (e : LamX.ExtN H H1) (Tb : LamX.Tabs T H1) (ta : TabsM T M) (m : RM K H ρ M) : Grow K H ρ H1 ρ ∧ RM K H1 ρ M := by
  have g : Grow K H ρ H1 ρ := ⟨⟨[], by simp⟩, fun _ _ t => sqT_ext e t, fun a o h _ nt => e a o h nt, fun _ h n => absurd h n, fun c q i h => e _ _ h fun ps z => i.ne.2.2.2.1 _ z⟩
  refine ⟨g, m.len, fun k o ek => ?_, m.nd⟩
  obtain ⟨a, h1, h2⟩ := m.at_ k o ek
  refine ⟨a, h1, ?_⟩
  cases o with
  | tab P' q' =>
    obtain ⟨rfl, _⟩ := h2
    exact ⟨rfl, Tb _ (ta.2 _ _ (List.mem_of_getElem? ek))⟩
  | lst ts => exact h2.mono g (by obtain ⟨xs, z, _⟩ := h2; rw [z]; exact e _ _ z (fun ps y => nomatch y)) fun d z => e _ _ z (fun ps y => nomatch y)
  | ins C fs => exact h2.mono g (by obtain ⟨dx, gs, z, _⟩ := h2; rw [z]; exact e _ _ z (fun ps y => nomatch y)) fun d z => e _ _ z (fun ps y => nomatch y)
  | scr ns k m r => exact h2.mono g (by obtain ⟨s, z, _⟩ := h2; rw [z]; exact e _ _ z (fun ps y => nomatch y)) fun d z => e _ _ z (fun ps y => nomatch y)
  | dic ps => exact h2.mono g (by obtain ⟨kvs, z, _⟩ := h2; rw [z]; exact e _ _ z (fun ps y => nomatch y)) fun d z => e _ _ z (fun ps y => nomatch y)
theorem rts_zip : ∀ {ts : List Tr} {xs : List V}, RTs K H ρ ts xs → ∀ z ∈ ts.zip xs, RT K H ρ z.1 z.2
  | [], _, _, z, hz => by simp at hz
  | t :: ts, _, r, z, hz => by
    unfold RTs at r
    obtain ⟨y, ys, rfl, r1, r2⟩ := r
    rcases List.mem_cons.mp (by simpa using hz) with e | hz
    · rw [e]; exact r1
    · exact rts_zip r2 z hz
theorem rts_of : ∀ {zs : List (Tr × V)}, (∀ z ∈ zs, RT K H ρ z.1 z.2) → RTs K H ρ (zs.map (·.1)) (zs.map (·.2))
  | [], _ => RTs.nil
  | z :: zs, h => RTs.cons (h z List.mem_cons_self) (rts_of fun w hw => h w (List.mem_cons_of_mem _ hw))
theorem sim_sortKey {te : TE} {fe : FE} (a : SimE K B te fe) : SimE K B (SKx.tSortKey K T te) (fSortKey T fe) := ⟨fun hl hm h o => a.run hl hm h fun x xv H1 ρ1 M1 g1 m1 rx ⟨tm, ts, ex, hk, p⟩ => by
  refine ⟨tm.heap m1, fun H2 e2 T2 => ?_⟩
  obtain ⟨g2, m2⟩ := tabs_grow e2 T2 tm m1
  obtain ⟨n, b, xs, rfl, hn, _, rfl, h3, h4⟩ := lstAt_ok m2 (rx.mono g2) ex
  have hz := rts_zip h4
  have hl2 : xs.length = ts.length := h4.len
  refine ⟨b, xs, ts.map keyT, rfl, .inl (.inl h3), ⟨by rw [List.length_map]; exact hl2, fun i x k hx hkk => ?_⟩, fun qs p2 hs hp2 => ?_⟩
  · rw [List.getElem?_map] at hkk
    cases ht : ts[i]? with
    | none => rw [ht] at hkk; cases hkk
    | some t =>
      rw [ht] at hkk
      cases hkk
      have hkt := List.all_eq_true.mp hk t (List.mem_of_getElem? ht)
      obtain ⟨y, hy, ry⟩ := h4.get ht
      rw [hx] at hy
      cases hy
      unfold keyed at hkt
      split at hkt
      · rename_i u k r
        obtain ⟨c, ys, rfl, h5, h6⟩ := ry.tup_inv
        obtain ⟨y1, h7, h8⟩ := h6.get (i := 1) (t := .int k) rfl
        rw [h8.int_inv] at h7
        exact ⟨c, ys, rfl, h5, h7⟩
      · cases hkt
  · obtain ⟨s1, s2, s3⟩ := hs
    have ez : (ts.map keyT).zip xs = (ts.zip xs).map fun z => (keyT z.1, z.2) := by
      rw [List.zip_map_left]
      rfl
    have eq : qs = (stab (fun z : Tr × V => keyT z.1) (ts.zip xs)).map fun z => (keyT z.1, z.2) := by
      rw [stab_map (key2 := fun p : Int × V => p.1) _ (fun _ => rfl), ← ez]
      exact sorted_eq (fun p : Int × V => p.1) s2 (stab_pw _) fun c => by rw [stab_fl, s3 c]
    have et : (stab (fun z : Tr × V => keyT z.1) (ts.zip xs)).map (·.1) = stab keyT ts := by
      rw [stab_map (key2 := keyT) _ (fun _ => rfl), List.map_fst_zip (by omega)]
    have r := rts_of (zs := stab (fun z : Tr × V => keyT z.1) (ts.zip xs)) fun z hz2 => hz z ((mem_stab _).mp hz2)
    rw [et] at r
    rw [eq, List.map_map]
    exact out_list m2 r (o.step (g1.trans g2)) p p2 hp2⟩
end
/-! ### sorted(set(xs)) -/
def fSortSet (fe : FE) : FE := fun L M P => fe L M fun x M1 => ∃ ns : List Int, lstAt M1 x = some (ns.map Tr.int) ∧ ns.length < 64 ∧ ∀ out : List Int, out.Pairwise (· < ·) → (∀ k, k ∈ out ↔ k ∈ ns) → P (.ref M1.length) (M1 ++ [.lst (out.map Tr.int)])
section
variable {K : PySem.W.Frag} {B : Bs} {H : Hp} {ρ : List Addr}
theorem rts_i : ∀ ys : List Int, RTs K H ρ (ys.map Tr.int) (ys.map V.int)
  | [] => RTs.nil
  | y :: ys => RTs.cons RT.int_ (rts_i ys)
theorem rts_i_inv : ∀ {ys : List Int} {vs : List V}, RTs K H ρ (ys.map Tr.int) vs → vs = ys.map V.int
  | [], _, h => by unfold RTs at h; exact h
  | y :: ys, _, h => by
    unfold RTs at h
    obtain ⟨x, zs, rfl, h1, h2⟩ := h
    rw [h1.int_inv, rts_i_inv (ys := ys) h2]
    rfl
theorem sim_sortSet {w : World} {te : TE} {fe : FE} (a : SimE K B te fe) : SimE K B (tCB (rSortedSet w) (tCons (tCB (SEx.rSetL K w) (tCons te tNil)) tNil)) (fSortSet fe) := ⟨fun hl hm h o => a.run hl hm h fun x xv H1 ρ1 M1 g1 m1 rx ⟨ns, ex, hn, p⟩ => by
  obtain ⟨n, b, xs, rfl, hb, _, rfl, h3, h4⟩ := lstAt_ok m1 rx ex
  rw [rts_i_inv h4] at h3
  refine ⟨b, ns, rfl, .inl (.inl h3), by omega, fun p1 c hc hp1 => ⟨p1, _, c, rfl, upd_same, by omega, fun out p2 hpw hmem hlen hp2 => ?_⟩⟩
  have g2 : Grow K H1 ρ1 (upd H1 p1 (SetO w p1 (fun j => decide (j ∈ ns)) c)) ρ1 := Grow.laid hp1
  exact out_list (m1.laid hp1) (rts_i out) (o.step (g1.trans g2)) (p out hpw fun k => by rw [hmem k]; simp) p2 hp2⟩
end
end Fm

set_option Elab.async false
set_option linter.all false
set_option maxRecDepth 100000
set_option maxHeartbeats 3200000
/-! TC: < of tuples, deep, by what they hold. -/
namespace TCx
open PySem PySem.SeqAt PyProof.Rows
/-- the order of two rows of values: the first two that are not equal tell -/
inductive LexR (A : Around) (s : Shared) : List Value → List Value → Bool → Prop
  | nn : LexR A s [] [] false
  | nc {y : Value} {ys : List Value} : LexR A s [] (y :: ys) true
  | cn {x : Value} {xs : List Value} : LexR A s (x :: xs) [] false
  | eq {x y : Value} {xs ys : List Value} {r : Bool} : EqAt A s x y true → LexR A s xs ys r → LexR A s (x :: xs) (y :: ys) r
  | ne {x y : Value} {xs ys : List Value} {r : Bool} : EqAt A s x y false →
      (∀ (prog : Program) (w : World) (E Q : Value → Shared → Prop), Q (.bool r) s → wpAny (model prog w) A (richCompare .Lt x y) Q E s) → LexR A s (x :: xs) (y :: ys) r
section
open PySem.AutoSeq1 (wpAny_loadPart')
open PySem.MeetsSeq PySem.MeetsSeq2 PySem.MeetsSeq3
theorem tuple_lt_gen (a c : Addr) (us vs : Array Value) (n m : Nat) (da dc : Option Addr) (sa sc : Array (Option Value)) :
    Meets (Builtin.«tuple.__lt__» ⟨[.ref a, .ref c], []⟩)
      (fun A R s => s.heap.get? a = some { cls := .type "tuple", dict := da, data := .seq us n, slots := sa } ∧
        s.heap.get? c = some { cls := .type "tuple", dict := dc, data := .seq vs m, slots := sc } ∧
        ∃ r, LexR A.in1 s us.toList vs.toList r ∧ R (.ok (.ret (.bool r))) s) :=
  .of_wp fun prog w A R s h => by
    obtain ⟨hp, g, dr, tk, os⟩ := s
    obtain ⟨ha, hc, r, hr, h⟩ := h
    have f2 := AutoSeq1.sub_tuple_tuple
    wp_walk using wpAny_loadPart' ha, wpAny_loadPart' hc, wpAny_forIn_list _ (fun rest b s' => b.1 = none ∧ s' = ⟨hp, g, dr, tk, os⟩ ∧ ∃ (xs ys : List Value),
      rest = xs.zip ys ∧ LexR A.in1 ⟨hp, g, dr, tk, os⟩ xs ys r ∧ xs.length + vs.size = ys.length + us.size) _
    case turn =>
      rintro ⟨y, x⟩ rest b s' ⟨hb', rfl, xs, ys, hz, hl, hlen⟩
      cases hl with
      | nn => cases hz
      | nc => cases hz
      | cn => cases hz
      | eq he hl' =>
        rw [List.zip_cons_cons] at hz
        injection hz with hyx hrest
        injection hyx with hy hx
        subst hy hx
        refine wpAny_bind (he prog w _ _ ?_)
        simp only [List.length_cons] at hlen
        wp_walk
        exact ⟨rfl, rfl, _, _, hrest, hl', by omega⟩
      | ne he hlt =>
        rw [List.zip_cons_cons] at hz
        injection hz with hyx hrest
        injection hyx with hy hx
        subst hy hx
        refine wpAny_bind (he prog w _ _ ?_)
        have hri := hlt prog w
        wp_walk using hri
        exact ⟨_, rfl, h⟩
    case fin =>
      rintro ⟨b1, b2⟩ s' ⟨hb', rfl, xs, ys, hz, hl, hlen⟩
      simp only at hb'
      subst hb'
      have hv : r = decide (us.size < vs.size) := by
        cases hl with
        | nn => exact (decide_eq_false (by simp only [List.length_nil] at hlen; omega)).symm
        | nc => exact (decide_eq_true (by simp only [List.length_nil, List.length_cons] at hlen; omega)).symm
        | cn => exact (decide_eq_false (by simp only [List.length_nil, List.length_cons] at hlen; omega)).symm
        | eq => rw [List.zip_cons_cons] at hz; cases hz
        | ne => rw [List.zip_cons_cons] at hz; cases hz
      rw [hv] at h
      wp_walk
      exact ⟨_, rfl, by simpa [Builtin.Tuple.tupleCompareSizes] using h⟩
    case h =>
      exact ⟨rfl, rfl, us.toList, vs.toList, rfl, hr, by simp [Nat.add_comm]⟩
end
/-! ### deep: the order of data -/
mutual
def ltP : PyData → PyData → Bool
  | .int i, .int j => decide (i < j)
  | .tuple xs, .tuple ys => ltPs xs ys
  | _, _ => false
def ltPs : List PyData → List PyData → Bool
  | [], [] => false
  | [], _ :: _ => true
  | _ :: _, [] => false
  | x :: xs, y :: ys => if PyData.eqv x y = true then ltPs xs ys else ltP x y
end
mutual
/-- < is asked of numbers and of tuples alone -/
def cmpP : PyData → PyData → Bool
  | .int _, .int _ => true
  | .tuple xs, .tuple ys => cmpPs xs ys
  | _, _ => false
def cmpPs : List PyData → List PyData → Bool
  | [], _ => true
  | _ :: _, [] => true
  | x :: xs, y :: ys => if PyData.eqv x y = true then cmpPs xs ys else cmpP x y
end
theorem lt_ints {A : Around} {s : Shared} {i j : Int} {t u : Tok} {prog : Program} {w : World} {E Q : Value → Shared → Prop} (h : Q (.bool (decide (i < j))) s) : wpAny (model prog w) A (richCompare .Lt (.int i t) (.int j u)) Q E s :=
  (PyProof.Rows.lt_int h : wpAny (model prog w) A (compareOp .Lt (.int i t) (.int j u)) Q E s)
theorem lt_tups {A : Around} {s : Shared} {a c : Addr} {us vs : Array Value} {r : Bool} {prog : Program} {w : World} {E Q : Value → Shared → Prop} (ha : s.heap.IsTuple a us) (hc : s.heap.IsTuple c vs) (hu : A.units < cLine)
    (hr : LexR A.in1 s us.toList vs.toList r) (h : Q (.bool r) s) : wpAny (model prog w) A (richCompare .Lt (.ref a) (.ref c)) Q E s := by
  obtain ⟨⟨k1, d1, x1, s1⟩, ho, e1, n, e2⟩ := id ha
  obtain ⟨⟨k2, d2, x2, s2⟩, ho2, e3, m, e4⟩ := id hc
  simp only at e1 e2 e3 e4
  subst e1 e2 e3 e4
  exact richCompare_meets_room (op := .Lt) ⟨_, ho, rfl⟩ ⟨_, ho2, rfl⟩ PySem.F.slot_tuple_lt PySem.F.entry_tuple_lt (PySem.F.args_tuple_lt_2 _ _) (tuple_lt_gen a c us vs n m d1 d2 s1 s2)
    ⟨ho, ho2, r, hr, show Value.bool r ≠ .notImplemented ∧ Q (.bool r) s from ⟨(fun x => nomatch x), h⟩⟩ hu
mutual
theorem rcLt_reads : ∀ (da db : PyData) (A : Around) (s : Shared) (a b : Value) (as bs : List Addr), Reads s.heap a da as → Reads s.heap b db bs → da.canLay0 = true → db.canLay0 = true →
    A.units + min da.depth db.depth < cLine → cmpP da db = true → ∀ (prog : Program) (w : World) (E Q : Value → Shared → Prop), Q (.bool (ltP da db)) s → wpAny (model prog w) A (richCompare .Lt a b) Q E s
  | .none, _, _, _, _, _, _, _, _, _, _, _, _, hc, _, _, _, _, _ => nomatch hc
  | .bool _, _, _, _, _, _, _, _, _, _, _, _, _, hc, _, _, _, _, _ => nomatch hc
  | .str _, _, _, _, _, _, _, _, _, _, _, _, _, hc, _, _, _, _, _ => nomatch hc
  | .list _, _, _, _, _, _, _, _, _, _, _, _, _, hc, _, _, _, _, _ => nomatch hc
  | .dict _, _, _, _, _, _, _, _, _, _, _, _, _, hc, _, _, _, _, _ => nomatch hc
  | .int i, db, A, s, _, _, _, _, ra, rb, _, _, _, hc, prog, w, E, Q, h => by
    cases ra with
    | int _ t =>
      cases db with
      | int j =>
        cases rb with
        | int _ u => exact lt_ints h
      | _ => cases hc
  | .tuple xs, db, A, s, _, _, _, _, ra, rb, ha, hb, hu, hc, prog, w, E, Q, h => by
    cases db with
    | tuple ys =>
      cases ra with
      | @tuple l o vs n _ as₁ h1 h2 h3 h4 =>
        cases rb with
        | @tuple l' o' vs' n' _ bs₁ k1 k2 k3 k4 =>
          exact lt_tups ⟨_, h1, h2, _, h3⟩ ⟨_, k1, k2, _, k3⟩ (room_here hu) (lex_reads xs ys A.in1 s vs.toList vs'.toList _ _ h4 k4 ha hb (room_in hu) hc) h
    | _ => cases hc
theorem lex_reads : ∀ (xs ys : List PyData) (A : Around) (s : Shared) (vs ws : List Value) (as bs : List Addr), ReadsAll s.heap vs xs as → ReadsAll s.heap ws ys bs → PyData.canLayAll0 xs = true → PyData.canLayAll0 ys = true →
    A.units + min (PyData.depthAll xs) (PyData.depthAll ys) < cLine → cmpPs xs ys = true → LexR A s vs ws (ltPs xs ys)
  | [], [], _, _, _, _, _, _, ra, rb, _, _, _, _ => by
    cases ra
    cases rb
    exact .nn
  | [], _ :: _, _, _, _, _, _, _, ra, rb, _, _, _, _ => by
    cases ra
    cases rb
    exact .nc
  | _ :: _, [], _, _, _, _, _, _, ra, rb, _, _, _, _ => by
    cases ra
    cases rb
    exact .cn
  | x :: xs, y :: ys, A, s, _, _, _, _, ra, rb, ha, hb, hu, hc => by
    have ha' : x.canLay0 = true ∧ PyData.canLayAll0 xs = true := by simpa [PyData.canLayAll0] using ha
    have hb' : y.canLay0 = true ∧ PyData.canLayAll0 ys = true := by simpa [PyData.canLayAll0] using hb
    cases ra with
    | cons r rs =>
      cases rb with
      | cons r' rs' =>
        have e := eqAt_reads x y A s _ _ _ _ r r' ha'.1 hb'.1 (room_head hu)
        unfold cmpPs at hc
        unfold ltPs
        by_cases q : PyData.eqv x y = true
        · rw [if_pos q] at hc ⊢
          rw [q] at e
          exact .eq e (lex_reads xs ys A s _ _ _ _ rs rs' ha'.2 hb'.2 (room_tail hu) hc)
        · rw [if_neg q] at hc ⊢
          rw [Bool.not_eq_true] at q
          rw [q] at e
          exact .ne e (rcLt_reads x y A s _ _ _ _ r r' ha'.1 hb'.1 (room_head hu) hc)
end
end TCx

/-! HQ: heaps as lists, by sifting: pushing and popping keep the heap and what is in it. No library. -/
namespace HQ
variable {α : Type}
/-- a total order, by its less -/
structure Tot (lt : α → α → Prop) : Prop where
  irr : ∀ a, ¬ lt a a
  tr : ∀ {a b c}, ¬ lt b a → ¬ lt c b → ¬ lt c a
  as : ∀ {a b}, lt a b → ¬ lt b a
def swp (d : α) (xs : List α) (i j : Nat) : List α := (xs.set i (xs.getD j d)).set j (xs.getD i d)
theorem swp_len {d : α} {xs : List α} {i j : Nat} : (swp d xs i j).length = xs.length := by simp [swp]
theorem swp_get {d : α} {xs : List α} {i j k : Nat} (hi : i < xs.length) (hj : j < xs.length) : (swp d xs i j).getD k d = if k = j then xs.getD i d else if k = i then xs.getD j d else xs.getD k d := by
  unfold swp
  simp only [List.getD_eq_getElem?_getD]
  by_cases h1 : k = j
  · subst h1
    rw [if_pos rfl, List.getElem?_set_self (by simpa using hj)]
    rfl
  · rw [if_neg h1, List.getElem?_set_ne (fun z => h1 z.symm)]
    by_cases h2 : k = i
    · subst h2
      rw [if_pos rfl, List.getElem?_set_self hi]
      rfl
    · rw [if_neg h2, List.getElem?_set_ne (fun z => h2 z.symm)]
theorem swp_perm {d : α} {xs : List α} {i j : Nat} (hi : i < xs.length) (hj : j < xs.length) : (swp d xs i j).Perm xs := by
  classical
  rw [List.perm_iff_count]
  intro a
  unfold swp
  rw [List.count_set (by simpa using hj), List.count_set hi]
  simp only [List.getD_eq_getElem?_getD, List.getElem?_eq_getElem hi, List.getElem?_eq_getElem hj, Option.getD_some, List.getElem_set]
  have hi1 : 1 ≤ xs.count xs[i] := List.one_le_count_iff.mpr (List.getElem_mem hi)
  have hj1 : 1 ≤ xs.count xs[j] := List.one_le_count_iff.mpr (List.getElem_mem hj)
  by_cases h : i = j
  · subst h
    by_cases e : xs[i] = a
    · subst e
      simp
    · simp [e]
  · rw [if_neg h]
    by_cases e1 : xs[i] = a <;> by_cases e2 : xs[j] = a
    · simp [e1, e2]
      have : 1 ≤ xs.count a := by rw [← e1]; exact hi1
      omega
    · simp [e1, e2]
      have : 1 ≤ xs.count a := by rw [← e1]; exact hi1
      omega
    · simp [e1, e2]
    · simp [e1, e2]
def le (lt : α → α → Prop) (a b : α) : Prop := ¬ lt b a
/-- ordered at i -/
def At (lt : α → α → Prop) (d : α) (xs : List α) (i : Nat) : Prop := le lt (xs.getD ((i - 1) / 2) d) (xs.getD i d)
def Heap (lt : α → α → Prop) (d : α) (xs : List α) : Prop := ∀ i, 0 < i → i < xs.length → At lt d xs i
/-- ordered but at p, and what hangs on p is not less than what p hangs on -/
def UpInv (lt : α → α → Prop) (d : α) (xs : List α) (p : Nat) : Prop := (∀ i, 0 < i → i < xs.length → i ≠ p → At lt d xs i) ∧ (0 < p → ∀ c, 0 < c → c < xs.length → (c - 1) / 2 = p → le lt (xs.getD ((p - 1) / 2) d) (xs.getD c d))
/-- ordered but at p and below it -/
def DownInv (lt : α → α → Prop) (d : α) (xs : List α) (p : Nat) : Prop := (∀ i, 0 < i → i < xs.length → i ≠ p → (i - 1) / 2 ≠ p → At lt d xs i) ∧ (0 < p → ∀ c, 0 < c → c < xs.length → (c - 1) / 2 = p → le lt (xs.getD ((p - 1) / 2) d) (xs.getD c d))
section
variable {lt : α → α → Prop} {d : α}
theorem Heap.least (T : Tot lt) {xs : List α} (h : Heap lt d xs) : ∀ n i, i ≤ n → i < xs.length → le lt (xs.getD 0 d) (xs.getD i d)
  | n, 0, _, _ => T.irr _
  | 0, i + 1, hn, _ => absurd hn (by omega)
  | n + 1, i + 1, hn, hi => by
    have h1 := h (i + 1) (by omega) hi
    have h2 := Heap.least T h n ((i + 1 - 1) / 2) (by omega) (by omega)
    exact T.tr h2 h1
theorem up_done {xs : List α} {p : Nat} (u : UpInv lt d xs p) (h : p = 0 ∨ ¬ lt (xs.getD p d) (xs.getD ((p - 1) / 2) d)) : Heap lt d xs := fun i h0 hl => by
  by_cases e : i = p
  · subst e
    rcases h with h | h
    · omega
    · exact h
  · exact u.1 i h0 hl e
theorem up_step (T : Tot lt) {xs : List α} {p : Nat} (u : UpInv lt d xs p) (hp : 0 < p) (hl : p < xs.length) (h : lt (xs.getD p d) (xs.getD ((p - 1) / 2) d)) : UpInv lt d (swp d xs ((p - 1) / 2) p) ((p - 1) / 2) := by
  have hq : (p - 1) / 2 < xs.length := by omega
  have nq : (p - 1) / 2 ≠ p := by omega
  refine ⟨fun i i0 il ne => ?_, fun q0 c c0 cl ec => ?_⟩
  · rw [swp_len] at il
    unfold At
    rw [swp_get hq hl, swp_get hq hl]
    by_cases e1 : i = p
    · subst e1
      rw [if_neg nq, if_pos rfl, if_pos rfl]
      exact T.as h
    · rw [if_neg e1, if_neg ne]
      by_cases e2 : (i - 1) / 2 = p
      · rw [if_pos e2]
        exact u.2 hp i i0 il e2
      · rw [if_neg e2]
        by_cases e3 : (i - 1) / 2 = (p - 1) / 2
        · rw [if_pos e3]
          have h1 := u.1 i i0 il e1
          unfold At at h1
          rw [e3] at h1
          exact T.tr (T.as h) h1
        · rw [if_neg e3]
          exact u.1 i i0 il e1
  · rw [swp_len] at cl
    rw [swp_get hq hl, swp_get hq hl]
    have h2 := u.1 ((p - 1) / 2) q0 hq nq
    unfold At at h2
    rw [if_neg (by omega), if_neg (by omega)]
    by_cases e1 : c = p
    · rw [if_pos e1]
      exact h2
    · rw [if_neg e1, if_neg (by omega)]
      have h1 := u.1 c c0 cl e1
      unfold At at h1
      rw [ec] at h1
      exact T.tr h2 h1
theorem down_step {xs : List α} {p c : Nat} (u : DownInv lt d xs p) (hc : c = 2 * p + 1 ∨ c = 2 * p + 2) (hl : c < xs.length)
    (hs : ∀ k, k < xs.length → (k = 2 * p + 1 ∨ k = 2 * p + 2) → le lt (xs.getD c d) (xs.getD k d)) : DownInv lt d (swp d xs c p) c := by
  have hp : p < xs.length := by omega
  refine ⟨fun i i0 il ne ne2 => ?_, fun _ k k0 kl ek => ?_⟩
  · rw [swp_len] at il
    unfold At
    rw [swp_get hl hp, swp_get hl hp]
    rw [if_neg ne, if_neg ne2]
    by_cases e1 : i = p
    · subst e1
      rw [if_pos rfl, if_neg (by omega)]
      exact u.2 i0 c (by omega) hl (by omega)
    · rw [if_neg e1]
      by_cases e2 : (i - 1) / 2 = p
      · rw [if_pos e2]
        exact hs i il (by omega)
      · rw [if_neg e2]
        exact u.1 i i0 il e1 e2
  · rw [swp_len] at kl
    rw [swp_get hl hp, swp_get hl hp]
    have e1 : (c - 1) / 2 = p := by omega
    rw [if_pos e1, if_neg (by omega), if_neg (by omega)]
    have h1 := u.1 k k0 kl (by omega) (by omega)
    unfold At at h1
    rw [ek] at h1
    exact h1
theorem down_done {xs : List α} {p : Nat} (u : DownInv lt d xs p) (h : xs.length ≤ 2 * p + 1) : UpInv lt d xs p := ⟨fun i i0 il ne => u.1 i i0 il ne (by omega), fun p0 c c0 cl ec => by omega⟩
theorem push_inv {xs : List α} {x : α} (h : Heap lt d xs) : UpInv lt d (xs ++ [x]) xs.length := by
  refine ⟨fun i i0 il ne => ?_, fun _ c c0 cl ec => ?_⟩
  · have il' : i < xs.length := by rw [List.length_append, List.length_singleton] at il; omega
    have := h i i0 il'
    unfold At at this ⊢
    simp only [List.getD_eq_getElem?_getD] at this ⊢
    rw [List.getElem?_append_left il', List.getElem?_append_left (by omega)]
    exact this
  · rw [List.length_append, List.length_singleton] at cl
    omega
theorem pop_inv {xs : List α} {x : α} (h : Heap lt d xs) : DownInv lt d (xs.set 0 x) 0 := by
  refine ⟨fun i i0 il ne ne2 => ?_, fun z => absurd z (by omega)⟩
  rw [List.length_set] at il
  have := h i i0 il
  unfold At at this ⊢
  simp only [List.getD_eq_getElem?_getD] at this ⊢
  rw [List.getElem?_set_ne (fun z => ne z.symm), List.getElem?_set_ne (fun z => ne2 z.symm)]
  exact this
theorem heap_take {xs : List α} {n : Nat} (h : Heap lt d xs) : Heap lt d (xs.take n) := fun i i0 il => by
  rw [List.length_take] at il
  have := h i i0 (by omega)
  unfold At at this ⊢
  simp only [List.getD_eq_getElem?_getD] at this ⊢
  rw [List.getElem?_take_of_lt (by omega), List.getElem?_take_of_lt (by omega)]
  exact this
end
/-! ### the sifts -/
section
variable {lt : α → α → Prop} [DecidableRel lt] {d : α}
def up (lt : α → α → Prop) [DecidableRel lt] (d : α) (xs : List α) (p : Nat) : List α :=
  if h : 0 < p ∧ lt (xs.getD p d) (xs.getD ((p - 1) / 2) d) then up lt d (swp d xs ((p - 1) / 2) p) ((p - 1) / 2) else xs
termination_by p
decreasing_by omega
def child (lt : α → α → Prop) [DecidableRel lt] (d : α) (xs : List α) (p : Nat) : Nat :=
  if 2 * p + 2 < xs.length ∧ ¬ lt (xs.getD (2 * p + 1) d) (xs.getD (2 * p + 2) d) then 2 * p + 2 else 2 * p + 1
theorem child_is {xs : List α} {p : Nat} : child lt d xs p = 2 * p + 1 ∨ child lt d xs p = 2 * p + 2 := by
  unfold child
  split <;> omega
theorem child_lt {xs : List α} {p : Nat} (h : p < xs.length / 2) : child lt d xs p < xs.length := by
  unfold child
  split <;> omega
theorem child_least (T : Tot lt) {xs : List α} {p : Nat} (k : Nat) (hk : k < xs.length) (h : k = 2 * p + 1 ∨ k = 2 * p + 2) : le lt (xs.getD (child lt d xs p) d) (xs.getD k d) := by
  unfold child
  by_cases c : 2 * p + 2 < xs.length ∧ ¬ lt (xs.getD (2 * p + 1) d) (xs.getD (2 * p + 2) d)
  · rw [if_pos c]
    rcases h with rfl | rfl
    · exact c.2
    · exact T.irr _
  · rw [if_neg c]
    rcases h with rfl | rfl
    · exact T.irr _
    · have : lt (xs.getD (2 * p + 1) d) (xs.getD (2 * p + 2) d) := Classical.byContradiction fun z => c ⟨hk, z⟩
      exact T.as this
def down (lt : α → α → Prop) [DecidableRel lt] (d : α) (xs : List α) (p : Nat) : List α :=
  if h : p < xs.length / 2 then down lt d (swp d xs (child lt d xs p) p) (child lt d xs p) else up lt d xs p
termination_by xs.length - p
decreasing_by
  rw [swp_len]
  have := child_is (lt := lt) (d := d) (xs := xs) (p := p)
  omega
theorem up_ok (T : Tot lt) : ∀ (n : Nat) {xs : List α} {p : Nat}, p ≤ n → p < xs.length → UpInv lt d xs p → Heap lt d (up lt d xs p) ∧ (up lt d xs p).Perm xs
  | n, xs, p, hn, hl, u => by
    unfold up
    by_cases h : 0 < p ∧ lt (xs.getD p d) (xs.getD ((p - 1) / 2) d)
    · rw [dif_pos h]
      cases n with
      | zero => omega
      | succ n =>
        obtain ⟨h1, h2⟩ := up_ok T n (xs := swp d xs ((p - 1) / 2) p) (p := (p - 1) / 2) (by omega) (by rw [swp_len]; omega) (up_step T u h.1 hl h.2)
        exact ⟨h1, h2.trans (swp_perm (by omega) hl)⟩
    · rw [dif_neg h]
      refine ⟨up_done u ?_, .refl _⟩
      by_cases z : p = 0
      · exact .inl z
      · exact .inr fun q => h ⟨by omega, q⟩
theorem down_ok (T : Tot lt) : ∀ (n : Nat) {xs : List α} {p : Nat}, xs.length - p ≤ n → p < xs.length → DownInv lt d xs p → Heap lt d (down lt d xs p) ∧ (down lt d xs p).Perm xs
  | n, xs, p, hn, hl, u => by
    unfold down
    by_cases h : p < xs.length / 2
    · rw [dif_pos h]
      have hc := child_is (lt := lt) (d := d) (xs := xs) (p := p)
      have hcl := child_lt (lt := lt) (d := d) h
      cases n with
      | zero => omega
      | succ n =>
        obtain ⟨h1, h2⟩ := down_ok T n (xs := swp d xs (child lt d xs p) p) (p := child lt d xs p) (by rw [swp_len]; omega) (by rw [swp_len]; exact hcl) (down_step u hc hcl fun k hk e => child_least T k hk e)
        exact ⟨h1, h2.trans (swp_perm hcl hl)⟩
    · rw [dif_neg h]
      exact up_ok T p (Nat.le_refl _) hl (down_done u (by omega))
/-- heappush -/
def push (lt : α → α → Prop) [DecidableRel lt] (d : α) (xs : List α) (x : α) : List α := up lt d (xs ++ [x]) xs.length
/-- heappop of a list that is not empty: what comes out, what stays -/
def pop (lt : α → α → Prop) [DecidableRel lt] (d : α) (xs : List α) : α × List α :=
  if xs.length = 1 then (xs.getD 0 d, []) else (xs.getD 0 d, down lt d ((xs.take (xs.length - 1)).set 0 (xs.getD (xs.length - 1) d)) 0)
theorem push_ok (T : Tot lt) {xs : List α} {x : α} (h : Heap lt d xs) : Heap lt d (push lt d xs x) ∧ (push lt d xs x).Perm (x :: xs) := by
  obtain ⟨h1, h2⟩ := up_ok T xs.length (xs := xs ++ [x]) (p := xs.length) (Nat.le_refl _) (by simp) (push_inv h)
  exact ⟨h1, h2.trans (List.perm_append_singleton x xs)⟩
theorem pop_ok (T : Tot lt) {xs : List α} (h : Heap lt d xs) (ne : xs ≠ []) : Heap lt d (pop lt d xs).2 ∧ ((pop lt d xs).1 :: (pop lt d xs).2).Perm xs ∧ ∀ y ∈ xs, le lt (pop lt d xs).1 y := by
  have l0 : 0 < xs.length := List.length_pos_iff.mpr ne
  have least : ∀ y ∈ xs, le lt (xs.getD 0 d) y := fun y hy => by
    obtain ⟨i, hi, rfl⟩ := List.getElem_of_mem hy
    have := Heap.least T h i i (Nat.le_refl _) hi
    rwa [List.getD_eq_getElem?_getD (i := i), List.getElem?_eq_getElem hi] at this
  unfold pop
  by_cases h1 : xs.length = 1
  · rw [if_pos h1]
    obtain ⟨a, rfl⟩ := List.length_eq_one_iff.mp h1
    exact ⟨fun i _ il => absurd il (by simp), .refl _, least⟩
  · rw [if_neg h1]
    obtain ⟨ys, x, rfl⟩ : ∃ ys x, xs = ys ++ [x] := ⟨xs.dropLast, xs.getLast ne, (List.dropLast_concat_getLast ne).symm⟩
    cases ys with
    | nil => simp at h1
    | cons y ys =>
      have e1 : (y :: ys ++ [x]).length - 1 = (y :: ys).length := by simp
      rw [e1, List.take_left, List.set_cons_zero]
      have e2 : (y :: ys ++ [x]).getD (y :: ys).length d = x := by simp [List.getD_eq_getElem?_getD]
      rw [e2]
      have hh : Heap lt d (y :: ys) := by
        have := heap_take (n := (y :: ys).length) h
        rwa [List.take_left] at this
      obtain ⟨g1, g2⟩ := down_ok T (xs := x :: ys) (p := 0) _ (Nat.le_refl _) (by simp) (by have := pop_inv (x := x) hh; exact this)
      refine ⟨g1, ?_, least⟩
      show (y :: down lt d (x :: ys) 0).Perm (y :: (ys ++ [x]))
      exact (g2.trans (List.perm_append_singleton x ys).symm).cons y
end
end HQ

set_option Elab.async false
set_option linter.all false
set_option maxRecDepth 100000
set_option maxHeartbeats 3200000
/-! HP: heappush and heappop of the model: they push and pop as HQ does. -/
namespace HPx
open PySem PyProof.Rows
theorem entry_push : entryFor table "_heapq.heappush" = some Builtin.«_heapq.heappush» := entryFor_of_tree (by kernel_rfl)
theorem entry_pop : entryFor table "_heapq.heappop" = some Builtin.«_heapq.heappop» := entryFor_of_tree (by kernel_rfl)
theorem entry_sift : entryFor table "_heapq.heapify.sift" = some Builtin.«_heapq.heapify.sift» := entryFor_of_tree (by kernel_rfl)
theorem plain_push : plainId "_heapq.heappush" = true := by decide +kernel
theorem plain_pop : plainId "_heapq.heappop" = true := by decide +kernel
theorem plain_sift : plainId "_heapq.heapify.sift" = true := by decide +kernel
theorem kind_push : builtinKind "_heapq.heappush" = none := by decide +kernel
theorem kind_pop : builtinKind "_heapq.heappop" = none := by decide +kernel
theorem args_push (a b : Value) : argsOk "_heapq.heappush" ⟨[a, b], []⟩ := by unfold argsOk; kernel_rfl
theorem args_pop (a : Value) : argsOk "_heapq.heappop" ⟨[a], []⟩ := by unfold argsOk; kernel_rfl
section
variable {γ : Type} {lt : γ → γ → Bool} {prog : Program} {w : World} {A : Around} {s : Shared} {a : Addr}
/-- the things of a list may be compared, whatever stands in the list itself -/
def CmpOk (A : Around) (s : Shared) (a : Addr) (lt : γ → γ → Bool) (xs : List (Value × γ)) : Prop := ∀ h' : Heap, (∀ b, b ≠ a → h'.get? b = s.heap.get? b) → ∀ p ∈ xs, ∀ q ∈ xs,
  ∀ (prog : Program) (w : World) (E Q : Value → Shared → Prop), Q (.bool (lt p.2 q.2)) { s with heap := h' } → wpAny (model prog w) A.in1 (richCompare .Lt p.1 q.1) Q E { s with heap := h' }
def LAt (h : Heap) (a : Addr) (xs : List (Value × γ)) : Prop := ∃ n, h.get? a = some { cls := .type "list", data := .seq (xs.map (·.1)).toArray n }
def lp (lt : γ → γ → Bool) (p q : Value × γ) : Prop := lt p.2 q.2 = true
instance : DecidableRel (lp (lt := lt) (γ := γ)) := fun p q => inferInstanceAs (Decidable (lt p.2 q.2 = true))
theorem lat_swp {h : Heap} {xs : List (Value × γ)} {d0 : Value × γ} {i j n : Nat} (hl : h.get? a = some { cls := .type "list", data := .seq (xs.map (·.1)).toArray n }) (hi : i < xs.length) (hj : j < xs.length) {u v : Value} (eu : (xs.map (·.1)).toArray[i]? = some u) (ev : (xs.map (·.1)).toArray[j]? = some v) :
    LAt (h.update a (Obj.mapSeq fun zs => (zs.setIfInBounds i v).setIfInBounds j u)) a (HQ.swp d0 xs i j) := by
  have q := PySem.IsL.update hl (fun zs => (zs.setIfInBounds i v).setIfInBounds j u)
  have e : ((xs.map (·.1)).toArray.setIfInBounds i v).setIfInBounds j u = ((HQ.swp d0 xs i j).map (·.1)).toArray := by
    unfold HQ.swp
    rw [List.map_set, List.map_set]
    have e1 : (xs.getD j d0).1 = v := by
      rw [List.getD_eq_getElem?_getD, List.getElem?_eq_getElem hj]
      simp [hj] at ev
      exact ev
    have e2 : (xs.getD i d0).1 = u := by
      rw [List.getD_eq_getElem?_getD, List.getElem?_eq_getElem hi]
      simp [hi] at eu
      exact eu
    rw [e1, e2]
    simp
  rw [e] at q
  exact ⟨_, q⟩
theorem sift_up (d0 : Value × γ) (res : Value) {R : Result → Shared → Prop} {xs0 : List (Value × γ)} (hc : CmpOk A s a lt xs0) : ∀ (n pos : Nat) (h : Heap) (xs : List (Value × γ)), pos ≤ n → pos < xs.length → xs.length ≤ sizeLine →
    (∀ b, b ≠ a → h.get? b = s.heap.get? b) → LAt h a xs → (∀ p ∈ xs, p ∈ xs0) →
    (∀ h', (∀ b, b ≠ a → h'.get? b = s.heap.get? b) → LAt h' a (HQ.up (lp lt) d0 xs pos) → R (.ok (.ret res)) { s with heap := h' }) →
    codeAny (model prog w) A (.builtin "_heapq.heapify.sift" ⟨[.ref a, .bool false, .bool false, rawInt pos, rawInt 0, res, rawInt (-1)], []⟩) R { s with heap := h } := by
  intro n
  induction n with
  | zero =>
    intro pos h xs hn hp hz hk hl hm hR
    obtain ⟨k, hl'⟩ := id hl
    refine codeAny_builtin entry_sift ?_
    rw [Around.under_plainId plain_sift _]
    unfold Builtin.«_heapq.heapify.sift»
    dsimp only [rawInt]
    rw [Int.toNat_natCast]
    refine wpAny_bind (wpAny_bind (wpAny_seqItems hl' rfl (wpAny_pure ?_)))
    rw [if_neg (by decide), if_neg (by show ¬ pos > 0; omega), if_pos (by decide)]
    refine wpAny_pure (hR h hk ?_)
    unfold HQ.up
    rw [dif_neg (by omega)]
    exact hl
  | succ n ih =>
    intro pos h xs hn hp hz hk hl hm hR
    obtain ⟨k, hl'⟩ := id hl
    refine codeAny_builtin entry_sift ?_
    rw [Around.under_plainId plain_sift _]
    unfold Builtin.«_heapq.heapify.sift»
    dsimp only [rawInt]
    rw [Int.toNat_natCast]
    refine wpAny_bind (wpAny_bind (wpAny_seqItems hl' rfl (wpAny_pure ?_)))
    rw [if_neg (by decide)]
    by_cases hp0 : 0 < pos
    · rw [if_pos (show pos > Int.toNat 0 from hp0)]
      have hq : (pos - 1) / 2 < xs.length := by omega
      obtain ⟨x, hx⟩ : ∃ x, xs[pos]? = some x := ⟨_, List.getElem?_eq_getElem hp⟩
      obtain ⟨y, hy⟩ : ∃ y, xs[(pos - 1) / 2]? = some y := ⟨_, List.getElem?_eq_getElem hq⟩
      have ex : (xs.map (·.1)).toArray[pos]? = some x.1 := by simp [hx]
      have ey : (xs.map (·.1)).toArray[(pos - 1) / 2]? = some y.1 := by simp [hy]
      have gx : xs.getD pos d0 = x := by rw [List.getD_eq_getElem?_getD, hx]; rfl
      have gy : xs.getD ((pos - 1) / 2) d0 = y := by rw [List.getD_eq_getElem?_getD, hy]; rfl
      refine wpAny_bind (show wpAny _ _ ((fun o : Option Value => (match o with | some v => pure v | none => unsupported _ : Sem Value)) (xs.map (·.1)).toArray[pos]?) _ _ _ from ?_)
      rw [ex]
      refine wpAny_pure ?_
      refine wpAny_bind (show wpAny _ _ ((fun o : Option Value => (match o with | some v => pure v | none => unsupported _ : Sem Value)) (xs.map (·.1)).toArray[(pos - 1) / 2]?) _ _ _ from ?_)
      rw [ey]
      refine wpAny_pure ?_
      rw [if_neg (by decide)]
      have cmp := hc h hk x (hm x (List.mem_of_getElem? hx)) y (hm y (List.mem_of_getElem? hy)) prog w
      refine wpAny_bind (wpAny_bind (wpAny_holding (wpAny_bind (cmp _ _ ?_))))
      show wpAny _ _ (truthy (.bool (lt x.2 y.2))) _ _ _
      refine wpAny_truthy_bool ?_
      refine wpAny_bind (wpAny_bind (wpAny_seqItems hl' rfl (wpAny_pure ?_)))
      rw [if_neg (by simp)]
      refine wpAny_pure ?_
      by_cases hlt : lt x.2 y.2 = true
      · rw [if_pos hlt]
        refine wpAny_bind ?_
        refine wpAny_bind (wpAny_bind (wpAny_seqItems hl' rfl (wpAny_pure ?_)))
        refine wpAny_bind (show wpAny _ _ ((fun o : Option Value => (match o with | some v => pure v | none => unsupported _ : Sem Value)) (xs.map (·.1)).toArray[(pos - 1) / 2]?) _ _ _ from ?_)
        rw [ey]
        refine wpAny_pure ?_
        refine wpAny_bind (show wpAny _ _ ((fun o : Option Value => (match o with | some v => pure v | none => unsupported _ : Sem Value)) (xs.map (·.1)).toArray[pos]?) _ _ _ from ?_)
        rw [ex]
        refine wpAny_pure ?_
        refine wpAny_updateSeq hl' rfl ?_ (by simpa using hz) (by simp; omega)
        refine wpAny_pure ⟨plainId_quiet plain_sift _, ?_⟩
        refine ih ((pos - 1) / 2) _ (HQ.swp d0 xs ((pos - 1) / 2) pos) (by omega) (by rw [HQ.swp_len]; exact hq) (by rw [HQ.swp_len]; exact hz) (fun b hb => (Heap.get?_update_other _ _ (Ne.symm hb)).trans (hk b hb)) (lat_swp hl' hq hp ey ex)
          (fun p hp' => hm p ((HQ.swp_perm hq hp).mem_iff.mp hp')) (fun h' k' l' => hR h' k' ?_)
        rw [HQ.up, dif_pos ⟨hp0, by rw [gx, gy]; exact hlt⟩]
        exact l'
      · rw [if_neg hlt, if_pos (by decide)]
        refine wpAny_pure (hR h hk ?_)
        unfold HQ.up
        rw [dif_neg (fun z => hlt (by have := z.2; rw [gx, gy] at this; exact this))]
        exact hl
    · rw [if_neg (show ¬ pos > Int.toNat 0 from hp0), if_pos (by decide)]
      refine wpAny_pure (hR h hk ?_)
      unfold HQ.up
      rw [dif_neg (fun z => hp0 z.1)]
      exact hl
theorem child_eq {d0 : Value × γ} {xs : List (Value × γ)} {pos : Nat} {l r : Value × γ} (h2 : 2 * pos + 1 + 1 < xs.length) (hl : xs[2 * pos + 1]? = some l) (hr : xs[2 * pos + 1 + 1]? = some r) :
    HQ.child (lp lt) d0 xs pos = if lt l.2 r.2 = true then 2 * pos + 1 else 2 * pos + 1 + 1 := by
  unfold HQ.child
  have gl : xs.getD (2 * pos + 1) d0 = l := by rw [List.getD_eq_getElem?_getD, hl]; rfl
  have gr : xs.getD (2 * pos + 2) d0 = r := by rw [List.getD_eq_getElem?_getD, hr]; rfl
  rw [gl, gr]
  by_cases q : lt l.2 r.2 = true
  · rw [if_pos q, if_neg (fun z => z.2 q)]
  · rw [if_neg q, if_pos ⟨h2, q⟩]
theorem sift_down (d0 : Value × γ) (res : Value) {R : Result → Shared → Prop} {xs0 : List (Value × γ)} (hc : CmpOk A s a lt xs0) : ∀ (n pos : Nat) (h : Heap) (xs : List (Value × γ)), xs.length - pos ≤ n → pos < xs.length → xs.length ≤ sizeLine →
    (∀ b, b ≠ a → h.get? b = s.heap.get? b) → LAt h a xs → (∀ p ∈ xs, p ∈ xs0) →
    (∀ h', (∀ b, b ≠ a → h'.get? b = s.heap.get? b) → LAt h' a (HQ.down (lp lt) d0 xs pos) → R (.ok (.ret res)) { s with heap := h' }) →
    codeAny (model prog w) A (.builtin "_heapq.heapify.sift" ⟨[.ref a, .bool false, .bool true, rawInt pos, rawInt 0, res, rawInt (-1)], []⟩) R { s with heap := h } := by
  intro n
  induction n with
  | zero => intro pos h xs hn hp; omega
  | succ n ih =>
    intro pos h xs hn hp hz hk hl hm hR
    obtain ⟨k, hl'⟩ := id hl
    refine codeAny_builtin entry_sift ?_
    rw [Around.under_plainId plain_sift _]
    unfold Builtin.«_heapq.heapify.sift»
    dsimp only [rawInt]
    rw [Int.toNat_natCast]
    refine wpAny_bind (wpAny_bind (wpAny_seqItems hl' rfl (wpAny_pure ?_)))
    rw [if_pos rfl]
    have esz : (xs.map (·.1)).toArray.size = xs.length := by simp
    rw [esz]
    by_cases hh : pos < xs.length / 2
    · rw [if_pos hh]
      obtain ⟨z, hz0⟩ : ∃ z, xs[pos]? = some z := ⟨_, List.getElem?_eq_getElem hp⟩
      have ez : (xs.map (·.1)).toArray[pos]? = some z.1 := by simp [hz0]
      obtain ⟨l, hl1⟩ : ∃ l, xs[2 * pos + 1]? = some l := ⟨_, List.getElem?_eq_getElem (by omega)⟩
      have el : (xs.map (·.1)).toArray[2 * pos + 1]? = some l.1 := by simp [hl1]
      have go : ∀ (c : Nat) (u : Value × γ), xs[c]? = some u → HQ.child (lp lt) d0 xs pos = c → pos < c →
          ∀ hnew : Heap, hnew = h.update a (Obj.mapSeq fun zs => (zs.setIfInBounds c z.1).setIfInBounds pos u.1) →
          codeAny (model prog w) A (.builtin "_heapq.heapify.sift" ⟨[.ref a, .bool false, .bool true, rawInt c, rawInt 0, res, rawInt (-1)], []⟩) R { s with heap := hnew } := fun c u hu hch hpc hnew e => by
        have hcl : c < xs.length := (List.getElem?_eq_some_iff.mp hu).1
        subst e
        refine ih c _ (HQ.swp d0 xs c pos) (by rw [HQ.swp_len]; omega) (by rw [HQ.swp_len]; exact hcl) (by rw [HQ.swp_len]; exact hz) (fun b hb => (Heap.get?_update_other _ _ (Ne.symm hb)).trans (hk b hb)) (lat_swp hl' hcl hp (by simp [hu]) ez)
          (fun p hp' => hm p ((HQ.swp_perm hcl hp).mem_iff.mp hp')) (fun h' k' l' => hR h' k' ?_)
        rw [HQ.down, dif_pos hh, hch]
        exact l'
      by_cases h2 : 2 * pos + 1 + 1 < xs.length
      · rw [if_pos h2]
        obtain ⟨r, hr1⟩ : ∃ r, xs[2 * pos + 1 + 1]? = some r := ⟨_, List.getElem?_eq_getElem h2⟩
        have er : (xs.map (·.1)).toArray[2 * pos + 1 + 1]? = some r.1 := by simp [hr1]
        refine wpAny_bind (show wpAny _ _ ((fun o : Option Value => (match o with | some v => pure v | none => unsupported _ : Sem Value)) (xs.map (·.1)).toArray[2 * pos + 1]?) _ _ _ from ?_)
        rw [el]
        refine wpAny_pure ?_
        refine wpAny_bind (show wpAny _ _ ((fun o : Option Value => (match o with | some v => pure v | none => unsupported _ : Sem Value)) (xs.map (·.1)).toArray[2 * pos + 1 + 1]?) _ _ _ from ?_)
        rw [er]
        refine wpAny_pure ?_
        rw [if_neg (by decide)]
        have cmp := hc h hk l (hm l (List.mem_of_getElem? hl1)) r (hm r (List.mem_of_getElem? hr1)) prog w
        refine wpAny_bind (wpAny_bind (wpAny_holding (wpAny_bind (cmp _ _ ?_))))
        show wpAny _ _ (truthy (.bool (lt l.2 r.2))) _ _ _
        refine wpAny_truthy_bool ?_
        refine wpAny_bind (wpAny_bind (wpAny_seqItems hl' rfl (wpAny_pure ?_)))
        rw [if_neg (by simp)]
        refine wpAny_pure ?_
        have hce := child_eq (lt := lt) (d0 := d0) h2 hl1 hr1
        by_cases hlt : lt l.2 r.2 = true
        · rw [if_neg (by rw [hlt]; decide)]
          rw [if_pos hlt] at hce
          refine wpAny_bind ?_
          refine wpAny_bind (wpAny_bind (wpAny_seqItems hl' rfl (wpAny_pure ?_)))
          refine wpAny_bind (show wpAny _ _ ((fun o : Option Value => (match o with | some v => pure v | none => unsupported _ : Sem Value)) (xs.map (·.1)).toArray[2 * pos + 1]?) _ _ _ from ?_)
          rw [el]
          refine wpAny_pure ?_
          refine wpAny_bind (show wpAny _ _ ((fun o : Option Value => (match o with | some v => pure v | none => unsupported _ : Sem Value)) (xs.map (·.1)).toArray[pos]?) _ _ _ from ?_)
          rw [ez]
          refine wpAny_pure ?_
          refine wpAny_updateSeq hl' rfl ?_ (by simpa using hz) (by simp; omega)
          exact wpAny_pure ⟨plainId_quiet plain_sift _, go _ l hl1 hce (by omega) _ rfl⟩
        · rw [if_pos (by rw [Bool.not_eq_true] at hlt; rw [hlt]; rfl)]
          rw [if_neg hlt] at hce
          refine wpAny_bind ?_
          refine wpAny_bind (wpAny_bind (wpAny_seqItems hl' rfl (wpAny_pure ?_)))
          refine wpAny_bind (show wpAny _ _ ((fun o : Option Value => (match o with | some v => pure v | none => unsupported _ : Sem Value)) (xs.map (·.1)).toArray[2 * pos + 1 + 1]?) _ _ _ from ?_)
          rw [er]
          refine wpAny_pure ?_
          refine wpAny_bind (show wpAny _ _ ((fun o : Option Value => (match o with | some v => pure v | none => unsupported _ : Sem Value)) (xs.map (·.1)).toArray[pos]?) _ _ _ from ?_)
          rw [ez]
          refine wpAny_pure ?_
          refine wpAny_updateSeq hl' rfl ?_ (by simpa using hz) (by simp; omega)
          exact wpAny_pure ⟨plainId_quiet plain_sift _, go _ r hr1 hce (by omega) _ rfl⟩
      · rw [if_neg h2]
        have hce : HQ.child (lp lt) d0 xs pos = 2 * pos + 1 := by
          unfold HQ.child
          rw [if_neg (fun z => h2 z.1)]
        refine wpAny_bind ?_
        refine wpAny_bind (wpAny_bind (wpAny_seqItems hl' rfl (wpAny_pure ?_)))
        refine wpAny_bind (show wpAny _ _ ((fun o : Option Value => (match o with | some v => pure v | none => unsupported _ : Sem Value)) (xs.map (·.1)).toArray[2 * pos + 1]?) _ _ _ from ?_)
        rw [el]
        refine wpAny_pure ?_
        refine wpAny_bind (show wpAny _ _ ((fun o : Option Value => (match o with | some v => pure v | none => unsupported _ : Sem Value)) (xs.map (·.1)).toArray[pos]?) _ _ _ from ?_)
        rw [ez]
        refine wpAny_pure ?_
        refine wpAny_updateSeq hl' rfl ?_ (by simpa using hz) (by simp; omega)
        exact wpAny_pure ⟨plainId_quiet plain_sift _, go _ l hl1 hce (by omega) _ rfl⟩
    · rw [if_neg hh]
      refine wpAny_pure ⟨plainId_quiet plain_sift _, ?_⟩
      refine sift_up d0 res hc pos pos h xs (Nat.le_refl _) hp hz hk hl hm fun h' k' l' => hR h' k' ?_
      rw [HQ.down, dif_neg hh]
      exact l'
end
end HPx
namespace HPx
open PySem PyProof.Rows
section
variable {γ : Type} {lt : γ → γ → Bool} {prog : Program} {w : World} {A : Around} {s : Shared} {a : Addr} {E : Value → Shared → Prop}
theorem call_push (d0 : Value × γ) {Q : Value → Shared → Prop} {xs : List (Value × γ)} {x : Value × γ} (hl : LAt s.heap a xs) (hz : xs.length + 1 ≤ sizeLine) (hc : CmpOk A s a lt (xs ++ [x]))
    (hQ : ∀ h', (∀ b, b ≠ a → h'.get? b = s.heap.get? b) → LAt h' a (HQ.push (lp lt) d0 xs x) → Q .none { s with heap := h' }) : wpAny (model prog w) A (call (.builtin "_heapq.heappush") [.ref a, x.1]) Q E s := by
  obtain ⟨k, hl'⟩ := id hl
  refine kmb_tree kind_push plain_push entry_push (args_push _ _) ?_
  unfold Builtin.«_heapq.heappush»
  have hT : s.TypeIs (.ref a) "list" := ⟨_, hl', rfl⟩
  refine wpAny_bind (wpAny_bind (wpAny_pure ?_))
  refine wpAny_bind (m := checkCount _ _ _ _) (wpAny_pure ?_)
  refine wpAny_bind ?_
  refine wpAny_bind (wpAny_isInstance hT AutoSeq1.sub_list_list ?_)
  rw [if_pos rfl]
  refine wpAny_pure (wpAny_pure ?_)
  refine wpAny_bind (wpAny_updateSeq hl' rfl ?_ (by simp; omega) (by simp; omega))
  have q := PySem.IsL.update hl' (fun zs => zs.push x.1)
  have e : (xs.map (·.1)).toArray.push x.1 = ((xs ++ [x]).map (·.1)).toArray := by simp
  rw [e] at q
  refine wpAny_bind (wpAny_bind (wpAny_seqItems q rfl (wpAny_pure ?_)))
  have esz : ((xs ++ [x]).map (·.1)).toArray.size - 1 = xs.length := by simp
  rw [esz]
  refine wpAny_pure ⟨plainId_quiet plain_sift _, ?_⟩
  exact sift_up d0 .none hc xs.length xs.length _ (xs ++ [x]) (Nat.le_refl _) (by simp) (by simpa using hz) (fun b hb => Heap.get?_update_other _ _ (Ne.symm hb)) ⟨_, q⟩ (fun p hp => hp) hQ
theorem call_pop (d0 : Value × γ) {Q : Value → Shared → Prop} {xs : List (Value × γ)} (hl : LAt s.heap a xs) (h0 : xs ≠ []) (hz : xs.length ≤ sizeLine) (hc : CmpOk A s a lt xs)
    (hQ : ∀ h', (∀ b, b ≠ a → h'.get? b = s.heap.get? b) → LAt h' a (HQ.pop (lp lt) d0 xs).2 → Q (HQ.pop (lp lt) d0 xs).1.1 { s with heap := h' }) : wpAny (model prog w) A (call (.builtin "_heapq.heappop") [.ref a]) Q E s := by
  obtain ⟨k, hl'⟩ := id hl
  refine kmb_tree kind_pop plain_pop entry_pop (args_pop _) ?_
  unfold Builtin.«_heapq.heappop»
  have hT : s.TypeIs (.ref a) "list" := ⟨_, hl', rfl⟩
  refine wpAny_bind (wpAny_bind (wpAny_bind (wpAny_pure ?_)))
  refine wpAny_pure ?_
  refine wpAny_bind ?_
  refine wpAny_bind (wpAny_isInstance hT AutoSeq1.sub_list_list ?_)
  rw [if_pos rfl]
  refine wpAny_pure (wpAny_pure ?_)
  refine wpAny_bind (wpAny_bind (wpAny_seqItems hl' rfl (wpAny_pure ?_)))
  obtain ⟨ys, z, rfl⟩ : ∃ ys z, xs = ys ++ [z] := ⟨xs.dropLast, xs.getLast h0, (List.dropLast_concat_getLast h0).symm⟩
  have eb : ((ys ++ [z]).map (·.1)).toArray.back? = some z.1 := by simp
  rw [eb]
  have ep : ((ys ++ [z]).map (·.1)).toArray.pop = (ys.map (·.1)).toArray := by simp
  have hzy : ys.length + 1 ≤ sizeLine := by simpa using hz
  refine wpAny_bind (wpAny_updateSeq hl' rfl ?_ (by simpa using hz) (by simp; omega))
  have q := PySem.IsL.update hl' (fun zs => zs.pop)
  rw [ep] at q
  cases ys with
  | nil =>
    rw [if_pos (by simp)]
    refine wpAny_pure (hQ _ (fun b hb => Heap.get?_update_other _ _ (Ne.symm hb)) ?_)
    exact ⟨_, q⟩
  | cons y ys =>
    rw [if_neg (by simp)]
    refine wpAny_bind (show wpAny _ _ (pure y.1) _ _ _ from wpAny_pure ?_)
    refine wpAny_bind (wpAny_updateSeq q rfl ?_ (by simp at hzy ⊢; omega) (by simp at hzy ⊢; omega))
    have q2 := PySem.IsL.update q (fun zs => zs.setIfInBounds 0 z.1)
    have es : ((y :: ys).map (·.1)).toArray.setIfInBounds 0 z.1 = ((z :: ys).map (·.1)).toArray := by simp
    rw [es] at q2
    refine wpAny_pure ⟨plainId_quiet plain_sift _, ?_⟩
    have ed : (HQ.pop (lp lt) d0 (y :: ys ++ [z])) = (y, HQ.down (lp lt) d0 (z :: ys) 0) := by
      unfold HQ.pop
      rw [if_neg (by simp)]
      have e1 : (y :: ys ++ [z]).length - 1 = (y :: ys).length := by simp
      rw [e1, List.take_left, List.set_cons_zero]
      have e2 : (y :: ys ++ [z]).getD (y :: ys).length d0 = z := by simp [List.getD_eq_getElem?_getD]
      rw [e2]
      rfl
    rw [ed] at hQ
    exact sift_down d0 y.1 hc _ 0 _ (z :: ys) (Nat.le_refl _) (by simp) (by simp at hzy ⊢; omega) (fun b hb => (Heap.get?_update_other _ _ (Ne.symm hb)).trans (Heap.get?_update_other _ _ (Ne.symm hb))) ⟨_, q2⟩
      (fun p hp => by
        rcases List.mem_cons.mp hp with rfl | hp
        · simp
        · simp [hp]) hQ
end
end HPx

set_option Elab.async false
set_option linter.all false
set_option maxRecDepth 100000
set_option maxHeartbeats 3200000
/-! HR: heaps under a map; heappush and heappop as readings of the hand layer. -/
namespace HQ
section
variable {α β : Type} {lt : α → α → Prop} [DecidableRel lt] {lt' : β → β → Prop} [DecidableRel lt'] {d : α} {f : α → β}
theorem getD_map {xs : List α} {i : Nat} : (xs.map f).getD i (f d) = f (xs.getD i d) := by
  simp only [List.getD_eq_getElem?_getD, List.getElem?_map]
  cases xs[i]? <;> rfl
theorem swp_map {xs : List α} {i j : Nat} : (swp d xs i j).map f = swp (f d) (xs.map f) i j := by
  unfold swp
  rw [List.map_set, List.map_set, getD_map, getD_map]
theorem up_map (h : ∀ a b, lt a b ↔ lt' (f a) (f b)) : ∀ (n : Nat) (xs : List α) (p : Nat), p ≤ n → (up lt d xs p).map f = up lt' (f d) (xs.map f) p
  | n, xs, p, hn => by
    rw [up.eq_def (lt := lt), up.eq_def (lt := lt')]
    by_cases c : 0 < p ∧ lt (xs.getD p d) (xs.getD ((p - 1) / 2) d)
    · rw [dif_pos c, dif_pos ⟨c.1, by rw [getD_map, getD_map]; exact (h _ _).mp c.2⟩]
      cases n with
      | zero => omega
      | succ n => rw [up_map h n _ _ (by omega), swp_map]
    · rw [dif_neg c, dif_neg (fun z => c ⟨z.1, (h _ _).mpr (by have := z.2; rwa [getD_map, getD_map] at this)⟩)]
theorem child_map (h : ∀ a b, lt a b ↔ lt' (f a) (f b)) {xs : List α} {p : Nat} : child lt d xs p = child lt' (f d) (xs.map f) p := by
  unfold child
  rw [getD_map, getD_map, List.length_map]
  by_cases c : 2 * p + 2 < xs.length ∧ ¬ lt (xs.getD (2 * p + 1) d) (xs.getD (2 * p + 2) d)
  · rw [if_pos c, if_pos ⟨c.1, fun z => c.2 ((h _ _).mpr z)⟩]
  · rw [if_neg c, if_neg (fun z => c ⟨z.1, fun q => z.2 ((h _ _).mp q)⟩)]
theorem down_map (h : ∀ a b, lt a b ↔ lt' (f a) (f b)) : ∀ (n : Nat) (xs : List α) (p : Nat), xs.length - p ≤ n → (down lt d xs p).map f = down lt' (f d) (xs.map f) p
  | n, xs, p, hn => by
    rw [down.eq_def (lt := lt), down.eq_def (lt := lt'), List.length_map]
    by_cases c : p < xs.length / 2
    · rw [dif_pos c, dif_pos c, ← child_map h]
      have hc := child_is (lt := lt) (d := d) (xs := xs) (p := p)
      cases n with
      | zero => omega
      | succ n => rw [down_map h n _ _ (by rw [swp_len]; omega), swp_map]
    · rw [dif_neg c, dif_neg c, up_map h p xs p (Nat.le_refl _)]
theorem push_map (h : ∀ a b, lt a b ↔ lt' (f a) (f b)) {xs : List α} {x : α} : (push lt d xs x).map f = push lt' (f d) (xs.map f) (f x) := by
  unfold push
  rw [up_map h xs.length _ _ (Nat.le_refl _), List.map_append, List.length_map]
  rfl
theorem pop_map (h : ∀ a b, lt a b ↔ lt' (f a) (f b)) {xs : List α} : pop lt' (f d) (xs.map f) = (f (pop lt d xs).1, (pop lt d xs).2.map f) := by
  unfold pop
  rw [List.length_map]
  by_cases c : xs.length = 1
  · rw [if_pos c, if_pos c, getD_map]
    rfl
  · rw [if_neg c, if_neg c, getD_map, getD_map, down_map h _ _ _ (Nat.le_refl _), List.map_set, List.map_take]
/-- without an order: the same things -/
theorem up_perm : ∀ (n : Nat) {xs : List α} {p : Nat}, p ≤ n → p < xs.length → (up lt d xs p).Perm xs
  | n, xs, p, hn, hl => by
    rw [up]
    by_cases c : 0 < p ∧ lt (xs.getD p d) (xs.getD ((p - 1) / 2) d)
    · rw [dif_pos c]
      cases n with
      | zero => omega
      | succ n => exact (up_perm n (by omega) (by rw [swp_len]; omega)).trans (swp_perm (by omega) hl)
    · rw [dif_neg c]
theorem down_perm : ∀ (n : Nat) {xs : List α} {p : Nat}, xs.length - p ≤ n → p < xs.length → (down lt d xs p).Perm xs
  | n, xs, p, hn, hl => by
    rw [down]
    by_cases c : p < xs.length / 2
    · rw [dif_pos c]
      have hc := child_is (lt := lt) (d := d) (xs := xs) (p := p)
      have hcl := child_lt (lt := lt) (d := d) c
      cases n with
      | zero => omega
      | succ n => exact (down_perm n (by rw [swp_len]; omega) (by rw [swp_len]; exact hcl)).trans (swp_perm hcl hl)
    · rw [dif_neg c]
      exact up_perm p (Nat.le_refl _) hl
theorem push_perm {xs : List α} {x : α} : (push lt d xs x).Perm (x :: xs) := (up_perm xs.length (Nat.le_refl _) (by simp)).trans (List.perm_append_singleton x xs)
theorem pop_perm {xs : List α} (ne : xs ≠ []) : ((pop lt d xs).1 :: (pop lt d xs).2).Perm xs := by
  unfold pop
  obtain ⟨ys, x, rfl⟩ : ∃ ys x, xs = ys ++ [x] := ⟨xs.dropLast, xs.getLast ne, (List.dropLast_concat_getLast ne).symm⟩
  cases ys with
  | nil => exact .refl _
  | cons y ys =>
    rw [if_neg (by simp)]
    have e1 : (y :: ys ++ [x]).length - 1 = (y :: ys).length := by simp
    rw [e1, List.take_left, List.set_cons_zero]
    have e2 : (y :: ys ++ [x]).getD (y :: ys).length d = x := by simp [List.getD_eq_getElem?_getD]
    rw [e2]
    show (y :: down lt d (x :: ys) 0).Perm (y :: (ys ++ [x]))
    exact ((down_perm _ (Nat.le_refl _) (by simp)).trans (List.perm_append_singleton x ys).symm).cons y
end
end HQ
namespace HRx
open PySem PySem.Spec PyProof.Rows L2
/-! ### data without lists -/
mutual
def tupD : PyData → Bool
  | .tuple xs => tupDs xs
  | .list _ => false
  | .dict _ => false
  | _ => true
def tupDs : List PyData → Bool
  | [] => true
  | x :: xs => tupD x && tupDs xs
end
mutual
theorem reads_keep {h h' : Heap} {a : Addr} {o : Obj} (ha : h.get? a = some o) (hc : o.cls = .type "list") (hk : ∀ b, b ≠ a → h'.get? b = h.get? b) : ∀ (d : PyData) (v : Value) (as : List Addr), tupD d = true → Reads h v d as → Reads h' v d as
  | .none, _, _, _, r => by cases r; exact .none
  | .bool _, _, _, _, r => by cases r; exact .bool _
  | .int _, _, _, _, r => by cases r; exact .int _ _
  | .str _, _, _, _, r => by cases r; exact .str _ _
  | .list _, _, _, t, _ => nomatch t
  | .dict _, _, _, t, _ => nomatch t
  | .tuple xs, _, as, t, r => by
    cases r with
    | @tuple b ob vs n _ as h1 h2 h3 h4 =>
      have hb : b ≠ a := fun z => by
        rw [z, ha] at h1
        cases h1
        rw [hc] at h2
        injection h2 with h2
        exact absurd h2 (by decide)
      exact .tuple ((hk b hb).trans h1) h2 h3 (readsAll_keep ha hc hk xs vs.toList as t h4)
theorem readsAll_keep {h h' : Heap} {a : Addr} {o : Obj} (ha : h.get? a = some o) (hc : o.cls = .type "list") (hk : ∀ b, b ≠ a → h'.get? b = h.get? b) : ∀ (ds : List PyData) (vs : List Value) (as : List Addr), tupDs ds = true → ReadsAll h vs ds as → ReadsAll h' vs ds as
  | [], _, _, _, r => by cases r; exact .nil
  | d :: ds, _, _, t, r => by
    unfold tupDs at t
    rw [Bool.and_eq_true] at t
    cases r with
    | cons r1 r2 => exact .cons (reads_keep ha hc hk d _ _ t.1 r1) (readsAll_keep ha hc hk ds _ _ t.2 r2)
end
/-- data that a queue may hold -/
structure OkD (ds : List PyData) : Prop where
  t : ∀ d ∈ ds, tupD d = true ∧ d.canLay0 = true ∧ d.depth ≤ 60
  c : ∀ d ∈ ds, ∀ e ∈ ds, TCx.cmpP d e = true
abbrev ltz (p q : V × PyData) : Prop := TCx.ltP p.2 q.2 = true
abbrev ltu (p q : V × Value × PyData) : Prop := TCx.ltP p.2.2 q.2.2 = true
def rHpush (K : PySem.W.Frag) : List V → Hp → VK → Prop := fun args H Q => ∃ (l : Addr) (zs : List (V × PyData)) (y : V) (e : PyData), args = [.ref l, y] ∧ H l = some (.lst (zs.map (·.1))) ∧ (∀ p ∈ zs ++ [(y, e)], Dp K H p.1 p.2) ∧ OkD ((zs ++ [(y, e)]).map (·.2)) ∧
  zs.length + 1 ≤ sizeLine ∧ Q .non (upd H l (.lst ((HQ.push ltz (.non, .none) zs (y, e)).map (·.1))))
def rHpop (K : PySem.W.Frag) : List V → Hp → VK → Prop := fun args H Q => ∃ (l : Addr) (zs : List (V × PyData)), args = [.ref l] ∧ H l = some (.lst (zs.map (·.1))) ∧ zs ≠ [] ∧ (∀ p ∈ zs, Dp K H p.1 p.2) ∧ OkD (zs.map (·.2)) ∧
  Q (HQ.pop ltz (.non, .none) zs).1.1 (upd H l (.lst ((HQ.pop ltz (.non, .none) zs).2.map (·.1))))
section
variable {X : Cx} {pins : List (Addr × Obj)} {σ : L2.St} {H : Hp} {s : Shared}
/-- the values beside what stands for them -/
theorem trip : ∀ {zs : List (V × PyData)} {us : List Value}, Vals (zs.map (·.1)) us → ∃ ws : List (V × Value × PyData), ws.map (fun w => (w.1, w.2.2)) = zs ∧ ws.map (fun w => w.2.1) = us ∧ ∀ w ∈ ws, RelV w.1 w.2.1
  | [], _, h => by
    cases h
    exact ⟨[], rfl, rfl, fun _ h => by cases h⟩
  | z :: zs, _, h => by
    cases h with
    | cons r1 r2 =>
      obtain ⟨ws, e1, e2, e3⟩ := trip r2
      refine ⟨(z.1, _, z.2) :: ws, by rw [List.map_cons, e1], by rw [List.map_cons, e2], fun w hw => ?_⟩
      rcases List.mem_cons.mp hw with rfl | hw
      · exact r1
      · exact e3 w hw
theorem vals_of : ∀ {ws : List (V × Value × PyData)}, (∀ w ∈ ws, RelV w.1 w.2.1) → Vals (ws.map (·.1)) (ws.map fun w => w.2.1)
  | [], _ => .nil
  | w :: ws, h => .cons (h w List.mem_cons_self) (vals_of fun w' hw => h w' (List.mem_cons_of_mem _ hw))
theorem cmp_ok (hu : X.A.units + 64 < cLine) (I : Inv X pins σ H s) {l : Addr} {o : Obj} (ho : s.heap.get? l = some o) (hc : o.cls = .type "list") {ws : List (V × Value × PyData)} (hr : ∀ w ∈ ws, RelV w.1 w.2.1) (hd : ∀ w ∈ ws, Dp X.K H w.1 w.2.2) (ok : OkD (ws.map fun w => w.2.2)) :
    HPx.CmpOk X.A s l TCx.ltP (ws.map fun w => (w.2.1, w.2.2)) := by
  intro h' hk p hp q hq prog w E Q hQ
  obtain ⟨a, ha, rfl⟩ := List.mem_map.mp hp
  obtain ⟨b, hb, rfl⟩ := List.mem_map.mp hq
  obtain ⟨t1, t2, t3⟩ := ok.t a.2.2 (List.mem_map_of_mem (f := fun w : V × Value × PyData => w.2.2) ha)
  obtain ⟨t4, t5, t6⟩ := ok.t b.2.2 (List.mem_map_of_mem (f := fun w : V × Value × PyData => w.2.2) hb)
  obtain ⟨as, r1⟩ := Dp.reads I _ _ _ (hd a ha) (hr a ha)
  obtain ⟨bs, r2⟩ := Dp.reads I _ _ _ (hd b hb) (hr b hb)
  refine TCx.rcLt_reads _ _ _ _ _ _ _ _ (reads_keep ho hc hk _ _ _ t1 r1) (reads_keep ho hc hk _ _ _ t4 r2) t2 t5 ?_ (ok.c _ (List.mem_map_of_mem (f := fun w : V × Value × PyData => w.2.2) ha) _ (List.mem_map_of_mem (f := fun w : V × Value × PyData => w.2.2) hb)) prog w E Q hQ
  have : X.A.in1.units = X.A.units + 1 := rfl
  have := Nat.min_le_left a.2.2.depth b.2.2.depth
  omega
theorem relist {l : Addr} {xs ys : List V} {its : List Value} {n : Nat} {h' : Heap} (I : Inv X pins σ H s) (hH : H l = some (.lst xs)) (hk : ∀ b, b ≠ l → h'.get? b = s.heap.get? b) (hl : h'.get? l = some { cls := .type "list", data := .seq its.toArray n }) (hv : Vals ys its) (hz : ys.length ≤ sizeLine) :
    Inv X pins σ (upd H l (.lst ys)) { s with heap := h' } :=
  I.write (t' := s.toks) (x := l) (e := l) (by rw [hH]; exact trivial) (.inl rfl) (fun b' u hb hu => (hk b' hb).trans hu) ⟨_, hl⟩ ⟨hz, its, _, hv, hl⟩
theorem call_heappush (hu : X.A.units + 64 < cLine) : CallR X (.builtin "_heapq.heappush") (rHpush X.K) := by
  intro pins s σ H args us Q I rx h
  obtain ⟨l, zs, y, e, rfl, hH, hd, ok, hz, q⟩ := h
  cases rx with
  | cons r1 rr =>
    cases rr with
    | cons r2 rr =>
      cases rr
      cases r1
      rename_i uy
      obtain ⟨z, its, n, r, hl, ho⟩ := I.lstM hH
      obtain ⟨ws, e1, e2, e3⟩ := trip r
      have ez : (ws ++ [(y, uy, e)]).map (fun w => (w.1, w.2.2)) = zs ++ [(y, e)] := by rw [List.map_append, e1]; rfl
      have hr' : ∀ w ∈ ws ++ [(y, uy, e)], RelV w.1 w.2.1 := fun w hw => by
        rcases List.mem_append.mp hw with hw | hw
        · exact e3 w hw
        · rw [List.mem_singleton.mp hw]
          exact r2
      have hd' : ∀ w ∈ ws ++ [(y, uy, e)], Dp X.K H w.1 w.2.2 := fun w hw => hd (w.1, w.2.2) (by rw [← ez]; exact List.mem_map_of_mem (f := fun w : V × Value × PyData => (w.1, w.2.2)) hw)
      have ok' : OkD ((ws ++ [(y, uy, e)]).map fun w => w.2.2) := by
        have : (ws ++ [(y, uy, e)]).map (fun w => w.2.2) = (zs ++ [(y, e)]).map (·.2) := by rw [← ez, List.map_map]; rfl
        rw [this]
        exact ok
      have cm := cmp_ok hu I ho rfl hr' hd' ok'
      have hlen : ws.length = zs.length := by rw [← e1, List.length_map]
      rw [List.map_append] at cm
      refine HPx.call_push (γ := PyData) (lt := TCx.ltP) (.none, .none) (xs := ws.map fun w => (w.2.1, w.2.2)) (x := (uy, e)) ⟨n, by rw [List.map_map]; exact ho.trans (by rw [← e2]; rfl)⟩ (by rw [List.length_map, hlen]; exact hz) cm fun h' hk hl' => ?_
      obtain ⟨n', hl'⟩ := hl'
      have em := HQ.push_map (lt := ltu) (lt' := HPx.lp TCx.ltP) (d := (V.non, Value.none, PyData.none)) (f := fun w : V × Value × PyData => (w.2.1, w.2.2)) (fun a b => Iff.rfl) (xs := ws) (x := (y, uy, e))
      have em2 := HQ.push_map (lt := ltu) (lt' := ltz) (d := (V.non, Value.none, PyData.none)) (f := fun w : V × Value × PyData => (w.1, w.2.2)) (fun a b => Iff.rfl) (xs := ws) (x := (y, uy, e))
      rw [← em, List.map_map] at hl'
      rw [e1] at em2
      have hv : ∀ w ∈ HQ.push ltu (V.non, Value.none, PyData.none) ws (y, uy, e), RelV w.1 w.2.1 := fun w hw => by
        have := HQ.push_perm.mem_iff.mp hw
        exact hr' w (by rcases List.mem_cons.mp this with h | h <;> simp [h])
      refine ⟨.non, _, relist I hH hk hl' (ys := (HQ.push ltu (V.non, Value.none, PyData.none) ws (y, uy, e)).map (·.1)) (vals_of hv) ?_, rfl, ?_⟩
      · rw [List.length_map, HQ.push_perm.length_eq, List.length_cons, hlen]
        exact hz
      · rw [← em2, List.map_map] at q
        exact q
theorem call_heappop (hu : X.A.units + 64 < cLine) : CallR X (.builtin "_heapq.heappop") (rHpop X.K) := by
  intro pins s σ H args us Q I rx h
  obtain ⟨l, zs, rfl, hH, h0, hd, ok, q⟩ := h
  cases rx with
  | cons r1 rr =>
    cases rr
    cases r1
    obtain ⟨z, its, n, r, hl, ho⟩ := I.lstM hH
    obtain ⟨ws, e1, e2, e3⟩ := trip r
    have hd' : ∀ w ∈ ws, Dp X.K H w.1 w.2.2 := fun w hw => hd (w.1, w.2.2) (by rw [← e1]; exact List.mem_map_of_mem (f := fun w : V × Value × PyData => (w.1, w.2.2)) hw)
    have ok' : OkD (ws.map fun w => w.2.2) := by
      have : ws.map (fun w => w.2.2) = zs.map (·.2) := by rw [← e1, List.map_map]; rfl
      rw [this]
      exact ok
    have cm := cmp_ok hu I ho rfl e3 hd' ok'
    have hlen : ws.length = zs.length := by rw [← e1, List.length_map]
    have w0 : ws ≠ [] := fun z => h0 (by rw [← e1, z]; rfl)
    rw [List.length_map] at z
    refine HPx.call_pop (γ := PyData) (lt := TCx.ltP) (.none, .none) (xs := ws.map fun w => (w.2.1, w.2.2)) ⟨n, by rw [List.map_map]; exact ho.trans (by rw [← e2]; rfl)⟩ (by simpa using w0) (by rw [List.length_map, hlen]; exact z) cm fun h' hk hl' => ?_
    obtain ⟨n', hl'⟩ := hl'
    have em := HQ.pop_map (lt := ltu) (lt' := HPx.lp TCx.ltP) (d := (V.non, Value.none, PyData.none)) (f := fun w : V × Value × PyData => (w.2.1, w.2.2)) (fun a b => Iff.rfl) (xs := ws)
    have em2 := HQ.pop_map (lt := ltu) (lt' := ltz) (d := (V.non, Value.none, PyData.none)) (f := fun w : V × Value × PyData => (w.1, w.2.2)) (fun a b => Iff.rfl) (xs := ws)
    have hp := HQ.pop_perm (lt := ltu) (d := (V.non, Value.none, PyData.none)) w0
    rw [em] at hl' ⊢
    rw [List.map_map] at hl'
    rw [e1] at em2
    rw [em2] at q
    have hv : ∀ w ∈ (HQ.pop ltu (V.non, Value.none, PyData.none) ws).2, RelV w.1 w.2.1 := fun w hw => e3 w (hp.mem_iff.mp (List.mem_cons_of_mem _ hw))
    refine ⟨_, _, relist I hH hk hl' (ys := (HQ.pop ltu (V.non, Value.none, PyData.none) ws).2.map (·.1)) (vals_of hv) ?_, e3 _ (hp.mem_iff.mp List.mem_cons_self), ?_⟩
    · have := hp.length_eq
      rw [List.length_cons, hlen] at this
      rw [List.length_map]
      omega
    · rw [List.map_map] at q
      exact q
end
end HRx

set_option Elab.async false
set_option linter.all false
set_option maxRecDepth 100000
set_option maxHeartbeats 4000000
/-! HS: heappush and heappop over trees. -/
namespace Fm
open PySem PySem.Spec PyProof.Rows L2
mutual
def dT : Tr → PyData
  | .bl b => .bool b
  | .int i => .int i
  | .str x => .str x
  | .tup ts => .tuple (dTs ts)
  | _ => .none
def dTs : List Tr → List PyData
  | [] => []
  | t :: ts => dT t :: dTs ts
end
mutual
def plainT : Tr → Bool
  | .ref _ => false
  | .raw _ => false
  | .tup ts => plainTs ts
  | _ => true
def plainTs : List Tr → Bool
  | [] => true
  | t :: ts => plainT t && plainTs ts
end
section
variable {K : PySem.W.Frag} {H : Hp} {ρ : List Addr}
mutual
theorem dp_of : ∀ {t : Tr} {v : V}, plainT t = true → RT K H ρ t v → Dp K H v (dT t)
  | .non, _, _, r => by rw [r.non_inv]; exact .non
  | .bl _, _, _, r => by rw [r.bl_inv]; exact .bl _
  | .int _, _, _, r => by rw [r.int_inv]; exact .int _
  | .str _, _, _, r => by rw [r.str_inv]; exact .str _
  | .ref _, _, h, _ => nomatch h
  | .raw _, _, h, _ => nomatch h
  | .tup ts, _, h, r => by
    obtain ⟨a, xs, rfl, s, rs⟩ := r.tup_inv
    exact .tup s (dp_ofs h rs)
theorem dp_ofs : ∀ {ts : List Tr} {vs : List V}, plainTs ts = true → RTs K H ρ ts vs → DpAll K H vs (dTs ts)
  | [], _, _, r => by
    unfold RTs at r
    subst r
    exact .nil
  | t :: ts, _, h, r => by
    unfold RTs at r
    obtain ⟨x, ys, rfl, r1, r2⟩ := r
    unfold plainTs at h
    rw [Bool.and_eq_true] at h
    exact .cons (dp_of h.1 r1) (dp_ofs h.2 r2)
end
theorem pairs : ∀ {ts : List Tr} {vs : List V}, RTs K H ρ ts vs → ∃ ws : List (Tr × V), ws.map (·.1) = ts ∧ ws.map (·.2) = vs ∧ ∀ w ∈ ws, RT K H ρ w.1 w.2
  | [], _, r => by
    unfold RTs at r
    subst r
    exact ⟨[], rfl, rfl, fun _ h => by cases h⟩
  | t :: ts, _, r => by
    unfold RTs at r
    obtain ⟨x, ys, rfl, r1, r2⟩ := r
    obtain ⟨ws, e1, e2, e3⟩ := pairs r2
    refine ⟨(t, x) :: ws, by rw [List.map_cons, e1], by rw [List.map_cons, e2], fun w hw => ?_⟩
    rcases List.mem_cons.mp hw with rfl | hw
    · exact r1
    · exact e3 w hw
theorem rts_ofw : ∀ {ws : List (Tr × V)}, (∀ w ∈ ws, RT K H ρ w.1 w.2) → RTs K H ρ (ws.map (·.1)) (ws.map (·.2))
  | [], _ => RTs.nil
  | w :: ws, h => RTs.cons (h w List.mem_cons_self) (rts_ofw fun w' hw => h w' (List.mem_cons_of_mem _ hw))
end
abbrev ltT (a b : Tr) : Prop := TCx.ltP (dT a) (dT b) = true
abbrev ltw (a b : Tr × V) : Prop := ltT a.1 b.1
structure OkT (ts : List Tr) : Prop where
  p : ∀ t ∈ ts, plainT t = true
  d : HRx.OkD (ts.map dT)
def fHpush : FC := fun args M P => ∃ (n : Nat) (ts : List Tr) (y : Tr), args = [.ref n, y] ∧ M[n]? = some (.lst ts) ∧ OkT (ts ++ [y]) ∧ ts.length + 1 ≤ sizeLine ∧ P .non (M.set n (.lst (HQ.push ltT .non ts y)))
def fHpop : FC := fun args M P => ∃ (n : Nat) (ts : List Tr), args = [.ref n] ∧ M[n]? = some (.lst ts) ∧ ts ≠ [] ∧ OkT ts ∧ P (HQ.pop ltT .non ts).1 (M.set n (.lst (HQ.pop ltT .non ts).2))
section
variable {K : PySem.W.Frag}
theorem c_hpush : SimC K (HRx.rHpush K) fHpush := ⟨fun {H ρ M xs xvs P Q} hm rx ⟨n, ts, y, e1, e2, ok, hz, p⟩ o => by
  subst e1
  obtain ⟨x1, x2, rfl, r1, r2⟩ := rx.two
  obtain ⟨a, h1, rfl⟩ := r1.ref_inv
  obtain ⟨a', h2, vs, h3, h4⟩ := hm.at_ n _ e2
  rw [h1] at h2
  cases h2
  obtain ⟨ws, q1, q2, q3⟩ := pairs h4
  have q3' : ∀ w ∈ ws ++ [(y, x2)], RT K H ρ w.1 w.2 := fun w hw => by
    rcases List.mem_append.mp hw with hw | hw
    · exact q3 w hw
    · rw [List.mem_singleton.mp hw]
      exact r2
  have q1' : (ws ++ [(y, x2)]).map (·.1) = ts ++ [y] := by rw [List.map_append, q1]; rfl
  have em := HQ.push_map (lt := ltw) (lt' := ltT) (d := (Tr.non, V.non)) (f := fun w : Tr × V => w.1) (fun a b => Iff.rfl) (xs := ws) (x := (y, x2))
  have em2 := HQ.push_map (lt := ltw) (lt' := HRx.ltz) (d := (Tr.non, V.non)) (f := fun w : Tr × V => (w.2, dT w.1)) (fun a b => Iff.rfl) (xs := ws) (x := (y, x2))
  rw [q1] at em
  have hlen : ws.length = ts.length := by rw [← q1, List.length_map]
  have hr : ∀ w ∈ HQ.push ltw (Tr.non, V.non) ws (y, x2), RT K H ρ w.1 w.2 := fun w hw => by
    have := HQ.push_perm.mem_iff.mp hw
    exact q3' w (by rcases List.mem_cons.mp this with h | h <;> simp [h])
  refine ⟨a, ws.map fun w => (w.2, dT w.1), x2, dT y, rfl, by rw [List.map_map]; exact h3.trans (by rw [← q2]; rfl), fun p hp => ?_, ?_, by rw [List.length_map, hlen]; exact hz, ?_⟩
  · have : ws.map (fun w => (w.2, dT w.1)) ++ [(x2, dT y)] = (ws ++ [(y, x2)]).map fun w => (w.2, dT w.1) := by rw [List.map_append]; rfl
    rw [this] at hp
    obtain ⟨w, hw, rfl⟩ := List.mem_map.mp hp
    exact dp_of (ok.p w.1 (by rw [← q1']; exact List.mem_map_of_mem (f := fun w : Tr × V => w.1) hw)) (q3' w hw)
  · have : (ws.map (fun w => (w.2, dT w.1)) ++ [(x2, dT y)]).map (·.2) = (ts ++ [y]).map dT := by
      rw [← q1', List.map_append, List.map_append, List.map_map, List.map_append, List.map_map]
      rfl
    rw [this]
    exact ok.d
  · rw [show ((V.non, PyData.none) : V × PyData) = (fun w : Tr × V => (w.2, dT w.1)) (Tr.non, V.non) from rfl, ← em2, List.map_map]
    refine o _ _ _ _ _ (Grow.wr hm h3 (List.mem_of_getElem? h1)) (hm.wr h3 h1 (us := HQ.push ltT .non ts y) ?_) RT.non_ p
    rw [show (Tr.non : Tr) = (fun w : Tr × V => w.1) (Tr.non, V.non) from rfl, show y = (fun w : Tr × V => w.1) (y, x2) from rfl, ← em]
    exact rts_ofw hr⟩
theorem c_hpop : SimC K (HRx.rHpop K) fHpop := ⟨fun {H ρ M xs xvs P Q} hm rx ⟨n, ts, e1, e2, h0, ok, p⟩ o => by
  subst e1
  obtain ⟨x1, rfl, r1⟩ := rx.one
  obtain ⟨a, h1, rfl⟩ := r1.ref_inv
  obtain ⟨a', h2, vs, h3, h4⟩ := hm.at_ n _ e2
  rw [h1] at h2
  cases h2
  obtain ⟨ws, q1, q2, q3⟩ := pairs h4
  have em := HQ.pop_map (lt := ltw) (lt' := ltT) (d := (Tr.non, V.non)) (f := fun w : Tr × V => w.1) (fun a b => Iff.rfl) (xs := ws)
  have em2 := HQ.pop_map (lt := ltw) (lt' := HRx.ltz) (d := (Tr.non, V.non)) (f := fun w : Tr × V => (w.2, dT w.1)) (fun a b => Iff.rfl) (xs := ws)
  rw [q1] at em
  have w0 : ws ≠ [] := fun z => h0 (by rw [← q1, z]; rfl)
  have hp := HQ.pop_perm (lt := ltw) (d := (Tr.non, V.non)) w0
  have hr : ∀ w ∈ (HQ.pop ltw (Tr.non, V.non) ws).2, RT K H ρ w.1 w.2 := fun w hw => q3 w (hp.mem_iff.mp (List.mem_cons_of_mem _ hw))
  refine ⟨a, ws.map fun w => (w.2, dT w.1), rfl, by rw [List.map_map]; exact h3.trans (by rw [← q2]; rfl), by simpa using w0, fun p hp => ?_, ?_, ?_⟩
  · obtain ⟨w, hw, rfl⟩ := List.mem_map.mp hp
    exact dp_of (ok.p w.1 (by rw [← q1]; exact List.mem_map_of_mem (f := fun w : Tr × V => w.1) hw)) (q3 w hw)
  · have : (ws.map (fun w => (w.2, dT w.1))).map (·.2) = ts.map dT := by
      rw [← q1, List.map_map, List.map_map]
      rfl
    rw [this]
    exact ok.d
  · rw [show ((V.non, PyData.none) : V × PyData) = (fun w : Tr × V => (w.2, dT w.1)) (Tr.non, V.non) from rfl, em2, List.map_map]
    have g := Grow.wr (ys := (HQ.pop ltw (Tr.non, V.non) ws).2.map (·.2)) hm h3 (List.mem_of_getElem? h1)
    have p' : P (HQ.pop ltw (Tr.non, V.non) ws).1.1 (M.set n (.lst ((HQ.pop ltw (Tr.non, V.non) ws).2.map (·.1)))) := by
      rw [show (Tr.non : Tr) = (fun w : Tr × V => w.1) (Tr.non, V.non) from rfl, em] at p
      exact p
    exact o _ _ _ _ _ g (hm.wr h3 h1 (rts_ofw hr)) ((q3 _ (hp.mem_iff.mp List.mem_cons_self)).mono g) p'⟩
end
end Fm

set_option Elab.async false
set_option linter.all false
set_option maxRecDepth 100000
set_option maxHeartbeats 4000000
namespace XMx
open PySem PySem.Spec PyProof.Rows L2
section
variable {X : Cx} {CX : CXT} {k : Nat} {f C : Addr} {sp : Sp} {E : XK} {x m : Str} {e o : Expr} {es : List Expr} {ta te : TE} {t : TA} {p pos apos : Pos}
/-- C(*y), C a class by its global name -/
def tMakeGS (K : PySem.W.Frag) (C : Addr) (sp : Sp) (E : XK) (te : TE) : TE := fun σ H Q => te σ H fun y H1 => ∃ a xs, y = V.ref a ∧ (SqT K H1 a xs ∨ SqL K H1 a xs) ∧ ∀ x dx, H1 x = none → H1 dx = none → dx ≠ x →
  sp (V.ref x :: xs) (upd (upd H1 dx (.own x)) x (.ins C dx [])) (fun v H2 => v = .non ∧ Q (.ref x) H2) E
theorem pe_makeGS {ex : Expr} {sp_ : Pos} (M : Mk X.K C f) (F : FnR X.prog X.w X.K X.mg X.base CX k f sp) (hr : Room (k + 1) X.A)
    (hg : Gl X x) (hm : X.mg x = some (.ref C)) (hx : Passes CX X E) (he : PE X ex te) (hdb : (x == ("__debug__" : Str)) = false := by decide)
    (hst : starEach [.Starred ex sp_] X.env = [(true, eval ex X.env)] := by rfl) :
    PE X (.Call (.Name x p) [.Starred ex sp_] [] pos) (tMakeGS X.K C sp E te) := by
  refine ⟨fun pins s σ H Q I h => ?_⟩
  refine wpAny_Call_Name_kw (ld_glob I hg hm ?_ hdb)
  refine PySem.W.callWith_S (h₀ := X.base) I.ok.mod.kin M.kp (thn (he.run pins s σ H _ I h) fun v s2 ⟨y, H2, I2, ry, a, xs, ey, hxs, q⟩ => ?_) hst
  subst ey
  obtain rfl : v = Value.ref a := ry
  exact StX.star_any I2 hxs fun us s3 I3 rv => ⟨I3.kIn, StX.run_makeR M F hr hx I3 rv q⟩
/-- C() -/
theorem pe_makeR0 (M : Mk X.K C f) (F : FnR X.prog X.w X.K X.mg X.base CX k f sp) (hr : Room (k + 1) X.A) (hg : Gl X x) (hm : X.mg x = some (.ref C)) (hx : Passes CX X E)
    (hdb : (x == ("__debug__" : Str)) = false := by decide) : PE X (.Call (.Name x p) [] [] pos) (StX.tMakeR C sp E tNil) := by
  refine ⟨fun pins s σ H Q I h => ?_⟩
  refine wpAny_Call_Name_kw (ld_glob I hg hm ?_ hdb)
  exact PySem.W.callWith_K0 I.kIn M.kp (StX.run_makeR (us := []) M F hr hx I .nil h)
def tMethR (C : Addr) (m : Str) (sp : Sp) (E : XK) (ta : TE) (t : TA) : TE := tMeth C m sp [] E ta t
/-- o.m(e, ..), m a def with a star parameter -/
theorem pe_methR {pl : Sem Bool} (he : PE X o ta) (c : Cls X.K C) (hm : Meth X.K C m f) (F : FnR X.prog X.w X.K X.mg X.base CX k f sp) (hr : Room k X.A) (hx : Passes CX X E) (ha : PA X (e :: es) t)
    (hst : starEach (e :: es) X.env = (false, eval e X.env) :: starEach es X.env := by rfl) (hpl : (backTo pos (starEach es X.env)).any (·.1) = false := by rfl)
    (ht : eval (.Call (.Attribute o m apos) (e :: es) [] pos) X.env = (do
      let ov ← eval o X.env
      standAt apos.atName
      let (f, first) ← holding [ov] (getMethod ov m pl)
      callWith pos f first (backTo pos (starEach (e :: es) X.env)) (backToKw pos (keywordEach [] X.env))) := by rfl) :
    PE X (.Call (.Attribute o m apos) (e :: es) [] pos) (tMethR C m sp E ta t) := by
  refine ⟨fun pins s σ H Q I h => ?_⟩
  refine PySem.W.methodCall_KW (pl := pl) (thn (he.run pins s σ H _ I h) fun u s1 ⟨x, H1, I1, rx, a, dx, fs, ex, ea, l, q⟩ => ?_) ht
  subst ex
  obtain rfl : u = Value.ref a := rx
  refine getmeth_ok I1 ea c hm l ?_
  refine PySem.W.callWith_K (first := [.ref a]) (h₀ := X.base) I.ok.mod.kin hm.kp (thn (ha.run pos pins s1 σ H1 _ I1 q) fun us s2 ⟨vs, H2, I2, r, q2⟩ => ⟨I2.kIn, ?_⟩) hst hpl
  have q3 : sp (V.ref a :: (vs ++ [])) _ Q E := q2
  rw [List.append_nil] at q3
  exact wpAny_call (run_fnR (us := .ref a :: us) (vs := .ref a :: vs) F hr hx I2 (.cons rfl r) q3)
end

open PySem.AutoSeq1 in
theorem extend_tup (l : Addr) (items : Array Value) (n : Nat) (b : Addr) (d2 : Option Addr) (sl2 : Array (Option Value)) (items2 : Array Value) (n2 : Nat) (hs0 : ¬(!items.isEmpty && Builtin.List.listTooLong (items.size + items2.size)) = true) (hs1 : items.size ≤ sizeLine) (hs2 : items.size + items2.size ≤ sizeLine + 1) :
    Meets (Builtin.«list.extend» ⟨[.ref l, .ref b], []⟩) (fun _ R s => s.heap.get? l = some { cls := .type "list", dict := none, data := .seq items n, slots := #[] } ∧ s.heap.get? b = some { cls := .type "tuple", dict := d2, data := .seq items2 n2, slots := sl2 } ∧ R (.ok (.ret Value.none)) { s with heap := s.heap.update l (Obj.mapSeq fun x => x ++ items2), toks := s.toks }) :=
  .of_wp fun prog w A R s h => by
    obtain ⟨hp, g, d, tk, os⟩ := s; obtain ⟨hl, hb, h⟩ := h; have f1 := PySem.AutoSeq1.idx_int; have f2 := PySem.AutoSeq1.sub_tuple_tuple; have f3 := PySem.AutoSeq1.sub_list_list; have f4 := PySem.AutoSeq1.sub_tuple_list; have f5 := PySem.AutoSeq1.sub_list_tuple
    have hz' : (items ++ items2).size ≤ sizeLine + 1 := by rw [Array.size_append]; exact hs2
    wp_walk using (wpAny_updateSeq hl rfl (hz := hs1) (_hz' := hz')), wpAny_loadPart' hl, wpAny_loadPart' hb; exact ⟨_, rfl, h⟩

def rExtendT (K : PySem.W.Frag) : V → List V → Hp → VK → Prop := fun x vs H Q => ∃ l b xs zs, x = .ref l ∧ vs = [.ref b] ∧ H l = some (.lst xs) ∧ SqT K H b zs ∧ xs.length + zs.length ≤ sizeLine ∧ Q .non (upd H l (.lst (xs ++ zs)))
theorem mt_extendT {X : Cx} : MtM X "list.extend" (rExtendT X.K) := by
  intro pins s σ H x vs v us Q I rx rv h
  obtain ⟨l, b, xs, zs, rfl, rfl, hH, hB, hz, q⟩ := h
  cases rx
  obtain ⟨u, rfl, ru⟩ := rv.one
  cases ru
  obtain ⟨z, its, n, r, hl, e⟩ := I.lstM hH
  obtain ⟨its2, o2, n2, r2, e2, hc2, hd2⟩ := L2.sqT_at I.hok I.kIn hB
  obtain ⟨c2, d2, dt2, sl2⟩ := o2
  cases hc2
  cases hd2
  have hl2 : zs.length = its2.length := r2.length
  have hsz : its.toArray.size + its2.toArray.size ≤ sizeLine := by rw [List.size_toArray, List.size_toArray]; omega
  have hlong : ¬ (!its.toArray.isEmpty && Builtin.List.listTooLong (its.toArray.size + its2.toArray.size)) = true := by
    rw [notLongL hsz, Bool.and_false]
    exact Bool.false_ne_true
  refine call_meets F.slot_list_extend ⟨_, e, rfl⟩ F.entry_list_extend (F.args_list_extend_2 _ _)
    (extend_tup l its.toArray n b d2 sl2 its2.toArray n2 hlong (by rw [List.size_toArray]; omega) (by omega)) ⟨e, e2, ?_⟩
  refine ⟨.non, _, I.lset (its' := its ++ its2) hH e (by simp) (r.append r2) ?_, rfl, q⟩
  rw [List.length_append]
  omega
end XMx

set_option Elab.async false
set_option linter.all false
set_option maxRecDepth 100000
set_option maxHeartbeats 4000000
namespace Fm
open PySem PySem.Spec PyProof.Rows L2
/-! ### star parameters: C(*y) by a global name, C(..), o.m(..) -/
section
variable {K : PySem.W.Frag} {B : Bs} {C : Addr} {sp : Sp} {fsp : FSp} {E : XK} {PX : PXF} {te : TE} {fe : FE} {as : TA} {fs : FA} {m : Str}
def fMakeGS (C : Addr) (fsp : FSp) (PX : PXF) (fe : FE) : FE := fun L M P => fe L M fun x M1 => ∃ ts, lstAt M1 x = some ts ∧ ts.length ≤ sizeLine ∧ fsp [.ref M1.length, .tup ts] (M1 ++ [.ins C []]) (fun v M2 => v = .non ∧ P (.ref M1.length) M2) PX
theorem sim_makeGSX (hE : OutX K B.1 B.2 PX E) (s : SimSp K sp fsp) (a : SimE K B te fe) :
    SimE K B (XMx.tMakeGS K C (spStar 1 sp) E te) (fMakeGS C fsp PX fe) := ⟨fun hl hm h o => by
  refine a.run hl hm h fun y yv H1 ρ1 M1 g1 m1 ry ⟨ts, ey, hz, h⟩ => ?_
  obtain ⟨n, b, xs, rfl, hn, _, rfl, h3, h4⟩ := lstAt_ok m1 ry ey
  refine ⟨b, xs, rfl, .inr (.inl (.inl h3)), fun x dx hx hd nd => ?_⟩
  obtain ⟨g2, m2⟩ := m1.ins (C := C) hx hd nd
  have rself : RT K (upd (upd H1 dx (.own x)) x (.ins C dx [])) (ρ1 ++ [x]) (.ref M1.length) (.ref x) := by unfold RT; exact ⟨x, m1.ref, rfl⟩
  refine ⟨[.ref x], xs, rfl, rfl, by rw [h4.len]; exact hz, fun p hp => ?_⟩
  have g3 : Grow K (upd (upd H1 dx (.own x)) x (.ins C dx [])) (ρ1 ++ [x]) (upd (upd (upd H1 dx (.own x)) x (.ins C dx [])) p (.tup xs)) (ρ1 ++ [x]) := Grow.laid hp
  have m3 := m2.laid (o := .tup xs) hp
  have rt : RT K (upd (upd (upd H1 dx (.own x)) x (.ins C dx [])) p (.tup xs)) (ρ1 ++ [x]) (.tup ts) (.ref p) := by unfold RT; exact ⟨p, xs, rfl, .inl (.inl upd_same), (h4.mono g2).mono g3⟩
  refine s.run (P := fun v M2 => v = .non ∧ _) (RTs.cons (rself.mono g3) (RTs.cons rt RTs.nil)) m3 h (fun v xv H4 ρ4 M4 g4 m4 rv ⟨ev, p⟩ => ?_) (hE.step (((hl.gr.trans g1).trans g2).trans g3))
  subst ev
  exact ⟨rv.non_inv, o _ _ _ _ _ (((g1.trans g2).trans g3).trans g4) m4 ((rself.mono g3).mono g4) p⟩⟩
def fMakeR (C : Addr) (fsp : FSp) (PX : PXF) (fa : FA) : FE := fun L M P => fa L M fun ts M1 => ts.length ≤ sizeLine ∧ fsp [.ref M1.length, .tup ts] (M1 ++ [.ins C []]) (fun v M2 => v = .non ∧ P (.ref M1.length) M2) PX
theorem sim_makeRX (hE : OutX K B.1 B.2 PX E) (s : SimSp K sp fsp) (a : SimA K B as fs) :
    SimE K B (StX.tMakeR C (spStar 1 sp) E as) (fMakeR C fsp PX fs) := ⟨fun hl hm h o => by
  refine a.run hl hm h fun ts xs H1 ρ1 M1 g1 m1 h4 ⟨hz, h⟩ => ?_
  refine fun x dx hx hd nd => ?_
  obtain ⟨g2, m2⟩ := m1.ins (C := C) hx hd nd
  have rself : RT K (upd (upd H1 dx (.own x)) x (.ins C dx [])) (ρ1 ++ [x]) (.ref M1.length) (.ref x) := by unfold RT; exact ⟨x, m1.ref, rfl⟩
  refine ⟨[.ref x], xs, rfl, rfl, by rw [h4.len]; exact hz, fun p hp => ?_⟩
  have g3 : Grow K (upd (upd H1 dx (.own x)) x (.ins C dx [])) (ρ1 ++ [x]) (upd (upd (upd H1 dx (.own x)) x (.ins C dx [])) p (.tup xs)) (ρ1 ++ [x]) := Grow.laid hp
  have m3 := m2.laid (o := .tup xs) hp
  have rt : RT K (upd (upd (upd H1 dx (.own x)) x (.ins C dx [])) p (.tup xs)) (ρ1 ++ [x]) (.tup ts) (.ref p) := by unfold RT; exact ⟨p, xs, rfl, .inl (.inl upd_same), (h4.mono g2).mono g3⟩
  refine s.run (P := fun v M2 => v = .non ∧ _) (RTs.cons (rself.mono g3) (RTs.cons rt RTs.nil)) m3 h (fun v xv H4 ρ4 M4 g4 m4 rv ⟨ev, p⟩ => ?_) (hE.step (((hl.gr.trans g1).trans g2).trans g3))
  subst ev
  exact ⟨rv.non_inv, o _ _ _ _ _ (((g1.trans g2).trans g3).trans g4) m4 ((rself.mono g3).mono g4) p⟩⟩
def fMethR (C : Addr) (m : Str) (fsp : FSp) (PX : PXF) (fe : FE) (fa : FA) : FE := fun L M P => fe L M fun x M1 => ∃ n gs, insAt M1 x = some (n, C, gs) ∧ gs.lookup m = none ∧ fa L M1 fun ts M2 => ts.length ≤ sizeLine ∧ fsp [x, .tup ts] M2 P PX
theorem sim_methRX (hE : OutX K B.1 B.2 PX E) (s : SimSp K sp fsp) (a : SimE K B te fe) (b : SimA K B as fs) :
    SimE K B (XMx.tMethR C m (spStar 1 sp) E te as) (fMethR C m fsp PX fe fs) := ⟨fun hl hm h o => a.run hl hm h fun x xv H1 ρ1 M1 g1 m1 rx ⟨n, gs0, e, lk, p⟩ => by
  obtain ⟨b', dx, gs, rfl, h1, h2, rfl, h3, h4, h5⟩ := insAt_ok m1 rx e
  refine ⟨b', dx, gs, rfl, h3, h5.lookN lk, b.run (hl.mono g1) m1 p fun ts xs H2 ρ2 M2 g2 m2 rts ⟨hz, p2⟩ => ?_⟩
  refine ⟨[.ref b'], xs, by rw [List.append_nil]; rfl, rfl, by rw [rts.len]; exact hz, fun q hq => ?_⟩
  have g3 : Grow K H2 ρ2 (upd H2 q (.tup xs)) ρ2 := Grow.laid hq
  have m3 := m2.laid (o := .tup xs) hq
  have rt : RT K (upd H2 q (.tup xs)) ρ2 (.tup ts) (.ref q) := by unfold RT; exact ⟨q, xs, rfl, .inl (.inl upd_same), rts.mono g3⟩
  exact s.run (RTs.cons ((rx.mono g2).mono g3) (RTs.cons rt RTs.nil)) m3 p2 (o.step ((g1.trans g2).trans g3)) (hE.step (((hl.gr.trans g1).trans g2).trans g3))⟩
def fExtendT : Tr → FC := fun x xs M P => ∃ n ts y us, refAt M x = some (n, ts) ∧ xs = [y] ∧ tupOf y = some us ∧ ts.length + us.length ≤ sizeLine ∧ P .non (M.set n (.lst (ts ++ us)))
theorem m_extendT : SimM K (XMx.rExtendT K) fExtendT := ⟨fun hm rx ry ⟨n, ts, y, ws, e1, e2, e3, z, p⟩ o => by
  subst e2
  obtain ⟨a, us, rfl, h1, h2, rfl, h3, h4⟩ := refAt_ok hm rx e1
  obtain ⟨yv, rfl, r⟩ := ry.one
  obtain ⟨b, vs, rfl, k2, k3⟩ := tupOf_ok r e3
  exact ⟨a, b, us, vs, rfl, rfl, h3, k2, by rw [h4.len, k3.len]; exact z, o _ _ _ _ _ (Grow.wr hm h3 (List.mem_of_getElem? h1)) (hm.wr h3 h1 (h4.app k3)) RT.non_ p⟩⟩
end
end Fm

set_option Elab.async false
set_option linter.all false
set_option maxRecDepth 100000
set_option maxHeartbeats 4000000
namespace T1
open PySem PySem.Spec PyProof.Rows L2 C8 Fm
section
variable {K : PySem.W.Frag} {H : Hp} {ρ : List Addr}
theorem rts_ints : ∀ ys : List Int, RTs K H ρ (ys.map Tr.int) (ys.map V.int)
  | [] => RTs.nil
  | y :: ys => RTs.cons RT.int_ (rts_ints ys)
theorem rts_ints_inv : ∀ {ys : List Int} {vs : List V}, RTs K H ρ (ys.map Tr.int) vs → vs = ys.map V.int
  | [], _, h => by unfold RTs at h; exact h
  | y :: ys, _, h => by
    unfold RTs at h
    obtain ⟨x, zs, rfl, h1, h2⟩ := h
    rw [h1.int_inv, rts_ints_inv (ys := ys) h2]
    rfl

theorem same_grow {H' : Hp} {M : Mem} (sm : Same H H') (m : RM K H ρ M) : Grow K H ρ H' ρ ∧ RM K H' ρ M := by
  have g : Grow K H ρ H' ρ := ⟨⟨[], by simp⟩, fun _ _ t => Same.tup sm t, fun a o e _ _ => sm a o e, fun _ h n => absurd h n, fun c q _ e => sm _ _ e⟩
  refine ⟨g, m.len, fun k o e => ?_, m.nd⟩
  obtain ⟨a, h1, h2⟩ := m.at_ k o e
  refine ⟨a, h1, h2.mono g ?_ fun d q => sm _ _ q⟩
  cases o with
  | lst ts => obtain ⟨xs, z, _⟩ := h2; rw [z]; exact sm _ _ z
  | ins C fs => obtain ⟨dx, gs, z, _⟩ := h2; rw [z]; exact sm _ _ z
  | tab P q => obtain ⟨rfl, ps, z, _⟩ := h2; rw [z]; exact sm _ _ z
  | scr ns k m r => obtain ⟨s, z, _⟩ := h2; rw [z]; exact sm _ _ z
  | dic ps => obtain ⟨kvs, z, _⟩ := h2; rw [z]; exact sm _ _ z
end
/-! ### the drawing state, first in the memory -/
structure Dr where
  m : Int
  k : Int
  xs : List Int
def Dr.ok (d : Dr) : Prop := 0 ≤ d.m ∧ d.m < 2147483647 ∧ 0 ≤ d.k ∧ d.xs.length ≤ 63
def dm (d : Dr) (g : Mem) : Mem := .lst (d.xs.map Tr.int) :: .lst [.int d.m, .ref 0, .int d.k] :: g
theorem dm_app {d : Dr} {g h : Mem} : dm d (g ++ h) = dm d g ++ h := rfl
theorem dm_len {d : Dr} {g : Mem} : List.length (dm d g) = List.length g + 2 := rfl
theorem dm_at {d : Dr} {g h : Mem} {k : Nat} : (dm d g ++ h)[List.length g + (k + 2)]? = h[k]? := by
  have := at_k (M := dm d g) (g := h) (k := k)
  rw [dm_len, Nat.add_assoc, Nat.add_comm 2 k] at this
  exact this
theorem dm_set {d : Dr} {g h : Mem} {k : Nat} {o : O} : (dm d g ++ h).set (List.length g + (k + 2)) o = dm d g ++ h.set k o := by
  have := set_k (M := dm d g) (g := h) (k := k) (o := o)
  rw [dm_len, Nat.add_assoc, Nat.add_comm 2 k] at this
  exact this
section
variable {K : PySem.W.Frag} {H : Hp} {ρ : List Addr}
def fsNext : FSp := fun ts M P _ => ∃ n d g, ts = [.ref 1, .int n] ∧ M = dm d g ∧ d.ok ∧ 0 < n ∧ n ≤ 2000000000000000000 ∧ ∀ r d', d'.ok → 0 ≤ r → r < n → P (.int r) (dm d' g)
theorem simNext : SimSp K spNext fsNext := ⟨fun {H ρ M ts vs P PX Q E} r m h o x => by
  obtain ⟨n, d, g, rfl, rfl, ok, n0, n1, q⟩ := h
  obtain ⟨x1, x2, rfl, r1, r2⟩ := r.two
  obtain ⟨ah, h1, rfl⟩ := r1.ref_inv
  cases r2.int_inv
  obtain ⟨as, s1, xs0, s2, s3⟩ := m.at_ 0 _ rfl
  obtain ⟨ah', h2, ys0, h3, h4⟩ := m.at_ 1 _ rfl
  rw [h1] at h2
  cases h2
  rw [rts_ints_inv s3] at s2
  have e : ys0 = [.int d.m, .ref as, .int d.k] := by
    unfold RTs at h4
    obtain ⟨y1, z1, rfl, k1, h4⟩ := h4
    unfold RTs at h4
    obtain ⟨y2, z2, rfl, k2, h4⟩ := h4
    obtain ⟨y3, rfl, k3⟩ := h4.one
    obtain ⟨as', k4, rfl⟩ := k2.ref_inv
    rw [s1] at k4
    cases k4
    rw [k1.int_inv, k3.int_inv]
  subst e
  have st0 : LSt H ah as := ⟨d.m, d.k, d.xs, h3, s2, ok⟩
  refine ⟨ah, as, n, rfl, st0, n0, n1, fun r H' r0 r1 st bu => ?_⟩
  obtain ⟨m', k', xs', e1, e2, b⟩ := st.ex
  have mh : ah ∈ ρ := List.mem_of_getElem? h1
  have ms : as ∈ ρ := List.mem_of_getElem? s1
  have gr : Grow K H ρ H' ρ := ⟨⟨[], by simp⟩, fun _ _ t => bu.tup st0 t, fun a o e n _ => bu a o (fun z => n (z ▸ mh)) (fun z => n (z ▸ ms)) e, fun _ h n => absurd h n, fun c q i e => bu _ _ (ne_of e h3 (fun z => i.ne.1 _ z)) (ne_of e s2 (fun z => i.ne.1 _ z)) e⟩
  refine o (.int r) (.int r) H' ρ (dm ⟨m', k', xs'⟩ g) gr ⟨m.len, fun j u eu => ?_, m.nd⟩ RT.int_ (q r ⟨m', k', xs'⟩ b r0 r1)
  match j, eu with
  | 0, eu =>
    cases eu
    exact ⟨as, s1, _, e2, rts_ints _⟩
  | 1, eu =>
    cases eu
    exact ⟨ah, h1, _, e1, RTs.cons RT.int_ (RTs.cons (by unfold RT; exact ⟨as, s1, rfl⟩) (RTs.cons RT.int_ RTs.nil))⟩
  | j + 2, eu =>
    obtain ⟨a, h5, h6⟩ := m.at_ (j + 2) u eu
    have n1 : a ≠ ah := fun z => by
      have := nodup_ix m.nd h5 (z ▸ h1)
      omega
    have n2 : a ≠ as := fun z => by
      have := nodup_ix m.nd h5 (z ▸ s1)
      omega
    have ka : H' a = H a := by
      cases u with
      | lst us => obtain ⟨xs, z, _⟩ := h6; rw [z]; exact bu _ _ n1 n2 z
      | ins C fs => obtain ⟨dx, gs, z, _⟩ := h6; rw [z]; exact bu _ _ n1 n2 z
      | tab P q => obtain ⟨rfl, ps, z, _⟩ := h6; rw [z]; exact bu _ _ n1 n2 z
      | scr ns k m r => obtain ⟨s, z, _⟩ := h6; rw [z]; exact bu _ _ n1 n2 z
      | dic ps => obtain ⟨kvs, z, _⟩ := h6; rw [z]; exact bu _ _ n1 n2 z
    exact ⟨a, h5, h6.mono gr ka fun d z => bu _ _ (ne_of z h3 (fun z => nomatch z)) (ne_of z s2 (fun z => nomatch z)) z⟩⟩
def lkT (l : Lk) : Tr := .tup [.int l.1, .int l.2.1, .int l.2.2.1, .int l.2.2.2]
theorem bel_lks {n : Nat} : ∀ ls : List Lk, Tr.bels n (ls.map lkT) = true
  | [] => rfl
  | l :: ls => by
    rw [List.map_cons]
    unfold Tr.bels
    rw [Bool.and_eq_true]
    exact ⟨rfl, bel_lks ls⟩
/-- what stands in a made town -/
def tFT (c : Int) (ls : List Lk) : List (Str × Tr) := [("_count", .int c), ("_bridges", .tup (ls.map lkT))]
end
theorem forget_same {k : Nat} {J : Fm.Loc → Mem → Prop} {L L' : Fm.Loc} {M : Mem} (le : LocLe L' L) (j : J L' M) (hk : k ≤ List.length M ∧ belL (List.length M) L' = true) (hM : belM (List.length M) M = true) : Forget k J L M :=
  ⟨M.length, L', hk.1, le, hk.2, by rw [List.take_length]; exact hM, by rw [List.take_length]; exact j⟩
theorem forget_base {k : Nat} {J : Fm.Loc → Mem → Prop} {L L' : Fm.Loc} {M h : Mem} (hk : k ≤ List.length M) (le : LocLe L' L) (j : J L' M) (bl : belL (List.length M) L' = true) (hM : belM M.length M = true) : Forget k J L (M ++ h) :=
  ⟨M.length, L', hk, le, bl, by rw [List.take_left]; exact hM, by rw [List.take_left]; exact j⟩
theorem keepX_same {H : Hp} {ρ : List Addr} {K : PySem.W.Frag} {M : Mem} {PX : PXF} {D : Addr} {fs : List (Str × Tr)} (m : RM K H ρ M) (b : belF M.length fs = true) (p : PX D fs M) : KeepX M.length PX D fs M :=
  ⟨M.length, Nat.le_refl _, b, by rw [List.take_length]; exact m.belM, by rw [List.take_length]; exact p⟩
theorem insAt_of {M : Mem} {k : Nat} {C : Addr} {fs : List (Str × Tr)} (e : M[k]? = some (.ins C fs)) : insAt M (.ref k) = some (k, C, fs) := by
  rw [insAt_ref, e]
  rfl
theorem insM_of {M : Mem} {k : Nat} {C : Addr} {fs : List (Str × Tr)} (e : M[k]? = some (.ins C fs)) : (insO M[k]?).map (fun p => (k, p.1, p.2)) = some (k, C, fs) := by
  rw [e]
  rfl
theorem at_l {M g : Mem} {k : Nat} {o : O} (e : M[k]? = some o) : (M ++ g)[k]? = some o := by
  rw [List.getElem?_append_left (List.getElem?_eq_some_iff.mp e).1]
  exact e
theorem belM_set {k : Nat} {o : O} (ho : O.bel k o = true) : ∀ {M : Mem} {n : Nat}, belM k M = true → belM k (M.set n o) = true
  | [], _, h => h
  | u :: M, 0, h => by
    unfold belM at h
    rw [Bool.and_eq_true] at h
    show (O.bel k o && belM k M) = true
    rw [ho, h.2]
    rfl
  | u :: M, n + 1, h => by
    unfold belM at h
    rw [Bool.and_eq_true] at h
    show (O.bel k u && belM k (M.set n o)) = true
    rw [h.1, belM_set ho h.2]
    rfl
theorem keep_set {K : PySem.W.Frag} {H : Hp} {ρ : List Addr} {M : Mem} {P : PF} {v : Tr} {n : Nat} {o : O} (m : RM K H ρ M) (b : Tr.bel M.length v = true) (ho : O.bel M.length o = true) (p : P v (M.set n o)) : Keep M.length P v (M.set n o) :=
  keep_whole (by simp) (by rw [List.length_set]; exact b) (by rw [List.length_set]; exact belM_set ho m.belM) p
theorem set_same {M : Mem} {n : Nat} {o u : O} (e : M[n]? = some u) : (M.set n o)[n]? = some o := by rw [List.getElem?_set_self (List.getElem?_eq_some_iff.mp e).1]
theorem int1_i {i : Int} {M : Mem} {P : PF} : fInt1 [.int i] M P ↔ P (.int i) M := by
  unfold fInt1
  simp
def fCVal (K : PySem.W.Frag) (fe : FE) (f : Str) : FE := fun L M P => fe L M fun x M1 => ∃ (C : Addr) (mc : Value) (i : Int) (u : Value), x = .raw (.ref C) ∧ ClX.CRead K C mc ∧ ClX.CVal K C mc f (.int i) u ∧ P (.int i) M1
theorem sim_cval {K : PySem.W.Frag} {B : Bs} {te : TE} {fe : FE} {f : Str} (a : SimE K B te fe) : SimE K B (ClX.tCVal K te f) (fCVal K fe f) := ⟨fun hl hm h o => a.run hl hm h fun x xv H1 ρ1 M1 g1 m1 rx ⟨C, mc, i, u, ex, cr, cv, p⟩ => by
  subst ex
  exact ⟨C, mc, .int i, u, rx.raw_inv, cr, cv, o _ _ _ _ _ g1 m1 RT.int_ p⟩⟩
/-- an expression that is never reached -/
def tNv : TE := fun _ _ _ => False
def fNv : FE := fun _ _ _ => False
theorem pe_nv {X : Cx} {e : Expr} : PE X e tNv := ⟨fun _ _ _ _ _ _ h => h.elim⟩
theorem sim_nv {K : PySem.W.Frag} {B : Bs} : SimE K B tNv fNv := ⟨fun _ _ h _ => h⟩
/-! ### defs out of which an exception may come -/
structure CalX (P : Program) (w : World) (K : PySem.W.Frag) (mg : Str → Option Value) (base : Heap) (CX : CXT) (k : Nat) (x : Str) (sp : Sp) : Prop where
  ex : ∃ (f : Addr) (fd : FuncData) (ps : List Str), FnOk P w K mg base CX k f fd ps sp ∧ mg x = some (.ref f) ∧ PySem.W.keepIn K (.ref f) = true ∧ L2.Binds K fd ps []
structure MetX (P : Program) (w : World) (K : PySem.W.Frag) (mg : Str → Option Value) (base : Heap) (CX : CXT) (k : Nat) (C : Addr) (m : Str) (sp : Sp) : Prop where
  ex : ∃ (f : Addr) (fd : FuncData) (ps : List Str), Cls K C ∧ L2.Meth K C m f ∧ FnOk P w K mg base CX k f fd ps sp ∧ L2.Binds K fd ps []
section
variable {X : Cx} {CX : CXT} {k j : Nat} {x m : Str} {sp : Sp} {E : XK} {t : TA} {ta : TE} {e o : Expr} {es : List Expr} {p pos apos : Pos} {C : Addr}
theorem pe_cX (c : CalX X.prog X.w X.K X.mg X.base CX k x sp) (hr : Room j X.A) (hk : k ≤ j) (hg : Gl X x) (hx : L2.Passes CX X E) (ha : PA X (e :: es) t)
    (hdb : (x == ("__debug__" : Str)) = false := by decide) (he : starEach (e :: es) X.env = (false, eval e X.env) :: starEach es X.env := by rfl) (hpl : (backTo pos (starEach es X.env)).any (·.1) = false := by rfl) :
    PE X (.Call (.Name x p) (e :: es) [] pos) (tCall sp [] E t) := by
  obtain ⟨f, fd, ps, F, hm, kp, b⟩ := c.ex
  exact pe_call F (hr.mono hk) hg hm kp b .nil hx ha hdb he hpl
theorem pe_mX {pl : Sem Bool} (c : MetX X.prog X.w X.K X.mg X.base CX k C m sp) (hr : Room j X.A) (hk : k ≤ j) (hx : L2.Passes CX X E) (he : PE X o ta) (ha : PA X (e :: es) t)
    (hst : starEach (e :: es) X.env = (false, eval e X.env) :: starEach es X.env := by rfl) (hpl : (backTo pos (starEach es X.env)).any (·.1) = false := by rfl)
    (ht : eval (.Call (.Attribute o m apos) (e :: es) [] pos) X.env = (do
      let ov ← eval o X.env
      standAt apos.atName
      let (f, first) ← holding [ov] (getMethod ov m pl)
      callWith pos f first (backTo pos (starEach (e :: es) X.env)) (backToKw pos (keywordEach [] X.env))) := by rfl) :
    PE X (.Call (.Attribute o m apos) (e :: es) [] pos) (tMeth C m sp [] E ta t) := by
  obtain ⟨f, fd, ps, hc, hm, F, b⟩ := c.ex
  exact pe_meth (pl := pl) he hc hm F (hr.mono hk) b .nil hx ha hst hpl ht
theorem pe_mX0 {pl : Sem Bool} (c : MetX X.prog X.w X.K X.mg X.base CX k C m sp) (hr : Room j X.A) (hk : k ≤ j) (hx : L2.Passes CX X E) (he : PE X o ta)
    (ht : eval (.Call (.Attribute o m apos) [] [] pos) X.env = (do
      let ov ← eval o X.env
      standAt apos.atName
      let (f, first) ← holding [ov] (getMethod ov m pl)
      callWith pos f first (backTo pos (starEach [] X.env)) (backToKw pos (keywordEach [] X.env))) := by rfl) :
    PE X (.Call (.Attribute o m apos) [] [] pos) (tMeth C m sp [] E ta tNil) := by
  obtain ⟨f, fd, ps, hc, hm, F, b⟩ := c.ex
  exact pe_meth0 (pl := pl) he hc hm F (hr.mono hk) b .nil hx ht
end
/-- B.__init__(self, ..) by the base's name -/
structure BasX (P : Program) (w : World) (K : PySem.W.Frag) (mg : Str → Option Value) (base : Heap) (CX : CXT) (k : Nat) (B m : Str) (sp : Sp) : Prop where
  ex : ∃ (C f : Addr) (mc : Value) (fd : FuncData) (ps : List Str), mg B = some (.ref C) ∧ ClX.CRead K C mc ∧ PySem.W.findCls K (.ref C) mc m = some (.val (.ref f)) ∧ PySem.W.handedIn (.ref f) = true ∧ PySem.W.keepIn K (.ref f) = true ∧ FnOk P w K mg base CX k f fd ps sp ∧ L2.Binds K fd ps []
section
variable {X : Cx} {CX : CXT} {k j : Nat} {B m : Str} {sp : Sp} {E : XK} {t : TA} {e : Expr} {es : List Expr} {p3 p1 pos : Pos} {pl : Sem Bool}
theorem pe_bX (c : BasX X.prog X.w X.K X.mg X.base CX k B m sp) (hr : Room j X.A) (hk : k ≤ j) (hg : Gl X B) (hx : L2.Passes CX X E) (ha : PA X (e :: es) t)
    (hd : (B == ("__debug__" : Str)) = false := by decide) (he : starEach (e :: es) X.env = (false, eval e X.env) :: starEach es X.env := by rfl) (hpl : (backTo pos (starEach es X.env)).any (·.1) = false := by rfl)
    (hc : eval (.Call (.Attribute (.Name B p3) m p1) (e :: es) [] pos) X.env =
    (eval (.Name B p3) X.env >>= fun ov => standAt p1.atName >>= fun _ => holding [ov] (getMethod ov m pl) >>= fun r => callWith pos r.1 r.2 (backTo pos (starEach (e :: es) X.env)) (backToKw pos (keywordEach [] X.env))) := by rfl) :
    PE X (.Call (.Attribute (.Name B p3) m p1) (e :: es) [] pos) (tCall sp [] E t) := by
  obtain ⟨C, f, mc, fd, ps, hm, r, at_, hh, kp, F, b⟩ := c.ex
  exact XNx.pe_unb (pl := pl) hg hm r at_ kp F (hr.mono hk) b hx ha hh hd he hpl hc
end
theorem pass_no {X : Cx} : L2.Passes (L2.CX X.prog X.w) X (fun _ _ _ => False) := fun _ _ _ _ _ _ _ ⟨_, _, _, _, _, _, _, _, _, _, _, _, h⟩ => h.elim
/-- a class's constant, a number or a text -/
def conV : Tr → V → Prop
  | .int i, v => v = .int i
  | .str z, v => v = .str z
  | _, _ => False
def fConA (K : PySem.W.Frag) (fe : FE) (f : Str) : FE := fun L M P => fe L M fun x M1 => ∃ n C fs t v u, insAt M1 x = some (n, C, fs) ∧ Cls K C ∧ L2.Con K C f v u ∧ fs.lookup f = none ∧ conV t v ∧ P t M1
theorem sim_conA {K : PySem.W.Frag} {B : Bs} {te : TE} {fe : FE} {f : Str} (a : SimE K B te fe) : SimE K B (tCon K te f) (fConA K fe f) := ⟨fun hl hm h o => a.run hl hm h fun x xv H1 ρ1 M1 g1 m1 rx ⟨n, C, fs, t, v, u, e, c, co, lk, cv, p⟩ => by
  obtain ⟨b, dx, gs, rfl, _, _, rfl, h3, _, h4⟩ := insAt_ok m1 rx e
  refine ⟨b, C, dx, gs, v, u, rfl, h3, c, co, h4.lookN lk, ?_⟩
  cases t with
  | int i => cases cv; exact o _ _ _ _ _ g1 m1 RT.int_ p
  | str z => cases cv; exact o _ _ _ _ _ g1 m1 RT.str_ p
  | _ => exact cv.elim⟩
/-- an error, raised where nothing is handled -/
theorem fun_okC {CX : CXT} {P : Program} {w : World} {K : PySem.W.Frag} {mg : Str → Option Value} {base : Heap} {x qual : Str} {st : Stmt} {f : Addr} {fd : FuncData} {N ps : List Str} {k : Nat} {sp : Sp} (F : L2.Fun K x qual st f fd) (S : FnScope N ps (L2.defScope st)) (len : ∀ vs H Q E, sp vs H Q E → vs.length = ps.length)
    (hbody : ∀ (cdv : Value) (A : Around) (outer : List Env) (s : Shared) (H : Hp) (vs : List V) (Q : VK) (E : XK), Room k (A.deeper (envOfC qual (L2.defScope st) s.heap.objs.size f cdv)) → sp vs H Q E →
      ∃ t, PSs (cxOf CX P w K mg base N qual (L2.defScope st) f cdv A outer s H E) (L2.defBody st) t ∧ t { nx := fun _ H' => Q .non H', rt := Q } (L2.start N vs) H) : FnOk P w K mg base CX (k + 1) f fd ps sp := by
  obtain ⟨oc, od, kV, doc, pm, an, cdv, ct, osl, rfl, lk, hcd⟩ := F.ex
  exact fn_of lk hcd S len fun A outer s H vs Q E hr hsp => hbody cdv A outer s H vs Q E hr hsp
/-- the built-in names and the numbers of the modules -/
theorem belM_dm {n : Nat} {d d' : Dr} {g : Mem} (h : belM n (dm d g) = true) : belM n (dm d' g) = true := by
  unfold dm belM at h ⊢
  unfold belM at h ⊢
  simp only [O.bel, bels_ints, Tr.bels, Tr.bel, Bool.true_and, Bool.and_true] at h ⊢
  exact h
theorem dm_at0 {d : Dr} {g h : Mem} : (dm d g ++ h)[List.length g + 2]? = h[0]? := dm_at (k := 0)
theorem dm_set0 {d : Dr} {g h : Mem} {o : O} : (dm d g ++ h).set (List.length g + 2) o = dm d g ++ h.set 0 o := dm_set (k := 0)
theorem forget_dm {k : Nat} {J : Fm.Loc → Mem → Prop} {L L' : Fm.Loc} {d d' : Dr} {g h rest : Mem} (hk : k ≤ List.length g + 2 + List.length h) (le : LocLe L' L) (j : J L' (dm d' g ++ h)) (bl : belL (List.length g + 2 + List.length h) L' = true)
    (hM : belM (dm d g).length (dm d g) = true) (hg : belM (List.length g + 2 + List.length h) h = true) : Forget k J L (dm d' g ++ (h ++ rest)) :=
  forget_to (M := dm d' g) hk le j bl (belM_dm hM) hg
section
variable {K : PySem.W.Frag}
theorem keep_dm {H : Hp} {ρ : List Addr} {d d' : Dr} {g h : Mem} {P : PF} {v : Tr} (m : RM K H ρ (dm d g)) (b : Tr.bel (List.length g + 2) v = true) (p : P v (dm d' g)) : Keep (List.length g + 2) P v (dm d' g ++ h) :=
  ⟨(dm d' g).length, Nat.le_refl _, b, by rw [List.take_left]; exact belM_dm m.belM, by rw [List.take_left]; exact p⟩
theorem next_at {n : Int} {d : Dr} {g h : Mem} {P : PF} {PX : PXF} (hd : d.ok) (n0 : 0 < n) (n1 : n ≤ 2000000000000000000) (q : ∀ r d', d'.ok → 0 ≤ r → r < n → P (.int r) (dm d' g ++ h)) : fsNext [.ref 1, .int n] (dm d g ++ h) P PX :=
  ⟨n, d, g ++ h, rfl, rfl, hd, n0, n1, q⟩
theorem next_0 {n : Int} {d : Dr} {g : Mem} {P : PF} {PX : PXF} (hd : d.ok) (n0 : 0 < n) (n1 : n ≤ 2000000000000000000) (q : ∀ r d', d'.ok → 0 ≤ r → r < n → P (.int r) (dm d' g)) : fsNext [.ref 1, .int n] (dm d g) P PX :=
  ⟨n, d, g, rfl, rfl, hd, n0, n1, q⟩
end
section
variable {X : Cx} {K : PySem.W.Frag}
theorem ix_listK (h : X.K = K) : IxR X (rIxL K) := by subst h; exact ix_list
theorem ix_tupK (h : X.K = K) : IxR X (rIxT K) := by subst h; exact ix_tup
theorem ix_seqK (h : X.K = K) : IxR X (rIx K) := by subst h; exact ix_seq
end
/-- range with a step -/
def stpT (i c : Int) (n : Nat) : List Tr := (List.range n).map fun (k : Nat) => Tr.int (i + (k : Int) * c)
def fIR3 (fa : FA) : FI := fun L M R => fa L M fun vs M1 => ∃ (i j c : Int) (n : Nat), vs = [.int i, .int j, .int c] ∧ RgC i j c n ∧ R ⟨stpT i c n, fun _ => True⟩ M1
theorem stpT_get {i c : Int} {n k : Nat} {t : Tr} (e : (stpT i c n)[k]? = some t) : k < n ∧ t = .int (i + (k : Int) * c) := by
  unfold stpT at e
  by_cases h : k < n
  · rw [List.getElem?_map, List.getElem?_range h] at e
    cases e
    exact ⟨h, rfl⟩
  · rw [List.getElem?_eq_none (by rw [List.length_map, List.length_range]; omega)] at e
    cases e
theorem stpT_len (i c : Int) (n : Nat) : (stpT i c n).length = n := by unfold stpT; rw [List.length_map, List.length_range]
theorem i_rng3 {K : PySem.W.Frag} {B : Bs} {ta : TA} {fa : FA} (a : SimA K B ta fa) : SimI K B (iRng3 ta) (fIR3 fa) := ⟨fun hl hm h k => a.run hl hm h fun xs xvs H1 ρ1 M1 g1 m1 rx ⟨i, j, c, n, e, q, r⟩ => by
  subst e
  unfold RTs at rx
  obtain ⟨x, ys, rfl, r1, rx⟩ := rx
  obtain ⟨y, z, rfl, r2, r3⟩ := rx.two
  refine ⟨i, j, c, n, by rw [r1.int_inv, r2.int_inv, r3.int_inv], q, k _ _ (fun _ _ => True) H1 ρ1 M1 g1 m1 ⟨fun _ s => s, fun _ _ _ => ?_, fun _ _ _ e => ?_, fun {H ρ M k t x H'} _ hm _ e y => ?_⟩ trivial r⟩
  · show n ≤ (stpT i c n).length
    rw [stpT_len]
    exact Nat.le_refl _
  · exact (stpT_get e).1
  · obtain ⟨rfl, rfl⟩ := y
    rw [(stpT_get e).2]
    exact ⟨Grow.refl, hm, RT.int_⟩⟩
/-- an error without a def of its own -/
structure OErr (K : PySem.W.Frag) (mg : Str → Option Value) (x : Str) (C : Addr) : Prop where
  g : mg x = some (.ref C)
  q : PySem.W.excIn K C [.type "ValueError", .type "Exception", .type "BaseException", .type "object"] "ValueError.__new__" = true
  k : PySem.W.keepIn K (.ref C) = true
  s : PySem.W.subIn K (.ref C) (.type "BaseException") = some true
  t : PySem.W.typeIn K (.ref C) = some (.type "type")
def fRaise0 (C : Addr) (PX : PXF) : FS := fun _ _ M => PX C [] M
section
variable {K : PySem.W.Frag} {B : Bs}
theorem sim_raise0 {C : Addr} {E : XK} {PX : PXF} (hE : OutX K B.1 B.2 PX E) : SimS K B (fun _ σ H => (fun (_ : L2.St) (H : Hp) (Q : Value → Option Addr → Hp → Prop) => Q (.ref C) none H) σ H fun cls d H' => E cls d H') (fRaise0 C PX) := ⟨fun hl hm p e => hE C [] none _ _ _ hl.gr hm (.inl ⟨rfl, rfl⟩) p⟩
end
/-- the addresses of the errors -/
structure ErrC where
  place : Addr
  bridge : Addr
  load : Addr
/-- the built-in names, the module's numbers, its errors -/
structure BR (K : PySem.W.Frag) (mg : Str → Option Value) (cs : ErrC) : Prop where
  len : mg "len" = none
  int : mg "int" = none
  max : mg "max" = none
  min : mg "min" = none
  range : mg "range" = none
  list : mg "list" = none
  tuple : mg "tuple" = none
  dict : mg "dict" = none
  str : mg "str" = none
  bool : mg "bool" = none
  set : mg "set" = none
  zip : mg "zip" = none
  reversed : mg "reversed" = none
  isinstance : mg "isinstance" = none
  enumerate : mg "enumerate" = none
  sorted : mg "sorted" = none
  sum : mg "sum" = none
  heappush : mg "heappush" = some (.builtin "_heapq.heappush")
  heappop : mg "heappop" = some (.builtin "_heapq.heappop")
  g_MAX_LOAD : ∃ u, mg "MAX_LOAD" = some u ∧ RelV (.int 9) u
  g_MAX_LENGTH : ∃ u, mg "MAX_LENGTH" = some u ∧ RelV (.int 99) u
  e_UnknownPlace : OErr K mg "UnknownPlace" cs.place
  e_UnknownBridge : OErr K mg "UnknownBridge" cs.bridge
  e_InvalidLoad : OErr K mg "InvalidLoad" cs.load
end T1

set_option Elab.async false
set_option linter.all false
set_option maxRecDepth 100000
set_option maxHeartbeats 4000000
namespace T1
open PySem PySem.Spec PyProof.Rows L2 C8 Fm
structure MakX (P : Program) (w : World) (K : PySem.W.Frag) (mg : Str → Option Value) (base : Heap) (CX : CXT) (k : Nat) (x : Str) (C : Addr) (sp : Sp) : Prop where
  ex : ∃ (f : Addr) (fd : FuncData) (ps : List Str), L2.Mk K C f ∧ FnOk P w K mg base CX k f fd ps sp ∧ mg x = some (.ref C) ∧ L2.Binds K fd ps []
section
variable {X : Cx} {CX : CXT} {k j n : Nat} {x : Str} {C : Addr} {sp : Sp} {E : XK} {t tk : TA} {e : Expr} {es : List Expr} {p pos : Pos}
theorem pe_mkX (c : MakX X.prog X.w X.K X.mg X.base CX k x C sp) (hr : Room j X.A) (hk : k + 1 ≤ j) (hg : Gl X x) (hx : L2.Passes CX X E) (ha : PA X (e :: es) t)
    (hdb : (x == ("__debug__" : Str)) = false := by decide) (he : starEach (e :: es) X.env = (false, eval e X.env) :: starEach es X.env := by rfl) (hpl : (backTo pos (starEach es X.env)).any (·.1) = false := by rfl) :
    PE X (.Call (.Name x p) (e :: es) [] pos) (tMake C sp [] E t) := by
  obtain ⟨f, fd, ps, M, F, hm, b⟩ := c.ex
  exact pe_make M F (hr.mono hk) hg hm b .nil hx ha hdb he hpl
end
structure PrpX (P : Program) (w : World) (K : PySem.W.Frag) (mg : Str → Option Value) (base : Heap) (CX : CXT) (k : Nat) (C : Addr) (m : Str) (sp : Sp) : Prop where
  ex : ∃ (p g : Addr) (fd : FuncData) (ps : List Str), Cls K C ∧ L2.PropOf K C m p g ∧ FnOk P w K mg base CX k g fd ps sp ∧ L2.Binds K fd ps []
theorem pe_prX {X : Cx} {CX : CXT} {k j : Nat} {C : Addr} {m : Str} {sp : Sp} {E : XK} {e : Expr} {ta : TE} {pos : Pos} (c : PrpX X.prog X.w X.K X.mg X.base CX k C m sp) (he : PE X e ta) (hr : Room j X.A) (hk : k + 1 ≤ j) (hx : L2.Passes CX X.nox E)
    (hab : attributeBase e m X.env (eval e X.env) = eval e X.env := by rfl) : PE X (.Attribute e m pos) (tProp C sp [] E ta) := by
  obtain ⟨p, g, fd, ps, hc, hp, F, b⟩ := c.ex
  exact pe_prop he hc hp F (hr.mono hk) b .nil hx hab
/-- a statement that is never reached -/
theorem ps_nv {X : Cx} {st : Stmt} : PS X st tNever := ⟨fun _ _ _ _ _ _ h => h.elim⟩
/-- a static method read off an object -/
def fPlain (C : Addr) (m : Str) (fsp : FSp) (fe : FE) (fa : FA) : FE := fun L M P => fe L M fun x M1 => ∃ n fs, insAt M1 x = some (n, C, fs) ∧ fs.lookup m = none ∧ fa L M1 fun ts M2 => fsp ts M2 P noX
theorem sim_plain {K : PySem.W.Frag} {B : Bs} {C : Addr} {m : Str} {fsp : FSp} {E : XK} {te : TE} {fe : FE} {ta : TA} {fa : FA} (a : SimE K B te fe) (b : SimA K B ta fa) :
    SimE K B (tPlain (fun x H => ∃ a dx fs, x = .ref a ∧ H a = some (.ins C dx fs) ∧ fs.lookup m = none) (spF K fsp) E te ta) (fPlain C m fsp fe fa) := ⟨fun hl hm h o => a.run hl hm h fun x xv H1 ρ1 M1 g1 m1 rx ⟨n, fs, e, lk, p⟩ => by
  obtain ⟨b', dx, gs, rfl, _, _, rfl, h3, _, h4⟩ := insAt_ok m1 rx e
  refine ⟨⟨_, _, _, rfl, h3, h4.lookN lk⟩, b.run (hl.mono g1) m1 p fun ts vs H2 ρ2 M2 g2 m2 rs p2 => ?_⟩
  rw [List.append_nil]
  exact simSpF.run rs m2 p2 (o.step (g1.trans g2)) outX_no⟩
local macro_rules | `(tactic| walk_at "sim1") => `(tactic| with_reducible first
  | exact sim_nil | exact sim_var | exact sim_int | exact sim_str | exact sim_bl | exact sim_non | exact sim_raw
  | apply sim_cons | apply sim_op | apply sim_un | apply sim_tup | apply sim_lst
  | apply sim_CB | apply sim_if | apply sim_test | apply sim_B | apply sim_not | apply sim_and | apply sim_or
  | apply sim_andV | apply sim_orV | apply sim_notV | apply sim_chain | exact sim_nopart | apply sim_part
  | apply sim_sl | apply sim_BML | apply sim_BMS | apply sim_BM0S | apply sim_M1 | apply sim_M0
  | apply sim_fmt | apply sim_joined | exact SimJ.nil | apply SimJ.cons
  | exact s_I0i | exact s_I0b | exact s_Ii | exact s_Ui | exact s_eq | exact s_ne | exact s_isN | exact s_notN | exact s_ixL | exact s_ixT | exact s_ixS
  | exact s_cat | exact s_catA | exact s_rep | exact s_repT | exact s_in | exact s_slL | exact s_slA | exact s_slS | exact s_addS | exact s_leS | exact s_ltS
  | exact c_len | exact c_lenS | exact c_list | exact c_tuple | exact c_int1 | exact c_intS | exact c_strI | exact c_max2 | exact c_min2
  | exact m_append | exact m_extend | exact m_split | exact m_join | exact m_0b | exact m_1b
  | apply sim_call | exact simSpF
  | exact sim_name | exact sim_gnil | apply sim_gcons | apply sim_gtup | apply sim_gsub | exact set_list
  | exact sim_next | apply sim_seq | apply sim_cut | exact sim_break | exact sim_cont | apply sim_drop | apply sim_ret | exact sim_retN
  | apply sim_ifS | exact sim_never | apply sim_asg | apply sim_par | apply sim_aug
  | apply sim_for | apply sim_while | apply i_list | apply i_tup | apply i_rng1 | apply i_rng2 | apply i_str | apply i_enum | apply i_zip
  | apply sim_lc | exact sim_yes | exact sim_namew (by decide) | exact sim_gnilw | apply sim_gconsw | apply sim_gtupw
  | apply sim_fld | apply sim_con | apply sim_setFld | apply sim_make | apply sim_prop | apply sim_meth | apply sim_cmeth | exact c_isi | apply sim_isiT | exact s_eqD | exact s_neD
  | walk_at "sim2")
local macro_rules | `(tactic| walk_at "sim2") => `(tactic| fail)
local macro_rules | `(tactic| walk_at "sim") => `(tactic| repeat' (walk_at "sim1"))
/-- open the trees' reading as far as it goes by itself -/
local macro_rules | `(tactic| walk_at "fm") => `(tactic| simp (config := { failIfUnchanged := false }) only [fVar, fC, fOp, fUn, fNil, fCons, fTup, fLst, fCB, fIf, fTest, fNot, fAnd, fOr, fAndV, fOrV, fNotV, fChain, fNoPart, fPart, fI, fI0, fU, fEq, fNe, fIsN, fNotN, fIxL, fIxT, fIxS,
  fCat, fCatA, fRep, fRepT, fSlL, fSlA, fSlS, fSl, fLen, fLenS, fList, fTuple, fIntS, fStrI, fMax2, fMin2, fAppend, fExtend, fIn, fBM, fMS, fBMS, fBM0S, fAddS, fLeS, fLtS, fM0b, fM1b, fSplit, fJoin, fJoined, fJs,
  fName, fGNil, fGCons, fGTup, fSetL, fGSub, fNext, fSeq, fCut, fBreak, fCont, fDrop, fRet, fRetN, fIfS, fAsg, fPar, fAug, fCall, fFld, fCon, fSetFld, fMake, fProp, fMeth, fCMeth, fIsi, fIsiT, fEqD, fNeD, insAt_ref, insO_ins, fFmt, fmtS_i, fmtS_s, fmtOk_i, fmtOk_s, fIL, fIT, fIR1, fIR2, fIS, fIEn, fIZ,
  startL, List.map_cons, List.map_nil, List.length_cons, List.length_nil, List.cons_append, List.nil_append, List.replicate, List.getElem?_cons_zero, List.getElem?_cons_succ, List.set_cons_zero, List.set_cons_succ, Nat.reduceSub, Nat.reduceAdd,
  Option.some.injEq, Tr.int.injEq, Tr.str.injEq, Tr.bl.injEq, Tr.tup.injEq, Tr.ref.injEq, List.cons.injEq, exists_eq_left, exists_eq_left', exists_eq_right, true_and, and_true, and_self, exists_and_left, tupOf_tup, eqS_ii, eqS_ss, eqS_bb, eqS_ni, eqS_in, eqS_nn, isStr_s, isN_n, isN_i, isN_b, isN_s, isN_t, isN_r, noRaw_n, noRaw_i, noRaw_b, noRaw_s, noRaw_t, noRaw_r, and_assoc, reduceIte, Bool.false_eq_true, exists_const, lstAt_ref, seqAt_ref, seqAt_tup, refAt_ref, lstO_lst, app_assoc2, len_app1, at_kk, at_00, set_k, set_00, Nat.add_assoc, Option.map_some, Prod.mk.injEq, int_cast_inj, Nat.zero_le, decide_eq_true_eq, Bool.not_eq_true', decide_eq_false_iff_not, Nat.add_zero, implies_true, forall_const, ite_true, ite_false, if_true, if_false, decide_true, decide_false, Bool.not_true, Bool.not_false, asg_len, Option.isSome_some])
local macro_rules | `(tactic| walk_at "bel") => `(tactic| first | rfl | (simp (config := { failIfUnchanged := false }) only [belM, O.bel, bels_strs, bels_ints, belL, Tr.bel, Tr.bels, Bool.and_true, Bool.true_and, Bool.and_self, decide_eq_true_eq, Bool.and_eq_true, true_and, and_true, List.length_cons, List.length_nil, Nat.reduceAdd]; try omega))

local macro_rules | `(tactic| walk_at "sim2") => `(tactic| first | exact simNext | assumption | apply sim_match | apply SimM2.cons | exact SimM2.nil | apply i_enumT | apply sim_truS | apply sim_listG | apply sim_lcG | apply sim_eitherG | apply sim_methG | apply sim_methJ | apply sim_either | apply sim_sortKey | apply sim_sortSet | (apply sim_raise0; assumption) | apply sim_plain | apply sim_cval)
local macro_rules | `(tactic| walk_at "sim1") => `(tactic| first | (with_reducible apply sim_callX; assumption) | (with_reducible apply sim_methX; assumption) | (with_reducible apply sim_makeX; assumption) | (with_reducible apply sim_makeKX; assumption) | (with_reducible apply sim_makeVSX; assumption) | (with_reducible apply sim_conA) | (with_reducible apply sim_sortSet))
local macro_rules | `(tactic| walk_at "fm2") => `(tactic| simp (config := { failIfUnchanged := false }) only [dm_app, dm_len, dm_at, dm_at0, dm_set, dm_set0, List.getElem?_cons_zero, List.getElem?_cons_succ, List.set_cons_zero, List.set_cons_succ, lstO_lst, Option.isSome_some, Option.map_some, Option.some.injEq, Prod.mk.injEq, Nat.add_assoc, Nat.reduceAdd, exists_eq_left', exists_eq_left, true_and, and_assoc, fRaise0, fPlain, fCVal, fNv, int1_i, fEither, fTruS, fIEnT, fMatch, fGoM, setAllT, fMakeK, fMakeVS, fMethJ, fEitherG, fListG, fSortKey, fSortSet, fConA])
local macro_rules | `(tactic| walk_at "fd") => `(tactic| (walk_at "fm"; walk_at "fm2"; walk_at "fm"; walk_at "fm2"; walk_at "fm"))

/-! ### towns -/
def goodLk (c : Int) (l : Lk) : Prop := 0 ≤ l.1 ∧ l.1 < c ∧ 0 ≤ l.2.1 ∧ l.2.1 < c ∧ l.1 ≠ l.2.1 ∧ 1 ≤ l.2.2.1 ∧ l.2.2.1 ≤ 99 ∧ 0 ≤ l.2.2.2 ∧ l.2.2.2 ≤ 1000000000000000000
structure okTown (c : Int) (ls : List Lk) : Prop where
  c0 : 1 ≤ c
  c1 : c ≤ 12
  len : ls.length ≤ 24
  good : ∀ l ∈ ls, goodLk c l
theorem lk_bridges {c : Int} {ls : List Lk} : (tFT c ls).lookup ("_bridges" : Str) = some (.tup (ls.map lkT)) := by
  unfold tFT
  rw [List.lookup_cons, show (("_bridges" : Str) == "_count") = false by decide +kernel]
  rfl
theorem keep_bl {K : PySem.W.Frag} {H : Hp} {ρ : List Addr} {M : Mem} {P : PF} {b c : Bool} (m : RM K H ρ M) (q : P (.bl b) M) (e : c = b) : Keep (List.length M) P (.bl c) M := by
  subst e
  exact keep_same m rfl q
structure TownC (K : PySem.W.Frag) (mg : Str → Option Value) (C pS gS : Addr) : Prop where
  cl : Cls K C
  g : mg "Town" = some (.ref C)
  rd : ClX.CRead K C (.type "type")
  n1 : NoAttr K C "_count"
  n2 : NoAttr K C "_bridges"
  mp : ∃ u, L2.Con K C "MAX_PLACES" (.int 12) u
  mb : ∃ u, L2.Con K C "MAX_BRIDGES" (.int 24) u
  ml : ∃ u, ClX.CVal K C (.type "type") "MAX_LIFE" (.int 1000000000000000000) u
  st : SInst K C "is_bridge" pS gS
  kp : PySem.W.keepIn K (.ref gS) = true
/-- a town that stands at a number -/
def TownAt (C : Addr) (M : Mem) (n : Nat) (c : Int) (ls : List Lk) : Prop := M[n]? = some (.ins C (tFT c ls)) ∧ okTown c ls
theorem TownAt.app {C : Addr} {M g : Mem} {n : Nat} {c : Int} {ls : List Lk} (h : TownAt C M n c ls) : TownAt C (M ++ g) n c ls := ⟨at_l h.1, h.2⟩
def fsIsB : FSp := fun ts M P _ => ∃ (c : Int) (l : Lk), ts = [.int c, lkT l] ∧ goodLk c l ∧ P (.bl true) M
def fsTi (C : Addr) : FSp := fun ts M P _ => ∃ (n : Nat) (c : Int) (ls : List Lk), ts = [.ref n, .int c, .tup (ls.map lkT)] ∧ M[n]? = some (.ins C []) ∧ okTown c ls ∧ P .non (M.set n (.ins C (tFT c ls)))
def fsPlaces (C : Addr) : FSp := fun ts M P _ => ∃ (n : Nat) (c : Int) (ls : List Lk), ts = [.ref n] ∧ TownAt C M n c ls ∧ P (.int c) M
def fsBridges (C : Addr) : FSp := fun ts M P _ => ∃ (n : Nat) (c : Int) (ls : List Lk), ts = [.ref n] ∧ TownAt C M n c ls ∧ P (.tup (ls.map lkT)) M
section
variable {P : Program} {w : World} {K : PySem.W.Frag} {mg : Str → Option Value} {base : Heap} {C pS gS : Addr} {cs : ErrC}
theorem scIsB : FnScope ["count", "bridge", "one", "other", "length", "life"] ["count", "bridge"] (L2.defScope s_Town_is_bridge) := ⟨rfl, rfl, rfl, by decide +kernel, rfl, by decide +kernel, by decide +kernel⟩
theorem ok_isB {f : Addr} {fd : FuncData} (F : L2.Fun K "is_bridge" "Town.is_bridge" s_Town_is_bridge f fd) (T : BR K mg cs) (TT : TownC K mg C pS gS) : FnOk P w K mg base L2.CX0 1 f fd ["count", "bridge"] (spF K fsIsB) := by
  refine F.ok scIsB (fun vs H Q E h => ?_) (fun cdv A outer s H vs Q E hr h => ?_)
  · obtain ⟨ts, ρ, M, P, PX, r, m, ⟨c, l, rfl, _⟩, o, ox⟩ := h
    exact r.len
  · refine ⟨_, (pss_cons (ps_if (pt_cmpR op_ne (pe_callB call_len_seq (by rfl) T.len PySem.boot_len (pa_cons (pv 1) pa_nil)) pe_int (nomark _)) (pss_one (ps_ret pe_bl)) pss_nil)
 (pss_cons (ps_asg (pv 1) (pg_tup rfl (pgs_cons (pg_name (i := 2) scIsB.nd rfl (Or.inl rfl)) (pgs_cons (pg_name (i := 3) scIsB.nd rfl (Or.inl rfl)) (pgs_cons (pg_name (i := 4) scIsB.nd rfl (Or.inl rfl)) (pgs_cons (pg_name (i := 5) scIsB.nd rfl (Or.inl rfl)) pgs_nil))))))
 (pss_cons (ps_if (PW.pt (pw_or (pt_not (pt_chain op_le op_lt pe_int (pv 2) (pv 0))) (pw_or (pt_not (pt_chain op_le op_lt pe_int (pv 3) (pv 0))) (pw_or1 (pt_cmpR op_eq (pv 2) (pv 3) (nomark _)))))) (pss_one (ps_ret pe_bl)) pss_nil)
 (pss_one (ps_ret (pe_and (pe_chain op_le op_le pe_int (pv 4) (pe_gc (v := .int 99) (by rfl) T.g_MAX_LENGTH)) (pe_one (pe_chain op_le op_le pe_int (pv 5) (ClX.pe_cval (pe_gc (v := .ref C) (by rfl) ⟨_, TT.g, rfl⟩ (by decide))))))))))), ?_⟩
    obtain ⟨ts, ρ, M, P, PX, r, m, ⟨c, l, rfl, ⟨h1, h2, h3, h4, h5, h6, h7, h8, h9⟩, q⟩, o, ox⟩ := h
    try simp only [nox_K, cx_K]
    refine run_in r m o (by walk_at "sim") ?_
    walk_at "fd"
    refine ⟨_, rfl, ?_⟩
    rw [if_neg (by simp)]
    refine ⟨_, rfl, rfl, _, _, rfl, _, _, rfl, _, _, rfl, _, _, rfl, rfl, _, rfl, ?_⟩
    rw [if_pos h1]
    refine ⟨_, rfl, ?_⟩
    rw [if_neg (fun z => z h2)]
    refine ⟨_, rfl, ?_⟩
    rw [if_pos h3]
    refine ⟨_, rfl, ?_⟩
    rw [if_neg (fun z => z h4)]
    refine ⟨decide (l.1 = l.2.1), rfl, ?_⟩
    rw [if_neg (by simpa using h5)]
    obtain ⟨u, hu⟩ := TT.ml
    refine ⟨_, rfl, ?_⟩
    rw [if_pos h6]
    refine ⟨_, rfl, ?_⟩
    rw [if_pos h7]
    refine ⟨_, rfl, ?_⟩
    rw [if_pos h8]
    refine ⟨C, rfl, _, TT.rd, _, u, hu, _, rfl, keep_bl m q ?_⟩
    exact decide_eq_true h9
theorem scPlaces : FnScope ["self"] ["self"] (L2.defScope s_Town_place_count) := ⟨rfl, rfl, rfl, by decide +kernel, rfl, by decide +kernel, by decide +kernel⟩
theorem ok_places {f : Addr} {fd : FuncData} (F : L2.Fun K "place_count" "Town.place_count" s_Town_place_count f fd) (T : BR K mg cs) (TT : TownC K mg C pS gS) : FnOk P w K mg base L2.CX0 1 f fd ["self"] (spF K (fsPlaces C)) := by
  refine F.ok scPlaces (fun vs H Q E h => ?_) (fun cdv A outer s H vs Q E hr h => ?_)
  · obtain ⟨ts, ρ, M, P, PX, r, m, ⟨n, c, ls, rfl, _⟩, o, ox⟩ := h
    exact r.len
  · refine ⟨_, (pss_one (ps_ret (pe_fld (pv 0) rfl))), ?_⟩
    obtain ⟨ts, ρ, M, P, PX, r, m, ⟨n, c, ls, rfl, ⟨hn, ok⟩, q⟩, o, ox⟩ := h
    try simp only [nox_K, cx_K]
    refine run_in r m o (by walk_at "sim") ?_
    walk_at "fd"
    exact ⟨n, C, _, insM_of hn, TT.cl, TT.n1, _, rfl, keep_same m rfl q⟩
theorem scBridges : FnScope ["self"] ["self"] (L2.defScope s_Town_bridges) := ⟨rfl, rfl, rfl, by decide +kernel, rfl, by decide +kernel, by decide +kernel⟩
theorem ok_bridges {f : Addr} {fd : FuncData} (F : L2.Fun K "bridges" "Town.bridges" s_Town_bridges f fd) (T : BR K mg cs) (TT : TownC K mg C pS gS) : FnOk P w K mg base L2.CX0 1 f fd ["self"] (spF K (fsBridges C)) := by
  refine F.ok scBridges (fun vs H Q E h => ?_) (fun cdv A outer s H vs Q E hr h => ?_)
  · obtain ⟨ts, ρ, M, P, PX, r, m, ⟨n, c, ls, rfl, _⟩, o, ox⟩ := h
    exact r.len
  · refine ⟨_, (pss_one (ps_ret (pe_fld (pv 0) rfl))), ?_⟩
    obtain ⟨ts, ρ, M, P, PX, r, m, ⟨n, c, ls, rfl, ⟨hn, ok⟩, q⟩, o, ox⟩ := h
    try simp only [nox_K, cx_K]
    refine run_in r m o (by walk_at "sim") ?_
    walk_at "fd"
    exact ⟨n, C, _, insM_of hn, TT.cl, TT.n2, .tup (ls.map lkT), lk_bridges, keep_same m (bel_lks ls) q⟩
theorem scTi : FnScope ["self", "count", "bridges", "index", "bridge"] ["self", "count", "bridges"] (L2.defScope s_Town___init__) := ⟨rfl, rfl, rfl, by decide +kernel, rfl, by decide +kernel, by decide +kernel⟩
theorem ok_Ti {f : Addr} {fd fdS : FuncData} (F : L2.Fun K "__init__" "Town.__init__" s_Town___init__ f fd) (T : BR K mg cs) (TT : TownC K mg C pS gS) (FS : FnOk P w K mg base L2.CX0 1 gS fdS ["count", "bridge"] (spF K fsIsB)) (bS : Binds K fdS ["count", "bridge"] []) :
    FnOk P w K mg base L2.CX0 2 f fd ["self", "count", "bridges"] (spF K (fsTi C)) := by
  refine F.ok scTi (fun vs H Q E h => ?_) (fun cdv A outer s H vs Q E hr h => ?_)
  · obtain ⟨ts, ρ, M, P, PX, r, m, ⟨n, c, ls, rfl, _⟩, o, ox⟩ := h
    exact r.len
  · refine ⟨_, (pss_cons (ps_if (pt_not (pt_chain op_le op_le pe_int (pv 1) (pe_con (pv 0) rfl))) (pss_one ps_nv) pss_nil)
 (pss_cons (ps_for PassesOwn.never rfl (pi_enumT (by rfl) T.enumerate (pa_cons (pv 2) pa_nil)) (pg_tup rfl (pgs_cons (pg_name (i := 3) scTi.nd rfl (Or.inl rfl)) (pgs_cons (pg_name (i := 4) scTi.nd rfl (Or.inl rfl)) pgs_nil))) (pss_one (ps_if (PW.pt (pw_or (pt_cmpR op_eq (pv 3) (pe_con (pv 0) rfl) (nomark _)) (pw_or1 (pt_not (pt_val (pe_plain (pv 0) (hands_inst TT.st) TT.kp FS (hr.mono (by decide)) bS L2.pass0 (pa_cons (pv 1) (pa_cons (pv 4) pa_nil)))))))) (pss_one ps_nv) pss_nil)))
 (pss_cons (ps_fld (pv 0) (pv 1) rfl)
 (pss_one (ps_fld (pv 0) (pe_callTy call_tuple_of (by rfl) T.tuple (by decide +kernel) (pa_cons (pv 2) pa_nil)) rfl))))), ?_⟩
    obtain ⟨ts, ρ, M, P, PX, r, m, ⟨n, c, ls, rfl, hn, ok, q⟩, o, ox⟩ := h
    try simp only [nox_K, cx_K]
    refine run_in r m o (by walk_at "sim") ?_
    walk_at "fd"
    have hM := m.belM
    obtain ⟨u12, hmp⟩ := TT.mp
    obtain ⟨u24, hmb⟩ := TT.mb
    have hnl : n < List.length M := (List.getElem?_eq_some_iff.mp hn).1
    rw [if_pos ok.c0]
    refine ⟨n, C, [], insM_of hn, TT.cl, .int 12, _, u12, hmp, rfl, rfl, _, rfl, ?_⟩
    rw [if_neg (fun z => z ok.c1)]
    unfold fFor
    walk_at "fd"
    refine ⟨fun i L2 M2 => ∃ v3 v4, L2 = [some (Tr.ref n), some (Tr.int c), some (Tr.tup (List.map lkT ls)), v3, v4] ∧ M2 = M, ⟨none, none, rfl, rfl⟩, ?_, ?_⟩
    · rintro i t L2 M2 ht ⟨v3, v4, rfl, rfl⟩
      obtain ⟨y, hy, rfl⟩ := enumT_get ht
      rw [List.getElem?_map] at hy
      cases hl : ls[i]? with
      | none => rw [hl] at hy; cases hy
      | some l =>
        rw [hl] at hy
        cases hy
        have hi := (List.getElem?_eq_some_iff.mp hl).1
        have h24 := ok.len
        refine ⟨_, rfl, rfl, _, _, rfl, _, _, rfl, rfl, _, rfl, _, rfl, n, C, [], insAt_of hn, TT.cl, .int 24, _, u24, hmb, rfl, rfl, _, rfl, ?_⟩
        rw [if_neg (by rw [decide_eq_true_eq]; omega)]
        refine ⟨_, rfl, n, [], insAt_of hn, rfl, _, rfl, _, rfl, c, l, rfl, ok.good l (List.mem_of_getElem? hl), true, rfl, ?_⟩
        rw [if_neg (by decide)]
        refine forget_same (L' := [some (Tr.ref n), some (Tr.int c), some (Tr.tup (List.map lkT ls)), none, none]) ⟨_, rfl, _, rfl, _, rfl, _, _, rfl, _, _, rfl, rfl⟩ ⟨none, none, rfl, rfl⟩ ⟨Nat.le_refl _, ?_⟩ hM
        simp only [belL, Tr.bel, bel_lks, Bool.and_true, decide_eq_true_eq]
        exact hnl
    · rintro L2 M2 ⟨v3, v4, rfl, rfl⟩
      have h1 := set_same (o := O.ins C (putT "_count" (Tr.int c) [])) hn
      refine ⟨_, rfl, _, rfl, n, C, [], insAt_of hn, TT.cl, TT.n1, by show 0 < 1000; decide, _, rfl, _, rfl, _, rfl, n, C, _, insAt_of h1, TT.cl, TT.n2, by show 1 < 1000; decide, ?_⟩
      rw [List.set_set]
      have e : putT "_bridges" (Tr.tup (List.map lkT ls)) (putT "_count" (Tr.int c) []) = tFT c ls := by
        show putT "_bridges" (Tr.tup (List.map lkT ls)) [("_count", Tr.int c)] = _
        unfold putT
        rw [if_neg (by decide +kernel)]
        rfl
      rw [e]
      refine keep_set m rfl ?_ q
      simp only [O.bel, tFT, belF, Tr.bel, bel_lks, Bool.and_true]
end
end T1

set_option Elab.async false
set_option linter.all false
set_option maxRecDepth 100000
set_option maxHeartbeats 4000000
namespace T1
open PySem PySem.Spec PyProof.Rows L2 C8 Fm
local macro_rules | `(tactic| walk_at "sim1") => `(tactic| with_reducible first
  | exact sim_nil | exact sim_var | exact sim_int | exact sim_str | exact sim_bl | exact sim_non | exact sim_raw
  | apply sim_cons | apply sim_op | apply sim_un | apply sim_tup | apply sim_lst
  | apply sim_CB | apply sim_if | apply sim_test | apply sim_B | apply sim_not | apply sim_and | apply sim_or
  | apply sim_andV | apply sim_orV | apply sim_notV | apply sim_chain | exact sim_nopart | apply sim_part
  | apply sim_sl | apply sim_BML | apply sim_BMS | apply sim_BM0S | apply sim_M1 | apply sim_M0
  | apply sim_fmt | apply sim_joined | exact SimJ.nil | apply SimJ.cons
  | exact s_I0i | exact s_I0b | exact s_Ii | exact s_Ui | exact s_eq | exact s_ne | exact s_isN | exact s_notN | exact s_ixL | exact s_ixT | exact s_ixS
  | exact s_cat | exact s_catA | exact s_rep | exact s_repT | exact s_in | exact s_slL | exact s_slA | exact s_slS | exact s_addS | exact s_leS | exact s_ltS
  | exact c_len | exact c_lenS | exact c_list | exact c_tuple | exact c_int1 | exact c_intS | exact c_strI | exact c_max2 | exact c_min2
  | exact m_append | exact m_extend | exact m_split | exact m_join | exact m_0b | exact m_1b
  | apply sim_call | exact simSpF
  | exact sim_name | exact sim_gnil | apply sim_gcons | apply sim_gtup | apply sim_gsub | exact set_list
  | exact sim_next | apply sim_seq | apply sim_cut | exact sim_break | exact sim_cont | apply sim_drop | apply sim_ret | exact sim_retN
  | apply sim_ifS | exact sim_never | apply sim_asg | apply sim_par | apply sim_aug
  | apply sim_for | apply sim_while | apply i_list | apply i_tup | apply i_rng1 | apply i_rng2 | apply i_str | apply i_enum | apply i_zip
  | apply sim_lc | exact sim_yes | exact sim_namew (by decide) | exact sim_gnilw | apply sim_gconsw | apply sim_gtupw
  | apply sim_fld | apply sim_con | apply sim_setFld | apply sim_make | apply sim_prop | apply sim_meth | apply sim_cmeth | exact c_isi | apply sim_isiT | exact s_eqD | exact s_neD
  | walk_at "sim2")
local macro_rules | `(tactic| walk_at "sim2") => `(tactic| fail)
local macro_rules | `(tactic| walk_at "sim") => `(tactic| repeat' (walk_at "sim1"))
/-- open the trees' reading as far as it goes by itself -/
local macro_rules | `(tactic| walk_at "fm") => `(tactic| simp (config := { failIfUnchanged := false }) only [fVar, fC, fOp, fUn, fNil, fCons, fTup, fLst, fCB, fIf, fTest, fNot, fAnd, fOr, fAndV, fOrV, fNotV, fChain, fNoPart, fPart, fI, fI0, fU, fEq, fNe, fIsN, fNotN, fIxL, fIxT, fIxS,
  fCat, fCatA, fRep, fRepT, fSlL, fSlA, fSlS, fSl, fLen, fLenS, fList, fTuple, fIntS, fStrI, fMax2, fMin2, fAppend, fExtend, fIn, fBM, fMS, fBMS, fBM0S, fAddS, fLeS, fLtS, fM0b, fM1b, fSplit, fJoin, fJoined, fJs,
  fName, fGNil, fGCons, fGTup, fSetL, fGSub, fNext, fSeq, fCut, fBreak, fCont, fDrop, fRet, fRetN, fIfS, fAsg, fPar, fAug, fCall, fFld, fCon, fSetFld, fMake, fProp, fMeth, fCMeth, fIsi, fIsiT, fEqD, fNeD, insAt_ref, insO_ins, fFmt, fmtS_i, fmtS_s, fmtOk_i, fmtOk_s, fIL, fIT, fIR1, fIR2, fIS, fIEn, fIZ,
  startL, List.map_cons, List.map_nil, List.length_cons, List.length_nil, List.cons_append, List.nil_append, List.replicate, List.getElem?_cons_zero, List.getElem?_cons_succ, List.set_cons_zero, List.set_cons_succ, Nat.reduceSub, Nat.reduceAdd,
  Option.some.injEq, Tr.int.injEq, Tr.str.injEq, Tr.bl.injEq, Tr.tup.injEq, Tr.ref.injEq, List.cons.injEq, exists_eq_left, exists_eq_left', exists_eq_right, true_and, and_true, and_self, exists_and_left, tupOf_tup, eqS_ii, eqS_ss, eqS_bb, eqS_ni, eqS_in, eqS_nn, isStr_s, isN_n, isN_i, isN_b, isN_s, isN_t, isN_r, noRaw_n, noRaw_i, noRaw_b, noRaw_s, noRaw_t, noRaw_r, and_assoc, reduceIte, Bool.false_eq_true, exists_const, lstAt_ref, seqAt_ref, seqAt_tup, refAt_ref, lstO_lst, app_assoc2, len_app1, at_kk, at_00, set_k, set_00, Nat.add_assoc, Option.map_some, Prod.mk.injEq, int_cast_inj, Nat.zero_le, decide_eq_true_eq, Bool.not_eq_true', decide_eq_false_iff_not, Nat.add_zero, implies_true, forall_const, ite_true, ite_false, if_true, if_false, decide_true, decide_false, Bool.not_true, Bool.not_false, asg_len, Option.isSome_some])
local macro_rules | `(tactic| walk_at "bel") => `(tactic| first | rfl | (simp (config := { failIfUnchanged := false }) only [belM, O.bel, bels_strs, bels_ints, belL, Tr.bel, Tr.bels, Bool.and_true, Bool.true_and, Bool.and_self, decide_eq_true_eq, Bool.and_eq_true, true_and, and_true, List.length_cons, List.length_nil, Nat.reduceAdd]; try omega))

local macro_rules | `(tactic| walk_at "sim2") => `(tactic| first | exact simNext | assumption | apply sim_match | apply SimM2.cons | exact SimM2.nil | apply i_enumT | apply sim_truS | apply sim_listG | apply sim_lcG | apply sim_eitherG | apply sim_methG | apply sim_methJ | apply sim_either | apply sim_sortKey | apply sim_sortSet | (apply sim_raise0; assumption) | apply sim_plain | apply sim_cval)
local macro_rules | `(tactic| walk_at "sim1") => `(tactic| first | (with_reducible apply sim_callX; assumption) | (with_reducible apply sim_methX; assumption) | (with_reducible apply sim_makeX; assumption) | (with_reducible apply sim_makeKX; assumption) | (with_reducible apply sim_makeVSX; assumption) | (with_reducible apply sim_conA) | (with_reducible apply sim_sortSet))
local macro_rules | `(tactic| walk_at "fm2") => `(tactic| simp (config := { failIfUnchanged := false }) only [dm_app, dm_len, dm_at, dm_at0, dm_set, dm_set0, List.getElem?_cons_zero, List.getElem?_cons_succ, List.set_cons_zero, List.set_cons_succ, lstO_lst, Option.isSome_some, Option.map_some, Option.some.injEq, Prod.mk.injEq, Nat.add_assoc, Nat.reduceAdd, exists_eq_left', exists_eq_left, true_and, and_assoc, fRaise0, fPlain, fCVal, fNv, int1_i, fEither, fTruS, fIEnT, fMatch, fGoM, setAllT, fMakeK, fMakeVS, fMethJ, fEitherG, fListG, fSortKey, fSortSet, fConA])
local macro_rules | `(tactic| walk_at "fd") => `(tactic| (walk_at "fm"; walk_at "fm2"; walk_at "fm"; walk_at "fm2"; walk_at "fm"))

/-! ### checks -/
structure Tw (P : Program) (w : World) (K : PySem.W.Frag) (mg : Str → Option Value) (base : Heap) (C : Addr) : Prop where
  pc : PrpX P w K mg base L2.CX0 1 C "place_count" (spF K (fsPlaces C))
  br : PrpX P w K mg base L2.CX0 1 C "bridges" (spF K (fsBridges C))
def fsChkPlace (C : Addr) (cs : ErrC) : FSp := fun ts M P PX => ∃ (n : Nat) (c : Int) (ls : List Lk) (p : Int), ts = [.ref n, .int p] ∧ TownAt C M n c ls ∧ (0 ≤ p ∧ p < c → P .non M) ∧ (¬ (0 ≤ p ∧ p < c) → PX cs.place [] M)
def fsChkBridge (C : Addr) (cs : ErrC) : FSp := fun ts M P PX => ∃ (n : Nat) (c : Int) (ls : List Lk) (b : Int), ts = [.ref n, .int b] ∧ TownAt C M n c ls ∧ (0 ≤ b ∧ b < ls.length → P .non M) ∧ (¬ (0 ≤ b ∧ b < ls.length) → PX cs.bridge [] M)
def fsChkLoad (cs : ErrC) : FSp := fun ts M P PX => ∃ (ld : Int), ts = [.int ld] ∧ (1 ≤ ld ∧ ld ≤ 9 → P .non M) ∧ (¬ (1 ≤ ld ∧ ld ≤ 9) → PX cs.load [] M)
section
variable {P : Program} {w : World} {K : PySem.W.Frag} {mg : Str → Option Value} {base : Heap} {C : Addr} {cs : ErrC}
theorem keepX_0 {H : Hp} {ρ : List Addr} {M : Mem} {PX : PXF} {D : Addr} (m : RM K H ρ M) (p : PX D [] M) : KeepX M.length PX D [] M := ⟨M.length, Nat.le_refl _, rfl, by rw [List.take_length]; exact m.belM, by rw [List.take_length]; exact p⟩
theorem scChkPlace : FnScope ["town", "place"] ["town", "place"] (L2.defScope s_check_place) := ⟨rfl, rfl, rfl, by decide +kernel, rfl, by decide +kernel, by decide +kernel⟩
theorem ok_chkPlace {f : Addr} {fd : FuncData} (F : L2.Fun K "check_place" "check_place" s_check_place f fd) (T : BR K mg cs) (W : Tw P w K mg base C) : FnOk P w K mg base (L2.CX P w) 3 f fd ["town", "place"] (spF K (fsChkPlace C cs)) := by
  refine F.okX scChkPlace (fun vs H Q E h => ?_) (fun cdv A outer s H vs Q E hr h => ?_)
  · obtain ⟨ts, ρ, M, P, PX, r, m, ⟨n, c, ls, p, rfl, _⟩, o, ox⟩ := h
    exact r.len
  · refine ⟨_, (pss_one (ps_if (pt_not (pt_chain op_le op_lt pe_int (pv 1) (pe_prX W.pc (pv 0) hr (by decide) L2.pass0))) (pss_one (ps_raise rfl (takes_of rfl rfl rfl rfl) (pmk_own PySem.F.excBase_ValueError T.e_UnknownPlace.q T.e_UnknownPlace.g T.e_UnknownPlace.k (raises_own T.e_UnknownPlace.s T.e_UnknownPlace.t) (by rfl)))) pss_nil)), ?_⟩
    obtain ⟨ts, ρ, M, P, PX, r, m, ⟨n, c, ls, p, rfl, ht, q1, q2⟩, o, ox⟩ := h
    have hE := keepX_of m ox
    try simp only [nox_K, cx_K]
    refine run_in r m o (by walk_at "sim") ?_
    walk_at "fd"
    by_cases h0 : 0 ≤ p
    · rw [if_pos h0]
      refine ⟨n, _, insM_of ht.1, n, c, ls, rfl, ht, _, rfl, ?_⟩
      by_cases h1 : p < c
      · rw [if_neg (fun z => z h1)]
        exact keep_same m rfl (q1 ⟨h0, h1⟩)
      · rw [if_pos h1]
        exact keepX_0 m (q2 (fun z => h1 z.2))
    · rw [if_neg h0]
      exact keepX_0 m (q2 (fun z => h0 z.1))
theorem scChkBridge : FnScope ["town", "bridge"] ["town", "bridge"] (L2.defScope s_check_bridge) := ⟨rfl, rfl, rfl, by decide +kernel, rfl, by decide +kernel, by decide +kernel⟩
theorem ok_chkBridge {f : Addr} {fd : FuncData} (F : L2.Fun K "check_bridge" "check_bridge" s_check_bridge f fd) (T : BR K mg cs) (W : Tw P w K mg base C) : FnOk P w K mg base (L2.CX P w) 3 f fd ["town", "bridge"] (spF K (fsChkBridge C cs)) := by
  refine F.okX scChkBridge (fun vs H Q E h => ?_) (fun cdv A outer s H vs Q E hr h => ?_)
  · obtain ⟨ts, ρ, M, P, PX, r, m, ⟨n, c, ls, p, rfl, _⟩, o, ox⟩ := h
    exact r.len
  · refine ⟨_, (pss_one (ps_if (pt_not (pt_chain op_le op_lt pe_int (pv 1) (pe_callB call_len_seq (by rfl) T.len PySem.boot_len (pa_cons (pe_prX W.br (pv 0) hr (by decide) L2.pass0) pa_nil)))) (pss_one (ps_raise rfl (takes_of rfl rfl rfl rfl) (pmk_own PySem.F.excBase_ValueError T.e_UnknownBridge.q T.e_UnknownBridge.g T.e_UnknownBridge.k (raises_own T.e_UnknownBridge.s T.e_UnknownBridge.t) (by rfl)))) pss_nil)), ?_⟩
    obtain ⟨ts, ρ, M, P, PX, r, m, ⟨n, c, ls, p, rfl, ht, q1, q2⟩, o, ox⟩ := h
    have hE := keepX_of m ox
    try simp only [nox_K, cx_K]
    refine run_in r m o (by walk_at "sim") ?_
    walk_at "fd"
    by_cases h0 : 0 ≤ p
    · rw [if_pos h0]
      refine ⟨n, _, insM_of ht.1, n, c, ls, rfl, ht, _, rfl, ?_⟩
      rw [List.length_map]
      by_cases h1 : p < ls.length
      · rw [if_neg (fun z => z h1)]
        exact keep_same m rfl (q1 ⟨h0, h1⟩)
      · rw [if_pos h1]
        exact keepX_0 m (q2 (fun z => h1 z.2))
    · rw [if_neg h0]
      exact keepX_0 m (q2 (fun z => h0 z.1))
theorem scChkLoad : FnScope ["load"] ["load"] (L2.defScope s_check_load) := ⟨rfl, rfl, rfl, by decide +kernel, rfl, by decide +kernel, by decide +kernel⟩
theorem ok_chkLoad {f : Addr} {fd : FuncData} (F : L2.Fun K "check_load" "check_load" s_check_load f fd) (T : BR K mg cs) : FnOk P w K mg base (L2.CX P w) 3 f fd ["load"] (spF K (fsChkLoad cs)) := by
  refine F.okX scChkLoad (fun vs H Q E h => ?_) (fun cdv A outer s H vs Q E hr h => ?_)
  · obtain ⟨ts, ρ, M, P, PX, r, m, ⟨p, rfl, _⟩, o, ox⟩ := h
    exact r.len
  · refine ⟨_, (pss_one (ps_if (pt_not (pt_chain op_le op_le pe_int (pv 0) (pe_gc (v := .int 9) (by rfl) T.g_MAX_LOAD))) (pss_one (ps_raise rfl (takes_of rfl rfl rfl rfl) (pmk_own PySem.F.excBase_ValueError T.e_InvalidLoad.q T.e_InvalidLoad.g T.e_InvalidLoad.k (raises_own T.e_InvalidLoad.s T.e_InvalidLoad.t) (by rfl)))) pss_nil)), ?_⟩
    obtain ⟨ts, ρ, M, P, PX, r, m, ⟨p, rfl, q1, q2⟩, o, ox⟩ := h
    have hE := keepX_of m ox
    try simp only [nox_K, cx_K]
    refine run_in r m o (by walk_at "sim") ?_
    walk_at "fd"
    by_cases h0 : 1 ≤ p
    · rw [if_pos h0]
      by_cases h1 : p ≤ 9
      · rw [if_neg (fun z => z h1)]
        exact keep_same m rfl (q1 ⟨h0, h1⟩)
      · rw [if_pos h1]
        exact keepX_0 m (q2 (fun z => h1 z.2))
    · rw [if_neg h0]
      exact keepX_0 m (q2 (fun z => h0 z.1))
end
end T1

/-! GM: routes over steps that are at least 1 long: the least (length, route) to each place, found from a queue. No library. -/
namespace GM
abbrev Step := Int → Nat → Option (Int × Int)
/-- where a route leads, and how long it is -/
def walk (st : Step) (p : Int) : List Nat → Option (Int × Int)
  | [] => some (p, 0)
  | i :: r => (st p i).bind fun a => (walk st a.1 r).map fun b => (b.1, a.2 + b.2)
theorem walk_cons {st : Step} {p : Int} {i : Nat} {r : List Nat} : walk st p (i :: r) = (st p i).bind fun a => (walk st a.1 r).map fun b => (b.1, a.2 + b.2) := rfl
def lexN : List Nat → List Nat → Bool
  | [], [] => false
  | [], _ :: _ => true
  | _ :: _, [] => false
  | x :: xs, y :: ys => if x = y then lexN xs ys else decide (x < y)
/-- less: shorter, or as long and first -/
def LtR (a b : Int × List Nat) : Prop := a.1 < b.1 ∨ (a.1 = b.1 ∧ lexN a.2 b.2 = true)
theorem lex_irr : ∀ a, lexN a a = false
  | [] => rfl
  | x :: a => by
    unfold lexN
    rw [if_pos rfl]
    exact lex_irr a
theorem lex_as : ∀ {a b}, lexN a b = true → lexN b a = false
  | [], [], h => by cases h
  | [], _ :: _, _ => rfl
  | _ :: _, [], h => by cases h
  | x :: a, y :: b, h => by
    unfold lexN at h ⊢
    by_cases e : x = y
    · rw [if_pos e] at h
      rw [if_pos e.symm]
      exact lex_as h
    · rw [if_neg e] at h
      rw [if_neg (fun z => e z.symm)]
      have := of_decide_eq_true h
      exact decide_eq_false (by omega)
theorem lex_tot : ∀ {a b}, lexN a b = false → lexN b a = false → a = b
  | [], [], _, _ => rfl
  | [], _ :: _, h, _ => by cases h
  | _ :: _, [], _, h => by cases h
  | x :: a, y :: b, h, k => by
    unfold lexN at h k
    by_cases e : x = y
    · rw [if_pos e] at h
      rw [if_pos e.symm] at k
      rw [e, lex_tot h k]
    · rw [if_neg e] at h
      rw [if_neg (fun z => e z.symm)] at k
      have := of_decide_eq_false h
      have := of_decide_eq_false k
      omega
/-- not less goes on -/
theorem lex_tr : ∀ {a b c}, lexN b a = false → lexN c b = false → lexN c a = false
  | [], _, [], _, _ => rfl
  | [], [], _ :: _, _, _ => rfl
  | [], _ :: _, _ :: _, _, _ => rfl
  | _ :: _, [], _, h, _ => by cases h
  | _ :: _, _ :: _, [], _, h => by cases h
  | x :: a, y :: b, z :: c, h, k => by
    unfold lexN at h k ⊢
    by_cases e1 : y = x
    · rw [if_pos e1] at h
      by_cases e2 : z = y
      · rw [if_pos e2] at k
        rw [if_pos (e2.trans e1)]
        exact lex_tr h k
      · rw [if_neg e2] at k
        rw [if_neg (fun q => e2 (q.trans e1.symm)), ← e1]
        exact k
    · rw [if_neg e1] at h
      have h1 := of_decide_eq_false h
      by_cases e2 : z = y
      · rw [if_neg (fun q => e1 (e2.symm.trans q)), e2]
        exact h
      · rw [if_neg e2] at k
        have h2 := of_decide_eq_false k
        rw [if_neg (by omega)]
        exact decide_eq_false (by omega)
theorem lex_app : ∀ {a b x y}, lexN (a ++ x) (b ++ y) = true → lexN a b = true ∨ (∃ c, b = a ++ c) ∨ ∃ c, a = b ++ c
  | [], b, _, _, _ => .inr (.inl ⟨b, rfl⟩)
  | u :: a, [], _, _, _ => .inr (.inr ⟨u :: a, rfl⟩)
  | u :: a, v :: b, x, y, h => by
    rw [List.cons_append, List.cons_append] at h
    unfold lexN at h ⊢
    by_cases e : u = v
    · rw [if_pos e] at h ⊢
      rw [e]
      rcases lex_app h with h | ⟨c, rfl⟩ | ⟨c, rfl⟩
      · exact .inl h
      · exact .inr (.inl ⟨c, rfl⟩)
      · exact .inr (.inr ⟨c, rfl⟩)
    · rw [if_neg e] at h ⊢
      exact .inl h
theorem ltR_tr {a b c : Int × List Nat} (h : ¬ LtR b a) (k : ¬ LtR c b) : ¬ LtR c a := by
  unfold LtR at h k ⊢
  rintro (z | ⟨z, w⟩)
  · rcases Int.lt_trichotomy c.1 b.1 with q | q | q
    · exact k (.inl q)
    · exact h (.inl (by omega))
    · exact h (.inl (by omega))
  · rcases Int.lt_trichotomy c.1 b.1 with q | q | q
    · exact k (.inl q)
    · have h1 : lexN b.2 a.2 = false := by
        cases e : lexN b.2 a.2 with
        | false => rfl
        | true => exact absurd (.inr ⟨by omega, e⟩) h
      have h2 : lexN c.2 b.2 = false := by
        cases e : lexN c.2 b.2 with
        | false => rfl
        | true => exact absurd (.inr ⟨q, e⟩) k
      rw [lex_tr h1 h2] at w
      cases w
    · exact h (.inl (by omega))
theorem ltR_as {a b : Int × List Nat} (h : LtR a b) : ¬ LtR b a := by
  rintro (z | ⟨z, w⟩)
  · rcases h with h | ⟨h, _⟩ <;> omega
  · rcases h with h | ⟨_, h⟩
    · omega
    · rw [lex_as h] at w
      cases w
theorem ltR_tot {a b : Int × List Nat} (h : ¬ LtR a b) (k : ¬ LtR b a) : a = b := by
  have e : a.1 = b.1 := by
    rcases Int.lt_trichotomy a.1 b.1 with q | q | q
    · exact absurd (.inl q) h
    · exact q
    · exact absurd (.inl q) k
  have h1 : lexN a.2 b.2 = false := by
    cases z : lexN a.2 b.2 with
    | false => rfl
    | true => exact absurd (.inr ⟨e, z⟩) h
  have h2 : lexN b.2 a.2 = false := by
    cases z : lexN b.2 a.2 with
    | false => rfl
    | true => exact absurd (.inr ⟨e.symm, z⟩) k
  exact Prod.ext e (lex_tot h1 h2)
section
variable {st : Step}
theorem walk_app : ∀ {r1 r2 : List Nat} {p : Int}, walk st p (r1 ++ r2) = (walk st p r1).bind fun a => (walk st a.1 r2).map fun b => (b.1, a.2 + b.2)
  | [], r2, p => by
    show walk st p r2 = (walk st p r2).map _
    cases walk st p r2 with
    | none => rfl
    | some b => simp
  | i :: r1, r2, p => by
    rw [List.cons_append, walk_cons, walk_cons]
    cases st p i with
    | none => rfl
    | some a =>
      show (walk st a.1 (r1 ++ r2)).map _ = _
      rw [walk_app]
      show _ = ((walk st a.1 r1).map _).bind _
      cases walk st a.1 r1 with
      | none => rfl
      | some b =>
        show ((walk st b.1 r2).map _).map _ = (walk st b.1 r2).map _
        cases walk st b.1 r2 with
        | none => rfl
        | some c => simp [Int.add_assoc]
theorem walk_snoc {r : List Nat} {i : Nat} {p q e l t : Int} (h : walk st p r = some (q, l)) (k : st q i = some (e, t)) : walk st p (r ++ [i]) = some (e, l + t) := by
  rw [walk_app, h]
  show (walk st q [i]).map _ = _
  unfold walk
  rw [k]
  simp [walk]
/-- each step is at least 1 long -/
def Pos (st : Step) : Prop := ∀ p i q l, st p i = some (q, l) → 1 ≤ l
theorem walk_pos (hp : Pos st) : ∀ {r : List Nat} {p q l : Int}, walk st p r = some (q, l) → (r.length : Int) ≤ l
  | [], p, q, l, h => by
    cases h
    exact Int.le_refl 0
  | i :: r, p, q, l, h => by
    unfold walk at h
    cases e : st p i with
    | none => rw [e] at h; cases h
    | some a =>
      rw [e] at h
      cases e2 : walk st a.1 r with
      | none => rw [show (some a).bind _ = (walk st a.1 r).map _ from rfl, e2] at h; cases h
      | some b =>
        rw [show (some a).bind _ = (walk st a.1 r).map _ from rfl, e2] at h
        cases h
        have h1 := walk_pos hp e2
        have h2 := hp p i a.1 a.2 e
        rw [List.length_cons]
        omega
/-- of two equally long walks neither begins the other -/
theorem no_prefix (hp : Pos st) {r c : List Nat} {p q q' l : Int} (h : walk st p r = some (q, l)) (k : walk st p (r ++ c) = some (q', l)) : c = [] := by
  rw [walk_app, h] at k
  cases e : walk st q c with
  | none => rw [show (some (q, l)).bind _ = (walk st q c).map _ from rfl, e] at k; cases k
  | some b =>
    rw [show (some (q, l)).bind _ = (walk st q c).map _ from rfl, e] at k
    have h1 := walk_pos hp e
    have : l + b.2 = l := by
      have := congrArg (fun z => z.map Prod.snd) k
      simpa using this
    have : c.length = 0 := by omega
    exact List.length_eq_zero_iff.mp this
/-- a step more keeps the order -/
theorem le_snoc (hp : Pos st) {s p p' q l1 l2 t : Int} {r1 r2 : List Nat} {i : Nat} (h1 : walk st s r1 = some (p, l1)) (h2 : walk st s r2 = some (p', l2)) (h : ¬ LtR (l2, r2) (l1, r1)) : ¬ LtR (l2 + t, r2 ++ [i]) (l1 + t, r1 ++ [i]) := by
  rintro (z | ⟨z, w⟩)
  · exact h (.inl (by simp only at z ⊢; omega))
  · have e : l2 = l1 := by simp only at z; omega
    rcases lex_app w with w | ⟨c, rfl⟩ | ⟨c, rfl⟩
    · exact h (.inr ⟨e, w⟩)
    · rw [e] at h2
      have := no_prefix hp h2 h1
      subst this
      simp only [List.append_nil] at w
      rw [lex_irr] at w
      cases w
    · rw [e] at h2
      have := no_prefix hp h1 h2
      subst this
      simp only [List.append_nil] at w
      rw [lex_irr] at w
      cases w
/-- what goes on is not less -/
theorem le_app (hp : Pos st) {s p q l t : Int} {r c : List Nat} (h1 : walk st s r = some (p, l)) (h2 : walk st s (r ++ c) = some (q, t)) : ¬ LtR (t, r ++ c) (l, r) := by
  cases c with
  | nil =>
    rw [List.append_nil] at h2 ⊢
    rw [h1] at h2
    cases h2
    rintro (z | ⟨_, w⟩)
    · simp only at z; omega
    · simp only [lex_irr] at w; cases w
  | cons i c =>
    rw [walk_app, h1] at h2
    cases e : walk st p (i :: c) with
    | none => rw [show (some (p, l)).bind _ = (walk st p (i :: c)).map _ from rfl, e] at h2; cases h2
    | some b =>
      rw [show (some (p, l)).bind _ = (walk st p (i :: c)).map _ from rfl, e] at h2
      have h3 := walk_pos hp e
      cases h2
      rw [List.length_cons] at h3
      rintro (z | ⟨z, _⟩) <;> simp only at z <;> omega
structure Best (st : Step) (s q : Int) (a : Int × List Nat) : Prop where
  w : walk st s a.2 = some (q, a.1)
  le : ∀ l r, walk st s r = some (q, l) → ¬ LtR (l, r) a
theorem Best.uniq {s q : Int} {a b : Int × List Nat} (h : Best st s q a) (k : Best st s q b) : a = b := ltR_tot (k.le _ _ h.w) (h.le _ _ k.w)
/-! ### the queue -/
abbrev Key := Int × List Nat × Int
def LtK (a b : Key) : Prop := a.1 < b.1 ∨ (a.1 = b.1 ∧ (lexN a.2.1 b.2.1 = true ∨ (a.2.1 = b.2.1 ∧ a.2.2 < b.2.2)))
theorem ltK_R {a b : Key} (h : ¬ LtK a b) : ¬ LtR (a.1, a.2.1) (b.1, b.2.1) := by
  rintro (z | ⟨z, w⟩)
  · exact h (.inl z)
  · exact h (.inr ⟨z, .inl w⟩)
structure Inv (st : Step) (s : Int) (found : List (Int × List Nat)) (queue : List Key) : Prop where
  hq : ∀ k ∈ queue, walk st s k.2.1 = some (k.2.2, k.1)
  hf : ∀ a ∈ found, ∃ l, Best st s a.1 (l, a.2)
  hs : s ∈ found.map (·.1) ∨ (0, [], s) ∈ queue
  hx : ∀ a ∈ found, ∀ l, walk st s a.2 = some (a.1, l) → ∀ i q t, st a.1 i = some (q, t) → q ∈ found.map (·.1) ∨ (l + t, a.2 ++ [i], q) ∈ queue
theorem inv_start (s : Int) : Inv st s [] [(0, [], s)] := ⟨fun k hk => (by rw [List.mem_singleton.mp hk]; rfl), fun a ha => (by cases ha), .inr List.mem_cons_self, fun a ha => (by cases ha)⟩
/-- the last place of a walk that is found, the next one -/
theorem split {found : List (Int × List Nat)} : ∀ {r : List Nat} {p q l : Int}, walk st p r = some (q, l) → p ∈ found.map (·.1) → q ∉ found.map (·.1) →
    ∃ (r1 r2 : List Nat) (i : Nat) (a b l1 t : Int), r = r1 ++ [i] ++ r2 ∧ walk st p r1 = some (a, l1) ∧ a ∈ found.map (·.1) ∧ st a i = some (b, t) ∧ b ∉ found.map (·.1)
  | [], p, q, l, h, hp, hq => by
    cases h
    exact absurd hp hq
  | i :: r, p, q, l, h, hp, hq => by
    unfold walk at h
    cases e : st p i with
    | none => rw [e] at h; cases h
    | some a =>
      rw [e] at h
      by_cases hb : a.1 ∈ found.map (·.1)
      · cases e2 : walk st a.1 r with
        | none => rw [show (some a).bind _ = (walk st a.1 r).map _ from rfl, e2] at h; cases h
        | some b =>
          rw [show (some a).bind _ = (walk st a.1 r).map _ from rfl, e2] at h
          cases h
          obtain ⟨r1, r2, j, a1, b1, l1, t, rfl, h1, h2, h3, h4⟩ := split (l := b.2) (q := b.1) e2 hb hq
          refine ⟨i :: r1, r2, j, a1, b1, a.2 + l1, t, by simp, ?_, h2, h3, h4⟩
          unfold walk
          rw [e]
          show (walk st a.1 r1).map _ = _
          rw [h1]
          rfl
      · exact ⟨[], r, i, p, a.1, 0, a.2, by simp, rfl, hp, e, hb⟩
theorem least (hp : Pos st) {s : Int} {found : List (Int × List Nat)} {queue : List Key} {k : Key} (I : Inv st s found queue) (hk : k ∈ queue) (hl : ∀ k' ∈ queue, ¬ LtK k' k) (hn : k.2.2 ∉ found.map (·.1)) : Best st s k.2.2 (k.1, k.2.1) := by
  refine ⟨I.hq k hk, fun l r hw => ?_⟩
  by_cases hs : s ∈ found.map (·.1)
  · obtain ⟨r1, r2, i, a, b, l1, t, rfl, h1, h2, h3, h4⟩ := split hw hs hn
    obtain ⟨⟨a', ra⟩, hm, rfl⟩ := List.mem_map.mp h2
    obtain ⟨la, hb⟩ := I.hf _ hm
    simp only at h1 h2 h3 hb
    rcases I.hx _ hm la hb.w i b t h3 with z | z
    · exact absurd z h4
    · have s1 : ¬ LtR (la + t, ra ++ [i]) (k.1, k.2.1) := ltK_R (hl _ z)
      have s2 : ¬ LtR (l1 + t, r1 ++ [i]) (la + t, ra ++ [i]) := le_snoc hp (q := b) hb.w h1 (hb.le _ _ h1)
      have s3 : ¬ LtR (l, r1 ++ [i] ++ r2) (l1 + t, r1 ++ [i]) := le_app hp (walk_snoc h1 h3) hw
      exact ltR_tr s1 (ltR_tr s2 s3)
  · have z := I.hs.resolve_left hs
    have s1 : ¬ LtR (0, []) (k.1, k.2.1) := ltK_R (hl _ z)
    have s3 : ¬ LtR (l, [] ++ r) (0, []) := le_app hp (st := st) (s := s) (p := s) rfl (by simpa using hw)
    exact ltR_tr s1 s3
theorem inv_old {s : Int} {found : List (Int × List Nat)} {queue rest : List Key} {k : Key} (I : Inv st s found queue) (hp : (k :: rest).Perm queue) (hn : k.2.2 ∈ found.map (·.1)) : Inv st s found rest := by
  have key : ∀ x ∈ queue, x.2.2 ∈ found.map (·.1) ∨ x ∈ rest := fun x hx => by
    rcases List.mem_cons.mp (hp.mem_iff.mpr hx) with rfl | h
    · exact .inl hn
    · exact .inr h
  refine ⟨fun x hx => I.hq x (hp.mem_iff.mp (List.mem_cons_of_mem _ hx)), I.hf, ?_, fun a ha l hw i q t h => ?_⟩
  · rcases I.hs with h | h
    · exact .inl h
    · exact key _ h
  · rcases I.hx a ha l hw i q t h with z | z
    · exact .inl z
    · exact key _ z
theorem inv_new (hpos : Pos st) {s : Int} {found : List (Int × List Nat)} {queue rest queue2 : List Key} {k : Key} (I : Inv st s found queue) (hp : (k :: rest).Perm queue) (hl : ∀ k' ∈ queue, ¬ LtK k' k) (hn : k.2.2 ∉ found.map (·.1))
    (h2 : ∀ x, x ∈ queue2 ↔ x ∈ rest ∨ ∃ i q t, st k.2.2 i = some (q, t) ∧ x = (k.1 + t, k.2.1 ++ [i], q)) : Inv st s (found ++ [(k.2.2, k.2.1)]) queue2 := by
  have hk : k ∈ queue := hp.mem_iff.mp List.mem_cons_self
  have B := least hpos I hk hl hn
  have mem : ∀ x, x ∈ (found ++ [(k.2.2, k.2.1)]).map (·.1) ↔ x ∈ found.map (·.1) ∨ x = k.2.2 := fun x => by simp
  have key : ∀ x ∈ queue, x.2.2 ∈ (found ++ [(k.2.2, k.2.1)]).map (·.1) ∨ x ∈ queue2 := fun x hx => by
    rcases List.mem_cons.mp (hp.mem_iff.mpr hx) with rfl | h
    · exact .inl ((mem _).mpr (.inr rfl))
    · exact .inr ((h2 x).mpr (.inl h))
  refine ⟨fun x hx => ?_, fun a ha => ?_, ?_, fun a ha l hw i q t h => ?_⟩
  · rcases (h2 x).mp hx with h | ⟨i, q, t, h, rfl⟩
    · exact I.hq x (hp.mem_iff.mp (List.mem_cons_of_mem _ h))
    · exact walk_snoc B.w h
  · rcases List.mem_append.mp ha with h | h
    · exact I.hf a h
    · rw [List.mem_singleton.mp h]
      exact ⟨_, B⟩
  · rcases I.hs with h | h
    · exact .inl ((mem _).mpr (.inl h))
    · exact key _ h
  · rcases List.mem_append.mp ha with z | z
    · rcases I.hx a z l hw i q t h with y | y
      · exact .inl ((mem _).mpr (.inl y))
      · exact key _ y
    · rw [List.mem_singleton.mp z] at hw h ⊢
      simp only at hw h ⊢
      rw [B.w] at hw
      cases hw
      exact .inr ((h2 _).mpr (.inr ⟨i, q, t, h, rfl⟩))
/-- at the end -/
theorem inv_end {s : Int} {found : List (Int × List Nat)} (I : Inv st s found []) : ∀ {r : List Nat} {q l : Int}, walk st s r = some (q, l) → q ∈ found.map (·.1) := fun {r q l} hw => by
  have hs := I.hs.resolve_right (fun z => by cases z)
  refine Classical.byContradiction fun hn => ?_
  obtain ⟨r1, r2, i, a, b, l1, t, _, h1, h2, h3, h4⟩ := split hw hs hn
  obtain ⟨⟨a', ra⟩, hm, rfl⟩ := List.mem_map.mp h2
  obtain ⟨la, hb⟩ := I.hf _ hm
  rcases I.hx _ hm la hb.w i b t h3 with z | z
  · exact h4 z
  · cases z
end
end GM

set_option Elab.async false
set_option linter.all false
set_option maxRecDepth 100000
set_option maxHeartbeats 4000000
namespace T1
open PySem PySem.Spec PyProof.Rows L2 C8 Fm
local macro_rules | `(tactic| walk_at "sim1") => `(tactic| with_reducible first
  | exact sim_nil | exact sim_var | exact sim_int | exact sim_str | exact sim_bl | exact sim_non | exact sim_raw
  | apply sim_cons | apply sim_op | apply sim_un | apply sim_tup | apply sim_lst
  | apply sim_CB | apply sim_if | apply sim_test | apply sim_B | apply sim_not | apply sim_and | apply sim_or
  | apply sim_andV | apply sim_orV | apply sim_notV | apply sim_chain | exact sim_nopart | apply sim_part
  | apply sim_sl | apply sim_BML | apply sim_BMS | apply sim_BM0S | apply sim_M1 | apply sim_M0
  | apply sim_fmt | apply sim_joined | exact SimJ.nil | apply SimJ.cons
  | exact s_I0i | exact s_I0b | exact s_Ii | exact s_Ui | exact s_eq | exact s_ne | exact s_isN | exact s_notN | exact s_ixL | exact s_ixT | exact s_ixS
  | exact s_cat | exact s_catA | exact s_rep | exact s_repT | exact s_in | exact s_slL | exact s_slA | exact s_slS | exact s_addS | exact s_leS | exact s_ltS
  | exact c_len | exact c_lenS | exact c_list | exact c_tuple | exact c_int1 | exact c_intS | exact c_strI | exact c_max2 | exact c_min2
  | exact m_append | exact m_extend | exact m_split | exact m_join | exact m_0b | exact m_1b
  | apply sim_call | exact simSpF
  | exact sim_name | exact sim_gnil | apply sim_gcons | apply sim_gtup | apply sim_gsub | exact set_list
  | exact sim_next | apply sim_seq | apply sim_cut | exact sim_break | exact sim_cont | apply sim_drop | apply sim_ret | exact sim_retN
  | apply sim_ifS | exact sim_never | apply sim_asg | apply sim_par | apply sim_aug
  | apply sim_for | apply sim_while | apply i_list | apply i_tup | apply i_rng1 | apply i_rng2 | apply i_str | apply i_enum | apply i_zip
  | apply sim_lc | exact sim_yes | exact sim_namew (by decide) | exact sim_gnilw | apply sim_gconsw | apply sim_gtupw
  | apply sim_fld | apply sim_con | apply sim_setFld | apply sim_make | apply sim_prop | apply sim_meth | apply sim_cmeth | exact c_isi | apply sim_isiT | exact s_eqD | exact s_neD
  | walk_at "sim2")
local macro_rules | `(tactic| walk_at "sim2") => `(tactic| fail)
local macro_rules | `(tactic| walk_at "sim") => `(tactic| repeat' (walk_at "sim1"))
/-- open the trees' reading as far as it goes by itself -/
local macro_rules | `(tactic| walk_at "fm") => `(tactic| simp (config := { failIfUnchanged := false }) only [fVar, fC, fOp, fUn, fNil, fCons, fTup, fLst, fCB, fIf, fTest, fNot, fAnd, fOr, fAndV, fOrV, fNotV, fChain, fNoPart, fPart, fI, fI0, fU, fEq, fNe, fIsN, fNotN, fIxL, fIxT, fIxS,
  fCat, fCatA, fRep, fRepT, fSlL, fSlA, fSlS, fSl, fLen, fLenS, fList, fTuple, fIntS, fStrI, fMax2, fMin2, fAppend, fExtend, fIn, fBM, fMS, fBMS, fBM0S, fAddS, fLeS, fLtS, fM0b, fM1b, fSplit, fJoin, fJoined, fJs,
  fName, fGNil, fGCons, fGTup, fSetL, fGSub, fNext, fSeq, fCut, fBreak, fCont, fDrop, fRet, fRetN, fIfS, fAsg, fPar, fAug, fCall, fFld, fCon, fSetFld, fMake, fProp, fMeth, fCMeth, fIsi, fIsiT, fEqD, fNeD, insAt_ref, insO_ins, fFmt, fmtS_i, fmtS_s, fmtOk_i, fmtOk_s, fIL, fIT, fIR1, fIR2, fIS, fIEn, fIZ,
  startL, List.map_cons, List.map_nil, List.length_cons, List.length_nil, List.cons_append, List.nil_append, List.replicate, List.getElem?_cons_zero, List.getElem?_cons_succ, List.set_cons_zero, List.set_cons_succ, Nat.reduceSub, Nat.reduceAdd,
  Option.some.injEq, Tr.int.injEq, Tr.str.injEq, Tr.bl.injEq, Tr.tup.injEq, Tr.ref.injEq, List.cons.injEq, exists_eq_left, exists_eq_left', exists_eq_right, true_and, and_true, and_self, exists_and_left, tupOf_tup, eqS_ii, eqS_ss, eqS_bb, eqS_ni, eqS_in, eqS_nn, isStr_s, isN_n, isN_i, isN_b, isN_s, isN_t, isN_r, noRaw_n, noRaw_i, noRaw_b, noRaw_s, noRaw_t, noRaw_r, and_assoc, reduceIte, Bool.false_eq_true, exists_const, lstAt_ref, seqAt_ref, seqAt_tup, refAt_ref, lstO_lst, app_assoc2, len_app1, at_kk, at_00, set_k, set_00, Nat.add_assoc, Option.map_some, Prod.mk.injEq, int_cast_inj, Nat.zero_le, decide_eq_true_eq, Bool.not_eq_true', decide_eq_false_iff_not, Nat.add_zero, implies_true, forall_const, ite_true, ite_false, if_true, if_false, decide_true, decide_false, Bool.not_true, Bool.not_false, asg_len, Option.isSome_some])
local macro_rules | `(tactic| walk_at "bel") => `(tactic| first | rfl | (simp (config := { failIfUnchanged := false }) only [belM, O.bel, bels_strs, bels_ints, belL, Tr.bel, Tr.bels, Bool.and_true, Bool.true_and, Bool.and_self, decide_eq_true_eq, Bool.and_eq_true, true_and, and_true, List.length_cons, List.length_nil, Nat.reduceAdd]; try omega))

local macro_rules | `(tactic| walk_at "sim2") => `(tactic| first | exact simNext | assumption | apply sim_match | apply SimM2.cons | exact SimM2.nil | apply i_enumT | apply sim_truS | apply sim_listG | apply sim_lcG | apply sim_eitherG | apply sim_methG | apply sim_methJ | apply sim_either | apply sim_sortKey | apply sim_sortSet | (apply sim_raise0; assumption) | apply sim_plain | apply sim_cval)
local macro_rules | `(tactic| walk_at "sim1") => `(tactic| first | (with_reducible apply sim_callX; assumption) | (with_reducible apply sim_methX; assumption) | (with_reducible apply sim_makeX; assumption) | (with_reducible apply sim_makeKX; assumption) | (with_reducible apply sim_makeVSX; assumption) | (with_reducible apply sim_conA) | (with_reducible apply sim_sortSet))
local macro_rules | `(tactic| walk_at "fm2") => `(tactic| simp (config := { failIfUnchanged := false }) only [dm_app, dm_len, dm_at, dm_at0, dm_set, dm_set0, List.getElem?_cons_zero, List.getElem?_cons_succ, List.set_cons_zero, List.set_cons_succ, lstO_lst, Option.isSome_some, Option.map_some, Option.some.injEq, Prod.mk.injEq, Nat.add_assoc, Nat.reduceAdd, exists_eq_left', exists_eq_left, true_and, and_assoc, fRaise0, fPlain, fCVal, fNv, int1_i, fEither, fTruS, fIEnT, fMatch, fGoM, setAllT, fMakeK, fMakeVS, fMethJ, fEitherG, fListG, fSortKey, fSortSet, fConA])
local macro_rules | `(tactic| walk_at "fd") => `(tactic| (walk_at "fm"; walk_at "fm2"; walk_at "fm"; walk_at "fm2"; walk_at "fm"))

/-! ### the steps of a town -/
def beyond (l : Lk) (p : Int) : Option Int := if p = l.1 then some l.2.1 else if p = l.2.1 then some l.1 else none
def stp (ls : List Lk) (rem : List Int) (ld : Int) : GM.Step := fun p i => match ls[i]?, rem[i]? with
  | some l, some r => if ld ≤ r then (beyond l p).map fun q => (q, l.2.2.1) else none
  | _, _ => none
/-- the ways from a place, over the first bridges -/
def waysTo (ls : List Lk) (rem : List Int) (ld p : Int) (n : Nat) : List (Nat × Int × Int) := (List.range n).filterMap fun i => (stp ls rem ld p i).map fun a => (i, a.1, a.2)
def wayT (a : Nat × Int × Int) : Tr := .tup [.int (a.1 : Int), .int a.2.1, .int a.2.2]
theorem waysTo_succ {ls : List Lk} {rem : List Int} {ld p : Int} {n : Nat} : waysTo ls rem ld p (n + 1) = waysTo ls rem ld p n ++ ((stp ls rem ld p n).map fun a => (n, a.1, a.2)).toList := by
  unfold waysTo
  rw [List.range_succ, List.filterMap_append]
  congr 1
theorem waysTo_len {ls : List Lk} {rem : List Int} {ld p : Int} {n : Nat} : (waysTo ls rem ld p n).length ≤ n := by
  unfold waysTo
  have := List.length_filterMap_le (fun i => (stp ls rem ld p i).map fun a => (i, a.1, a.2)) (List.range n)
  rw [List.length_range] at this
  exact this
theorem mem_ways {ls : List Lk} {rem : List Int} {ld p : Int} {a : Nat × Int × Int} : a ∈ waysTo ls rem ld p ls.length ↔ stp ls rem ld p a.1 = some a.2 := by
  unfold waysTo
  rw [List.mem_filterMap]
  constructor
  · rintro ⟨i, _, h⟩
    cases e : stp ls rem ld p i with
    | none => rw [e] at h; cases h
    | some b =>
      rw [e] at h
      cases h
      exact e
  · intro h
    refine ⟨a.1, ?_, by rw [h]; rfl⟩
    rw [List.mem_range]
    unfold stp at h
    cases e : ls[a.1]? with
    | none => rw [e] at h; cases h
    | some l => exact (List.getElem?_eq_some_iff.mp e).1
theorem stp_pos {c : Int} {ls : List Lk} {rem : List Int} {ld : Int} (ok : okTown c ls) : GM.Pos (stp ls rem ld) := fun p i q l h => by
  unfold stp at h
  cases e : ls[i]? with
  | none => rw [e] at h; cases h
  | some k =>
    rw [e] at h
    cases e2 : rem[i]? with
    | none => rw [e2] at h; cases h
    | some r =>
      rw [e2] at h
      simp only at h
      split at h
      · cases e3 : beyond k p with
        | none => rw [e3] at h; cases h
        | some x =>
          rw [e3] at h
          cases h
          exact (ok.good k (List.mem_of_getElem? e)).2.2.2.2.2.1
      · cases h
theorem stp_place {c : Int} {ls : List Lk} {rem : List Int} {ld p q l : Int} {i : Nat} (ok : okTown c ls) (h : stp ls rem ld p i = some (q, l)) : 0 ≤ q ∧ q < c ∧ l ≤ 99 := by
  unfold stp at h
  cases e : ls[i]? with
  | none => rw [e] at h; cases h
  | some k =>
    rw [e] at h
    cases e2 : rem[i]? with
    | none => rw [e2] at h; cases h
    | some r =>
      rw [e2] at h
      simp only at h
      obtain ⟨h1, h2, h3, h4, h5, h6, h7, _⟩ := ok.good k (List.mem_of_getElem? e)
      split at h
      · unfold beyond at h
        split at h
        · cases h; exact ⟨h3, h4, h7⟩
        · split at h
          · cases h; exact ⟨h1, h2, h7⟩
          · cases h
      · cases h
theorem bel_ways {n : Nat} (ws : List (Nat × Int × Int)) : belM n [O.lst (ws.map wayT)] = true := by
  simp only [belM, O.bel, Bool.and_true]
  induction ws with
  | nil => rfl
  | cons a ws ih =>
    rw [List.map_cons]
    unfold Tr.bels
    rw [ih]
    rfl
def remT (rem : List Int) : Tr := .tup (rem.map Tr.int)
theorem bel_ints {n : Nat} : ∀ rem : List Int, Tr.bels n (rem.map Tr.int) = true
  | [] => rfl
  | r :: rem => bel_ints rem
def fsWays (C : Addr) : FSp := fun ts M P _ => ∃ (n : Nat) (c : Int) (ls : List Lk) (rem : List Int) (p ld : Int), ts = [.ref n, remT rem, .int p, .int ld] ∧ TownAt C M n c ls ∧ rem.length = ls.length ∧
  P (.ref M.length) (M ++ [.lst ((waysTo ls rem ld p ls.length).map wayT)])
section
variable {P : Program} {w : World} {K : PySem.W.Frag} {mg : Str → Option Value} {base : Heap} {C : Addr} {cs : ErrC}
theorem scWays : FnScope ["town", "remaining", "place", "load", "ways", "bridge", "one", "other", "length", "_"] ["town", "remaining", "place", "load"] (fnScope s__ways_from) := fnScope_by (by decide +kernel)
theorem ok_ways {f : Addr} {fd : FuncData} (F : Def K mg "_ways_from" s__ways_from f fd) (b : Binds K fd ["town", "remaining", "place", "load"] []) (T : BR K mg cs) (W : Tw P w K mg base C) : Cal P w K mg base 3 "_ways_from" (spF K (fsWays C)) [] := by
  refine cal0 F b .nil scWays (fun vs H Q E h => ?_) (fun cdv A outer s H vs Q E hr h => ?_)
  · obtain ⟨ts, ρ, M, P, PX, r, m, ⟨n, c, ls, rem, p, ld, rfl, _⟩, o, ox⟩ := h
    exact r.len
  · refine ⟨_, (pss_cons (ps_set (i := 4) scWays.nd rfl (Or.inl rfl) (pe_lst pa_nil))
 (pss_cons (ps_for PassesOwn.never rfl (pi_enumT (by rfl) T.enumerate (pa_cons (pe_prX W.br (pv 0) hr (by decide) L2.pass0) pa_nil)) (pg_tup rfl (pgs_cons (pg_name (i := 5) scWays.nd rfl (Or.inl rfl)) (pgs_cons (pg_tup rfl (pgs_cons (pg_name (i := 6) scWays.nd rfl (Or.inl rfl)) (pgs_cons (pg_name (i := 7) scWays.nd rfl (Or.inl rfl)) (pgs_cons (pg_name (i := 8) scWays.nd rfl (Or.inl rfl)) (pgs_cons (pg_name (i := 9) scWays.nd rfl (Or.inl rfl)) pgs_nil))))) pgs_nil))) (pss_one (ps_if (PW.pt (pw_and (pt_cmpR op_ge (pe_ix ix_tup (pv 1) (pv 5) (fun _ _ => rfl)) (pv 3) (nomark _)) (pw_and1 (pt_cmpR op_in_seq (pv 2) (pe_tup (pa_cons (pv 6) (pa_cons (pv 7) pa_nil))) (by rfl))))) (pss_one (ps_expr (pe_bm PySem.F.plainAttrs_list PySem.F.slot_list_append PySem.F.type_list_append mt_append (pv 4) (pa_cons (pe_tup (pa_cons (pv 5) (pa_cons (pe_ifExp (pt_cmpR op_eq (pv 2) (pv 6) (nomark _)) (pv 7) (pv 6)) (pa_cons (pv 8) pa_nil)))) pa_nil)))) pss_nil)))
 (pss_one (ps_ret (pv 4))))), ?_⟩
    obtain ⟨ts, ρ, M, P, PX, r, m, ⟨n, c, ls, rem, p, ld, rfl, ht, hrl, q⟩, o, ox⟩ := h
    try simp only [nox_K, cx_K]
    refine run_in r m o (by walk_at "sim") ?_
    walk_at "fd"
    have hM := m.belM
    have hnl : n < List.length M := (List.getElem?_eq_some_iff.mp ht.1).1
    unfold fFor
    walk_at "fd"
    refine ⟨n, _, insM_of (at_l ht.1), n, c, ls, rfl, ht.app, _, rfl, fun i L2 M2 => ∃ v5 v6 v7 v8 v9, L2 = [some (Tr.ref n), some (remT rem), some (Tr.int p), some (Tr.int ld), some (Tr.ref (List.length M)), v5, v6, v7, v8, v9] ∧ M2 = M ++ [.lst ((waysTo ls rem ld p i).map wayT)], ⟨none, none, none, none, none, rfl, rfl⟩, ?_, ?_⟩
    · rintro i t L2 M2 hti ⟨v5, v6, v7, v8, v9, rfl, rfl⟩
      obtain ⟨y, hy, rfl⟩ := enumT_get hti
      rw [List.getElem?_map] at hy
      cases hl : ls[i]? with
      | none => rw [hl] at hy; cases hy
      | some l =>
        rw [hl] at hy
        cases hy
        have hi := (List.getElem?_eq_some_iff.mp hl).1
        have h24 := ht.2.len
        obtain ⟨rr, hr⟩ : ∃ r, rem[i]? = some r := ⟨_, List.getElem?_eq_getElem (by rw [hrl]; exact hi)⟩
        refine ⟨_, rfl, rfl, _, _, rfl, _, _, rfl, _, rfl, rfl, _, _, rfl, _, _, rfl, _, _, rfl, _, _, rfl, rfl, rfl, ?_⟩
        walk_at "fd"
        refine ⟨rem.map Tr.int, rfl, .int rr, atI_nat (by rw [Nat.zero_add, List.getElem?_map, hr]; rfl), rr, rfl, ?_⟩
        have put : ∀ us : List Tr, (waysTo ls rem ld p (i + 1)).map wayT = us → Forget (List.length M + 1) (fun L2 M2 => ∃ v5 v6 v7 v8 v9, L2 = [some (Tr.ref n), some (remT rem), some (Tr.int p), some (Tr.int ld), some (Tr.ref (List.length M)), v5, v6, v7, v8, v9] ∧ M2 = M ++ [.lst ((waysTo ls rem ld p (i + 1)).map wayT)])
            [some (Tr.ref n), some (remT rem), some (Tr.int p), some (Tr.int ld), some (Tr.ref (List.length M)), some (Tr.int ((0 + i : Nat) : Int)), some (Tr.int l.1), some (Tr.int l.2.1), some (Tr.int l.2.2.1), some (Tr.int l.2.2.2)] (M ++ [.lst us]) := fun us e => by
          rw [← e]
          refine forget_same (L' := [some (Tr.ref n), some (remT rem), some (Tr.int p), some (Tr.int ld), some (Tr.ref (List.length M)), none, none, none, none, none]) ⟨_, rfl, _, rfl, _, rfl, _, rfl, _, rfl, _, _, rfl, _, _, rfl, _, _, rfl, _, _, rfl, _, _, rfl, rfl⟩ ⟨none, none, none, none, none, rfl, rfl⟩ ⟨by simp, ?_⟩ ?_
          · simp only [belL, Tr.bel, remT, bel_ints, Bool.and_true, Bool.true_and, Bool.and_eq_true, decide_eq_true_eq, List.length_append, List.length_cons, List.length_nil]
            omega
          · rw [List.length_append]
            exact belM_ext hM (bel_ways _)
        have hst : stp ls rem ld p i = if ld ≤ rr then (beyond l p).map fun q => (q, l.2.2.1) else none := by
          unfold stp
          rw [hl, hr]
        have hlen := waysTo_len (ls := ls) (rem := rem) (ld := ld) (p := p) (n := i)
        have hz : (List.map wayT (waysTo ls rem ld p i)).length < sizeLine := by
          rw [List.length_map, sizeLine_eq]
          omega
        have hany : ([Tr.int l.1, Tr.int l.2.1].any fun y => eqvT y (Tr.int p)) = (decide (l.1 = p) || decide (l.2.1 = p)) := by
          simp only [List.any_cons, List.any_nil, eqvT, Bool.or_false]
          rfl
        by_cases h1 : ld ≤ rr
        · rw [if_pos h1] at hst ⊢
          refine ⟨by rw [sizeLine_eq]; decide, rfl, rfl, ?_⟩
          rw [hany]
          by_cases h2 : p = l.1
          · rw [if_pos (by simp [h2]), if_pos h2]
            refine ⟨by rw [sizeLine_eq]; decide, hz, put _ ?_⟩
            rw [waysTo_succ, hst]
            unfold beyond
            rw [if_pos h2, List.map_append, Nat.zero_add]
            rfl
          · by_cases h3 : p = l.2.1
            · rw [if_pos (by simp [h3]), if_neg h2]
              refine ⟨by rw [sizeLine_eq]; decide, hz, put _ ?_⟩
              rw [waysTo_succ, hst]
              unfold beyond
              rw [if_neg h2, if_pos h3, List.map_append, Nat.zero_add]
              rfl
            · rw [if_neg (by simp [Ne.symm h2, Ne.symm h3])]
              refine put _ ?_
              rw [waysTo_succ, hst]
              unfold beyond
              rw [if_neg h2, if_neg h3]
              simp
        · rw [if_neg h1] at hst ⊢
          refine put _ ?_
          rw [waysTo_succ, hst]
          simp
    · rintro L2 M2 ⟨v5, v6, v7, v8, v9, rfl, rfl⟩
      rw [enumT_len, List.length_map]
      refine ⟨_, rfl, keep_whole (by simp) (by simp [Tr.bel]) ?_ q⟩
      rw [List.length_append]
      exact belM_ext hM (bel_ways _)
end
end T1

set_option Elab.async false
set_option linter.all false
set_option maxRecDepth 100000
set_option maxHeartbeats 4000000
/-! GK: the queue's keys as trees, heaps of keys; dicts by keys over trees. -/
namespace HQ
section
variable {α : Type} {lt : α → α → Prop} [DecidableRel lt] {d e : α}
theorem getD_irr {xs : List α} {i : Nat} (h : i < xs.length) : xs.getD i d = xs.getD i e := by
  rw [List.getD_eq_getElem?_getD, List.getD_eq_getElem?_getD, List.getElem?_eq_getElem h]
  rfl
theorem swp_irr {xs : List α} {i j : Nat} (hi : i < xs.length) (hj : j < xs.length) : swp d xs i j = swp e xs i j := by
  unfold swp
  rw [getD_irr (e := e) hi, getD_irr (e := e) hj]
theorem up_irr : ∀ (n : Nat) (xs : List α) (p : Nat), p ≤ n → p < xs.length → up lt d xs p = up lt e xs p
  | n, xs, p, hn, hl => by
    rw [up.eq_def (lt := lt) (d := d), up.eq_def (lt := lt) (d := e), getD_irr (d := d) (e := e) hl, getD_irr (d := d) (e := e) (i := (p - 1) / 2) (by omega)]
    by_cases c : 0 < p ∧ lt (xs.getD p e) (xs.getD ((p - 1) / 2) e)
    · rw [dif_pos c, dif_pos c]
      cases n with
      | zero => omega
      | succ n => rw [up_irr n _ _ (by omega) (by rw [swp_len]; omega), swp_irr (e := e) (by omega) hl]
    · rw [dif_neg c, dif_neg c]
theorem child_irr {xs : List α} {p : Nat} : child lt d xs p = child lt e xs p := by
  unfold child
  by_cases h : 2 * p + 2 < xs.length
  · rw [getD_irr (d := d) (e := e) (i := 2 * p + 1) (by omega), getD_irr (d := d) (e := e) h]
  · rw [if_neg (fun z => h z.1), if_neg (fun z => h z.1)]
theorem down_irr : ∀ (n : Nat) (xs : List α) (p : Nat), xs.length - p ≤ n → p < xs.length → down lt d xs p = down lt e xs p
  | n, xs, p, hn, hl => by
    rw [down.eq_def (lt := lt) (d := d), down.eq_def (lt := lt) (d := e)]
    by_cases c : p < xs.length / 2
    · rw [dif_pos c, dif_pos c, ← child_irr (d := d) (e := e)]
      have hc := child_is (lt := lt) (d := d) (xs := xs) (p := p)
      have hcl := child_lt (lt := lt) (d := d) c
      cases n with
      | zero => omega
      | succ n => rw [down_irr n _ _ (by rw [swp_len]; omega) (by rw [swp_len]; exact hcl), swp_irr (e := e) hcl hl]
    · rw [dif_neg c, dif_neg c, up_irr p xs p (Nat.le_refl _) hl]
theorem push_irr {xs : List α} {x : α} : push lt d xs x = push lt e xs x := up_irr xs.length _ _ (Nat.le_refl _) (by simp)
theorem pop_irr {xs : List α} (ne : xs ≠ []) : pop lt d xs = pop lt e xs := by
  have l0 : 0 < xs.length := List.length_pos_iff.mpr ne
  unfold pop
  rw [getD_irr (d := d) (e := e) l0, getD_irr (d := d) (e := e) (i := xs.length - 1) (by omega)]
  by_cases h : xs.length = 1
  · rw [if_pos h, if_pos h]
  · rw [if_neg h, if_neg h, down_irr _ _ _ (Nat.le_refl _) (by rw [List.length_set, List.length_take]; omega)]
end
end HQ
namespace GM
theorem totK : HQ.Tot LtK := by
  refine ⟨fun a h => ?_, fun {a b c} h k => ?_, fun {a b} h k => ?_⟩
  · rcases h with h | ⟨_, h | ⟨_, h⟩⟩
    · omega
    · rw [lex_irr] at h
      cases h
    · omega
  · have hR := ltK_R h
    have kR := ltK_R k
    have cR := ltR_tr hR kR
    rintro (z | ⟨z, w | ⟨w, y⟩⟩)
    · exact cR (.inl z)
    · exact cR (.inr ⟨z, w⟩)
    · by_cases q : (b.1, b.2.1) = (a.1, a.2.1)
      · have q1 := congrArg Prod.fst q
        have q2 := congrArg Prod.snd q
        simp only at q1 q2
        have h1 : ¬ b.2.2 < a.2.2 := fun x => h (.inr ⟨q1, .inr ⟨q2, x⟩⟩)
        have h2 : ¬ c.2.2 < b.2.2 := fun x => k (.inr ⟨z.trans q1.symm, .inr ⟨w.trans q2.symm, x⟩⟩)
        omega
      · have e : (c.1, c.2.1) = (a.1, a.2.1) := Prod.ext z w
        rw [e] at kR
        exact q (ltR_tot hR kR)
  · rcases h with h | ⟨e, h | ⟨e2, h⟩⟩
    · rcases k with k | ⟨k, _⟩ <;> omega
    · rcases k with k | ⟨_, k | ⟨k, _⟩⟩
      · omega
      · rw [lex_as h] at k
        cases k
      · rw [k, lex_irr] at h
        cases h
    · rcases k with k | ⟨_, k | ⟨_, k⟩⟩
      · omega
      · rw [e2, lex_irr] at k
        cases k
      · omega
instance : DecidableRel LtK := fun a b => by unfold LtK; exact inferInstance
def k0 : Key := (0, [], 0)
end GM
namespace Fm
open PySem PySem.Spec PyProof.Rows L2
/-! ### keys as trees -/
def rtT (r : List Nat) : Tr := .tup (r.map fun i : Nat => Tr.int (i : Int))
def kT (k : GM.Key) : Tr := .tup [.int k.1, rtT k.2.1, .int k.2.2]
def dr (r : List Nat) : List PyData := r.map fun i : Nat => PyData.int (i : Int)
theorem dTs_rt : ∀ r : List Nat, dTs (r.map fun i : Nat => Tr.int (i : Int)) = dr r
  | [] => rfl
  | i :: r => by
    show dT (Tr.int i) :: dTs (r.map fun i : Nat => Tr.int (i : Int)) = PyData.int (i : Int) :: dr r
    rw [dTs_rt r]
    rfl
theorem dT_k (k : GM.Key) : dT (kT k) = .tuple [.int k.1, .tuple (dr k.2.1), .int k.2.2] := by
  show PyData.tuple [PyData.int k.1, PyData.tuple (dTs (k.2.1.map fun i : Nat => Tr.int (i : Int))), PyData.int k.2.2] = _
  rw [dTs_rt]
theorem eqv_int {i j : Int} : PyData.eqv (.int i) (.int j) = true ↔ i = j := by simp [PyData.eqv]
theorem eqv_dr : ∀ {r s : List Nat}, PyData.eqvAll (dr r) (dr s) = true ↔ r = s
  | [], [] => by simp [dr, PyData.eqvAll]
  | [], _ :: _ => by simp [dr, PyData.eqvAll]
  | _ :: _, [] => by simp [dr, PyData.eqvAll]
  | x :: r, y :: s => by
    show PyData.eqvAll (PyData.int (x : Int) :: dr r) (PyData.int (y : Int) :: dr s) = true ↔ _
    rw [PyData.eqvAll, Bool.and_eq_true, eqv_int, eqv_dr]
    constructor
    · rintro ⟨h, rfl⟩
      rw [show x = y by omega]
    · intro h
      cases h
      exact ⟨rfl, rfl⟩
theorem ltP_dr : ∀ {r s : List Nat}, TCx.ltPs (dr r) (dr s) = GM.lexN r s
  | [], [] => rfl
  | [], _ :: _ => rfl
  | _ :: _, [] => rfl
  | x :: r, y :: s => by
    show TCx.ltPs (PyData.int (x : Int) :: dr r) (PyData.int (y : Int) :: dr s) = _
    unfold TCx.ltPs GM.lexN
    by_cases h : x = y
    · rw [if_pos h, if_pos (eqv_int.mpr (by omega)), ltP_dr]
    · rw [if_neg h, if_neg (fun z => h (by have := eqv_int.mp z; omega))]
      show decide ((x : Int) < (y : Int)) = _
      exact decide_eq_decide.mpr (by omega)
theorem ltT_k (a b : GM.Key) : ltT (kT a) (kT b) ↔ GM.LtK a b := by
  show TCx.ltP (dT (kT a)) (dT (kT b)) = true ↔ _
  rw [dT_k, dT_k]
  unfold TCx.ltP TCx.ltPs GM.LtK
  by_cases h : a.1 = b.1
  · rw [if_pos (eqv_int.mpr h)]
    unfold TCx.ltPs
    by_cases k : a.2.1 = b.2.1
    · rw [if_pos (by rw [PyData.eqv]; exact eqv_dr.mpr k)]
      unfold TCx.ltPs
      by_cases l : a.2.2 = b.2.2
      · rw [if_pos (eqv_int.mpr l)]
        constructor
        · intro z; cases z
        · rintro (z | ⟨_, z | ⟨_, z⟩⟩)
          · omega
          · rw [k, GM.lex_irr] at z
            cases z
          · omega
      · rw [if_neg (fun z => l (eqv_int.mp z))]
        show decide (a.2.2 < b.2.2) = true ↔ _
        rw [decide_eq_true_eq]
        constructor
        · intro z; exact .inr ⟨h, .inr ⟨k, z⟩⟩
        · rintro (z | ⟨_, z | ⟨_, z⟩⟩)
          · omega
          · rw [k, GM.lex_irr] at z
            cases z
          · exact z
    · rw [if_neg (by rw [PyData.eqv]; exact fun z => k (eqv_dr.mp z))]
      show TCx.ltPs (dr a.2.1) (dr b.2.1) = true ↔ _
      rw [ltP_dr]
      constructor
      · intro z; exact .inr ⟨h, .inl z⟩
      · rintro (z | ⟨_, z | ⟨z, _⟩⟩)
        · omega
        · exact z
        · exact absurd z k
  · rw [if_neg (fun z => h (eqv_int.mp z))]
    show decide (a.1 < b.1) = true ↔ _
    rw [decide_eq_true_eq]
    constructor
    · intro z; exact .inl z
    · rintro (z | ⟨z, _⟩)
      · exact z
      · exact absurd z h
theorem plain_rt : ∀ r : List Nat, plainTs (r.map fun i : Nat => Tr.int (i : Int)) = true
  | [] => rfl
  | i :: r => plain_rt r
theorem plain_k (k : GM.Key) : plainT (kT k) = true := by
  show (true && (plainTs (k.2.1.map fun i : Nat => Tr.int (i : Int)) && (true && true))) = true
  rw [plain_rt]
  rfl
theorem tup_dr : ∀ r : List Nat, HRx.tupDs (dr r) = true
  | [] => rfl
  | i :: r => by
    show (true && HRx.tupDs (dr r)) = true
    rw [tup_dr r]
    rfl
theorem lay_dr : ∀ r : List Nat, PyData.canLayAll0 (dr r) = true
  | [] => rfl
  | i :: r => by
    show PyData.canLayAll0 (PyData.int (i : Int) :: dr r) = true
    simp [PyData.canLayAll0, PyData.canLay0, lay_dr r]
theorem dep_dr : ∀ r : List Nat, PyData.depthAll (dr r) = 0
  | [] => rfl
  | i :: r => by
    show PyData.depthAll (PyData.int (i : Int) :: dr r) = 0
    simp [PyData.depthAll, PyData.depth, dep_dr r]
theorem cmp_dr : ∀ r s : List Nat, TCx.cmpPs (dr r) (dr s) = true
  | [], [] => rfl
  | [], _ :: _ => rfl
  | _ :: _, [] => rfl
  | x :: r, y :: s => by
    show TCx.cmpPs (PyData.int (x : Int) :: dr r) (PyData.int (y : Int) :: dr s) = true
    unfold TCx.cmpPs
    split
    · exact cmp_dr r s
    · rfl
theorem okT_k (ks : List GM.Key) : OkT (ks.map kT) := by
  refine ⟨fun t ht => ?_, fun d hd => ?_, fun d hd e he => ?_⟩
  · obtain ⟨k, _, rfl⟩ := List.mem_map.mp ht
    exact plain_k k
  · obtain ⟨t, ht, rfl⟩ := List.mem_map.mp hd
    obtain ⟨k, _, rfl⟩ := List.mem_map.mp ht
    rw [dT_k]
    refine ⟨?_, ?_, ?_⟩
    · show (true && (HRx.tupDs (dr k.2.1) && (true && true))) = true
      rw [tup_dr]
      rfl
    · simp [PyData.canLay0, PyData.canLayAll0, lay_dr]
    · simp [PyData.depth, PyData.depthAll, dep_dr]
  · obtain ⟨t, ht, rfl⟩ := List.mem_map.mp hd
    obtain ⟨k, _, rfl⟩ := List.mem_map.mp ht
    obtain ⟨t', ht', rfl⟩ := List.mem_map.mp he
    obtain ⟨k', _, rfl⟩ := List.mem_map.mp ht'
    rw [dT_k, dT_k]
    unfold TCx.cmpP TCx.cmpPs
    split
    · unfold TCx.cmpPs
      split
      · unfold TCx.cmpPs
        split
        · rfl
        · rfl
      · exact cmp_dr _ _
    · rfl
theorem push_k (ks : List GM.Key) (x : GM.Key) : HQ.push ltT .non (ks.map kT) (kT x) = (HQ.push GM.LtK GM.k0 ks x).map kT := by
  rw [HQ.push_irr (e := kT GM.k0), HQ.push_map (lt' := ltT) (f := kT) (fun a b => (ltT_k a b).symm)]
theorem pop_k {ks : List GM.Key} (ne : ks ≠ []) : HQ.pop ltT .non (ks.map kT) = (kT (HQ.pop GM.LtK GM.k0 ks).1, (HQ.pop GM.LtK GM.k0 ks).2.map kT) := by
  rw [HQ.pop_irr (e := kT GM.k0) (by simpa using ne), HQ.pop_map (lt := GM.LtK) (f := kT) (fun a b => (ltT_k a b).symm)]
theorem bel_rt {n : Nat} : ∀ r : List Nat, Tr.bels n (r.map fun i : Nat => Tr.int (i : Int)) = true
  | [] => rfl
  | i :: r => bel_rt r
theorem bel_rtT {n : Nat} (r : List Nat) : Tr.bel n (rtT r) = true := by
  show Tr.bels n (r.map fun i : Nat => Tr.int (i : Int)) = true
  exact bel_rt r
theorem bel_k {n : Nat} (k : GM.Key) : Tr.bel n (kT k) = true := by
  show (true && (Tr.bels n (k.2.1.map fun i : Nat => Tr.int (i : Int)) && (true && true))) = true
  rw [bel_rt]
  rfl
theorem bel_ks {n : Nat} : ∀ ks : List GM.Key, Tr.bels n (ks.map kT) = true
  | [] => rfl
  | k :: ks => by
    show (Tr.bel n (kT k) && Tr.bels n (ks.map kT)) = true
    rw [bel_k, bel_ks ks]
    rfl
/-! ### dicts by keys -/
def kTr : L2.Key → Tr
  | .inl i => .int i
  | .inr z => .str z
def valT (ps : List (L2.Key × Tr)) (k : L2.Key) : Option Tr := (ps.find? fun kv => decide (kv.1 = k)).map (·.2)
def putKT (ps : List (L2.Key × Tr)) (k : L2.Key) (v : Tr) : List (L2.Key × Tr) :=
  if (ps.any fun kv => decide (kv.1 = k)) = true then ps.map (fun kv => if kv.1 = k then (kv.1, v) else kv) else ps ++ [(k, v)]
theorem valT_cons {p : L2.Key × Tr} {ps : List (L2.Key × Tr)} {k : L2.Key} : valT (p :: ps) k = if p.1 = k then some p.2 else valT ps k := by
  unfold valT
  rw [List.find?_cons]
  by_cases h : p.1 = k
  · rw [decide_eq_true h, if_pos h]
    rfl
  · rw [decide_eq_false h, if_neg h]
theorem any_valT {k : L2.Key} : ∀ ps : List (L2.Key × Tr), (ps.any fun kv => decide (kv.1 = k)) = (valT ps k).isSome
  | [] => rfl
  | p :: ps => by
    rw [List.any_cons, valT_cons, any_valT ps]
    by_cases h : p.1 = k
    · rw [decide_eq_true h, if_pos h]
      rfl
    · rw [decide_eq_false h, if_neg h]
      rfl
theorem putKT_new {ps : List (L2.Key × Tr)} {k : L2.Key} {v : Tr} (h : valT ps k = none) : putKT ps k v = ps ++ [(k, v)] := by
  unfold putKT
  rw [any_valT, h]
  rfl
def fDnew : FE := fun _ M P => P (.ref M.length) (M ++ [.dic []])
def fDNin (fy fd : FE) : FE := fun L M P => fy L M fun y M1 => fd L M1 fun x M2 => ∃ n ps k, x = .ref n ∧ M2[n]? = some (.dic ps) ∧ y = kTr k ∧ P (.bl (!(valT ps k).isSome)) M2
def fDIn (fy fd : FE) : FE := fun L M P => fy L M fun y M1 => fd L M1 fun x M2 => ∃ n ps k, x = .ref n ∧ M2[n]? = some (.dic ps) ∧ y = kTr k ∧ P (.bl (valT ps k).isSome) M2
def fDPut (fd fy fv : FE) : FS := fun D L M => fv L M fun v M1 => fd L M1 fun x M2 => fy L M2 fun y M3 => ∃ n ps k, x = .ref n ∧ M3[n]? = some (.dic ps) ∧ y = kTr k ∧ ps.length < sizeLine ∧ D.nx L (M3.set n (.dic (putKT ps k v)))
def fDGet (fd fy : FE) : FE := fun L M P => fd L M fun x M1 => fy L M1 fun y M2 => ∃ n ps k t, x = .ref n ∧ M2[n]? = some (.dic ps) ∧ y = kTr k ∧ valT ps k = some t ∧ P t M2
def fDGet1 (fd fy : FE) : FE := fun L M P => fd L M fun x M1 => ∃ n ps, x = .ref n ∧ M1[n]? = some (.dic ps) ∧ fy L M1 fun y M2 => ∃ ps' k, M2[n]? = some (.dic ps') ∧ y = kTr k ∧ P ((valT ps' k).getD .non) M2
def fListD : FC := fun xs M P => ∃ n ps, xs = [.ref n] ∧ M[n]? = some (.dic ps) ∧ P (.ref M.length) (M ++ [.lst (ps.map fun kv => kTr kv.1)])
def fTruL (fe : FE) : FT := fun L M P => fe L M fun x M1 => ∃ ts, lstAt M1 x = some ts ∧ P (!ts.isEmpty) M1
section
variable {K : PySem.W.Frag} {B : Bs} {H : Hp} {ρ : List Addr} {M : Mem} {te td ty tv : TE} {fe fd fy fv : FE}
theorem kTr_inv {k : L2.Key} {x : V} (h : RT K H ρ (kTr k) x) : x = L2.kV k := by
  cases k with
  | inl i => exact h.int_inv
  | inr z => exact h.str_inv
theorem kTr_of (k : L2.Key) : RT K H ρ (kTr k) (L2.kV k) := by
  cases k with
  | inl i => exact RT.int_
  | inr z => exact RT.str_
theorem rks_val {k : L2.Key} : ∀ {ps : List (L2.Key × Tr)} {kvs : List (L2.Key × V)}, RKs K H ρ ps kvs → (valT ps k = none ∧ L2.valV kvs k = none) ∨ ∃ t x, valT ps k = some t ∧ L2.valV kvs k = some x ∧ RT K H ρ t x
  | [], _, h => by
    unfold RKs at h
    subst h
    exact .inl ⟨rfl, rfl⟩
  | p :: ps, _, h => by
    unfold RKs at h
    obtain ⟨x, hs, rfl, r, h⟩ := h
    rw [valT_cons]
    by_cases e : p.1 = k
    · rw [if_pos e, L2.valV_pos e]
      exact .inr ⟨_, _, rfl, rfl, r⟩
    · rw [if_neg e, L2.valV_neg e]
      exact rks_val h
theorem rks_len : ∀ {ps : List (L2.Key × Tr)} {kvs : List (L2.Key × V)}, RKs K H ρ ps kvs → kvs.length = ps.length
  | [], _, h => by
    unfold RKs at h
    subst h
    rfl
  | p :: ps, _, h => by
    unfold RKs at h
    obtain ⟨x, hs, rfl, r, h⟩ := h
    rw [List.length_cons, List.length_cons, rks_len h]
theorem rks_app : ∀ {ps qs : List (L2.Key × Tr)} {kvs ws : List (L2.Key × V)}, RKs K H ρ ps kvs → RKs K H ρ qs ws → RKs K H ρ (ps ++ qs) (kvs ++ ws)
  | [], _, _, _, h, k => by
    unfold RKs at h
    subst h
    exact k
  | p :: ps, _, _, _, h, k => by
    unfold RKs at h
    obtain ⟨x, hs, rfl, r, h⟩ := h
    show RKs K H ρ (p :: (ps ++ _)) _
    unfold RKs
    exact ⟨x, _, rfl, r, rks_app h k⟩
theorem rks_map {k : L2.Key} {v : Tr} {x : V} (rv : RT K H ρ v x) : ∀ {ps : List (L2.Key × Tr)} {kvs : List (L2.Key × V)}, RKs K H ρ ps kvs → RKs K H ρ (ps.map fun kv => if kv.1 = k then (kv.1, v) else kv) (kvs.map fun kv => if kv.1 = k then (kv.1, x) else kv)
  | [], _, h => by
    unfold RKs at h
    subst h
    exact rfl
  | p :: ps, _, h => by
    unfold RKs at h
    obtain ⟨y, hs, rfl, r, h⟩ := h
    rw [List.map_cons, List.map_cons]
    unfold RKs
    by_cases e : p.1 = k
    · rw [if_pos e, if_pos e]
      exact ⟨x, _, rfl, rv, rks_map rv h⟩
    · rw [if_neg e, if_neg e]
      exact ⟨y, _, rfl, r, rks_map rv h⟩
theorem rks_put {k : L2.Key} {v : Tr} {x : V} {ps : List (L2.Key × Tr)} {kvs : List (L2.Key × V)} (h : RKs K H ρ ps kvs) (rv : RT K H ρ v x) : RKs K H ρ (putKT ps k v) (L2.putK kvs k x) := by
  unfold putKT L2.putK
  rw [any_valT, L2.valV_any]
  rcases rks_val (k := k) h with ⟨e1, e2⟩ | ⟨t, y, e1, e2, _⟩
  · rw [e1, e2]
    exact rks_app h ⟨x, [], rfl, rv, rfl⟩
  · rw [e1, e2]
    exact rks_map rv h
theorem rks_keys : ∀ {ps : List (L2.Key × Tr)} {kvs : List (L2.Key × V)}, RKs K H ρ ps kvs → kvs.map (fun kv => L2.kV kv.1) = ps.map fun kv => L2.kV kv.1
  | [], _, h => by
    unfold RKs at h
    subst h
    rfl
  | p :: ps, _, h => by
    unfold RKs at h
    obtain ⟨x, hs, rfl, r, h⟩ := h
    rw [List.map_cons, List.map_cons, rks_keys h]
theorem rts_keys : ∀ ps : List (L2.Key × Tr), RTs K H ρ (ps.map fun kv => kTr kv.1) (ps.map fun kv => L2.kV kv.1)
  | [] => RTs.nil
  | p :: ps => RTs.cons (kTr_of p.1) (rts_keys ps)
/-- a dict is written -/
theorem Grow.wk (m : RM K H ρ M) {p : Addr} {xs ys : List (L2.Key × V)} (hp : H p = some (.dK xs)) (hm : p ∈ ρ) : Grow K H ρ (upd H p (.dK ys)) ρ :=
  ⟨⟨[], by simp⟩, fun _ _ h => sqt_upd h (.inr (.inr (.inr ⟨xs, hp⟩))), fun a u h n _ => by rw [upd_ne (show a ≠ p from fun e => n (by rw [e]; exact hm))]; exact h, fun _ h n => absurd h n, fun c q i h => cod_upd (.inr (.inr (.inr ⟨xs, hp⟩))) c q i h⟩
theorem rm_wk (r : RM K H ρ M) {p : Addr} {n : Nat} {xs ys : List (L2.Key × V)} {us : List (L2.Key × Tr)} (hp : H p = some (.dK xs)) (hn : ρ[n]? = some p) (h : RKs K H ρ us ys) : RM K (upd H p (.dK ys)) ρ (M.set n (.dic us)) := by
  have g := Grow.wk (ys := ys) r hp (List.mem_of_getElem? hn)
  refine ⟨by simp [r.len], fun m o e => ?_, r.nd⟩
  by_cases hm : n = m
  · subst hm
    have hl : n < M.length := by rw [← r.len]; exact (List.getElem?_eq_some_iff.mp hn).1
    rw [List.getElem?_set_self hl] at e
    cases e
    exact ⟨p, hn, ys, upd_same, RKs.mono0 g.gw h⟩
  · rw [List.getElem?_set_ne hm] at e
    obtain ⟨a, h1, h2⟩ := r.at_ m o e
    exact ⟨a, h1, h2.mono g (upd_ne fun e => hm (nodup_ix r.nd hn (e ▸ h1))) fun d q => by rw [upd_ne (ne_of q hp (fun z => nomatch z))]; exact q⟩
theorem RM.dic (r : RM K H ρ M) {p : Addr} {ts : List (L2.Key × Tr)} {xs : List (L2.Key × V)} (hp : H p = none) (h : RKs K H ρ ts xs) : RM K (upd H p (.dK xs)) (ρ ++ [p]) (M ++ [.dic ts]) := by
  have g := Grow.list (o := .dK xs) r hp
  have lt := r.len
  refine ⟨by simp [lt], fun n o e => ?_, ?_⟩
  · by_cases hn : n < M.length
    · rw [List.getElem?_append_left hn] at e
      obtain ⟨a, h1, h2⟩ := r.at_ n o e
      refine ⟨a, by rw [List.getElem?_append_left (by rw [lt]; exact hn)]; exact h1, h2.mono g (upd_ne fun e => r.fresh hp (e ▸ List.mem_of_getElem? h1)) fun d q => by rw [upd_ne (ne_of_none q hp)]; exact q⟩
    · rw [List.getElem?_append_right (by omega)] at e
      match hz : n - M.length, e with
      | 0, e =>
        cases e
        exact ⟨p, by rw [List.getElem?_append_right (by omega), lt, hz]; rfl, xs, upd_same, RKs.mono0 g.gw h⟩
      | k + 1, e => simp at e
  · rw [List.nodup_append]
    exact ⟨r.nd, by simp, fun a ha b hb => by rw [List.mem_singleton.mp hb]; exact fun e => r.fresh hp (e ▸ ha)⟩
theorem dic_ok {n : Nat} {ps : List (L2.Key × Tr)} {xv : V} (m : RM K H ρ M) (rx : RT K H ρ (.ref n) xv) (e : M[n]? = some (.dic ps)) : ∃ p kvs, ρ[n]? = some p ∧ xv = .ref p ∧ H p = some (.dK kvs) ∧ RKs K H ρ ps kvs := by
  obtain ⟨p, h1, kvs, h2, h3⟩ := m.at_ n _ e
  obtain ⟨p', h6, rfl⟩ := rx.ref_inv
  rw [h1] at h6
  cases h6
  exact ⟨p, kvs, h1, rfl, h2, h3⟩
theorem sim_dnew : SimE K B tDNewK fDnew := ⟨fun _ hm h o => fun q hq => o _ _ _ _ _ (Grow.list hm hq) (RM.dic (ts := []) (xs := []) hm hq (by unfold RKs; rfl)) (by unfold RT; exact ⟨q, hm.ref, rfl⟩) h⟩
theorem sim_dnin (a : SimE K B ty fy) (b : SimE K B td fd) : SimE K B (tDNotIn ty td) (fDNin fy fd) := ⟨fun hl hm h o => a.run hl hm h fun y yv H1 ρ1 M1 g1 m1 ry h1 => b.run (hl.mono g1) m1 h1 fun x xv H2 ρ2 M2 g2 m2 rx ⟨n, ps, k, ex, e, ey, p⟩ => by
  subst ex ey
  obtain ⟨q, kvs, h1, rfl, h2, h3⟩ := dic_ok m2 rx e
  refine ⟨q, L2.valV kvs k, rfl, .inl ⟨kvs, k, .inl h2, kTr_inv ry, rfl⟩, o _ _ _ _ _ (g1.trans g2) m2 ?_ p⟩
  rcases rks_val (k := k) h3 with ⟨e1, e2⟩ | ⟨t, z, e1, e2, _⟩
  · rw [e1, e2]; exact RT.bl_
  · rw [e1, e2]; exact RT.bl_⟩
theorem sim_din (a : SimE K B ty fy) (b : SimE K B td fd) : SimE K B (tDIn ty td) (fDIn fy fd) := ⟨fun hl hm h o => a.run hl hm h fun y yv H1 ρ1 M1 g1 m1 ry h1 => b.run (hl.mono g1) m1 h1 fun x xv H2 ρ2 M2 g2 m2 rx ⟨n, ps, k, ex, e, ey, p⟩ => by
  subst ex ey
  obtain ⟨q, kvs, h1, rfl, h2, h3⟩ := dic_ok m2 rx e
  refine ⟨q, L2.valV kvs k, rfl, .inl ⟨kvs, k, .inl h2, kTr_inv ry, rfl⟩, o _ _ _ _ _ (g1.trans g2) m2 ?_ p⟩
  rcases rks_val (k := k) h3 with ⟨e1, e2⟩ | ⟨t, z, e1, e2, _⟩
  · rw [e1, e2]; exact RT.bl_
  · rw [e1, e2]; exact RT.bl_⟩
theorem sim_dput (a : SimE K B td fd) (b : SimE K B ty fy) (c : SimE K B tv fv) : SimS K B (sDPut td ty tv) (fDPut fd fy fv) := ⟨fun hl hm h e => c.run hl hm h fun v vv H1 ρ1 M1 g1 m1 rv h1 => a.run (hl.mono g1) m1 h1 fun x xv H2 ρ2 M2 g2 m2 rx h2 => b.run (hl.mono (g1.trans g2)) m2 h2 fun y yv H3 ρ3 M3 g3 m3 ry ⟨n, ps, k, ex, en, ey, hz, p⟩ => by
  subst ex ey
  obtain ⟨q, kvs, h1, rfl, h2, h3⟩ := dic_ok m3 (rx.mono g3) en
  have g4 := Grow.wk (ys := L2.putK kvs k vv) m3 h2 (List.mem_of_getElem? h1)
  refine ⟨q, _, rfl, .inl ⟨kvs, k, h2, kTr_inv ry, by rw [rks_len h3]; exact hz, rfl⟩, ?_⟩
  have g := ((g1.trans g2).trans g3).trans g4
  exact e.nx _ _ _ _ _ g (hl.mono g) (rm_wk m3 h2 h1 (rks_put h3 (rv.mono (g2.trans g3)))) p⟩
theorem sim_dget (a : SimE K B td fd) (b : SimE K B ty fy) : SimE K B (tDGet td ty) (fDGet fd fy) := ⟨fun hl hm h o => a.run hl hm h fun x xv H1 ρ1 M1 g1 m1 rx h1 => b.run (hl.mono g1) m1 h1 fun y yv H2 ρ2 M2 g2 m2 ry ⟨n, ps, k, t, ex, en, ey, et, p⟩ => by
  subst ex ey
  obtain ⟨q, kvs, h1, rfl, h2, h3⟩ := dic_ok m2 (rx.mono g2) en
  rcases rks_val (k := k) h3 with ⟨e1, _⟩ | ⟨t', z, e1, e2, r⟩
  · rw [e1] at et; cases et
  · rw [e1] at et
    cases et
    exact ⟨q, z, rfl, .inl ⟨kvs, k, .inl h2, kTr_inv ry, e2.symm⟩, o _ _ _ _ _ (g1.trans g2) m2 r p⟩⟩
theorem sim_dget1 (a : SimE K B td fd) (b : SimE K B ty fy) : SimE K B (tDGet1 td ty) (fDGet1 fd fy) := ⟨fun hl hm h o => a.run hl hm h fun x xv H1 ρ1 M1 g1 m1 rx ⟨n, ps, ex, en, h1⟩ => by
  subst ex
  obtain ⟨q, kvs, h5, rfl, h2, h3⟩ := dic_ok m1 rx en
  refine ⟨q, rfl, .inl ⟨kvs, .inl h2⟩, b.run (hl.mono g1) m1 h1 fun y yv H2 ρ2 M2 g2 m2 ry ⟨ps', k, en', ey, p⟩ => ?_⟩
  subst ey
  obtain ⟨q', kvs', h5', e', h2', h3'⟩ := dic_ok m2 (rx.mono g2) en'
  cases e'
  refine ⟨L2.valV kvs' k, .inl ⟨kvs', k, .inl h2', kTr_inv ry, rfl⟩, o _ _ _ _ _ (g1.trans g2) m2 ?_ p⟩
  rcases rks_val (k := k) h3' with ⟨e1, e2⟩ | ⟨t', z, e1, e2, r⟩
  · rw [e1, e2]; exact RT.non_
  · rw [e1, e2]; exact r⟩
theorem c_listD : SimC K rListD fListD := ⟨fun {H ρ M xs xvs P Q} hm rx ⟨n, ps, e, en, p⟩ o => by
  subst e
  obtain ⟨xv, rfl, r1⟩ := rx.one
  obtain ⟨q, kvs, h1, rfl, h2, h3⟩ := dic_ok hm r1 en
  refine ⟨q, kvs, rfl, h2, fun l hl => ?_⟩
  rw [rks_keys h3]
  exact o _ _ _ _ _ (Grow.list hm hl) (hm.list hl (rts_keys ps)) (by unfold RT; exact ⟨l, hm.ref, rfl⟩) p⟩
theorem sim_truL (a : SimE K B te fe) : SimT K B (fun σ H Q => te σ H fun x H' => ∃ k, TruV K x H' k ∧ Q k H') (fTruL fe) := ⟨fun hl hm h o => a.run hl hm h fun x xv H1 ρ1 M1 g1 m1 rx ⟨ts, e, p⟩ => by
  obtain ⟨n, b, xs, rfl, hn, _, rfl, h3, h4⟩ := lstAt_ok m1 rx e
  refine ⟨_, .inl ⟨xs, .inl (.inl h3), ?_⟩, o _ _ _ _ g1 m1 p⟩
  have := h4.len
  cases ts <;> cases xs <;> first | rfl | cases this⟩
end
end Fm
namespace Fm
open PySem PySem.Spec PyProof.Rows L2
def fSum : FC := fun xs M P => ∃ x, ∃ ns : List Int, xs = [x] ∧ lstAt M x = some (ns.map Tr.int) ∧ P (.int ns.sum) M
def fSortI : FC := fun xs M P => ∃ x, ∃ ns : List Int, xs = [x] ∧ lstAt M x = some (ns.map Tr.int) ∧ ∀ ns' : List Int, ns'.Perm ns → ns'.Pairwise (· ≤ ·) → P (.ref M.length) (M ++ [.lst (ns'.map Tr.int)])
theorem rts_ints' {K : PySem.W.Frag} {H : Hp} {ρ : List Addr} : ∀ ys : List Int, RTs K H ρ (ys.map Tr.int) (ys.map V.int)
  | [] => RTs.nil
  | y :: ys => RTs.cons RT.int_ (rts_ints' ys)
theorem rts_ints_inv' {K : PySem.W.Frag} {H : Hp} {ρ : List Addr} : ∀ {ys : List Int} {vs : List V}, RTs K H ρ (ys.map Tr.int) vs → vs = ys.map V.int
  | [], _, h => by unfold RTs at h; exact h
  | y :: ys, _, h => by
    unfold RTs at h
    obtain ⟨x, zs, rfl, h1, h2⟩ := h
    rw [h1.int_inv, rts_ints_inv' (ys := ys) h2]
    rfl
section
variable {K : PySem.W.Frag}
theorem c_sum : SimC K (rSum K) fSum := ⟨fun {H ρ M xs xvs P Q} hm rx ⟨x, ns, e, el, p⟩ o => by
  subst e
  obtain ⟨xv, rfl, r1⟩ := rx.one
  obtain ⟨n, b, us, rfl, hn, _, rfl, h3, h4⟩ := lstAt_ok hm r1 el
  rw [rts_ints_inv' h4] at h3
  exact ⟨b, ns, rfl, .inl (.inl h3), o _ _ _ _ _ Grow.refl hm RT.int_ p⟩⟩
theorem c_sortI : SimC K (rSortedI K) fSortI := ⟨fun {H ρ M xs xvs P Q} hm rx ⟨x, ns, e, el, p⟩ o => by
  subst e
  obtain ⟨xv, rfl, r1⟩ := rx.one
  obtain ⟨n, b, us, rfl, hn, _, rfl, h3, h4⟩ := lstAt_ok hm r1 el
  rw [rts_ints_inv' h4] at h3
  exact ⟨b, ns, rfl, .inl (.inl h3), fun ns' l hp hs hl => o _ _ _ _ _ (Grow.list hm hl) (hm.list hl (rts_ints' ns')) (by unfold RT; exact ⟨l, hm.ref, rfl⟩) (p ns' hp hs)⟩⟩
end
theorem call_lenK {X : Cx} {K : PySem.W.Frag} (h : X.K = K) : CallR X (.builtin "len") (fun xs H Q => ∃ p ys, xs = [V.ref p] ∧ (SqL K H p ys ∨ SqT K H p ys) ∧ Q (V.int ys.length) H) := by subst h; exact call_len_seq
end Fm

set_option Elab.async false
set_option linter.all false
set_option maxRecDepth 100000
set_option maxHeartbeats 4000000
namespace T1
open PySem PySem.Spec PyProof.Rows L2 C8 Fm
local macro_rules | `(tactic| walk_at "sim1") => `(tactic| with_reducible first
  | exact sim_nil | exact sim_var | exact sim_int | exact sim_str | exact sim_bl | exact sim_non | exact sim_raw
  | apply sim_cons | apply sim_op | apply sim_un | apply sim_tup | apply sim_lst
  | apply sim_CB | apply sim_if | apply sim_test | apply sim_B | apply sim_not | apply sim_and | apply sim_or
  | apply sim_andV | apply sim_orV | apply sim_notV | apply sim_chain | exact sim_nopart | apply sim_part
  | apply sim_sl | apply sim_BML | apply sim_BMS | apply sim_BM0S | apply sim_M1 | apply sim_M0
  | apply sim_fmt | apply sim_joined | exact SimJ.nil | apply SimJ.cons
  | exact s_I0i | exact s_I0b | exact s_Ii | exact s_Ui | exact s_eq | exact s_ne | exact s_isN | exact s_notN | exact s_ixL | exact s_ixT | exact s_ixS
  | exact s_cat | exact s_catA | exact s_rep | exact s_repT | exact s_in | exact s_slL | exact s_slA | exact s_slS | exact s_addS | exact s_leS | exact s_ltS
  | exact c_len | exact c_lenS | exact c_list | exact c_tuple | exact c_int1 | exact c_intS | exact c_strI | exact c_max2 | exact c_min2
  | exact m_append | exact m_extend | exact m_split | exact m_join | exact m_0b | exact m_1b
  | apply sim_call | exact simSpF
  | exact sim_name | exact sim_gnil | apply sim_gcons | apply sim_gtup | apply sim_gsub | exact set_list
  | exact sim_next | apply sim_seq | apply sim_cut | exact sim_break | exact sim_cont | apply sim_drop | apply sim_ret | exact sim_retN
  | apply sim_ifS | exact sim_never | apply sim_asg | apply sim_par | apply sim_aug
  | apply sim_for | apply sim_while | apply i_list | apply i_tup | apply i_rng1 | apply i_rng2 | apply i_str | apply i_enum | apply i_zip
  | apply sim_lc | exact sim_yes | exact sim_namew (by decide) | exact sim_gnilw | apply sim_gconsw | apply sim_gtupw
  | apply sim_fld | apply sim_con | apply sim_setFld | apply sim_make | apply sim_prop | apply sim_meth | apply sim_cmeth | exact c_isi | apply sim_isiT | exact s_eqD | exact s_neD
  | walk_at "sim2")
local macro_rules | `(tactic| walk_at "sim2") => `(tactic| fail)
local macro_rules | `(tactic| walk_at "sim") => `(tactic| repeat' (walk_at "sim1"))
/-- open the trees' reading as far as it goes by itself -/
local macro_rules | `(tactic| walk_at "fm") => `(tactic| simp (config := { failIfUnchanged := false }) only [fVar, fC, fOp, fUn, fNil, fCons, fTup, fLst, fCB, fIf, fTest, fNot, fAnd, fOr, fAndV, fOrV, fNotV, fChain, fNoPart, fPart, fI, fI0, fU, fEq, fNe, fIsN, fNotN, fIxL, fIxT, fIxS,
  fCat, fCatA, fRep, fRepT, fSlL, fSlA, fSlS, fSl, fLen, fLenS, fList, fTuple, fIntS, fStrI, fMax2, fMin2, fAppend, fExtend, fIn, fBM, fMS, fBMS, fBM0S, fAddS, fLeS, fLtS, fM0b, fM1b, fSplit, fJoin, fJoined, fJs,
  fName, fGNil, fGCons, fGTup, fSetL, fGSub, fNext, fSeq, fCut, fBreak, fCont, fDrop, fRet, fRetN, fIfS, fAsg, fPar, fAug, fCall, fFld, fCon, fSetFld, fMake, fProp, fMeth, fCMeth, fIsi, fIsiT, fEqD, fNeD, insAt_ref, insO_ins, fFmt, fmtS_i, fmtS_s, fmtOk_i, fmtOk_s, fIL, fIT, fIR1, fIR2, fIS, fIEn, fIZ,
  startL, List.map_cons, List.map_nil, List.length_cons, List.length_nil, List.cons_append, List.nil_append, List.replicate, List.getElem?_cons_zero, List.getElem?_cons_succ, List.set_cons_zero, List.set_cons_succ, Nat.reduceSub, Nat.reduceAdd,
  Option.some.injEq, Tr.int.injEq, Tr.str.injEq, Tr.bl.injEq, Tr.tup.injEq, Tr.ref.injEq, List.cons.injEq, exists_eq_left, exists_eq_left', exists_eq_right, true_and, and_true, and_self, exists_and_left, tupOf_tup, eqS_ii, eqS_ss, eqS_bb, eqS_ni, eqS_in, eqS_nn, isStr_s, isN_n, isN_i, isN_b, isN_s, isN_t, isN_r, noRaw_n, noRaw_i, noRaw_b, noRaw_s, noRaw_t, noRaw_r, and_assoc, reduceIte, Bool.false_eq_true, exists_const, lstAt_ref, seqAt_ref, seqAt_tup, refAt_ref, lstO_lst, app_assoc2, len_app1, at_kk, at_00, set_k, set_00, Nat.add_assoc, Option.map_some, Prod.mk.injEq, int_cast_inj, Nat.zero_le, decide_eq_true_eq, Bool.not_eq_true', decide_eq_false_iff_not, Nat.add_zero, implies_true, forall_const, ite_true, ite_false, if_true, if_false, decide_true, decide_false, Bool.not_true, Bool.not_false, asg_len, Option.isSome_some])
local macro_rules | `(tactic| walk_at "bel") => `(tactic| first | rfl | (simp (config := { failIfUnchanged := false }) only [belM, O.bel, bels_strs, bels_ints, belL, Tr.bel, Tr.bels, Bool.and_true, Bool.true_and, Bool.and_self, decide_eq_true_eq, Bool.and_eq_true, true_and, and_true, List.length_cons, List.length_nil, Nat.reduceAdd]; try omega))

local macro_rules | `(tactic| walk_at "sim2") => `(tactic| first | exact simNext | assumption | exact sim_dnew | apply sim_dnin | apply sim_din | apply sim_dput | apply sim_dget | apply sim_dget1 | exact c_listD | exact c_hpush | exact c_hpop | apply sim_truL | exact c_sum | exact c_sortI | apply sim_match | apply SimM2.cons | exact SimM2.nil | apply i_enumT | apply sim_truS | apply sim_listG | apply sim_lcG | apply sim_eitherG | apply sim_methG | apply sim_methJ | apply sim_either | apply sim_sortKey | apply sim_sortSet | (apply sim_raise0; assumption) | apply sim_plain | apply sim_cval)
local macro_rules | `(tactic| walk_at "sim1") => `(tactic| first | (with_reducible apply sim_callX; assumption) | (with_reducible apply sim_methX; assumption) | (with_reducible apply sim_makeX; assumption) | (with_reducible apply sim_makeKX; assumption) | (with_reducible apply sim_makeVSX; assumption) | (with_reducible apply sim_conA) | (with_reducible apply sim_sortSet))
local macro_rules | `(tactic| walk_at "fm2") => `(tactic| simp (config := { failIfUnchanged := false }) only [dm_app, dm_len, dm_at, dm_at0, dm_set, dm_set0, List.getElem?_cons_zero, List.getElem?_cons_succ, List.set_cons_zero, List.set_cons_succ, lstO_lst, Option.isSome_some, Option.map_some, Option.some.injEq, Prod.mk.injEq, Nat.add_assoc, Nat.reduceAdd, exists_eq_left', exists_eq_left, true_and, and_assoc, fRaise0, fPlain, fCVal, fNv, int1_i, fEither, fTruS, fIEnT, fMatch, fGoM, setAllT, fMakeK, fMakeVS, fMethJ, fEitherG, fListG, fSortKey, fSortSet, fConA, fDnew, fDNin, fDIn, fDPut, fDGet, fDGet1, fListD, fTruL, fHpush, fHpop, fSum, fSortI])
local macro_rules | `(tactic| walk_at "fd") => `(tactic| (walk_at "fm"; walk_at "fm2"; walk_at "fm"; walk_at "fm2"; walk_at "fm"))

/-! ### the routes from a place -/
structure RouteOk (st : GM.Step) (s : Int) (found : List (Int × List Nat)) : Prop where
  best : ∀ a ∈ found, ∃ l, GM.Best st s a.1 (l, a.2)
  all : ∀ {r : List Nat} {q l : Int}, GM.walk st s r = some (q, l) → q ∈ found.map (·.1)
  nd : (found.map (·.1)).Nodup
def fdT (found : List (Int × List Nat)) : List (L2.Key × Tr) := found.map fun a => (.inl a.1, rtT a.2)
theorem bel_fd {n : Nat} : ∀ found : List (Int × List Nat), belK n (fdT found) = true
  | [] => rfl
  | a :: found => by
    show (Tr.bel n (rtT a.2) && belK n (fdT found)) = true
    rw [bel_rtT, bel_fd found]
    rfl
theorem bel_fd1 {n : Nat} (found : List (Int × List Nat)) : belM n [O.dic (fdT found)] = true := by simp only [belM, O.bel, bel_fd, Bool.and_true]
theorem val_fd {q : Int} : ∀ found : List (Int × List Nat), (valT (fdT found) (.inl q)).isSome = decide (q ∈ found.map (·.1))
  | [] => rfl
  | a :: found => by
    show (valT ((.inl a.1, rtT a.2) :: fdT found) (.inl q)).isSome = _
    rw [valT_cons]
    by_cases h : a.1 = q
    · rw [if_pos (by rw [h]), decide_eq_true (by simp [h])]
      rfl
    · rw [if_neg (fun z => h (by injection z)), val_fd found]
      exact decide_eq_decide.mpr (by simp [Ne.symm h])
theorem nodup_le : ∀ (n : Nat) (xs : List Int), xs.Nodup → (∀ x ∈ xs, 0 ≤ x ∧ x < n) → xs.length ≤ n
  | 0, xs, _, h => by
    cases xs with
    | nil => exact Nat.le_refl _
    | cons x xs =>
      have := h x List.mem_cons_self
      omega
  | n + 1, xs, nd, h => by
    by_cases m : (n : Int) ∈ xs
    · have l := List.length_erase_of_mem m
      have := nodup_le n (xs.erase (n : Int)) (nd.erase _) (fun x hx => by
        obtain ⟨h1, h2⟩ := (List.Nodup.mem_erase_iff nd).mp hx
        have := h x h2
        omega)
      have : 0 < xs.length := List.length_pos_of_mem m
      omega
    · have := nodup_le n xs nd (fun x hx => by
        have := h x hx
        have : x ≠ n := fun z => m (z ▸ hx)
        omega)
      omega
def fsRoutes (C : Addr) : FSp := fun ts M P _ => ∃ (n : Nat) (c : Int) (ls : List Lk) (rem : List Int) (s ld : Int), ts = [.ref n, remT rem, .int s, .int ld] ∧ TownAt C M n c ls ∧ rem.length = ls.length ∧ 0 ≤ s ∧ s < c ∧
  ∀ found, RouteOk (stp ls rem ld) s found → found.length ≤ 12 → P (.ref M.length) (M ++ [.dic (fdT found)])
/-- the loop's word -/
structure RW (c : Int) (ls : List Lk) (rem : List Int) (s ld : Int) (found : List (Int × List Nat)) (ks : List GM.Key) : Prop where
  inv : GM.Inv (stp ls rem ld) s found ks
  heap : HQ.Heap GM.LtK GM.k0 ks
  nd : (found.map (·.1)).Nodup
  fr : ∀ a ∈ found, 0 ≤ a.1 ∧ a.1 < c
  kr : ∀ k ∈ ks, 0 ≤ k.2.2 ∧ k.2.2 < c ∧ k.2.1.length ≤ found.length
  len : ks.length ≤ 1 + 24 * found.length
theorem rw_start {c : Int} {ls : List Lk} {rem : List Int} {s ld : Int} (s0 : 0 ≤ s) (s1 : s < c) : RW c ls rem s ld [] [(0, [], s)] :=
  ⟨GM.inv_start s, fun i i0 il => absurd il (by simp; omega), List.nodup_nil, fun a ha => (by cases ha), fun k hk => (by rw [List.mem_singleton.mp hk]; exact ⟨s0, s1, Nat.le_refl _⟩), by simp⟩
theorem RW.f12 {c : Int} {ls : List Lk} {rem : List Int} {s ld : Int} {found : List (Int × List Nat)} {ks : List GM.Key} (I : RW c ls rem s ld found ks) (h : c ≤ 12) : found.length ≤ 12 := by
  have := nodup_le 12 (found.map (·.1)) I.nd (fun x hx => by
    obtain ⟨a, ha, rfl⟩ := List.mem_map.mp hx
    have := I.fr a ha
    omega)
  rwa [List.length_map] at this
theorem belM_app2 {M g : Mem} (h : belM (List.length M) M = true) (k : belM (M ++ g).length g = true) : belM (M ++ g).length (M ++ g) = true := by
  rw [List.length_append] at k ⊢
  exact belM_ext h k
section
variable {P : Program} {w : World} {K : PySem.W.Frag} {mg : Str → Option Value} {base : Heap} {C : Addr} {cs : ErrC}
theorem scRoutes : FnScope ["town", "remaining", "start", "load", "found", "queue", "length", "route", "place", "bridge", "beyond", "further"] ["town", "remaining", "start", "load"] (fnScope s__routes_from) := fnScope_by (by decide +kernel)
theorem ok_routes {f : Addr} {fd : FuncData} (F : Def K mg "_routes_from" s__routes_from f fd) (b : Binds K fd ["town", "remaining", "start", "load"] []) (T : BR K mg cs) (Wy : Cal P w K mg base 3 "_ways_from" (spF K (fsWays C)) []) : Cal P w K mg base 4 "_routes_from" (spF K (fsRoutes C)) [] := by
  refine cal0 F b .nil scRoutes (fun vs H Q E h => ?_) (fun cdv A outer s H vs Q E hr h => ?_)
  · obtain ⟨ts, ρ, M, P, PX, r, m, ⟨n, c, ls, rem, p, ld, rfl, _⟩, o, ox⟩ := h
    exact r.len
  · refine ⟨_, (pss_cons (ps_set (i := 4) scRoutes.nd rfl (Or.inl rfl) pe_dnewK)
 (pss_cons (ps_set (i := 5) scRoutes.nd rfl (Or.inl rfl) (pe_lst (pa_cons (pe_tup (pa_cons pe_int (pa_cons (pe_tup pa_nil) (pa_cons (pv 2) pa_nil)))) pa_nil)))
 (pss_cons (ps_while PassesOwn.never (pt_truth (pv 5) (by intro _; rfl)) (pss_cons (ps_asg (pe_callMB (HRx.call_heappop hr.units) (by rfl) T.heappop (pa_cons (pv 5) pa_nil)) (pg_tup rfl (pgs_cons (pg_name (i := 6) scRoutes.nd rfl (Or.inl rfl)) (pgs_cons (pg_name (i := 7) scRoutes.nd rfl (Or.inl rfl)) (pgs_cons (pg_name (i := 8) scRoutes.nd rfl (Or.inl rfl)) pgs_nil)))))
 (pss_one (ps_if (pt_cmp (pc_dnotin (hu_of hr) (pv 8) (pv 4))) (pss_cons (ps_dput (hu_of hr) (pv 4) (pv 8) (pv 7) (by rfl))
 (pss_one (ps_for PassesOwn.never rfl (pi_list (pe_c Wy hr (by decide) (by rfl) (pa_cons (pv 0) (pa_cons (pv 1) (pa_cons (pv 8) (pa_cons (pv 3) pa_nil)))))) (pg_tup rfl (pgs_cons (pg_name (i := 9) scRoutes.nd rfl (Or.inl rfl)) (pgs_cons (pg_name (i := 10) scRoutes.nd rfl (Or.inl rfl)) (pgs_cons (pg_name (i := 11) scRoutes.nd rfl (Or.inl rfl)) pgs_nil)))) (pss_one (ps_expr (pe_callMB (HRx.call_heappush hr.units) (by rfl) T.heappush (pa_cons (pv 5) (pa_cons (pe_tup (pa_cons (pe_op op_add (pv 6) (pv 11)) (pa_cons (pe_op op_catA (pv 7) (pe_tup (pa_cons (pv 9) pa_nil))) (pa_cons (pv 10) pa_nil)))) pa_nil)))))))) pss_nil))))
 (pss_one (ps_ret (pv 4)))))), ?_⟩
    obtain ⟨ts, ρ, M, P, PX, r, m, ⟨n, c, ls, rem, s, ld, rfl, ht, hrl, s0, s1, q⟩, o, ox⟩ := h
    try simp only [nox_K, cx_K]
    refine run_in r m o (by walk_at "sim") ?_
    walk_at "fd"
    have hM := m.belM
    have hnl : n < List.length M := (List.getElem?_eq_some_iff.mp ht.1).1
    have hc12 := ht.2.c1
    unfold fWhile
    refine ⟨by rw [sizeLine_eq]; decide, by rw [sizeLine_eq]; decide, fun m L2 M2 => ∃ found ks v6 v7 v8 v9 v10 v11, L2 = [some (Tr.ref n), some (remT rem), some (Tr.int s), some (Tr.int ld), some (Tr.ref (List.length M)), some (Tr.ref (List.length M + 1)), v6, v7, v8, v9, v10, v11] ∧ M2 = M ++ [.dic (fdT found), .lst (ks.map kT)] ∧ RW c ls rem s ld found ks ∧ m = (12 - found.length) * 25 + ks.length,
      ⟨_, [], [(0, [], s)], none, none, none, none, none, none, rfl, rfl, rw_start s0 s1, rfl⟩, ?_⟩
    rintro m L2 M2 ⟨found, ks, v6, v7, v8, v9, v10, v11, rfl, rfl, I, rfl⟩
    walk_at "fd"
    cases ks with
    | nil =>
      rw [if_neg (by decide)]
      have F12 := I.f12 hc12
      have e1 : (M ++ [O.dic (fdT found), O.lst ([].map kT)]).take (List.length M + 1) = M ++ [O.dic (fdT found)] := by rw [List.take_append]; simp [List.take_of_length_le]
      refine ⟨List.length M + 1, by omega, decide_eq_true (by omega), by rw [e1]; exact belM_ext hM (bel_fd1 found), by rw [e1]; exact q found ⟨I.inv.hf, fun hw => GM.inv_end I.inv hw, I.nd⟩ F12⟩
    | cons k0 ks0 =>
      generalize hks : k0 :: ks0 = ks
      rw [hks] at I
      have hne : ks ≠ [] := by rw [← hks]; exact fun z => nomatch z
      rw [if_pos (by cases ks with
        | nil => exact absurd rfl hne
        | cons _ _ => rfl)]
      obtain ⟨hh, hp, hl⟩ := HQ.pop_ok GM.totK I.heap hne
      refine ⟨_, rfl, by simpa using hne, okT_k ks, ?_⟩
      rw [pop_k hne]
      generalize HQ.pop GM.LtK GM.k0 ks = pk at hh hp hl ⊢
      obtain ⟨k, rest⟩ := pk
      simp only at hh hp hl ⊢
      refine ⟨_, rfl, rfl, _, _, rfl, _, _, rfl, _, _, rfl, rfl, _, rfl, .inl k.2.2, rfl, ?_⟩
      have hkm : k ∈ ks := hp.mem_iff.mp List.mem_cons_self
      obtain ⟨kr0, kr1, krl⟩ := I.kr k hkm
      have F12 := I.f12 hc12
      have hlr : rest.length + 1 = ks.length := hp.length_eq
      have hkl := I.len
      have hv := val_fd (q := k.2.2) found
      by_cases hn : k.2.2 ∈ found.map (·.1)
      · rw [hv, decide_eq_true hn, if_neg (by decide)]
        refine forget_same (L' := [some (Tr.ref n), some (remT rem), some (Tr.int s), some (Tr.int ld), some (Tr.ref (List.length M)), some (Tr.ref (List.length M + 1)), none, none, none, none, none, none]) ⟨_, rfl, _, rfl, _, rfl, _, rfl, _, rfl, _, rfl, _, _, rfl, _, _, rfl, _, _, rfl, _, _, rfl, _, _, rfl, _, _, rfl, rfl⟩
          ⟨_, ?_, found, rest, none, none, none, none, none, none, rfl, rfl, ⟨GM.inv_old I.inv hp hn, hh, I.nd, I.fr, fun x hx => I.kr x (hp.mem_iff.mp (List.mem_cons_of_mem _ hx)), by omega⟩, rfl⟩ ⟨by simp, ?_⟩ ?_
        · omega
        · simp only [belL, Tr.bel, remT, bel_ints, Bool.and_true, Bool.true_and, Bool.and_eq_true, decide_eq_true_eq, List.length_append, List.length_cons, List.length_nil]
          omega
        · exact belM_app2 hM (by simp [belM, O.bel, bel_fd, bel_ks])
      · rw [hv, decide_eq_false hn, if_pos rfl]
        have e0 : valT (fdT found) (.inl k.2.2) = none := by
          cases z : valT (fdT found) (.inl k.2.2) with
          | none => rfl
          | some _ => rw [z, decide_eq_false hn] at hv; cases hv
        refine ⟨_, rfl, .inl k.2.2, rfl, by rw [sizeLine_eq]; unfold fdT; rw [List.length_map]; omega, ?_⟩
        rw [putKT_new e0]
        unfold fFor
        walk_at "fd"
        generalize hfnd : found ++ [(k.2.2, k.2.1)] = fnd
        have efnd : fdT found ++ [(Sum.inl k.2.2, rtT k.2.1)] = fdT fnd := by
          rw [← hfnd]
          unfold fdT
          rw [List.map_append]
          rfl
        rw [efnd]
        have hws := fun a => mem_ways (ls := ls) (rem := rem) (ld := ld) (p := k.2.2) (a := a)
        have hwl := waysTo_len (ls := ls) (rem := rem) (ld := ld) (p := k.2.2) (n := ls.length)
        have h24 := ht.2.len
        refine ⟨n, c, ls, rem, k.2.2, ld, rfl, ht.app, hrl, ?_⟩
        generalize waysTo ls rem ld k.2.2 ls.length = ws at hws hwl ⊢
        walk_at "fd"
        have hbb : ∀ (N : Nat) (qs : List GM.Key), belM N [O.dic (fdT fnd), O.lst (qs.map kT), O.lst (ws.map wayT)] = true := fun N qs => by
          have := bel_ways (n := N) ws
          simp only [belM, O.bel, bel_fd, bel_ks, Bool.and_true, Bool.true_and] at this ⊢
          exact this
        refine ⟨fun i L2 M2 => ∃ v9 v10 v11 qs, L2 = [some (Tr.ref n), some (remT rem), some (Tr.int s), some (Tr.int ld), some (Tr.ref (List.length M)), some (Tr.ref (List.length M + 1)), some (Tr.int k.1), some (rtT k.2.1), some (Tr.int k.2.2), v9, v10, v11] ∧
          M2 = M ++ [.dic (fdT fnd), .lst (qs.map kT), .lst (ws.map wayT)] ∧ HQ.Heap GM.LtK GM.k0 qs ∧ qs.Perm ((ws.take i).map (fun a => (k.1 + a.2.2, k.2.1 ++ [a.1], a.2.1)) ++ rest), ⟨v9, v10, v11, rest, rfl, rfl, hh, .refl _⟩, ?_, ?_, ?_⟩
        · rintro i L2 M2 _ ⟨u9, u10, u11, qs, rfl, rfl, _, _⟩
          rw [at_k]
          rfl
        · rintro i t L2 M2 hti ⟨u9, u10, u11, qs, rfl, rfl, hq1, hq2⟩
          rw [List.getElem?_map] at hti
          cases ha : ws[i]? with
          | none => rw [ha] at hti; cases hti
          | some a =>
            rw [ha] at hti
            cases hti
            refine ⟨_, rfl, rfl, _, _, rfl, _, _, rfl, _, _, rfl, rfl, ?_⟩
            walk_at "fd"
            have hi := (List.getElem?_eq_some_iff.mp ha).1
            have hql := hq2.length_eq
            rw [List.length_append, List.length_map, List.length_take] at hql
            have ey : Tr.tup [Tr.int (k.1 + a.2.2), Tr.tup ((k.2.1.map fun i : Nat => Tr.int (i : Int)) ++ [Tr.int (a.1 : Int)]), Tr.int a.2.1] = kT (k.1 + a.2.2, k.2.1 ++ [a.1], a.2.1) := by
              unfold kT rtT
              rw [List.map_append]
              rfl
            refine ⟨by rw [sizeLine_eq]; decide, _, rfl, by rw [List.length_map, sizeLine_eq]; omega, by rw [sizeLine_eq]; decide, _, rfl, ?_⟩
            rw [ey]
            obtain ⟨p1, p2⟩ := HQ.push_ok (x := (k.1 + a.2.2, k.2.1 ++ [a.1], a.2.1)) GM.totK hq1
            refine ⟨by have := okT_k (qs ++ [(k.1 + a.2.2, k.2.1 ++ [a.1], a.2.1)]); rwa [List.map_append] at this, by rw [List.length_map, sizeLine_eq]; omega, ?_⟩
            rw [push_k]
            refine forget_same (L' := [some (Tr.ref n), some (remT rem), some (Tr.int s), some (Tr.int ld), some (Tr.ref (List.length M)), some (Tr.ref (List.length M + 1)), some (Tr.int k.1), some (rtT k.2.1), some (Tr.int k.2.2), none, none, none]) ⟨_, rfl, _, rfl, _, rfl, _, rfl, _, rfl, _, rfl, _, rfl, _, rfl, _, rfl, _, _, rfl, _, _, rfl, _, _, rfl, rfl⟩
              ⟨none, none, none, rfl, _, rfl, p1, ?_⟩ ⟨by simp, ?_⟩ (belM_app2 hM (hbb _ _))
            · refine p2.trans ?_
              rw [List.take_add_one, ha]
              simp only [Option.toList_some, List.map_append, List.map_cons, List.map_nil, List.append_assoc, List.cons_append, List.nil_append]
              exact (hq2.cons _).trans List.perm_middle.symm
            · simp only [belL, Tr.bel, remT, bel_ints, bel_rtT, Bool.and_true, Bool.true_and, Bool.and_eq_true, decide_eq_true_eq, List.length_append, List.length_cons, List.length_nil]
              omega
        · rintro L2 M2 ⟨u9, u10, u11, qs, rfl, rfl, hq1, hq2⟩
          rw [List.length_map, List.take_of_length_le (Nat.le_refl _)] at hq2
          have hql := hq2.length_eq
          rw [List.length_append, List.length_map] at hql
          have fl : fnd.length = found.length + 1 := by rw [← hfnd]; simp
          have hmem : ∀ x, x ∈ qs ↔ x ∈ rest ∨ ∃ i q t, stp ls rem ld k.2.2 i = some (q, t) ∧ x = (k.1 + t, k.2.1 ++ [i], q) := fun x => by
            rw [hq2.mem_iff, List.mem_append, List.mem_map]
            constructor
            · rintro (⟨a, ha, rfl⟩ | h)
              · exact .inr ⟨a.1, a.2.1, a.2.2, (hws a).mp ha, rfl⟩
              · exact .inl h
            · rintro (h | ⟨i, q, t, h, rfl⟩)
              · exact .inr h
              · exact .inl ⟨(i, q, t), (hws _).mpr h, rfl⟩
          have nd2 : (fnd.map (·.1)).Nodup := by
            rw [← hfnd, List.map_append, List.nodup_append]
            exact ⟨I.nd, by simp, fun a ha b hb => by rw [List.map_cons, List.map_nil, List.mem_singleton] at hb; rw [hb]; exact fun z => hn (by rw [z] at ha; exact ha)⟩
          have fr2 : ∀ a ∈ fnd, 0 ≤ a.1 ∧ a.1 < c := fun a ha => by
            rw [← hfnd] at ha
            rcases List.mem_append.mp ha with h | h
            · exact I.fr a h
            · rw [List.mem_singleton.mp h]
              exact ⟨kr0, kr1⟩
          have I2 : RW c ls rem s ld fnd qs := ⟨hfnd ▸ GM.inv_new (stp_pos ht.2) I.inv hp hl hn hmem, hq1, nd2, fr2, fun x hx => by
            rcases (hmem x).mp hx with h | ⟨i, q, t, h, rfl⟩
            · obtain ⟨x1, x2, x3⟩ := I.kr x (hp.mem_iff.mp (List.mem_cons_of_mem _ h))
              exact ⟨x1, x2, by omega⟩
            · obtain ⟨y1, y2, _⟩ := stp_place ht.2 h
              refine ⟨y1, y2, ?_⟩
              simp only [List.length_append, List.length_cons, List.length_nil]
              omega, by omega⟩
          have F2 := I2.f12 hc12
          refine forget_to (M := M) (g := [.dic (fdT fnd), .lst (qs.map kT)]) (h := [.lst (ws.map wayT)]) (L' := [some (Tr.ref n), some (remT rem), some (Tr.int s), some (Tr.int ld), some (Tr.ref (List.length M)), some (Tr.ref (List.length M + 1)), none, none, none, none, none, none]) (by simp) ⟨_, rfl, _, rfl, _, rfl, _, rfl, _, rfl, _, rfl, _, _, rfl, _, _, rfl, _, _, rfl, _, _, rfl, _, _, rfl, _, _, rfl, rfl⟩
            ⟨_, ?_, fnd, qs, none, none, none, none, none, none, rfl, rfl, I2, rfl⟩ ?_ hM (by simp only [belM, O.bel, bel_fd, bel_ks, Bool.and_true])
          · omega
          · simp only [belL, Tr.bel, remT, bel_ints, Bool.and_true, Bool.true_and, Bool.and_eq_true, decide_eq_true_eq, List.length_append, List.length_cons, List.length_nil]
            omega
end
end T1

set_option Elab.async false
set_option linter.all false
set_option maxRecDepth 100000
set_option maxHeartbeats 4000000
namespace T1
open PySem PySem.Spec PyProof.Rows L2 C8 Fm
local macro_rules | `(tactic| walk_at "sim1") => `(tactic| with_reducible first
  | exact sim_nil | exact sim_var | exact sim_int | exact sim_str | exact sim_bl | exact sim_non | exact sim_raw
  | apply sim_cons | apply sim_op | apply sim_un | apply sim_tup | apply sim_lst
  | apply sim_CB | apply sim_if | apply sim_test | apply sim_B | apply sim_not | apply sim_and | apply sim_or
  | apply sim_andV | apply sim_orV | apply sim_notV | apply sim_chain | exact sim_nopart | apply sim_part
  | apply sim_sl | apply sim_BML | apply sim_BMS | apply sim_BM0S | apply sim_M1 | apply sim_M0
  | apply sim_fmt | apply sim_joined | exact SimJ.nil | apply SimJ.cons
  | exact s_I0i | exact s_I0b | exact s_Ii | exact s_Ui | exact s_eq | exact s_ne | exact s_isN | exact s_notN | exact s_ixL | exact s_ixT | exact s_ixS
  | exact s_cat | exact s_catA | exact s_rep | exact s_repT | exact s_in | exact s_slL | exact s_slA | exact s_slS | exact s_addS | exact s_leS | exact s_ltS
  | exact c_len | exact c_lenS | exact c_list | exact c_tuple | exact c_int1 | exact c_intS | exact c_strI | exact c_max2 | exact c_min2
  | exact m_append | exact m_extend | exact m_split | exact m_join | exact m_0b | exact m_1b
  | apply sim_call | exact simSpF
  | exact sim_name | exact sim_gnil | apply sim_gcons | apply sim_gtup | apply sim_gsub | exact set_list
  | exact sim_next | apply sim_seq | apply sim_cut | exact sim_break | exact sim_cont | apply sim_drop | apply sim_ret | exact sim_retN
  | apply sim_ifS | exact sim_never | apply sim_asg | apply sim_par | apply sim_aug
  | apply sim_for | apply sim_while | apply i_list | apply i_tup | apply i_rng1 | apply i_rng2 | apply i_str | apply i_enum | apply i_zip
  | apply sim_lc | exact sim_yes | exact sim_namew (by decide) | exact sim_gnilw | apply sim_gconsw | apply sim_gtupw
  | apply sim_fld | apply sim_con | apply sim_setFld | apply sim_make | apply sim_prop | apply sim_meth | apply sim_cmeth | exact c_isi | apply sim_isiT | exact s_eqD | exact s_neD
  | walk_at "sim2")
local macro_rules | `(tactic| walk_at "sim2") => `(tactic| fail)
local macro_rules | `(tactic| walk_at "sim") => `(tactic| repeat' (walk_at "sim1"))
/-- open the trees' reading as far as it goes by itself -/
local macro_rules | `(tactic| walk_at "fm") => `(tactic| simp (config := { failIfUnchanged := false }) only [fVar, fC, fOp, fUn, fNil, fCons, fTup, fLst, fCB, fIf, fTest, fNot, fAnd, fOr, fAndV, fOrV, fNotV, fChain, fNoPart, fPart, fI, fI0, fU, fEq, fNe, fIsN, fNotN, fIxL, fIxT, fIxS,
  fCat, fCatA, fRep, fRepT, fSlL, fSlA, fSlS, fSl, fLen, fLenS, fList, fTuple, fIntS, fStrI, fMax2, fMin2, fAppend, fExtend, fIn, fBM, fMS, fBMS, fBM0S, fAddS, fLeS, fLtS, fM0b, fM1b, fSplit, fJoin, fJoined, fJs,
  fName, fGNil, fGCons, fGTup, fSetL, fGSub, fNext, fSeq, fCut, fBreak, fCont, fDrop, fRet, fRetN, fIfS, fAsg, fPar, fAug, fCall, fFld, fCon, fSetFld, fMake, fProp, fMeth, fCMeth, fIsi, fIsiT, fEqD, fNeD, insAt_ref, insO_ins, fFmt, fmtS_i, fmtS_s, fmtOk_i, fmtOk_s, fIL, fIT, fIR1, fIR2, fIS, fIEn, fIZ,
  startL, List.map_cons, List.map_nil, List.length_cons, List.length_nil, List.cons_append, List.nil_append, List.replicate, List.getElem?_cons_zero, List.getElem?_cons_succ, List.set_cons_zero, List.set_cons_succ, Nat.reduceSub, Nat.reduceAdd,
  Option.some.injEq, Tr.int.injEq, Tr.str.injEq, Tr.bl.injEq, Tr.tup.injEq, Tr.ref.injEq, List.cons.injEq, exists_eq_left, exists_eq_left', exists_eq_right, true_and, and_true, and_self, exists_and_left, tupOf_tup, eqS_ii, eqS_ss, eqS_bb, eqS_ni, eqS_in, eqS_nn, isStr_s, isN_n, isN_i, isN_b, isN_s, isN_t, isN_r, noRaw_n, noRaw_i, noRaw_b, noRaw_s, noRaw_t, noRaw_r, and_assoc, reduceIte, Bool.false_eq_true, exists_const, lstAt_ref, seqAt_ref, seqAt_tup, refAt_ref, lstO_lst, app_assoc2, len_app1, at_kk, at_00, set_k, set_00, Nat.add_assoc, Option.map_some, Prod.mk.injEq, int_cast_inj, Nat.zero_le, decide_eq_true_eq, Bool.not_eq_true', decide_eq_false_iff_not, Nat.add_zero, implies_true, forall_const, ite_true, ite_false, if_true, if_false, decide_true, decide_false, Bool.not_true, Bool.not_false, asg_len, Option.isSome_some])
local macro_rules | `(tactic| walk_at "bel") => `(tactic| first | rfl | (simp (config := { failIfUnchanged := false }) only [belM, O.bel, bels_strs, bels_ints, belL, Tr.bel, Tr.bels, Bool.and_true, Bool.true_and, Bool.and_self, decide_eq_true_eq, Bool.and_eq_true, true_and, and_true, List.length_cons, List.length_nil, Nat.reduceAdd]; try omega))

local macro_rules | `(tactic| walk_at "sim2") => `(tactic| first | exact simNext | assumption | exact sim_dnew | apply sim_dnin | apply sim_din | apply sim_dput | apply sim_dget | apply sim_dget1 | exact c_listD | exact c_hpush | exact c_hpop | apply sim_truL | exact c_sum | exact c_sortI | apply sim_match | apply SimM2.cons | exact SimM2.nil | apply i_enumT | apply sim_truS | apply sim_listG | apply sim_lcG | apply sim_eitherG | apply sim_methG | apply sim_methJ | apply sim_either | apply sim_sortKey | apply sim_sortSet | (apply sim_raise0; assumption) | apply sim_plain | apply sim_cval)
local macro_rules | `(tactic| walk_at "sim1") => `(tactic| first | (with_reducible apply sim_callX; assumption) | (with_reducible apply sim_methX; assumption) | (with_reducible apply sim_makeX; assumption) | (with_reducible apply sim_makeKX; assumption) | (with_reducible apply sim_makeVSX; assumption) | (with_reducible apply sim_conA) | (with_reducible apply sim_sortSet))
local macro_rules | `(tactic| walk_at "fm2") => `(tactic| simp (config := { failIfUnchanged := false }) only [dm_app, dm_len, dm_at, dm_at0, dm_set, dm_set0, List.getElem?_cons_zero, List.getElem?_cons_succ, List.set_cons_zero, List.set_cons_succ, lstO_lst, Option.isSome_some, Option.map_some, Option.some.injEq, Prod.mk.injEq, Nat.add_assoc, Nat.reduceAdd, exists_eq_left', exists_eq_left, true_and, and_assoc, fRaise0, fPlain, fCVal, fNv, int1_i, fEither, fTruS, fIEnT, fMatch, fGoM, setAllT, fMakeK, fMakeVS, fMethJ, fEitherG, fListG, fSortKey, fSortSet, fConA, fDnew, fDNin, fDIn, fDPut, fDGet, fDGet1, fListD, fTruL, fHpush, fHpop, fSum, fSortI])
local macro_rules | `(tactic| walk_at "fd") => `(tactic| (walk_at "fm"; walk_at "fm2"; walk_at "fm"; walk_at "fm2"; walk_at "fm"))

/-! ### the routes' defs -/
/-- the shortest route, as a value -/
def ShortT (st : GM.Step) (a b : Int) (t : Tr) : Prop := (∃ l r, GM.Best st a b (l, r) ∧ t = rtT r) ∨ ((∀ r q l, GM.walk st a r = some (q, l) → q ≠ b) ∧ t = .non)
def fsShort (C : Addr) (cs : ErrC) : FSp := fun ts M P PX => ∃ (n : Nat) (c : Int) (ls : List Lk) (rem : List Int) (a b ld : Int), ts = [.ref n, remT rem, .int a, .int b, .int ld] ∧ TownAt C M n c ls ∧ rem.length = ls.length ∧
  (¬ (0 ≤ a ∧ a < c) → PX cs.place [] M) ∧ (0 ≤ a ∧ a < c → ¬ (0 ≤ b ∧ b < c) → PX cs.place [] M) ∧ (0 ≤ a ∧ a < c → 0 ≤ b ∧ b < c → ¬ (1 ≤ ld ∧ ld ≤ 9) → PX cs.load [] M) ∧
  (0 ≤ a ∧ a < c → 0 ≤ b ∧ b < c → 1 ≤ ld ∧ ld ≤ 9 → ∀ t, ShortT (stp ls rem ld) a b t → P t M)
/-- the places that are reached, ascending -/
structure Reach (st : GM.Step) (a : Int) (ns : List Int) : Prop where
  mem : ∀ q, q ∈ ns ↔ ∃ r l, GM.walk st a r = some (q, l)
  asc : ns.Pairwise (· < ·)
def fsReach (C : Addr) (cs : ErrC) : FSp := fun ts M P PX => ∃ (n : Nat) (c : Int) (ls : List Lk) (rem : List Int) (a ld : Int), ts = [.ref n, remT rem, .int a, .int ld] ∧ TownAt C M n c ls ∧ rem.length = ls.length ∧
  (¬ (0 ≤ a ∧ a < c) → PX cs.place [] M) ∧ (0 ≤ a ∧ a < c → ¬ (1 ≤ ld ∧ ld ≤ 9) → PX cs.load [] M) ∧
  (0 ≤ a ∧ a < c → 1 ≤ ld ∧ ld ≤ 9 → ∀ ns d k, Reach (stp ls rem ld) a ns → ns.length ≤ 12 → (∀ N, belM N [d, k] = true) → P (.ref (M.length + 2)) (M ++ [d, k, .lst (ns.map Tr.int)]))
def lenAt (ls : List Lk) (i : Int) : Int := ((ls[i.toNat]?).map fun l => l.2.2.1).getD 0
def fsRlen (C : Addr) (cs : ErrC) : FSp := fun ts M P PX => ∃ (n : Nat) (c : Int) (ls : List Lk) (rs : List Int), ts = [.ref n, .tup (rs.map Tr.int)] ∧ TownAt C M n c ls ∧ rs.length ≤ sizeLine ∧
  ((∀ r ∈ rs, 0 ≤ r ∧ r < ls.length) → P (.int (rs.map (lenAt ls)).sum) M) ∧ (∀ r ∈ rs, ¬ (0 ≤ r ∧ r < ls.length) → PX cs.bridge [] M)
theorem val_fd_mem {q : Int} : ∀ found : List (Int × List Nat), ∀ t, valT (fdT found) (.inl q) = some t → ∃ a ∈ found, a.1 = q ∧ t = rtT a.2
  | [], t, h => by cases h
  | a :: found, t, h => by
    rw [show fdT (a :: found) = (.inl a.1, rtT a.2) :: fdT found from rfl, valT_cons] at h
    by_cases e : (Sum.inl a.1 : L2.Key) = .inl q
    · rw [if_pos e] at h
      cases h
      exact ⟨a, List.mem_cons_self, by injection e, rfl⟩
    · rw [if_neg e] at h
      obtain ⟨b, hb, e1, e2⟩ := val_fd_mem found t h
      exact ⟨b, List.mem_cons_of_mem _ hb, e1, e2⟩
theorem short_of {st : GM.Step} {s b : Int} {found : List (Int × List Nat)} (h : RouteOk st s found) : ShortT st s b ((valT (fdT found) (.inl b)).getD .non) := by
  cases e : valT (fdT found) (.inl b) with
  | some t =>
    obtain ⟨a, ha, rfl, rfl⟩ := val_fd_mem found t e
    obtain ⟨l, hb⟩ := h.best a ha
    exact .inl ⟨l, a.2, hb, rfl⟩
  | none =>
    refine .inr ⟨fun r q l hw z => ?_, rfl⟩
    have := val_fd (q := b) found
    rw [e, ← z, decide_eq_true (h.all hw)] at this
    cases this
theorem reach_of {st : GM.Step} {s : Int} {found : List (Int × List Nat)} {ns : List Int} (h : RouteOk st s found) (hp : ns.Perm (found.map (·.1))) (hs : ns.Pairwise (· ≤ ·)) : Reach st s ns := by
  refine ⟨fun q => ?_, ?_⟩
  · rw [hp.mem_iff]
    constructor
    · intro hq
      obtain ⟨a, ha, rfl⟩ := List.mem_map.mp hq
      obtain ⟨l, hb⟩ := h.best a ha
      exact ⟨a.2, l, hb.w⟩
    · rintro ⟨r, l, hw⟩
      exact h.all hw
  · have nd : ns.Nodup := hp.nodup_iff.mpr h.nd
    exact (hs.and nd).imp fun {a b} z => by
      have := z.1
      have := z.2
      omega
theorem bel_short {n : Nat} {st : GM.Step} {a b : Int} {t : Tr} (h : ShortT st a b t) : Tr.bel n t = true := by
  rcases h with ⟨l, r, _, rfl⟩ | ⟨_, rfl⟩
  · exact bel_rtT r
  · rfl
theorem at_k0 {M : Mem} {o : O} : (M ++ [o])[List.length M]? = some o := by rw [List.getElem?_append_right (Nat.le_refl _), Nat.sub_self]; rfl
theorem keys_fd (found : List (Int × List Nat)) : (fdT found).map (fun kv => kTr kv.1) = (found.map (·.1)).map Tr.int := by
  unfold fdT
  rw [List.map_map, List.map_map]
  rfl
section
variable {P : Program} {w : World} {K : PySem.W.Frag} {mg : Str → Option Value} {base : Heap} {C : Addr} {cs : ErrC}
/-- the checks, called -/
structure Chk (P : Program) (w : World) (K : PySem.W.Frag) (mg : Str → Option Value) (base : Heap) (C : Addr) (cs : ErrC) : Prop where
  check_place : CalX P w K mg base (L2.CX P w) 3 "check_place" (spF K (fsChkPlace C cs))
  check_bridge : CalX P w K mg base (L2.CX P w) 3 "check_bridge" (spF K (fsChkBridge C cs))
  check_load : CalX P w K mg base (L2.CX P w) 3 "check_load" (spF K (fsChkLoad cs))
theorem scShort : FnScope ["town", "remaining", "one", "other", "load"] ["town", "remaining", "one", "other", "load"] (L2.defScope s_shortest_route) := ⟨rfl, rfl, rfl, by decide +kernel, rfl, by decide +kernel, by decide +kernel⟩
theorem ok_short {f : Addr} {fd : FuncData} (F : L2.Fun K "shortest_route" "shortest_route" s_shortest_route f fd) (T : BR K mg cs) (C3 : Chk P w K mg base C cs) (Rt : Cal P w K mg base 4 "_routes_from" (spF K (fsRoutes C)) []) :
    FnOk P w K mg base (L2.CX P w) 5 f fd ["town", "remaining", "one", "other", "load"] (spF K (fsShort C cs)) := by
  refine F.okX scShort (fun vs H Q E h => ?_) (fun cdv A outer s H vs Q E hr h => ?_)
  · obtain ⟨ts, ρ, M, P, PX, r, m, ⟨n, c, ls, rem, a, b, ld, rfl, _⟩, o, ox⟩ := h
    exact r.len
  · have C := C3
    refine ⟨_, (pss_cons (ps_expr (pe_cX C.check_place hr (by first | decide | omega) (by rfl) (passes_call (takes_of rfl rfl rfl rfl) (fun _ _ _ _ h => h)) (pa_cons (pv 0) (pa_cons (pv 2) pa_nil))))
 (pss_cons (ps_expr (pe_cX C.check_place hr (by first | decide | omega) (by rfl) (passes_call (takes_of rfl rfl rfl rfl) (fun _ _ _ _ h => h)) (pa_cons (pv 0) (pa_cons (pv 3) pa_nil))))
 (pss_cons (ps_expr (pe_cX C.check_load hr (by first | decide | omega) (by rfl) (passes_call (takes_of rfl rfl rfl rfl) (fun _ _ _ _ h => h)) (pa_cons (pv 4) pa_nil)))
 (pss_one (ps_ret (pe_dget1 (hu_of hr) (pe_c Rt hr (by decide) (by rfl) (pa_cons (pv 0) (pa_cons (pv 1) (pa_cons (pv 2) (pa_cons (pv 4) pa_nil))))) (pv 3) ⟨rfl, rfl, rfl, rfl⟩)))))), ?_⟩
    obtain ⟨ts, ρ, M, P, PX, r, m, ⟨n, c, ls, rem, a, b, ld, rfl, ht, hrl, q1, q2, q3, q4⟩, o, ox⟩ := h
    have hE := keepX_of m ox
    try simp only [nox_K, cx_K]
    refine run_in r m o (by walk_at "sim") ?_
    walk_at "fd"
    have hM := m.belM
    refine ⟨n, c, ls, a, rfl, ht, fun ha => ?_, fun ha => keepX_0 m (q1 ha)⟩
    refine ⟨n, c, ls, b, rfl, ht, fun hb => ?_, fun hb => keepX_0 m (q2 ha hb)⟩
    refine ⟨ld, rfl, fun hl => ?_, fun hl => keepX_0 m (q3 ha hb hl)⟩
    walk_at "fd"
    refine ⟨n, c, ls, rem, a, ld, rfl, ht, hrl, ha.1, ha.2, fun found ok f12 => ?_⟩
    refine ⟨_, rfl, _, at_k0, _, at_k0, .inl b, rfl, M.length, Nat.le_refl _, bel_short (short_of ok), by rw [List.take_left]; exact hM, by rw [List.take_left]; exact q4 ha hb hl _ (short_of ok)⟩
theorem scReach : FnScope ["town", "remaining", "place", "load"] ["town", "remaining", "place", "load"] (L2.defScope s_reached_places) := ⟨rfl, rfl, rfl, by decide +kernel, rfl, by decide +kernel, by decide +kernel⟩
theorem ok_reach {f : Addr} {fd : FuncData} (F : L2.Fun K "reached_places" "reached_places" s_reached_places f fd) (T : BR K mg cs) (C3 : Chk P w K mg base C cs) (Rt : Cal P w K mg base 4 "_routes_from" (spF K (fsRoutes C)) []) :
    FnOk P w K mg base (L2.CX P w) 5 f fd ["town", "remaining", "place", "load"] (spF K (fsReach C cs)) := by
  refine F.okX scReach (fun vs H Q E h => ?_) (fun cdv A outer s H vs Q E hr h => ?_)
  · obtain ⟨ts, ρ, M, P, PX, r, m, ⟨n, c, ls, rem, a, ld, rfl, _⟩, o, ox⟩ := h
    exact r.len
  · have C := C3
    refine ⟨_, (pss_cons (ps_expr (pe_cX C.check_place hr (by first | decide | omega) (by rfl) (passes_call (takes_of rfl rfl rfl rfl) (fun _ _ _ _ h => h)) (pa_cons (pv 0) (pa_cons (pv 2) pa_nil))))
 (pss_cons (ps_expr (pe_cX C.check_load hr (by first | decide | omega) (by rfl) (passes_call (takes_of rfl rfl rfl rfl) (fun _ _ _ _ h => h)) (pa_cons (pv 3) pa_nil)))
 (pss_one (ps_ret (pe_callB cr_sortedI (by rfl) T.sorted (by decide +kernel) (pa_cons (pe_callTy (call_list_dK rfl) (by rfl) T.list (by decide +kernel) (pa_cons (pe_c Rt hr (by decide) (by rfl) (pa_cons (pv 0) (pa_cons (pv 1) (pa_cons (pv 2) (pa_cons (pv 3) pa_nil))))) pa_nil)) pa_nil)))))), ?_⟩
    obtain ⟨ts, ρ, M, P, PX, r, m, ⟨n, c, ls, rem, a, ld, rfl, ht, hrl, q1, q2, q3⟩, o, ox⟩ := h
    have hE := keepX_of m ox
    try simp only [nox_K, cx_K]
    refine run_in r m o (by walk_at "sim") ?_
    walk_at "fd"
    have hM := m.belM
    refine ⟨n, c, ls, a, rfl, ht, fun ha => ?_, fun ha => keepX_0 m (q1 ha)⟩
    refine ⟨ld, rfl, fun hl => ?_, fun hl => keepX_0 m (q2 ha hl)⟩
    refine ⟨n, c, ls, rem, a, ld, rfl, ht, hrl, ha.1, ha.2, fun found ok f12 => ?_⟩
    walk_at "fd"
    refine ⟨_, rfl, found.map (·.1), keys_fd found, fun ns hp hs => ?_⟩
    refine keep_whole (by simp) (by simp [Tr.bel]) ?_ (q3 ha hl ns _ _ (reach_of ok hp hs) (by rw [hp.length_eq, List.length_map]; exact f12) fun N => by rw [keys_fd]; simp only [belM, O.bel, bel_fd, bels_ints, Bool.and_true])
    refine belM_app2 hM ?_
    rw [keys_fd]
    simp only [belM, O.bel, bel_fd, bels_ints, Bool.and_true]
theorem scRlen : FnScope ["town", "route", "bridge"] ["town", "route"] (L2.defScope s_route_length) := ⟨rfl, rfl, rfl, by decide +kernel, rfl, by decide +kernel, by decide +kernel⟩
theorem ok_rlen {f : Addr} {fd : FuncData} (F : L2.Fun K "route_length" "route_length" s_route_length f fd) (T : BR K mg cs) (W : Tw P w K mg base C) (C3 : Chk P w K mg base C cs) :
    FnOk P w K mg base (L2.CX P w) 5 f fd ["town", "route"] (spF K (fsRlen C cs)) := by
  refine F.okX scRlen (fun vs H Q E h => ?_) (fun cdv A outer s H vs Q E hr h => ?_)
  · obtain ⟨ts, ρ, M, P, PX, r, m, ⟨n, c, ls, rs, rfl, _⟩, o, ox⟩ := h
    exact r.len
  · have C := C3
    refine ⟨_, (pss_cons (ps_for (passes_of rfl) rfl (pi_tup (pv 1)) (pg_name (i := 2) scRlen.nd rfl (Or.inl rfl)) (pss_one (ps_expr (pe_cX C.check_bridge hr (by first | decide | omega) (by rfl) (passes_call (takes_of rfl rfl rfl rfl) (fun _ _ _ _ h => h)) (pa_cons (pv 0) (pa_cons (pv 2) pa_nil))))))
 (pss_one (ps_ret (pe_callB (cr_sum rfl) (by rfl) T.sum (by decide +kernel) (pa_cons (pe_lc (own := [("bridge", 2)]) (g := gName 2) rfl scRlen.nd (pi_tup (pv 1)) (blkOk_by (N := ["town", "route", "bridge"]) (sc := L2.defScope s_route_length) (by decide +kernel)) (fun _ _ _ _ _ => pg_name (i := 2) scRlen.nd rfl (Or.inl rfl)) (fun _ _ _ _ _ => pts_nil) (fun _ _ _ _ _ => (pe_ix (ix_tupK (K := K) rfl) (pe_ix (ix_tupK (K := K) rfl) (pe_prX W.br (pv 0) hr (by decide) L2.pass0) (pv 2) (fun _ _ => rfl)) pe_int (fun _ _ => rfl)))) pa_nil))))), ?_⟩
    obtain ⟨ts, ρ, M, P, PX, r, m, ⟨n, c, ls, rs, rfl, ht, hz, q1, q2⟩, o, ox⟩ := h
    have hE := keepX_of m ox
    try simp only [nox_K, cx_K]
    refine run_in r m o (by walk_at "sim") ?_
    walk_at "fd"
    have hM := m.belM
    unfold fFor
    walk_at "fd"
    refine ⟨fun i L2 M2 => ∃ v2, L2 = [some (Tr.ref n), some (Tr.tup (List.map Tr.int rs)), v2] ∧ M2 = M ∧ ∀ r ∈ rs.take i, 0 ≤ r ∧ r < ls.length, ⟨none, rfl, rfl, by simp⟩, ?_, ?_⟩
    · rintro i t L2 M2 hti ⟨v2, rfl, rfl, hi⟩
      rw [List.getElem?_map] at hti
      cases hr : rs[i]? with
      | none => rw [hr] at hti; cases hti
      | some x =>
        rw [hr] at hti
        cases hti
        refine ⟨_, rfl, _, rfl, n, c, ls, x, rfl, ht, fun hx => ?_, fun hx => keepX_0 m (q2 x (List.mem_of_getElem? hr) hx)⟩
        refine forget_same (L' := [some (Tr.ref n), some (Tr.tup (List.map Tr.int rs)), none]) ⟨_, rfl, _, rfl, _, _, rfl, rfl⟩ ⟨none, rfl, rfl, fun r hr2 => ?_⟩ ⟨Nat.le_refl _, ?_⟩ hM
        · rw [List.take_add_one, hr] at hr2
          rcases List.mem_append.mp hr2 with h | h
          · exact hi r h
          · rw [show r = x by simpa using h]
            exact hx
        · simp only [belL, Tr.bel, bels_ints, Bool.and_true, decide_eq_true_eq]
          exact (List.getElem?_eq_some_iff.mp ht.1).1
    · rintro L2 M2 ⟨v2, rfl, rfl, hi⟩
      rw [List.length_map, List.take_of_length_le (Nat.le_refl _)] at hi
      have hF : (rs.map Tr.int).filterMap (fun t => match t with | .int i => some (Tr.int (lenAt ls i)) | _ => none) = (rs.map (lenAt ls)).map Tr.int := by
        rw [List.filterMap_map, List.map_map, ← List.filterMap_eq_map]
        rfl
      refine lc_T (fun t => match t with | .int i => some (Tr.int (lenAt ls i)) | _ => none) rfl hM (by rw [List.length_map]; exact hz) (fun t ht y hy => ?_) (fun t ht' => ?_) ?_
      · cases t with
        | int i => cases hy; rfl
        | _ => cases hy
      · obtain ⟨x, hx, rfl⟩ := List.mem_map.mp ht'
        obtain ⟨x0, x1⟩ := hi x hx
        intro R N r1 _
        walk_at "fd"
        obtain ⟨k, rfl⟩ := Int.eq_ofNat_of_zero_le x0
        have hk : k < ls.length := by omega
        refine ⟨_, rfl, n, _, insAt_of ht.1, n, c, ls, rfl, ht, _, rfl, _, rfl, _, rfl, lkT ls[k], atI_nat (by rw [List.getElem?_map, List.getElem?_eq_getElem hk]; rfl), _, rfl, _, rfl, (r1 _ ?_).1⟩
        show some (Tr.int (lenAt ls (k : Int))) = _
        unfold lenAt
        rw [Int.toNat_natCast, List.getElem?_eq_getElem hk]
        rfl
      · rw [hF]
        refine ⟨_, by rw [lstAt_ref, at_k0]; rfl, keep_app m rfl (q1 hi)⟩
end
end T1

set_option Elab.async false
set_option linter.all false
set_option maxRecDepth 100000
set_option maxHeartbeats 4000000
namespace T1
open PySem PySem.Spec PyProof.Rows L2 C8
local macro_rules | `(tactic| walk_at "hf") => `(tactic| (fail_if_success (show (fun _ => none : Hp) _ = _)); first | assumption | with_reducible exact upd_same | ((with_reducible show upd _ _ _ _ = _); first | exact up_new' (by assumption) (by walk_at "hf") | exact up_set (by walk_at "ne") (by walk_at "hf")) | exact Same.at' (by assumption) (by walk_at "hf") | exact But.at' (by assumption) (by walk_at "ne") (by walk_at "ne") (by walk_at "hf"))
local macro_rules | `(tactic| walk_at "hf0") => `(tactic| (fail_if_success (show (fun _ => none : Hp) _ = _)); first | assumption | with_reducible exact upd_same | ((with_reducible show upd _ _ _ _ = _); exact up_new' (by assumption) (by walk_at "hf0")))
local macro_rules | `(tactic| walk_at "ne") => `(tactic| first | assumption | (apply Ne.symm; assumption) | exact ne_of_none' (by assumption) (by walk_at "hf0") | exact Ne.symm (ne_of_none' (by assumption) (by walk_at "hf0")) | exact LSt.f1 (by assumption) (by walk_at "lst") | exact LSt.f2 (by assumption) (by walk_at "lst"))
local macro_rules | `(tactic| walk_at "sqt") => `(tactic| (fail_if_success (show SqT _ (fun _ => none) _ _)); first | assumption | exact SqT.of' (by walk_at "hf") | ((with_reducible show SqT _ (upd _ _ _) _ _); first | exact SqT.new' (by assumption) (by walk_at "sqt") | exact SqT.put' (by walk_at "hf") (by walk_at "sqt")) | exact Same.tup (by assumption) (by walk_at "sqt") | exact But.tup (by assumption) (by walk_at "lst") (by walk_at "sqt"))
local macro_rules | `(tactic| walk_at "sql") => `(tactic| (fail_if_success (show SqL _ (fun _ => none) _ _)); first | assumption | exact SqL.of' (by walk_at "hf") | ((with_reducible show SqL _ (upd _ _ _) _ _); exact SqL.new' (by assumption) (by walk_at "sql")) | exact Same.sql' (by assumption) (by walk_at "sql"))
local macro_rules | `(tactic| walk_at "lst") => `(tactic| (fail_if_success (show LSt (fun _ => none) _ _)); first | assumption | ((with_reducible show LSt (upd _ _ _) _ _); first | exact LSt.new (by walk_at "lst") (by assumption) | exact LSt.put (by walk_at "lst") (by walk_at "ne") (by walk_at "ne")) | exact LSt.same' (by assumption) (by walk_at "lst"))
local macro_rules | `(tactic| walk_at "but") => `(tactic| first | assumption | exact But.refl _ _ _ | ((with_reducible show But _ _ _ (upd _ _ _)); exact But.nw (by assumption) (by walk_at "but")) | exact But.bu (by assumption) (by walk_at "but") | exact But.sm (by assumption) (by walk_at "but"))
local macro_rules | `(tactic| walk_at "ls") => `(tactic| first | assumption | exact Ls.same (by walk_at "ls") (Same.upd' (by assumption)))
local macro_rules | `(tactic| walk_at "ll") => `(tactic| first | assumption | exact LL.same (by walk_at "ll") (Same.upd' (by assumption)) | exact LL.same' (by assumption) (by walk_at "ll") | exact LL.but' (by assumption) (by walk_at "lst") (by walk_at "ll"))
local macro_rules | `(tactic| walk_at "sm") => `(tactic| first | assumption | exact Same.refl _ | ((with_reducible show Same _ (upd _ _ _)); first | exact Same.put' (by assumption) (by walk_at "sm") | exact Same.trans (by walk_at "sm") (Same.upd' (by assumption))) | exact Same.trans (by walk_at "sm") (by assumption))
/-- one step of a reading -/
local macro_rules | `(tactic| walk_at "rd") => `(tactic| first
  | with_reducible refine iteF ?_
  | with_reducible refine iteT ?_
  | with_reducible refine itNotF ?_
  | with_reducible refine itNotT ?_
  | refine ⟨_, rfl, ?_⟩
  | refine ⟨_, _, rfl, rfl, ?_⟩
  | refine ⟨_, _, rfl, ?_⟩
  | refine ⟨(_ : Addr), (_ : List V), (_ : Int), (_ : V), rfl, rfl, SqL.of' (by walk_at "hf"), (by first | assumption | rfl), ?_⟩
  | refine ⟨(_ : Addr), (_ : List V), (_ : Int), (_ : V), rfl, rfl, (by walk_at "sqt" : SqT _ _ _ _), (by first | assumption | rfl), ?_⟩
  | refine .inl ⟨_, rfl, ?_⟩
  | refine ⟨_, _, rfl, .inl (by walk_at "sql" : SqL _ _ _ _), ?_⟩
  | refine ⟨_, _, rfl, .inl ⟨(by walk_at "sql" : SqL _ _ _ _), fun p hp => ?_⟩⟩
  | refine ⟨_, _, rfl, .inr ⟨(by walk_at "sqt" : SqT _ _ _ _), ?_⟩⟩
  | refine fun (p : Addr) (hp : (_ : Hp) p = none) => ?_
  | refine ⟨_, _, rfl, .inr (by walk_at "sqt" : SqT _ _ _ _), ?_⟩
  | refine And.intro (by show _ ≤ sizeLine; first | decide | walk_at "sz") (fun p hp => ?_)
  | refine ⟨(_ : Addr), (_ : Addr), (_ : List V), (_ : List V), rfl, rfl, (by walk_at "hf"), (by walk_at "hf"), (by walk_at "sz"), fun p hp => ?_⟩
  | refine ⟨(_ : Addr), (_ : Addr), (_ : List V), (_ : List V), rfl, rfl, (by walk_at "hf"), (by walk_at "hf"), (by walk_at "sz"), ?_⟩
  | refine ⟨(_ : Addr), (_ : List V), (_ : Int), (_ : Nat), rfl, rfl, (by walk_at "hf"), (by rfl), ?_⟩
  | refine And.intro ⟨_, (by walk_at "sql" : SqL _ _ _ _)⟩ ?_
  | refine And.intro ⟨_, (by walk_at "sqt" : SqT _ _ _ _)⟩ ?_
  | refine And.intro (.inl ⟨rfl, _, SqL.of' (by walk_at "hf")⟩) ?_
  | refine And.intro (by walk_at "cond") ?_
  | exact .inl ⟨rfl, _, SqL.of' (by walk_at "hf")⟩
  | with_reducible refine iteT ?_
  | with_reducible refine iteF ?_
  | refine And.intro (by rfl : scal _ _ = true) ?_
  | refine And.intro (by rfl : _ = V.non) ?_
  | refine And.intro (by rfl : wipe _ _ = wipe _ _) ?_
  | refine And.intro (by rfl : (_ : List V) = []) ?_
  | refine ⟨(_ : Addr), (_ : List V), rfl, (by walk_at "sqt" : SqT _ _ _ _), (by rfl), ?_⟩)
/-- a test: known, or both ways -/
local macro_rules | `(tactic| walk_at "if") => `(tactic| first
  | with_reducible refine itD (by omega) ?_
  | with_reducible refine itN (by omega) ?_
  | with_reducible refine itnD (by omega) ?_
  | with_reducible refine itnN (by omega) ?_
  | with_reducible refine itE (by omega) ?_
  | with_reducible refine itEn (by omega) ?_
  | with_reducible refine itnE (by omega) ?_
  | with_reducible refine itnEn (by omega) ?_
  | with_reducible refine itN (by intro z; cases z) ?_
  | with_reducible refine itD (by decide) ?_
  | with_reducible refine itN (by decide) ?_
  | with_reducible refine itnD (by decide) ?_
  | with_reducible refine itnN (by decide) ?_)
local macro_rules | `(tactic| walk_at "if2") => `(tactic| first
  | with_reducible refine itS (fun z => ?_) (fun z => ?_)
  | with_reducible refine itS' (fun z => ?_) (fun z => ?_)
  | with_reducible refine itSE (fun z => ?_) (fun z => ?_)
  | with_reducible refine itnS (fun z => ?_) (fun z => ?_)
  | with_reducible refine itnS' (fun z => ?_) (fun z => ?_)
  | with_reducible refine itnSE (fun z => ?_) (fun z => ?_))
local macro_rules | `(tactic| walk_at "go") => `(tactic| repeat' (first | walk_at "rd" | walk_at "if" | walk_at "if2" | fail))
local macro_rules | `(tactic| walk_at "sz") => `(tactic| (rw [sizeLine_eq]; simp only [List.length_append, List.length_map, List.length_cons, List.length_nil]; omega))
local macro_rules | `(tactic| walk_at "cond") => `(tactic| first | assumption | (show (_ : Int) ≠ 0; first | omega | (split <;> omega)) | (show (0 : Int) < _; first | assumption | decide) | exact ⟨by decide, by decide, by decide⟩ | exact .inr ⟨by decide, by decide⟩ | exact wide_div (b := 64) (by assumption) (by omega) (by decide) (by decide) | exact ⟨by decide, by decide⟩)


/-! ### list.count of flat things -/
theorem cnt_eqU {y : V} : ∀ {ys : List V} {us : List Value}, Vals ys us → ys.all flatV = true → us.countP (eqU y) = ys.countP fun z => eqV z y
  | _, _, .nil, _ => rfl
  | z :: ys, u :: us, .cons r t, f => by
    rw [List.all_cons, Bool.and_eq_true] at f
    rw [List.countP_cons, List.countP_cons, cnt_eqU t f.2, eqU_of r f.1]
theorem mt_cntV {X : Cx} : MtR X "list.count" (fun x xs H Q => ∃ (a : Addr) (ys : List V) (y : V), x = .ref a ∧ xs = [y] ∧ SqL X.K H a ys ∧ flatV y = true ∧ ys.all flatV = true ∧ Q (.int ((ys.countP fun z => eqV z y : Nat))) H) := by
  rintro pins s σ H _ _ v us Q I rx rxs ⟨a, ys, y, rfl, rfl, hs, fy, fys, q⟩
  cases rx
  obtain _ | ⟨ry, _ | _⟩ := rxs
  rename_i uy
  obtain ⟨its, rv, ⟨⟨c, dd, dt, sl⟩, n, ho, hc, _, hd⟩, _⟩ := I.list hs
  obtain rfl : c = .type "list" := hc
  obtain rfl : dt = .seq its.toArray n := hd
  refine call_meets PySem.F.slot_list_count ⟨_, ho, rfl⟩ PySem.F.entry_list_count (PySem.F.args_list_count_2 _ _)
    (SeqAt.list_countAt a its.toArray n dd sl uy (eqU y)) ⟨ho, fun u hu => mem_eqAt ry fy rv fys u (by simpa using hu), ?_⟩
  refine ⟨.int ((ys.countP fun z => eqV z y : Nat)), H, I.tok _, ⟨s.toks, ?_⟩, q⟩
  show Value.int ((its.toArray.toList.countP (eqU y) : Nat) : Int) s.toks = _
  rw [List.toList_toArray, cnt_eqU rv fys]
/-! ### what the law's catcher makes of a call -/
def names12 : List Str := ["InvalidTown", "InvalidText", "InvalidTrips", "InvalidCount", "InvalidLife", "InvalidLoad", "UnknownPlace", "UnknownBridge", "UnknownKind", "TooManyBridges", "DifferentTowns", "Contradiction"]
structure Cls12 (mg : Str → Option Value) (CB : Addr) (cl : Nat → Addr) : Prop where
  gB : mg "BridgeError" = some (.ref CB)
  gV : mg "ValueError" = none
  g0 : mg "InvalidTown" = some (.ref (cl 0))
  g1 : mg "InvalidText" = some (.ref (cl 1))
  g2 : mg "InvalidTrips" = some (.ref (cl 2))
  g3 : mg "InvalidCount" = some (.ref (cl 3))
  g4 : mg "InvalidLife" = some (.ref (cl 4))
  g5 : mg "InvalidLoad" = some (.ref (cl 5))
  g6 : mg "UnknownPlace" = some (.ref (cl 6))
  g7 : mg "UnknownBridge" = some (.ref (cl 7))
  g8 : mg "UnknownKind" = some (.ref (cl 8))
  g9 : mg "TooManyBridges" = some (.ref (cl 9))
  g10 : mg "DifferentTowns" = some (.ref (cl 10))
  g11 : mg "Contradiction" = some (.ref (cl 11))
/-- an own class without anything of its own -/
structure PlainE (K : PySem.W.Frag) (CB D : Addr) (cl : Nat → Addr) (n : Nat) : Prop where
  ex : ExcC K D
  em : PySem.W.exmOne K (.ref D) (.ref CB) = some true
  ve : PySem.W.kitOne K (.ref D) (.type "ValueError") = some true
  k0 : PySem.W.kitOne K (.ref D) (.ref (cl 0)) = some (decide (0 = n))
  k1 : PySem.W.kitOne K (.ref D) (.ref (cl 1)) = some (decide (1 = n))
  k2 : PySem.W.kitOne K (.ref D) (.ref (cl 2)) = some (decide (2 = n))
  k3 : PySem.W.kitOne K (.ref D) (.ref (cl 3)) = some (decide (3 = n))
  k4 : PySem.W.kitOne K (.ref D) (.ref (cl 4)) = some (decide (4 = n))
  k5 : PySem.W.kitOne K (.ref D) (.ref (cl 5)) = some (decide (5 = n))
  k6 : PySem.W.kitOne K (.ref D) (.ref (cl 6)) = some (decide (6 = n))
  k7 : PySem.W.kitOne K (.ref D) (.ref (cl 7)) = some (decide (7 = n))
  k8 : PySem.W.kitOne K (.ref D) (.ref (cl 8)) = some (decide (8 = n))
  k9 : PySem.W.kitOne K (.ref D) (.ref (cl 9)) = some (decide (9 = n))
  k10 : PySem.W.kitOne K (.ref D) (.ref (cl 10)) = some (decide (10 = n))
  k11 : PySem.W.kitOne K (.ref D) (.ref (cl 11)) = some (decide (11 = n))
/-- what one may raise, and what the catcher makes of it -/
def ErrOf (K : PySem.W.Frag) (cl : Nat → Addr) (Q : VK) : XK := fun cls d H' => (d = none ∨ ∃ dd, d = some dd ∧ H' dd = some (.xd [])) ∧
  ((cls = .ref (cl 6) ∧ ∀ b H'', Same H' H'' → SqT K H'' b [.str "place"] → Q (.ref b) H'') ∨ (cls = .ref (cl 7) ∧ ∀ b H'', Same H' H'' → SqT K H'' b [.str "bridge"] → Q (.ref b) H'') ∨ (cls = .ref (cl 5) ∧ ∀ b H'', Same H' H'' → SqT K H'' b [.str "load"] → Q (.ref b) H''))
def TTerr (K : PySem.W.Frag) (cl : Nat → Addr) : (XK → Hp → VK → Prop) → Hp → VK → Prop := fun tl H Q =>
  tl (ErrOf K cl Q) H (fun _ H' => 1 ≤ sizeLine ∧ ∀ a, H' a = none → Q (.ref a) (upd H' a (.tup [.str "none"])))
def trySuite (s : Stmt) : List Stmt := match s with
  | .Try _ (.ExceptHandler _ _ b _ :: _) _ _ _ => b
  | _ => []
abbrev sSuite : List Stmt := trySuite ((fnBody s__law_error).getD 0 (.Pass ⟨0, 0, 0, 0⟩))
local macro_rules | `(tactic| walk_at "isd") => `(tactic| first
  | refine ⟨_, _, _, rfl, (fun _ z => z), (by assumption), ?_⟩
  | refine ⟨_, _, _, rfl, rfl, (by walk_at "sql" : SqL _ _ _ _), (by rfl), (by rfl), ?_⟩)
local macro_rules | `(tactic| walk_at "go3") => `(tactic| repeat' (first | walk_at "rd" | walk_at "if" | walk_at "isd" | fail))
/-- the call of what the catcher got, for the try's body -/
def TCall (f c' : Addr) (q : Str) (tl : XK → Hp → VK → Prop) : WX → TS := fun W D σ H =>
  ∃ Ech : XK, (∀ cls d σ' H', Ech cls d H' → W cls d σ' H') ∧ σ[0]? = some (some (.ref f)) ∧ H c' = some (LamX.CodeO c' q) ∧ tl Ech H fun _ H' => D.nx σ H'
/-- the suite -/
def TSu (K : PySem.W.Frag) (cl : Nat → Addr) : Addr → Value → Option Addr → TS := fun a cls d D σ H => ∃ τ : L2.St, σ = τ.set 1 (some (.ref a)) ∧ ErrOf K cl D.rt cls d H
theorem scErr : FnScope ["_law_call", "e", "_law_kinds", "_law_names", "_law_name"] ["_law_call"] (fnScope s__law_error) := fnScope_by (by decide +kernel)
section
variable {X : Cx} {g CB : Addr} {cl : Nat → Addr} {cdg : Value} {cs : ErrC} {s : Shared} {H : Hp}
theorem su_load (T : BR X.K X.mg cs) (G : Cls12 X.mg CB cl) (PE : PlainE X.K CB (cl 5) cl 5) : let X0 : Cx := (cxOf C8.CX0 X.prog X.w X.K X.mg X.base ["_law_call", "e", "_law_kinds", "_law_names", "_law_name"] "_law_error" (fnScope s__law_error) g cdg X.A X.stack s H C8.E0).nox
    ∀ (a : Addr) (oe : Obj) (pn : List (Addr × Obj)), Zc (.ref (cl 5)) none oe → (∃ vs, oe.data = .fields vs) → ∃ t : TS, PSs (X0.suite a ((a, oe) :: pn)) sSuite t ∧
      ∀ (D : Ends) (v0 v2 v3 v4 : Option V) (H1 : Hp), (∀ b H2, Same H1 H2 → SqT X.K H2 b [.str "load"] → D.rt (.ref b) H2) → t D [v0, some (.ref a), v2, v3, v4] H1 := by
  intro X0 a oe pn hz hf
  have g0 := G.g0
  have g1 := G.g1
  have g2 := G.g2
  have g3 := G.g3
  have g4 := G.g4
  have g5 := G.g5
  have g6 := G.g6
  have g7 := G.g7
  have g8 := G.g8
  have g9 := G.g9
  have g10 := G.g10
  have g11 := G.g11
  refine ⟨_, (pss_cons (ps_set (i := 2) scErr.nd rfl (Or.inl rfl) (pe_lst (pa_cons (pe_callB (call_isE (X := X0) (a := a) PE.ex hz hf) (by rfl) T.isinstance (by decide +kernel) (pa_cons (pv 1) (pa_cons (pe_gc (v := .ref (cl 0)) (by rfl) ⟨_, g0, rfl⟩) pa_nil))) (pa_cons (pe_callB (call_isE (X := X0) (a := a) PE.ex hz hf) (by rfl) T.isinstance (by decide +kernel) (pa_cons (pv 1) (pa_cons (pe_gc (v := .ref (cl 1)) (by rfl) ⟨_, g1, rfl⟩) pa_nil))) (pa_cons (pe_callB (call_isE (X := X0) (a := a) PE.ex hz hf) (by rfl) T.isinstance (by decide +kernel) (pa_cons (pv 1) (pa_cons (pe_gc (v := .ref (cl 2)) (by rfl) ⟨_, g2, rfl⟩) pa_nil))) pa_nil)))))
 (pss_cons (ps_expr (pe_bm PySem.F.plainAttrs_list PySem.F.slot_list_extend PySem.F.type_list_extend mt_extend (pv 2) (pa_cons (pe_lst (pa_cons (pe_callB (call_isE (X := X0) (a := a) PE.ex hz hf) (by rfl) T.isinstance (by decide +kernel) (pa_cons (pv 1) (pa_cons (pe_gc (v := .ref (cl 3)) (by rfl) ⟨_, g3, rfl⟩) pa_nil))) (pa_cons (pe_callB (call_isE (X := X0) (a := a) PE.ex hz hf) (by rfl) T.isinstance (by decide +kernel) (pa_cons (pv 1) (pa_cons (pe_gc (v := .ref (cl 4)) (by rfl) ⟨_, g4, rfl⟩) pa_nil))) (pa_cons (pe_callB (call_isE (X := X0) (a := a) PE.ex hz hf) (by rfl) T.isinstance (by decide +kernel) (pa_cons (pv 1) (pa_cons (pe_gc (v := .ref (cl 5)) (by rfl) ⟨_, g5, rfl⟩) pa_nil))) pa_nil)))) pa_nil)))
 (pss_cons (ps_expr (pe_bm PySem.F.plainAttrs_list PySem.F.slot_list_extend PySem.F.type_list_extend mt_extend (pv 2) (pa_cons (pe_lst (pa_cons (pe_callB (call_isE (X := X0) (a := a) PE.ex hz hf) (by rfl) T.isinstance (by decide +kernel) (pa_cons (pv 1) (pa_cons (pe_gc (v := .ref (cl 6)) (by rfl) ⟨_, g6, rfl⟩) pa_nil))) (pa_cons (pe_callB (call_isE (X := X0) (a := a) PE.ex hz hf) (by rfl) T.isinstance (by decide +kernel) (pa_cons (pv 1) (pa_cons (pe_gc (v := .ref (cl 7)) (by rfl) ⟨_, g7, rfl⟩) pa_nil))) (pa_cons (pe_callB (call_isE (X := X0) (a := a) PE.ex hz hf) (by rfl) T.isinstance (by decide +kernel) (pa_cons (pv 1) (pa_cons (pe_gc (v := .ref (cl 8)) (by rfl) ⟨_, g8, rfl⟩) pa_nil))) pa_nil)))) pa_nil)))
 (pss_cons (ps_expr (pe_bm PySem.F.plainAttrs_list PySem.F.slot_list_extend PySem.F.type_list_extend mt_extend (pv 2) (pa_cons (pe_lst (pa_cons (pe_callB (call_isE (X := X0) (a := a) PE.ex hz hf) (by rfl) T.isinstance (by decide +kernel) (pa_cons (pv 1) (pa_cons (pe_gc (v := .ref (cl 9)) (by rfl) ⟨_, g9, rfl⟩) pa_nil))) (pa_cons (pe_callB (call_isE (X := X0) (a := a) PE.ex hz hf) (by rfl) T.isinstance (by decide +kernel) (pa_cons (pv 1) (pa_cons (pe_gc (v := .ref (cl 10)) (by rfl) ⟨_, g10, rfl⟩) pa_nil))) (pa_cons (pe_callB (call_isE (X := X0) (a := a) PE.ex hz hf) (by rfl) T.isinstance (by decide +kernel) (pa_cons (pv 1) (pa_cons (pe_gc (v := .ref (cl 11)) (by rfl) ⟨_, g11, rfl⟩) pa_nil))) pa_nil)))) pa_nil)))
 (pss_cons (ps_if (PW.pt (pw_or (pt_cmpR op_ne (pe_bm PySem.F.plainAttrs_list PySem.F.slot_list_count PySem.F.type_list_count mt_cntV (pv 2) (pa_cons pe_bl pa_nil)) pe_int (nomark _)) (pw_or1 (pt_not (pt_val (pe_callB (call_isE (X := X0) (a := a) PE.ex hz hf) (by rfl) T.isinstance (by decide +kernel) (pa_cons (pv 1) (pa_cons (pe_bltn (v := .ty "ValueError") (by rfl) G.gV (by decide +kernel) rfl) pa_nil)))))))) (pss_one (ps_ret (pe_tup (pa_cons pe_str pa_nil)))) pss_nil)
 (pss_cons (ps_set (i := 3) scErr.nd rfl (Or.inl rfl) (pe_lst (pa_cons pe_str (pa_cons pe_str (pa_cons pe_str (pa_cons pe_str (pa_cons pe_str (pa_cons pe_str (pa_cons pe_str (pa_cons pe_str (pa_cons pe_str (pa_cons pe_str (pa_cons pe_str pa_nil)))))))))))))
 (pss_cons (ps_set (i := 4) scErr.nd rfl (Or.inl rfl) (pe_ix ix_list (pe_op op_cat (pv 3) (pe_lst (pa_cons pe_str pa_nil))) (pe_bm PySem.F.plainAttrs_list PySem.F.slot_list_index PySem.F.type_list_index mt_index (pv 2) (pa_cons pe_bl pa_nil)) (fun _ _ => rfl)))
 (pss_cons (ps_if (pt_cmpR op_eq (pv 4) pe_str (nomark _)) (pss_one (ps_ret (pe_tup (pa_cons (pv 4) (pa_cons pe_nv (pa_cons pe_nv pa_nil)))))) pss_nil)
 (pss_cons (ps_if (pt_cmpR op_eq (pv 4) pe_str (nomark _)) (pss_one (ps_ret (pe_tup (pa_cons (pv 4) (pa_cons pe_nv pa_nil))))) pss_nil)
 (pss_one (ps_ret (pe_ifExp (pt_cmpR op_eq (pv 4) pe_str (nomark _)) (pe_tup (pa_cons (pv 4) (pa_cons pe_nv pa_nil))) (pe_tup (pa_cons (pv 4) pa_nil)))))))))))))), fun D v0 v2 v3 v4 H1 k => ?_⟩
  have e0 := PE.k0
  have e1 := PE.k1
  have e2 := PE.k2
  have e3 := PE.k3
  have e4 := PE.k4
  have e5 := PE.k5
  have e6 := PE.k6
  have e7 := PE.k7
  have e8 := PE.k8
  have e9 := PE.k9
  have e10 := PE.k10
  have e11 := PE.k11
  have ev := PE.ve
  walk_at "go3"
  refine ⟨_, _, _, 5, .bl true, rfl, rfl, (by walk_at "sql" : SqL _ _ _ _), rfl, rfl, rfl, rfl, (fun m z h e => by rcases (by omega : m = 0 ∨ m = 1 ∨ m = 2 ∨ m = 3 ∨ m = 4) with rfl | rfl | rfl | rfl | rfl <;> (cases e; rfl)), ?_⟩
  walk_at "go3"
  exact k _ _ (by walk_at "sm") (SqT.of' upd_same)
theorem su_place (T : BR X.K X.mg cs) (G : Cls12 X.mg CB cl) (PE : PlainE X.K CB (cl 6) cl 6) : let X0 : Cx := (cxOf C8.CX0 X.prog X.w X.K X.mg X.base ["_law_call", "e", "_law_kinds", "_law_names", "_law_name"] "_law_error" (fnScope s__law_error) g cdg X.A X.stack s H C8.E0).nox
    ∀ (a : Addr) (oe : Obj) (pn : List (Addr × Obj)), Zc (.ref (cl 6)) none oe → (∃ vs, oe.data = .fields vs) → ∃ t : TS, PSs (X0.suite a ((a, oe) :: pn)) sSuite t ∧
      ∀ (D : Ends) (v0 v2 v3 v4 : Option V) (H1 : Hp), (∀ b H2, Same H1 H2 → SqT X.K H2 b [.str "place"] → D.rt (.ref b) H2) → t D [v0, some (.ref a), v2, v3, v4] H1 := by
  intro X0 a oe pn hz hf
  have g0 := G.g0
  have g1 := G.g1
  have g2 := G.g2
  have g3 := G.g3
  have g4 := G.g4
  have g5 := G.g5
  have g6 := G.g6
  have g7 := G.g7
  have g8 := G.g8
  have g9 := G.g9
  have g10 := G.g10
  have g11 := G.g11
  refine ⟨_, (pss_cons (ps_set (i := 2) scErr.nd rfl (Or.inl rfl) (pe_lst (pa_cons (pe_callB (call_isE (X := X0) (a := a) PE.ex hz hf) (by rfl) T.isinstance (by decide +kernel) (pa_cons (pv 1) (pa_cons (pe_gc (v := .ref (cl 0)) (by rfl) ⟨_, g0, rfl⟩) pa_nil))) (pa_cons (pe_callB (call_isE (X := X0) (a := a) PE.ex hz hf) (by rfl) T.isinstance (by decide +kernel) (pa_cons (pv 1) (pa_cons (pe_gc (v := .ref (cl 1)) (by rfl) ⟨_, g1, rfl⟩) pa_nil))) (pa_cons (pe_callB (call_isE (X := X0) (a := a) PE.ex hz hf) (by rfl) T.isinstance (by decide +kernel) (pa_cons (pv 1) (pa_cons (pe_gc (v := .ref (cl 2)) (by rfl) ⟨_, g2, rfl⟩) pa_nil))) pa_nil)))))
 (pss_cons (ps_expr (pe_bm PySem.F.plainAttrs_list PySem.F.slot_list_extend PySem.F.type_list_extend mt_extend (pv 2) (pa_cons (pe_lst (pa_cons (pe_callB (call_isE (X := X0) (a := a) PE.ex hz hf) (by rfl) T.isinstance (by decide +kernel) (pa_cons (pv 1) (pa_cons (pe_gc (v := .ref (cl 3)) (by rfl) ⟨_, g3, rfl⟩) pa_nil))) (pa_cons (pe_callB (call_isE (X := X0) (a := a) PE.ex hz hf) (by rfl) T.isinstance (by decide +kernel) (pa_cons (pv 1) (pa_cons (pe_gc (v := .ref (cl 4)) (by rfl) ⟨_, g4, rfl⟩) pa_nil))) (pa_cons (pe_callB (call_isE (X := X0) (a := a) PE.ex hz hf) (by rfl) T.isinstance (by decide +kernel) (pa_cons (pv 1) (pa_cons (pe_gc (v := .ref (cl 5)) (by rfl) ⟨_, g5, rfl⟩) pa_nil))) pa_nil)))) pa_nil)))
 (pss_cons (ps_expr (pe_bm PySem.F.plainAttrs_list PySem.F.slot_list_extend PySem.F.type_list_extend mt_extend (pv 2) (pa_cons (pe_lst (pa_cons (pe_callB (call_isE (X := X0) (a := a) PE.ex hz hf) (by rfl) T.isinstance (by decide +kernel) (pa_cons (pv 1) (pa_cons (pe_gc (v := .ref (cl 6)) (by rfl) ⟨_, g6, rfl⟩) pa_nil))) (pa_cons (pe_callB (call_isE (X := X0) (a := a) PE.ex hz hf) (by rfl) T.isinstance (by decide +kernel) (pa_cons (pv 1) (pa_cons (pe_gc (v := .ref (cl 7)) (by rfl) ⟨_, g7, rfl⟩) pa_nil))) (pa_cons (pe_callB (call_isE (X := X0) (a := a) PE.ex hz hf) (by rfl) T.isinstance (by decide +kernel) (pa_cons (pv 1) (pa_cons (pe_gc (v := .ref (cl 8)) (by rfl) ⟨_, g8, rfl⟩) pa_nil))) pa_nil)))) pa_nil)))
 (pss_cons (ps_expr (pe_bm PySem.F.plainAttrs_list PySem.F.slot_list_extend PySem.F.type_list_extend mt_extend (pv 2) (pa_cons (pe_lst (pa_cons (pe_callB (call_isE (X := X0) (a := a) PE.ex hz hf) (by rfl) T.isinstance (by decide +kernel) (pa_cons (pv 1) (pa_cons (pe_gc (v := .ref (cl 9)) (by rfl) ⟨_, g9, rfl⟩) pa_nil))) (pa_cons (pe_callB (call_isE (X := X0) (a := a) PE.ex hz hf) (by rfl) T.isinstance (by decide +kernel) (pa_cons (pv 1) (pa_cons (pe_gc (v := .ref (cl 10)) (by rfl) ⟨_, g10, rfl⟩) pa_nil))) (pa_cons (pe_callB (call_isE (X := X0) (a := a) PE.ex hz hf) (by rfl) T.isinstance (by decide +kernel) (pa_cons (pv 1) (pa_cons (pe_gc (v := .ref (cl 11)) (by rfl) ⟨_, g11, rfl⟩) pa_nil))) pa_nil)))) pa_nil)))
 (pss_cons (ps_if (PW.pt (pw_or (pt_cmpR op_ne (pe_bm PySem.F.plainAttrs_list PySem.F.slot_list_count PySem.F.type_list_count mt_cntV (pv 2) (pa_cons pe_bl pa_nil)) pe_int (nomark _)) (pw_or1 (pt_not (pt_val (pe_callB (call_isE (X := X0) (a := a) PE.ex hz hf) (by rfl) T.isinstance (by decide +kernel) (pa_cons (pv 1) (pa_cons (pe_bltn (v := .ty "ValueError") (by rfl) G.gV (by decide +kernel) rfl) pa_nil)))))))) (pss_one (ps_ret (pe_tup (pa_cons pe_str pa_nil)))) pss_nil)
 (pss_cons (ps_set (i := 3) scErr.nd rfl (Or.inl rfl) (pe_lst (pa_cons pe_str (pa_cons pe_str (pa_cons pe_str (pa_cons pe_str (pa_cons pe_str (pa_cons pe_str (pa_cons pe_str (pa_cons pe_str (pa_cons pe_str (pa_cons pe_str (pa_cons pe_str pa_nil)))))))))))))
 (pss_cons (ps_set (i := 4) scErr.nd rfl (Or.inl rfl) (pe_ix ix_list (pe_op op_cat (pv 3) (pe_lst (pa_cons pe_str pa_nil))) (pe_bm PySem.F.plainAttrs_list PySem.F.slot_list_index PySem.F.type_list_index mt_index (pv 2) (pa_cons pe_bl pa_nil)) (fun _ _ => rfl)))
 (pss_cons (ps_if (pt_cmpR op_eq (pv 4) pe_str (nomark _)) (pss_one (ps_ret (pe_tup (pa_cons (pv 4) (pa_cons pe_nv (pa_cons pe_nv pa_nil)))))) pss_nil)
 (pss_cons (ps_if (pt_cmpR op_eq (pv 4) pe_str (nomark _)) (pss_one (ps_ret (pe_tup (pa_cons (pv 4) (pa_cons pe_nv pa_nil))))) pss_nil)
 (pss_one (ps_ret (pe_ifExp (pt_cmpR op_eq (pv 4) pe_str (nomark _)) (pe_tup (pa_cons (pv 4) (pa_cons pe_nv pa_nil))) (pe_tup (pa_cons (pv 4) pa_nil)))))))))))))), fun D v0 v2 v3 v4 H1 k => ?_⟩
  have e0 := PE.k0
  have e1 := PE.k1
  have e2 := PE.k2
  have e3 := PE.k3
  have e4 := PE.k4
  have e5 := PE.k5
  have e6 := PE.k6
  have e7 := PE.k7
  have e8 := PE.k8
  have e9 := PE.k9
  have e10 := PE.k10
  have e11 := PE.k11
  have ev := PE.ve
  walk_at "go3"
  refine ⟨_, _, _, 6, .bl true, rfl, rfl, (by walk_at "sql" : SqL _ _ _ _), rfl, rfl, rfl, rfl, (fun m z h e => by rcases (by omega : m = 0 ∨ m = 1 ∨ m = 2 ∨ m = 3 ∨ m = 4 ∨ m = 5) with rfl | rfl | rfl | rfl | rfl | rfl <;> (cases e; rfl)), ?_⟩
  walk_at "go3"
  exact k _ _ (by walk_at "sm") (SqT.of' upd_same)
theorem su_bridge (T : BR X.K X.mg cs) (G : Cls12 X.mg CB cl) (PE : PlainE X.K CB (cl 7) cl 7) : let X0 : Cx := (cxOf C8.CX0 X.prog X.w X.K X.mg X.base ["_law_call", "e", "_law_kinds", "_law_names", "_law_name"] "_law_error" (fnScope s__law_error) g cdg X.A X.stack s H C8.E0).nox
    ∀ (a : Addr) (oe : Obj) (pn : List (Addr × Obj)), Zc (.ref (cl 7)) none oe → (∃ vs, oe.data = .fields vs) → ∃ t : TS, PSs (X0.suite a ((a, oe) :: pn)) sSuite t ∧
      ∀ (D : Ends) (v0 v2 v3 v4 : Option V) (H1 : Hp), (∀ b H2, Same H1 H2 → SqT X.K H2 b [.str "bridge"] → D.rt (.ref b) H2) → t D [v0, some (.ref a), v2, v3, v4] H1 := by
  intro X0 a oe pn hz hf
  have g0 := G.g0
  have g1 := G.g1
  have g2 := G.g2
  have g3 := G.g3
  have g4 := G.g4
  have g5 := G.g5
  have g6 := G.g6
  have g7 := G.g7
  have g8 := G.g8
  have g9 := G.g9
  have g10 := G.g10
  have g11 := G.g11
  refine ⟨_, (pss_cons (ps_set (i := 2) scErr.nd rfl (Or.inl rfl) (pe_lst (pa_cons (pe_callB (call_isE (X := X0) (a := a) PE.ex hz hf) (by rfl) T.isinstance (by decide +kernel) (pa_cons (pv 1) (pa_cons (pe_gc (v := .ref (cl 0)) (by rfl) ⟨_, g0, rfl⟩) pa_nil))) (pa_cons (pe_callB (call_isE (X := X0) (a := a) PE.ex hz hf) (by rfl) T.isinstance (by decide +kernel) (pa_cons (pv 1) (pa_cons (pe_gc (v := .ref (cl 1)) (by rfl) ⟨_, g1, rfl⟩) pa_nil))) (pa_cons (pe_callB (call_isE (X := X0) (a := a) PE.ex hz hf) (by rfl) T.isinstance (by decide +kernel) (pa_cons (pv 1) (pa_cons (pe_gc (v := .ref (cl 2)) (by rfl) ⟨_, g2, rfl⟩) pa_nil))) pa_nil)))))
 (pss_cons (ps_expr (pe_bm PySem.F.plainAttrs_list PySem.F.slot_list_extend PySem.F.type_list_extend mt_extend (pv 2) (pa_cons (pe_lst (pa_cons (pe_callB (call_isE (X := X0) (a := a) PE.ex hz hf) (by rfl) T.isinstance (by decide +kernel) (pa_cons (pv 1) (pa_cons (pe_gc (v := .ref (cl 3)) (by rfl) ⟨_, g3, rfl⟩) pa_nil))) (pa_cons (pe_callB (call_isE (X := X0) (a := a) PE.ex hz hf) (by rfl) T.isinstance (by decide +kernel) (pa_cons (pv 1) (pa_cons (pe_gc (v := .ref (cl 4)) (by rfl) ⟨_, g4, rfl⟩) pa_nil))) (pa_cons (pe_callB (call_isE (X := X0) (a := a) PE.ex hz hf) (by rfl) T.isinstance (by decide +kernel) (pa_cons (pv 1) (pa_cons (pe_gc (v := .ref (cl 5)) (by rfl) ⟨_, g5, rfl⟩) pa_nil))) pa_nil)))) pa_nil)))
 (pss_cons (ps_expr (pe_bm PySem.F.plainAttrs_list PySem.F.slot_list_extend PySem.F.type_list_extend mt_extend (pv 2) (pa_cons (pe_lst (pa_cons (pe_callB (call_isE (X := X0) (a := a) PE.ex hz hf) (by rfl) T.isinstance (by decide +kernel) (pa_cons (pv 1) (pa_cons (pe_gc (v := .ref (cl 6)) (by rfl) ⟨_, g6, rfl⟩) pa_nil))) (pa_cons (pe_callB (call_isE (X := X0) (a := a) PE.ex hz hf) (by rfl) T.isinstance (by decide +kernel) (pa_cons (pv 1) (pa_cons (pe_gc (v := .ref (cl 7)) (by rfl) ⟨_, g7, rfl⟩) pa_nil))) (pa_cons (pe_callB (call_isE (X := X0) (a := a) PE.ex hz hf) (by rfl) T.isinstance (by decide +kernel) (pa_cons (pv 1) (pa_cons (pe_gc (v := .ref (cl 8)) (by rfl) ⟨_, g8, rfl⟩) pa_nil))) pa_nil)))) pa_nil)))
 (pss_cons (ps_expr (pe_bm PySem.F.plainAttrs_list PySem.F.slot_list_extend PySem.F.type_list_extend mt_extend (pv 2) (pa_cons (pe_lst (pa_cons (pe_callB (call_isE (X := X0) (a := a) PE.ex hz hf) (by rfl) T.isinstance (by decide +kernel) (pa_cons (pv 1) (pa_cons (pe_gc (v := .ref (cl 9)) (by rfl) ⟨_, g9, rfl⟩) pa_nil))) (pa_cons (pe_callB (call_isE (X := X0) (a := a) PE.ex hz hf) (by rfl) T.isinstance (by decide +kernel) (pa_cons (pv 1) (pa_cons (pe_gc (v := .ref (cl 10)) (by rfl) ⟨_, g10, rfl⟩) pa_nil))) (pa_cons (pe_callB (call_isE (X := X0) (a := a) PE.ex hz hf) (by rfl) T.isinstance (by decide +kernel) (pa_cons (pv 1) (pa_cons (pe_gc (v := .ref (cl 11)) (by rfl) ⟨_, g11, rfl⟩) pa_nil))) pa_nil)))) pa_nil)))
 (pss_cons (ps_if (PW.pt (pw_or (pt_cmpR op_ne (pe_bm PySem.F.plainAttrs_list PySem.F.slot_list_count PySem.F.type_list_count mt_cntV (pv 2) (pa_cons pe_bl pa_nil)) pe_int (nomark _)) (pw_or1 (pt_not (pt_val (pe_callB (call_isE (X := X0) (a := a) PE.ex hz hf) (by rfl) T.isinstance (by decide +kernel) (pa_cons (pv 1) (pa_cons (pe_bltn (v := .ty "ValueError") (by rfl) G.gV (by decide +kernel) rfl) pa_nil)))))))) (pss_one (ps_ret (pe_tup (pa_cons pe_str pa_nil)))) pss_nil)
 (pss_cons (ps_set (i := 3) scErr.nd rfl (Or.inl rfl) (pe_lst (pa_cons pe_str (pa_cons pe_str (pa_cons pe_str (pa_cons pe_str (pa_cons pe_str (pa_cons pe_str (pa_cons pe_str (pa_cons pe_str (pa_cons pe_str (pa_cons pe_str (pa_cons pe_str pa_nil)))))))))))))
 (pss_cons (ps_set (i := 4) scErr.nd rfl (Or.inl rfl) (pe_ix ix_list (pe_op op_cat (pv 3) (pe_lst (pa_cons pe_str pa_nil))) (pe_bm PySem.F.plainAttrs_list PySem.F.slot_list_index PySem.F.type_list_index mt_index (pv 2) (pa_cons pe_bl pa_nil)) (fun _ _ => rfl)))
 (pss_cons (ps_if (pt_cmpR op_eq (pv 4) pe_str (nomark _)) (pss_one (ps_ret (pe_tup (pa_cons (pv 4) (pa_cons pe_nv (pa_cons pe_nv pa_nil)))))) pss_nil)
 (pss_cons (ps_if (pt_cmpR op_eq (pv 4) pe_str (nomark _)) (pss_one (ps_ret (pe_tup (pa_cons (pv 4) (pa_cons pe_nv pa_nil))))) pss_nil)
 (pss_one (ps_ret (pe_ifExp (pt_cmpR op_eq (pv 4) pe_str (nomark _)) (pe_tup (pa_cons (pv 4) (pa_cons pe_nv pa_nil))) (pe_tup (pa_cons (pv 4) pa_nil)))))))))))))), fun D v0 v2 v3 v4 H1 k => ?_⟩
  have e0 := PE.k0
  have e1 := PE.k1
  have e2 := PE.k2
  have e3 := PE.k3
  have e4 := PE.k4
  have e5 := PE.k5
  have e6 := PE.k6
  have e7 := PE.k7
  have e8 := PE.k8
  have e9 := PE.k9
  have e10 := PE.k10
  have e11 := PE.k11
  have ev := PE.ve
  walk_at "go3"
  refine ⟨_, _, _, 7, .bl true, rfl, rfl, (by walk_at "sql" : SqL _ _ _ _), rfl, rfl, rfl, rfl, (fun m z h e => by rcases (by omega : m = 0 ∨ m = 1 ∨ m = 2 ∨ m = 3 ∨ m = 4 ∨ m = 5 ∨ m = 6) with rfl | rfl | rfl | rfl | rfl | rfl | rfl <;> (cases e; rfl)), ?_⟩
  walk_at "go3"
  exact k _ _ (by walk_at "sm") (SqT.of' upd_same)
end
end T1

set_option Elab.async false
set_option linter.all false
set_option maxRecDepth 100000
set_option maxHeartbeats 4000000
namespace T1
open PySem PySem.Spec PyProof.Rows L2 C8
open PySem.W in
/-- e.__class__ of an error that has a dict of its own -/
theorem exc_class {prog : Program} {w : World} {A : Around} {E : Value → Shared → Prop} {s : Shared} {K : Frag} {e D : Addr} {ob od : Obj} {Q : Option Value → Shared → Prop} (T : ExcC K D) (X : K.In s.heap) (I : InstAt s.heap e ob D (some od))
    (fin : Q (some (.ref D)) { s with toks := s.toks + 1 }) : wpAny (model prog w) A (getAttr? (.ref e) "__class__") Q E s := by
  have isC : (clsIn K D).isSome = true := by
    obtain ⟨c, hc, _⟩ := any_some T.hd
    rw [hc] <;> rfl
  obtain ⟨hp, gn, dr, tk, os⟩ := s
  have lt := I.type (M := model prog w)
  have lg := looks_findIn (M := model prog w) X T.hg
  have lk := looks_findIn (M := model prog w) X T.hk
  have lf := looks_find (M := model prog w) X I (findObj_data isC T.ha T.hn T.ht)
  have isB : Looks (model prog w) hp (isInstance (.ref e) (.type "BaseException")) true := lt.andThen (looks_subIn X T.hs)
  have other : (onTheHeap (Value.ref D) && Value.builtin "BaseException.__getattribute__" == Value.builtin "object.__getattribute__") = false := by
    rw [show (Value.builtin "BaseException.__getattribute__" == Value.builtin "object.__getattribute__") = false from by decide +kernel, Bool.and_false]
  unfold getAttr? getAttrBy? getAttrBy
  refine wpAny_bind (wpAny_mkText (wpAny_bind (wpAny_attempt (wpAny_holding (wpAny_bind (lt.at (wpAny_bind (lg.at ?_))))))))
  dsimp only
  rw [other, if_neg Bool.false_ne_true]
  unfold getAttrByItsOwn hookBefore
  rw [if_pos (show onTheHeap (Value.ref D) = true from rfl)]
  refine wpAny_bind (lk.at (wpAny_bind (wpAny_attempt (wpAny_holding ?_))))
  unfold callGetattribute
  rw [if_neg (show ¬ (false && onTheHeap (Value.builtin "BaseException.__getattribute__")) = true from Bool.false_ne_true)]
  unfold boundAndCalled
  rw [PySem.F.excAttr_ValueError.ga.bind (.ref e)]
  refine wpAny_bind (wpAny_pure (wpAny_call (codeAny_call_builtin PySem.F.excAttr_ValueError.ga.plain PySem.F.entry_bexc_ga
    (@check_slot (model prog w) _ _ ⟨hp, gn, dr, tk + 1, os⟩ "BaseException.__getattribute__" "BaseException" "__getattribute__" (.ref e) [.str "__class__" tk] [] _ (by decide +kernel) (by decide +kernel) isB (PySem.F.args_bexc_ga _ _) ?_))))
  unfold Builtin.«object.__getattribute__»
  refine wpAny_bind (wpAny_of_eq (a := ((Value.ref e : Value), [Value.str "__class__" tk])) (by first | rfl | (simp only [slotArgs]; rfl)) (wpAny_bind (wpAny_pure (wpAny_bind (lt.at (wpAny_bind (lf.at ?_)))))))
  refine wpAny_bind (wpAny_holding (wpAny_call (class_get (s := ⟨hp, gn, dr, tk + 1, os⟩) (ox := ob) (od := some od) X I T.hm (wpAny_pure ?_))))
  show wpAny _ _ (handedOut (.ref D)) _ _ _
  rw [handedOut_of (v := .ref D) rfl]
  first
    | exact wpAny_pure (wpAny_pure fin)
    | exact wpAny_pure fin
    | exact wpAny_pure (wpAny_bind (wpAny_pure (wpAny_pure fin)))
/-- isinstance(e, c), e the error that the suite holds, its dict at dd -/
theorem call_isD {X : Cx} {a D dd : Addr} {oe : Obj} {pn : List (Addr × Obj)} (T : ExcC X.K D) (hz : Zc (.ref D) (some dd) oe) (hf : ∃ vs, oe.data = .fields vs) :
    CallR (X.suite a ((a, oe) :: pn)) (.builtin "isinstance") (fun xs H Q => ∃ (c : V) (cv : Value) (b : Bool) (fs : List (Str × V)), xs = [.ref a, c] ∧ H dd = some (.xd fs) ∧ (∀ u, RelV c u → u = cv) ∧ PySem.W.kitOne X.K (.ref D) cv = some b ∧ Q (.bl b) H) := by
  rintro pins s σ H _ us Q I r ⟨c, cv, b, fs, rfl, hdd, hc, kit, fin⟩
  obtain _ | ⟨ra, _ | ⟨rc, _ | _⟩⟩ := r
  cases ra
  obtain rfl := hc _ rc
  have at_ := (I.pin (a, oe) (List.mem_append_left _ List.mem_cons_self)).1
  obtain ⟨mA, ns, _⟩ := (I.hok dd _ hdd : ObjOk _ _ _ _ dd (.xd fs))
  obtain ⟨od, hod, _⟩ := lookIn_ns ns
  obtain ⟨vs, hv⟩ := hf
  have J : PySem.W.InstAt s.heap a oe D (some od) := ⟨at_, hz.1, by unfold PySem.W.notCls; rw [hv] <;> rfl, by rw [hz.2]; exact hod⟩
  have old := PySem.W.handS_kitx_exc (x := a) (ox := oe) T.hg T.hk T.hs T.hd T.ha T.hn T.ht T.hm
  have Z : PySem.W.KitX X.K (.ref a) (.ref D) (fun h => ∃ od, PySem.W.InstAt h a oe D (some od)) := {
    ty := fun _ _ _ ⟨_, z⟩ => z.type
    it := fun M h x ⟨_, z⟩ => by
      obtain ⟨cd, hcd, _⟩ := PySem.W.any_some T.hd
      unfold PySem.W.clsIn at hcd
      split at hcd
      · rename_i ho
        exact fun _ _ _ _ keep q => wpAny_bind (wpAny_loadPart (keep _ _ (x _ _ ho)) (wpAny_pure q))
      · cases hcd
    ne := fun h tp dt its n sl x htp => by
      refine Bool.eq_false_iff.mpr fun q => ?_
      obtain rfl : D = tp := Value.ref.inj (beq_iff_eq.mp q)
      obtain ⟨cd, hcd, _⟩ := PySem.W.any_some T.hd
      unfold PySem.W.clsIn at hcd
      split at hcd
      · rename_i ho
        cases (x _ _ ho).symm.trans htp
      · cases hcd
    ca := fun x ⟨_, z⟩ q => exc_class T x z q }
  exact PySem.W.kia_one Z I.kIn ⟨od, J⟩ kit (fun z => nomatch z) fun tk => ⟨.bl b, H, I.kept (t' := tk) fun _ _ z => z, rfl, fin⟩
end T1

set_option Elab.async false
set_option linter.all false
set_option maxRecDepth 100000
set_option maxHeartbeats 4000000
namespace T1
open PySem PySem.Spec PyProof.Rows L2 C8
local macro_rules | `(tactic| walk_at "hf") => `(tactic| (fail_if_success (show (fun _ => none : Hp) _ = _)); first | assumption | with_reducible exact upd_same | ((with_reducible show upd _ _ _ _ = _); first | exact up_new' (by assumption) (by walk_at "hf") | exact up_set (by walk_at "ne") (by walk_at "hf")) | exact Same.at' (by assumption) (by walk_at "hf") | exact But.at' (by assumption) (by walk_at "ne") (by walk_at "ne") (by walk_at "hf"))
local macro_rules | `(tactic| walk_at "hf0") => `(tactic| (fail_if_success (show (fun _ => none : Hp) _ = _)); first | assumption | with_reducible exact upd_same | ((with_reducible show upd _ _ _ _ = _); exact up_new' (by assumption) (by walk_at "hf0")))
local macro_rules | `(tactic| walk_at "ne") => `(tactic| first | assumption | (apply Ne.symm; assumption) | exact ne_of_none' (by assumption) (by walk_at "hf0") | exact Ne.symm (ne_of_none' (by assumption) (by walk_at "hf0")) | exact LSt.f1 (by assumption) (by walk_at "lst") | exact LSt.f2 (by assumption) (by walk_at "lst"))
local macro_rules | `(tactic| walk_at "sqt") => `(tactic| (fail_if_success (show SqT _ (fun _ => none) _ _)); first | assumption | exact SqT.of' (by walk_at "hf") | ((with_reducible show SqT _ (upd _ _ _) _ _); first | exact SqT.new' (by assumption) (by walk_at "sqt") | exact SqT.put' (by walk_at "hf") (by walk_at "sqt")) | exact Same.tup (by assumption) (by walk_at "sqt") | exact But.tup (by assumption) (by walk_at "lst") (by walk_at "sqt"))
local macro_rules | `(tactic| walk_at "sql") => `(tactic| (fail_if_success (show SqL _ (fun _ => none) _ _)); first | assumption | exact SqL.of' (by walk_at "hf") | ((with_reducible show SqL _ (upd _ _ _) _ _); exact SqL.new' (by assumption) (by walk_at "sql")) | exact Same.sql' (by assumption) (by walk_at "sql"))
local macro_rules | `(tactic| walk_at "lst") => `(tactic| (fail_if_success (show LSt (fun _ => none) _ _)); first | assumption | ((with_reducible show LSt (upd _ _ _) _ _); first | exact LSt.new (by walk_at "lst") (by assumption) | exact LSt.put (by walk_at "lst") (by walk_at "ne") (by walk_at "ne")) | exact LSt.same' (by assumption) (by walk_at "lst"))
local macro_rules | `(tactic| walk_at "but") => `(tactic| first | assumption | exact But.refl _ _ _ | ((with_reducible show But _ _ _ (upd _ _ _)); exact But.nw (by assumption) (by walk_at "but")) | exact But.bu (by assumption) (by walk_at "but") | exact But.sm (by assumption) (by walk_at "but"))
local macro_rules | `(tactic| walk_at "ls") => `(tactic| first | assumption | exact Ls.same (by walk_at "ls") (Same.upd' (by assumption)))
local macro_rules | `(tactic| walk_at "ll") => `(tactic| first | assumption | exact LL.same (by walk_at "ll") (Same.upd' (by assumption)) | exact LL.same' (by assumption) (by walk_at "ll") | exact LL.but' (by assumption) (by walk_at "lst") (by walk_at "ll"))
local macro_rules | `(tactic| walk_at "sm") => `(tactic| first | assumption | exact Same.refl _ | ((with_reducible show Same _ (upd _ _ _)); first | exact Same.put' (by assumption) (by walk_at "sm") | exact Same.trans (by walk_at "sm") (Same.upd' (by assumption))) | exact Same.trans (by walk_at "sm") (by assumption))
/-- one step of a reading -/
local macro_rules | `(tactic| walk_at "rd") => `(tactic| first
  | with_reducible refine iteF ?_
  | with_reducible refine iteT ?_
  | with_reducible refine itNotF ?_
  | with_reducible refine itNotT ?_
  | refine ⟨_, rfl, ?_⟩
  | refine ⟨_, _, rfl, rfl, ?_⟩
  | refine ⟨_, _, rfl, ?_⟩
  | refine ⟨(_ : Addr), (_ : List V), (_ : Int), (_ : V), rfl, rfl, SqL.of' (by walk_at "hf"), (by first | assumption | rfl), ?_⟩
  | refine ⟨(_ : Addr), (_ : List V), (_ : Int), (_ : V), rfl, rfl, (by walk_at "sqt" : SqT _ _ _ _), (by first | assumption | rfl), ?_⟩
  | refine .inl ⟨_, rfl, ?_⟩
  | refine ⟨_, _, rfl, .inl (by walk_at "sql" : SqL _ _ _ _), ?_⟩
  | refine ⟨_, _, rfl, .inl ⟨(by walk_at "sql" : SqL _ _ _ _), fun p hp => ?_⟩⟩
  | refine ⟨_, _, rfl, .inr ⟨(by walk_at "sqt" : SqT _ _ _ _), ?_⟩⟩
  | refine fun (p : Addr) (hp : (_ : Hp) p = none) => ?_
  | refine ⟨_, _, rfl, .inr (by walk_at "sqt" : SqT _ _ _ _), ?_⟩
  | refine And.intro (by show _ ≤ sizeLine; first | decide | walk_at "sz") (fun p hp => ?_)
  | refine ⟨(_ : Addr), (_ : Addr), (_ : List V), (_ : List V), rfl, rfl, (by walk_at "hf"), (by walk_at "hf"), (by walk_at "sz"), fun p hp => ?_⟩
  | refine ⟨(_ : Addr), (_ : Addr), (_ : List V), (_ : List V), rfl, rfl, (by walk_at "hf"), (by walk_at "hf"), (by walk_at "sz"), ?_⟩
  | refine ⟨(_ : Addr), (_ : List V), (_ : Int), (_ : Nat), rfl, rfl, (by walk_at "hf"), (by rfl), ?_⟩
  | refine And.intro ⟨_, (by walk_at "sql" : SqL _ _ _ _)⟩ ?_
  | refine And.intro ⟨_, (by walk_at "sqt" : SqT _ _ _ _)⟩ ?_
  | refine And.intro (.inl ⟨rfl, _, SqL.of' (by walk_at "hf")⟩) ?_
  | refine And.intro (by walk_at "cond") ?_
  | exact .inl ⟨rfl, _, SqL.of' (by walk_at "hf")⟩
  | with_reducible refine iteT ?_
  | with_reducible refine iteF ?_
  | refine And.intro (by rfl : scal _ _ = true) ?_
  | refine And.intro (by rfl : _ = V.non) ?_
  | refine And.intro (by rfl : wipe _ _ = wipe _ _) ?_
  | refine And.intro (by rfl : (_ : List V) = []) ?_
  | refine ⟨(_ : Addr), (_ : List V), rfl, (by walk_at "sqt" : SqT _ _ _ _), (by rfl), ?_⟩)
/-- a test: known, or both ways -/
local macro_rules | `(tactic| walk_at "if") => `(tactic| first
  | with_reducible refine itD (by omega) ?_
  | with_reducible refine itN (by omega) ?_
  | with_reducible refine itnD (by omega) ?_
  | with_reducible refine itnN (by omega) ?_
  | with_reducible refine itE (by omega) ?_
  | with_reducible refine itEn (by omega) ?_
  | with_reducible refine itnE (by omega) ?_
  | with_reducible refine itnEn (by omega) ?_
  | with_reducible refine itN (by intro z; cases z) ?_
  | with_reducible refine itD (by decide) ?_
  | with_reducible refine itN (by decide) ?_
  | with_reducible refine itnD (by decide) ?_
  | with_reducible refine itnN (by decide) ?_)
local macro_rules | `(tactic| walk_at "if2") => `(tactic| first
  | with_reducible refine itS (fun z => ?_) (fun z => ?_)
  | with_reducible refine itS' (fun z => ?_) (fun z => ?_)
  | with_reducible refine itSE (fun z => ?_) (fun z => ?_)
  | with_reducible refine itnS (fun z => ?_) (fun z => ?_)
  | with_reducible refine itnS' (fun z => ?_) (fun z => ?_)
  | with_reducible refine itnSE (fun z => ?_) (fun z => ?_))
local macro_rules | `(tactic| walk_at "go") => `(tactic| repeat' (first | walk_at "rd" | walk_at "if" | walk_at "if2" | fail))
local macro_rules | `(tactic| walk_at "sz") => `(tactic| (rw [sizeLine_eq]; simp only [List.length_append, List.length_map, List.length_cons, List.length_nil]; omega))
local macro_rules | `(tactic| walk_at "cond") => `(tactic| first | assumption | (show (_ : Int) ≠ 0; first | omega | (split <;> omega)) | (show (0 : Int) < _; first | assumption | decide) | exact ⟨by decide, by decide, by decide⟩ | exact .inr ⟨by decide, by decide⟩ | exact wide_div (b := 64) (by assumption) (by omega) (by decide) (by decide) | exact ⟨by decide, by decide⟩)


local macro_rules | `(tactic| walk_at "isd") => `(tactic| first
  | refine ⟨_, _, _, _, rfl, (by walk_at "hf"), (fun _ z => z), (by assumption), ?_⟩
  | refine ⟨_, _, _, rfl, rfl, (by walk_at "sql" : SqL _ _ _ _), (by rfl), (by rfl), ?_⟩)
local macro_rules | `(tactic| walk_at "go3") => `(tactic| repeat' (first | walk_at "rd" | walk_at "if" | walk_at "isd" | fail))
section
variable {X : Cx} {g CB : Addr} {cl : Nat → Addr} {cdg : Value} {cs : ErrC} {s : Shared} {H : Hp}
theorem su2_load (T : BR X.K X.mg cs) (G : Cls12 X.mg CB cl) (PE : PlainE X.K CB (cl 5) cl 5) : let X0 : Cx := (cxOf C8.CX0 X.prog X.w X.K X.mg X.base ["_law_call", "e", "_law_kinds", "_law_names", "_law_name"] "_law_error" (fnScope s__law_error) g cdg X.A X.stack s H C8.E0).nox
    ∀ (a dd : Addr) (oe : Obj) (pn : List (Addr × Obj)), Zc (.ref (cl 5)) (some dd) oe → (∃ vs, oe.data = .fields vs) → ∃ t : TS, PSs (X0.suite a ((a, oe) :: pn)) sSuite t ∧
      ∀ (D : Ends) (v0 v2 v3 v4 : Option V) (H1 : Hp), H1 dd = some (.xd []) → (∀ b H2, Same H1 H2 → SqT X.K H2 b [.str "load"] → D.rt (.ref b) H2) → t D [v0, some (.ref a), v2, v3, v4] H1 := by
  intro X0 a dd oe pn hz hf
  have g0 := G.g0
  have g1 := G.g1
  have g2 := G.g2
  have g3 := G.g3
  have g4 := G.g4
  have g5 := G.g5
  have g6 := G.g6
  have g7 := G.g7
  have g8 := G.g8
  have g9 := G.g9
  have g10 := G.g10
  have g11 := G.g11
  refine ⟨_, (pss_cons (ps_set (i := 2) scErr.nd rfl (Or.inl rfl) (pe_lst (pa_cons (pe_callB (call_isD (X := X0) (a := a) PE.ex hz hf) (by rfl) T.isinstance (by decide +kernel) (pa_cons (pv 1) (pa_cons (pe_gc (v := .ref (cl 0)) (by rfl) ⟨_, g0, rfl⟩) pa_nil))) (pa_cons (pe_callB (call_isD (X := X0) (a := a) PE.ex hz hf) (by rfl) T.isinstance (by decide +kernel) (pa_cons (pv 1) (pa_cons (pe_gc (v := .ref (cl 1)) (by rfl) ⟨_, g1, rfl⟩) pa_nil))) (pa_cons (pe_callB (call_isD (X := X0) (a := a) PE.ex hz hf) (by rfl) T.isinstance (by decide +kernel) (pa_cons (pv 1) (pa_cons (pe_gc (v := .ref (cl 2)) (by rfl) ⟨_, g2, rfl⟩) pa_nil))) pa_nil)))))
 (pss_cons (ps_expr (pe_bm PySem.F.plainAttrs_list PySem.F.slot_list_extend PySem.F.type_list_extend mt_extend (pv 2) (pa_cons (pe_lst (pa_cons (pe_callB (call_isD (X := X0) (a := a) PE.ex hz hf) (by rfl) T.isinstance (by decide +kernel) (pa_cons (pv 1) (pa_cons (pe_gc (v := .ref (cl 3)) (by rfl) ⟨_, g3, rfl⟩) pa_nil))) (pa_cons (pe_callB (call_isD (X := X0) (a := a) PE.ex hz hf) (by rfl) T.isinstance (by decide +kernel) (pa_cons (pv 1) (pa_cons (pe_gc (v := .ref (cl 4)) (by rfl) ⟨_, g4, rfl⟩) pa_nil))) (pa_cons (pe_callB (call_isD (X := X0) (a := a) PE.ex hz hf) (by rfl) T.isinstance (by decide +kernel) (pa_cons (pv 1) (pa_cons (pe_gc (v := .ref (cl 5)) (by rfl) ⟨_, g5, rfl⟩) pa_nil))) pa_nil)))) pa_nil)))
 (pss_cons (ps_expr (pe_bm PySem.F.plainAttrs_list PySem.F.slot_list_extend PySem.F.type_list_extend mt_extend (pv 2) (pa_cons (pe_lst (pa_cons (pe_callB (call_isD (X := X0) (a := a) PE.ex hz hf) (by rfl) T.isinstance (by decide +kernel) (pa_cons (pv 1) (pa_cons (pe_gc (v := .ref (cl 6)) (by rfl) ⟨_, g6, rfl⟩) pa_nil))) (pa_cons (pe_callB (call_isD (X := X0) (a := a) PE.ex hz hf) (by rfl) T.isinstance (by decide +kernel) (pa_cons (pv 1) (pa_cons (pe_gc (v := .ref (cl 7)) (by rfl) ⟨_, g7, rfl⟩) pa_nil))) (pa_cons (pe_callB (call_isD (X := X0) (a := a) PE.ex hz hf) (by rfl) T.isinstance (by decide +kernel) (pa_cons (pv 1) (pa_cons (pe_gc (v := .ref (cl 8)) (by rfl) ⟨_, g8, rfl⟩) pa_nil))) pa_nil)))) pa_nil)))
 (pss_cons (ps_expr (pe_bm PySem.F.plainAttrs_list PySem.F.slot_list_extend PySem.F.type_list_extend mt_extend (pv 2) (pa_cons (pe_lst (pa_cons (pe_callB (call_isD (X := X0) (a := a) PE.ex hz hf) (by rfl) T.isinstance (by decide +kernel) (pa_cons (pv 1) (pa_cons (pe_gc (v := .ref (cl 9)) (by rfl) ⟨_, g9, rfl⟩) pa_nil))) (pa_cons (pe_callB (call_isD (X := X0) (a := a) PE.ex hz hf) (by rfl) T.isinstance (by decide +kernel) (pa_cons (pv 1) (pa_cons (pe_gc (v := .ref (cl 10)) (by rfl) ⟨_, g10, rfl⟩) pa_nil))) (pa_cons (pe_callB (call_isD (X := X0) (a := a) PE.ex hz hf) (by rfl) T.isinstance (by decide +kernel) (pa_cons (pv 1) (pa_cons (pe_gc (v := .ref (cl 11)) (by rfl) ⟨_, g11, rfl⟩) pa_nil))) pa_nil)))) pa_nil)))
 (pss_cons (ps_if (PW.pt (pw_or (pt_cmpR op_ne (pe_bm PySem.F.plainAttrs_list PySem.F.slot_list_count PySem.F.type_list_count mt_cntV (pv 2) (pa_cons pe_bl pa_nil)) pe_int (nomark _)) (pw_or1 (pt_not (pt_val (pe_callB (call_isD (X := X0) (a := a) PE.ex hz hf) (by rfl) T.isinstance (by decide +kernel) (pa_cons (pv 1) (pa_cons (pe_bltn (v := .ty "ValueError") (by rfl) G.gV (by decide +kernel) rfl) pa_nil)))))))) (pss_one (ps_ret (pe_tup (pa_cons pe_str pa_nil)))) pss_nil)
 (pss_cons (ps_set (i := 3) scErr.nd rfl (Or.inl rfl) (pe_lst (pa_cons pe_str (pa_cons pe_str (pa_cons pe_str (pa_cons pe_str (pa_cons pe_str (pa_cons pe_str (pa_cons pe_str (pa_cons pe_str (pa_cons pe_str (pa_cons pe_str (pa_cons pe_str pa_nil)))))))))))))
 (pss_cons (ps_set (i := 4) scErr.nd rfl (Or.inl rfl) (pe_ix ix_list (pe_op op_cat (pv 3) (pe_lst (pa_cons pe_str pa_nil))) (pe_bm PySem.F.plainAttrs_list PySem.F.slot_list_index PySem.F.type_list_index mt_index (pv 2) (pa_cons pe_bl pa_nil)) (fun _ _ => rfl)))
 (pss_cons (ps_if (pt_cmpR op_eq (pv 4) pe_str (nomark _)) (pss_one (ps_ret (pe_tup (pa_cons (pv 4) (pa_cons pe_nv (pa_cons pe_nv pa_nil)))))) pss_nil)
 (pss_cons (ps_if (pt_cmpR op_eq (pv 4) pe_str (nomark _)) (pss_one (ps_ret (pe_tup (pa_cons (pv 4) (pa_cons pe_nv pa_nil))))) pss_nil)
 (pss_one (ps_ret (pe_ifExp (pt_cmpR op_eq (pv 4) pe_str (nomark _)) (pe_tup (pa_cons (pv 4) (pa_cons pe_nv pa_nil))) (pe_tup (pa_cons (pv 4) pa_nil)))))))))))))), fun D v0 v2 v3 v4 H1 hdd k => ?_⟩
  have e0 := PE.k0
  have e1 := PE.k1
  have e2 := PE.k2
  have e3 := PE.k3
  have e4 := PE.k4
  have e5 := PE.k5
  have e6 := PE.k6
  have e7 := PE.k7
  have e8 := PE.k8
  have e9 := PE.k9
  have e10 := PE.k10
  have e11 := PE.k11
  have ev := PE.ve
  walk_at "go3"
  refine ⟨_, _, _, 5, .bl true, rfl, rfl, (by walk_at "sql" : SqL _ _ _ _), rfl, rfl, rfl, rfl, (fun m z h e => by rcases (by omega : m = 0 ∨ m = 1 ∨ m = 2 ∨ m = 3 ∨ m = 4) with rfl | rfl | rfl | rfl | rfl <;> (cases e; rfl)), ?_⟩
  walk_at "go3"
  exact k _ _ (by walk_at "sm") (SqT.of' upd_same)
theorem su2_place (T : BR X.K X.mg cs) (G : Cls12 X.mg CB cl) (PE : PlainE X.K CB (cl 6) cl 6) : let X0 : Cx := (cxOf C8.CX0 X.prog X.w X.K X.mg X.base ["_law_call", "e", "_law_kinds", "_law_names", "_law_name"] "_law_error" (fnScope s__law_error) g cdg X.A X.stack s H C8.E0).nox
    ∀ (a dd : Addr) (oe : Obj) (pn : List (Addr × Obj)), Zc (.ref (cl 6)) (some dd) oe → (∃ vs, oe.data = .fields vs) → ∃ t : TS, PSs (X0.suite a ((a, oe) :: pn)) sSuite t ∧
      ∀ (D : Ends) (v0 v2 v3 v4 : Option V) (H1 : Hp), H1 dd = some (.xd []) → (∀ b H2, Same H1 H2 → SqT X.K H2 b [.str "place"] → D.rt (.ref b) H2) → t D [v0, some (.ref a), v2, v3, v4] H1 := by
  intro X0 a dd oe pn hz hf
  have g0 := G.g0
  have g1 := G.g1
  have g2 := G.g2
  have g3 := G.g3
  have g4 := G.g4
  have g5 := G.g5
  have g6 := G.g6
  have g7 := G.g7
  have g8 := G.g8
  have g9 := G.g9
  have g10 := G.g10
  have g11 := G.g11
  refine ⟨_, (pss_cons (ps_set (i := 2) scErr.nd rfl (Or.inl rfl) (pe_lst (pa_cons (pe_callB (call_isD (X := X0) (a := a) PE.ex hz hf) (by rfl) T.isinstance (by decide +kernel) (pa_cons (pv 1) (pa_cons (pe_gc (v := .ref (cl 0)) (by rfl) ⟨_, g0, rfl⟩) pa_nil))) (pa_cons (pe_callB (call_isD (X := X0) (a := a) PE.ex hz hf) (by rfl) T.isinstance (by decide +kernel) (pa_cons (pv 1) (pa_cons (pe_gc (v := .ref (cl 1)) (by rfl) ⟨_, g1, rfl⟩) pa_nil))) (pa_cons (pe_callB (call_isD (X := X0) (a := a) PE.ex hz hf) (by rfl) T.isinstance (by decide +kernel) (pa_cons (pv 1) (pa_cons (pe_gc (v := .ref (cl 2)) (by rfl) ⟨_, g2, rfl⟩) pa_nil))) pa_nil)))))
 (pss_cons (ps_expr (pe_bm PySem.F.plainAttrs_list PySem.F.slot_list_extend PySem.F.type_list_extend mt_extend (pv 2) (pa_cons (pe_lst (pa_cons (pe_callB (call_isD (X := X0) (a := a) PE.ex hz hf) (by rfl) T.isinstance (by decide +kernel) (pa_cons (pv 1) (pa_cons (pe_gc (v := .ref (cl 3)) (by rfl) ⟨_, g3, rfl⟩) pa_nil))) (pa_cons (pe_callB (call_isD (X := X0) (a := a) PE.ex hz hf) (by rfl) T.isinstance (by decide +kernel) (pa_cons (pv 1) (pa_cons (pe_gc (v := .ref (cl 4)) (by rfl) ⟨_, g4, rfl⟩) pa_nil))) (pa_cons (pe_callB (call_isD (X := X0) (a := a) PE.ex hz hf) (by rfl) T.isinstance (by decide +kernel) (pa_cons (pv 1) (pa_cons (pe_gc (v := .ref (cl 5)) (by rfl) ⟨_, g5, rfl⟩) pa_nil))) pa_nil)))) pa_nil)))
 (pss_cons (ps_expr (pe_bm PySem.F.plainAttrs_list PySem.F.slot_list_extend PySem.F.type_list_extend mt_extend (pv 2) (pa_cons (pe_lst (pa_cons (pe_callB (call_isD (X := X0) (a := a) PE.ex hz hf) (by rfl) T.isinstance (by decide +kernel) (pa_cons (pv 1) (pa_cons (pe_gc (v := .ref (cl 6)) (by rfl) ⟨_, g6, rfl⟩) pa_nil))) (pa_cons (pe_callB (call_isD (X := X0) (a := a) PE.ex hz hf) (by rfl) T.isinstance (by decide +kernel) (pa_cons (pv 1) (pa_cons (pe_gc (v := .ref (cl 7)) (by rfl) ⟨_, g7, rfl⟩) pa_nil))) (pa_cons (pe_callB (call_isD (X := X0) (a := a) PE.ex hz hf) (by rfl) T.isinstance (by decide +kernel) (pa_cons (pv 1) (pa_cons (pe_gc (v := .ref (cl 8)) (by rfl) ⟨_, g8, rfl⟩) pa_nil))) pa_nil)))) pa_nil)))
 (pss_cons (ps_expr (pe_bm PySem.F.plainAttrs_list PySem.F.slot_list_extend PySem.F.type_list_extend mt_extend (pv 2) (pa_cons (pe_lst (pa_cons (pe_callB (call_isD (X := X0) (a := a) PE.ex hz hf) (by rfl) T.isinstance (by decide +kernel) (pa_cons (pv 1) (pa_cons (pe_gc (v := .ref (cl 9)) (by rfl) ⟨_, g9, rfl⟩) pa_nil))) (pa_cons (pe_callB (call_isD (X := X0) (a := a) PE.ex hz hf) (by rfl) T.isinstance (by decide +kernel) (pa_cons (pv 1) (pa_cons (pe_gc (v := .ref (cl 10)) (by rfl) ⟨_, g10, rfl⟩) pa_nil))) (pa_cons (pe_callB (call_isD (X := X0) (a := a) PE.ex hz hf) (by rfl) T.isinstance (by decide +kernel) (pa_cons (pv 1) (pa_cons (pe_gc (v := .ref (cl 11)) (by rfl) ⟨_, g11, rfl⟩) pa_nil))) pa_nil)))) pa_nil)))
 (pss_cons (ps_if (PW.pt (pw_or (pt_cmpR op_ne (pe_bm PySem.F.plainAttrs_list PySem.F.slot_list_count PySem.F.type_list_count mt_cntV (pv 2) (pa_cons pe_bl pa_nil)) pe_int (nomark _)) (pw_or1 (pt_not (pt_val (pe_callB (call_isD (X := X0) (a := a) PE.ex hz hf) (by rfl) T.isinstance (by decide +kernel) (pa_cons (pv 1) (pa_cons (pe_bltn (v := .ty "ValueError") (by rfl) G.gV (by decide +kernel) rfl) pa_nil)))))))) (pss_one (ps_ret (pe_tup (pa_cons pe_str pa_nil)))) pss_nil)
 (pss_cons (ps_set (i := 3) scErr.nd rfl (Or.inl rfl) (pe_lst (pa_cons pe_str (pa_cons pe_str (pa_cons pe_str (pa_cons pe_str (pa_cons pe_str (pa_cons pe_str (pa_cons pe_str (pa_cons pe_str (pa_cons pe_str (pa_cons pe_str (pa_cons pe_str pa_nil)))))))))))))
 (pss_cons (ps_set (i := 4) scErr.nd rfl (Or.inl rfl) (pe_ix ix_list (pe_op op_cat (pv 3) (pe_lst (pa_cons pe_str pa_nil))) (pe_bm PySem.F.plainAttrs_list PySem.F.slot_list_index PySem.F.type_list_index mt_index (pv 2) (pa_cons pe_bl pa_nil)) (fun _ _ => rfl)))
 (pss_cons (ps_if (pt_cmpR op_eq (pv 4) pe_str (nomark _)) (pss_one (ps_ret (pe_tup (pa_cons (pv 4) (pa_cons pe_nv (pa_cons pe_nv pa_nil)))))) pss_nil)
 (pss_cons (ps_if (pt_cmpR op_eq (pv 4) pe_str (nomark _)) (pss_one (ps_ret (pe_tup (pa_cons (pv 4) (pa_cons pe_nv pa_nil))))) pss_nil)
 (pss_one (ps_ret (pe_ifExp (pt_cmpR op_eq (pv 4) pe_str (nomark _)) (pe_tup (pa_cons (pv 4) (pa_cons pe_nv pa_nil))) (pe_tup (pa_cons (pv 4) pa_nil)))))))))))))), fun D v0 v2 v3 v4 H1 hdd k => ?_⟩
  have e0 := PE.k0
  have e1 := PE.k1
  have e2 := PE.k2
  have e3 := PE.k3
  have e4 := PE.k4
  have e5 := PE.k5
  have e6 := PE.k6
  have e7 := PE.k7
  have e8 := PE.k8
  have e9 := PE.k9
  have e10 := PE.k10
  have e11 := PE.k11
  have ev := PE.ve
  walk_at "go3"
  refine ⟨_, _, _, 6, .bl true, rfl, rfl, (by walk_at "sql" : SqL _ _ _ _), rfl, rfl, rfl, rfl, (fun m z h e => by rcases (by omega : m = 0 ∨ m = 1 ∨ m = 2 ∨ m = 3 ∨ m = 4 ∨ m = 5) with rfl | rfl | rfl | rfl | rfl | rfl <;> (cases e; rfl)), ?_⟩
  walk_at "go3"
  exact k _ _ (by walk_at "sm") (SqT.of' upd_same)
theorem su2_bridge (T : BR X.K X.mg cs) (G : Cls12 X.mg CB cl) (PE : PlainE X.K CB (cl 7) cl 7) : let X0 : Cx := (cxOf C8.CX0 X.prog X.w X.K X.mg X.base ["_law_call", "e", "_law_kinds", "_law_names", "_law_name"] "_law_error" (fnScope s__law_error) g cdg X.A X.stack s H C8.E0).nox
    ∀ (a dd : Addr) (oe : Obj) (pn : List (Addr × Obj)), Zc (.ref (cl 7)) (some dd) oe → (∃ vs, oe.data = .fields vs) → ∃ t : TS, PSs (X0.suite a ((a, oe) :: pn)) sSuite t ∧
      ∀ (D : Ends) (v0 v2 v3 v4 : Option V) (H1 : Hp), H1 dd = some (.xd []) → (∀ b H2, Same H1 H2 → SqT X.K H2 b [.str "bridge"] → D.rt (.ref b) H2) → t D [v0, some (.ref a), v2, v3, v4] H1 := by
  intro X0 a dd oe pn hz hf
  have g0 := G.g0
  have g1 := G.g1
  have g2 := G.g2
  have g3 := G.g3
  have g4 := G.g4
  have g5 := G.g5
  have g6 := G.g6
  have g7 := G.g7
  have g8 := G.g8
  have g9 := G.g9
  have g10 := G.g10
  have g11 := G.g11
  refine ⟨_, (pss_cons (ps_set (i := 2) scErr.nd rfl (Or.inl rfl) (pe_lst (pa_cons (pe_callB (call_isD (X := X0) (a := a) PE.ex hz hf) (by rfl) T.isinstance (by decide +kernel) (pa_cons (pv 1) (pa_cons (pe_gc (v := .ref (cl 0)) (by rfl) ⟨_, g0, rfl⟩) pa_nil))) (pa_cons (pe_callB (call_isD (X := X0) (a := a) PE.ex hz hf) (by rfl) T.isinstance (by decide +kernel) (pa_cons (pv 1) (pa_cons (pe_gc (v := .ref (cl 1)) (by rfl) ⟨_, g1, rfl⟩) pa_nil))) (pa_cons (pe_callB (call_isD (X := X0) (a := a) PE.ex hz hf) (by rfl) T.isinstance (by decide +kernel) (pa_cons (pv 1) (pa_cons (pe_gc (v := .ref (cl 2)) (by rfl) ⟨_, g2, rfl⟩) pa_nil))) pa_nil)))))
 (pss_cons (ps_expr (pe_bm PySem.F.plainAttrs_list PySem.F.slot_list_extend PySem.F.type_list_extend mt_extend (pv 2) (pa_cons (pe_lst (pa_cons (pe_callB (call_isD (X := X0) (a := a) PE.ex hz hf) (by rfl) T.isinstance (by decide +kernel) (pa_cons (pv 1) (pa_cons (pe_gc (v := .ref (cl 3)) (by rfl) ⟨_, g3, rfl⟩) pa_nil))) (pa_cons (pe_callB (call_isD (X := X0) (a := a) PE.ex hz hf) (by rfl) T.isinstance (by decide +kernel) (pa_cons (pv 1) (pa_cons (pe_gc (v := .ref (cl 4)) (by rfl) ⟨_, g4, rfl⟩) pa_nil))) (pa_cons (pe_callB (call_isD (X := X0) (a := a) PE.ex hz hf) (by rfl) T.isinstance (by decide +kernel) (pa_cons (pv 1) (pa_cons (pe_gc (v := .ref (cl 5)) (by rfl) ⟨_, g5, rfl⟩) pa_nil))) pa_nil)))) pa_nil)))
 (pss_cons (ps_expr (pe_bm PySem.F.plainAttrs_list PySem.F.slot_list_extend PySem.F.type_list_extend mt_extend (pv 2) (pa_cons (pe_lst (pa_cons (pe_callB (call_isD (X := X0) (a := a) PE.ex hz hf) (by rfl) T.isinstance (by decide +kernel) (pa_cons (pv 1) (pa_cons (pe_gc (v := .ref (cl 6)) (by rfl) ⟨_, g6, rfl⟩) pa_nil))) (pa_cons (pe_callB (call_isD (X := X0) (a := a) PE.ex hz hf) (by rfl) T.isinstance (by decide +kernel) (pa_cons (pv 1) (pa_cons (pe_gc (v := .ref (cl 7)) (by rfl) ⟨_, g7, rfl⟩) pa_nil))) (pa_cons (pe_callB (call_isD (X := X0) (a := a) PE.ex hz hf) (by rfl) T.isinstance (by decide +kernel) (pa_cons (pv 1) (pa_cons (pe_gc (v := .ref (cl 8)) (by rfl) ⟨_, g8, rfl⟩) pa_nil))) pa_nil)))) pa_nil)))
 (pss_cons (ps_expr (pe_bm PySem.F.plainAttrs_list PySem.F.slot_list_extend PySem.F.type_list_extend mt_extend (pv 2) (pa_cons (pe_lst (pa_cons (pe_callB (call_isD (X := X0) (a := a) PE.ex hz hf) (by rfl) T.isinstance (by decide +kernel) (pa_cons (pv 1) (pa_cons (pe_gc (v := .ref (cl 9)) (by rfl) ⟨_, g9, rfl⟩) pa_nil))) (pa_cons (pe_callB (call_isD (X := X0) (a := a) PE.ex hz hf) (by rfl) T.isinstance (by decide +kernel) (pa_cons (pv 1) (pa_cons (pe_gc (v := .ref (cl 10)) (by rfl) ⟨_, g10, rfl⟩) pa_nil))) (pa_cons (pe_callB (call_isD (X := X0) (a := a) PE.ex hz hf) (by rfl) T.isinstance (by decide +kernel) (pa_cons (pv 1) (pa_cons (pe_gc (v := .ref (cl 11)) (by rfl) ⟨_, g11, rfl⟩) pa_nil))) pa_nil)))) pa_nil)))
 (pss_cons (ps_if (PW.pt (pw_or (pt_cmpR op_ne (pe_bm PySem.F.plainAttrs_list PySem.F.slot_list_count PySem.F.type_list_count mt_cntV (pv 2) (pa_cons pe_bl pa_nil)) pe_int (nomark _)) (pw_or1 (pt_not (pt_val (pe_callB (call_isD (X := X0) (a := a) PE.ex hz hf) (by rfl) T.isinstance (by decide +kernel) (pa_cons (pv 1) (pa_cons (pe_bltn (v := .ty "ValueError") (by rfl) G.gV (by decide +kernel) rfl) pa_nil)))))))) (pss_one (ps_ret (pe_tup (pa_cons pe_str pa_nil)))) pss_nil)
 (pss_cons (ps_set (i := 3) scErr.nd rfl (Or.inl rfl) (pe_lst (pa_cons pe_str (pa_cons pe_str (pa_cons pe_str (pa_cons pe_str (pa_cons pe_str (pa_cons pe_str (pa_cons pe_str (pa_cons pe_str (pa_cons pe_str (pa_cons pe_str (pa_cons pe_str pa_nil)))))))))))))
 (pss_cons (ps_set (i := 4) scErr.nd rfl (Or.inl rfl) (pe_ix ix_list (pe_op op_cat (pv 3) (pe_lst (pa_cons pe_str pa_nil))) (pe_bm PySem.F.plainAttrs_list PySem.F.slot_list_index PySem.F.type_list_index mt_index (pv 2) (pa_cons pe_bl pa_nil)) (fun _ _ => rfl)))
 (pss_cons (ps_if (pt_cmpR op_eq (pv 4) pe_str (nomark _)) (pss_one (ps_ret (pe_tup (pa_cons (pv 4) (pa_cons pe_nv (pa_cons pe_nv pa_nil)))))) pss_nil)
 (pss_cons (ps_if (pt_cmpR op_eq (pv 4) pe_str (nomark _)) (pss_one (ps_ret (pe_tup (pa_cons (pv 4) (pa_cons pe_nv pa_nil))))) pss_nil)
 (pss_one (ps_ret (pe_ifExp (pt_cmpR op_eq (pv 4) pe_str (nomark _)) (pe_tup (pa_cons (pv 4) (pa_cons pe_nv pa_nil))) (pe_tup (pa_cons (pv 4) pa_nil)))))))))))))), fun D v0 v2 v3 v4 H1 hdd k => ?_⟩
  have e0 := PE.k0
  have e1 := PE.k1
  have e2 := PE.k2
  have e3 := PE.k3
  have e4 := PE.k4
  have e5 := PE.k5
  have e6 := PE.k6
  have e7 := PE.k7
  have e8 := PE.k8
  have e9 := PE.k9
  have e10 := PE.k10
  have e11 := PE.k11
  have ev := PE.ve
  walk_at "go3"
  refine ⟨_, _, _, 7, .bl true, rfl, rfl, (by walk_at "sql" : SqL _ _ _ _), rfl, rfl, rfl, rfl, (fun m z h e => by rcases (by omega : m = 0 ∨ m = 1 ∨ m = 2 ∨ m = 3 ∨ m = 4 ∨ m = 5 ∨ m = 6) with rfl | rfl | rfl | rfl | rfl | rfl | rfl <;> (cases e; rfl)), ?_⟩
  walk_at "go3"
  exact k _ _ (by walk_at "sm") (SqT.of' upd_same)
end
end T1

set_option Elab.async false
set_option linter.all false
set_option maxRecDepth 100000
set_option maxHeartbeats 4000000
/-! LV: lambdas as values: made, kept, called later. -/
namespace LamV
open PySem PySem.Spec PyProof.Rows L2 LamX
/-- the function at f -/
def FunO (f : Addr) (q : Str) (pr : Arguments) (bd : Expr) (sc : Scope) (cl : List (Str × Addr)) (dV : Value) (c' : Addr) : HO :=
  .ext fun h => ∃ doc pm ctv : Value, h.get? f = some (PySem.W.kdv_obj "<lambda>" q pr (.expr bd) sc cl dV doc pm c' ctv)
/-- a default, an int -/
def DefO (a : Addr) (i : Int) : HO := .ext fun h => ∃ t : Tok, h.get? a = some (PySem.W.kdv_tup [.int i t])
/-- no default, or one -/
abbrev Df := Option (Addr × Int)
def Df.v : Df → Value
  | none => .none
  | some d => .ref d.1
def Df.ok (H : Hp) : Df → Prop
  | none => True
  | some d => H d.1 = some (DefO d.1 d.2)
/-- what stands for a lambda that was made -/
structure Made (H : Hp) (f : Addr) (q : Str) (pr : Arguments) (bd : Expr) (sc : Scope) (cl : List (Str × Addr)) (d : Df) (c' : Addr) : Prop where
  fn : H f = some (FunO f q pr bd sc cl d.v c')
  co : H c' = some (CodeO c' q)
  df : d.ok H
theorem Made.ext {H H' : Hp} {f : Addr} {q : Str} {pr : Arguments} {bd : Expr} {sc : Scope} {cl : List (Str × Addr)} {d : Df} {c' : Addr} (m : Made H f q pr bd sc cl d c') (e : ∀ c φ, H c = some (.ext φ) → H' c = some (.ext φ)) : Made H' f q pr bd sc cl d c' := by
  refine ⟨e _ _ m.fn, e _ _ m.co, ?_⟩
  cases d with
  | none => exact trivial
  | some d => exact e _ _ m.df
section
variable {X : Cx} {pins : List (Addr × Obj)} {σ : L2.St} {H : Hp} {s : Shared}
theorem tabs_new {T : List (Addr × Str)} {a : Addr} {o : HO} (hT : Tabs T H) (ha : H a = none) : Tabs T (upd H a o) := hT.ext fun b u e => by rw [upd_ne (ne_of_none e ha)]; exact e
theorem extN_new {a : Addr} {o : HO} (ha : H a = none) : ExtN H (upd H a o) := fun b u e _ => by rw [upd_ne (ne_of_none e ha)]; exact e
theorem fun_new {h' : Heap} {t' : Nat} {q : Str} {pr : Arguments} {bd : Expr} {sc : Scope} {cl : List (Str × Addr)} {dV doc pm ctv : Value} {c' : Addr} (I : Inv X pins σ H { s with heap := h', toks := t' }) :
    Inv X pins σ (upd H h'.objs.size (FunO h'.objs.size q pr bd sc cl dV c')) { s with heap := h'.push (PySem.W.kdv_obj "<lambda>" q pr (.expr bd) sc cl dV doc pm c' ctv), toks := t' } :=
  I.laid (t' := t') (fun _ _ z => Heap.get?_push_of_some _ z) (Nat.le_refl _) ⟨⟨doc, pm, ctv, Heap.get?_push_size _ rfl⟩, ⟨_, Heap.get?_push_size _ rfl⟩, fun _ _ ⟨x, y, z, w⟩ st => ⟨x, y, z, st _ w⟩⟩
/-- the end of the making -/
theorem tail_make {T : List (Addr × Str)} {c P : Addr} {pr : Arguments} {bd : Expr} {sc : Scope} {pos : Pos} {d : Df} {E Q : Value → Shared → Prop} (I : Inv X pins σ H s) (TB : TabB X.base X.mg c P) (hcode : X.env.code = .ref c)
    (hm : (P, X.env.qual ++ "<lambda>") ∈ T) (hu : ∀ p ∈ T, p.1 = P → p.2 = X.env.qual ++ "<lambda>") (hT : Tabs T H) (hd : d.ok H) (hfree : ∀ y ∈ sc.names, y.2 = .free → ∃ c, X.env.cells.lookup y.1 = some c)
    (k : ∀ (f c' : Addr) (H1 : Hp) (s' : Shared), Inv X pins σ H1 s' → ExtN H H1 → Tabs T H1 → Made H1 f (X.env.qual ++ "<lambda>") pr bd sc (cloFrom X.env.cells sc.names []) d c' → Q (.ref f) s') :
    wpAny (model X.prog X.w) X.A (makeTail "<lambda>" (X.env.qual ++ "<lambda>") pr (.expr bd) sc X.env d.v .none none pos pos.line) Q E s := by
  obtain ⟨ps, tP, tk3, tall⟩ := id (hT _ hm)
  have oP : s.heap.get? P = some { cls := .none, data := .fields ps } := I.hok P _ tP
  have glo := I.mod.glob.keeps I.bk
  have cod := TB.code.keeps I.bk
  have bui := TB.bm.keeps I.bk
  cases hit : codeAmong pos ps.toList with
  | some cv =>
    obtain ⟨c1, rfl, hc1⟩ := tall pos cv hit
    refine PySem.W.kdv_makeTailHit (mg := X.mg) (closure_ok hfree) I.ok.glob glo hcode cod oP tk3 hit bui fun ctv doc h' tk keep _ => ?_
    have J : Inv X pins σ H { s with heap := h', toks := tk } := I.kept keep
    have fr : H h'.objs.size = none := J.hok.fresh (Nat.le_refl _)
    refine k _ c1 _ _ (fun_new J) (extN_new fr) (tabs_new hT fr) ⟨upd_same, by rw [upd_ne (ne_of_none hc1 fr)]; exact hc1, ?_⟩
    cases d with
    | none => exact trivial
    | some d => show upd _ _ _ _ = _; rw [upd_ne (ne_of_none hd fr)]; exact hd
  | none =>
    refine PySem.W.kdv_makeTail (mg := X.mg) (closure_ok hfree) I.ok.glob glo hcode cod oP tk3 hit TB.gP bui fun c1 ctv doc h' tk keep ge lt rec tb => ?_
    obtain ⟨c2, oc, vs, t, z, r1, r2, r3⟩ := rec
    cases z
    have fc : H c1 = none := I.hok.fresh ge
    have J := inv_table (t' := tk) (more := #[rawInt pos.line, rawInt pos.col, .ref c1]) (h' := h') I tP (fun b o hb e => keep b o hb e) tb ge ⟨oc, vs, t, r1, r2, r3⟩
    generalize hH2 : upd (upd H P (.tbl (ps ++ #[rawInt pos.line, rawInt pos.col, .ref c1]))) c1 (CodeO c1 (X.env.qual ++ "<lambda>")) = H2 at J
    have x2 : ExtN H H2 := fun b o e n => by
      rw [← hH2, upd_ne (ne_of_none e fc), upd_ne (fun z => n ps (Option.some.inj (e.symm.trans (by rw [z]; exact tP))))]
      exact e
    have fr : H2 h'.objs.size = none := J.hok.fresh (Nat.le_refl _)
    have pl : (ps ++ #[rawInt pos.line, rawInt pos.col, .ref c1]).toList = ps.toList ++ [rawInt pos.line, rawInt pos.col, .ref c1] := by simp
    have t2 : Tabs T H2 := fun p hp => by
      by_cases hb : p.1 = P
      · rw [hu p hp hb, hb]
        refine ⟨_, by rw [← hH2, upd_ne (ne_of_none tP fc), upd_same], by rw [pl]; exact PySem.TriplesOk_snoc _ _ _ _ tk3, fun p' w hw => ?_⟩
        rw [pl] at hw
        rcases among_app _ tk3 hw with z | z
        · obtain ⟨c0, z1, z2⟩ := tall p' w z
          exact ⟨c0, z1, x2 _ _ z2 codeO_ne⟩
        · exact ⟨c1, z, by rw [← hH2]; exact upd_same⟩
      · obtain ⟨qs, y1, y2, y3⟩ := hT p hp
        refine ⟨qs, by rw [← hH2, upd_ne (ne_of_none y1 fc), upd_ne hb]; exact y1, y2, fun p' w hw => ?_⟩
        obtain ⟨c0, z1, z2⟩ := y3 p' w hw
        exact ⟨c0, z1, x2 _ _ z2 codeO_ne⟩
    have c2 : H2 c1 = some (CodeO c1 (X.env.qual ++ "<lambda>")) := by rw [← hH2]; exact upd_same
    refine k _ c1 _ _ (fun_new J) (x2.trans (extN_new fr)) (tabs_new t2 fr) ⟨upd_same, by rw [upd_ne (ne_of_none c2 fr)]; exact c2, ?_⟩
    cases d with
    | none => exact trivial
    | some d =>
      have y := x2 _ _ hd (fun ps z => by unfold DefO at z; cases z)
      show upd _ _ _ _ = _
      rw [upd_ne (ne_of_none y fr)]
      exact y
/-- a lambda without a default, with one -/
def tLamV (T : List (Addr × Str)) (R : Hp → Addr → Addr → Df → Prop) (i : Option Int) : TE := fun σ H Q => Tabs T H ∧ ∀ f c' (d : Df) H1, (i = none ↔ d = none) → (∀ a j, d = some (a, j) → i = some j) → ExtN H H1 → Tabs T H1 → R H1 f c' d → Q (.ref f) H1
theorem pe_lamV {T : List (Addr × Str)} {c P : Addr} {pr : Arguments} {bd : Expr} {sc : Scope} {lpos : Pos} (TB : TabB X.base X.mg c P) (hcode : X.env.code = .ref c) (hm : (P, X.env.qual ++ "<lambda>") ∈ T) (hu : ∀ p ∈ T, p.1 = P → p.2 = X.env.qual ++ "<lambda>")
    (hfree : X.Ok → ∀ y ∈ sc.names, y.2 = .free → ∃ c, X.env.cells.lookup y.1 = some c) (hdef : defaultsOf pr X.env = ([], [])) :
    PE X (.Lambda pr bd sc lpos) (tLamV T (fun H1 f c' d => Made H1 f (X.env.qual ++ "<lambda>") pr bd sc (cloFrom X.env.cells sc.names []) d c') none) := ⟨fun pins s σ H Q I h => by
  obtain ⟨hT, h⟩ := h
  refine PySem.W.kla_eval hdef ?_
  rw [makeFunction_eq]
  simp only [List.zip_nil_right, List.filterMap_nil, List.isEmpty_nil, if_true, pure_bind]
  exact tail_make (d := none) I TB hcode hm hu hT trivial (hfree I.ok) fun f c' H1 s' J x t m => ⟨.ref f, H1, J, rfl, h f c' none H1 ⟨fun _ => rfl, fun _ => rfl⟩ (fun a j z => (by cases z)) x t m⟩⟩
theorem pe_lamD {T : List (Addr × Str)} {c P : Addr} {pr : Arguments} {bd : Expr} {sc : Scope} {lpos : Pos} {e : Expr} {i : Int} (TB : TabB X.base X.mg c P) (hcode : X.env.code = .ref c) (hm : (P, X.env.qual ++ "<lambda>") ∈ T) (hu : ∀ p ∈ T, p.1 = P → p.2 = X.env.qual ++ "<lambda>")
    (hfree : X.Ok → ∀ y ∈ sc.names, y.2 = .free → ∃ c, X.env.cells.lookup y.1 = some c) (hdf : pr.defaults = [e]) (hkd : pr.kw_defaults = []) (he : PE X e (tC (.int i))) :
    PE X (.Lambda pr bd sc lpos) (tLamV T (fun H1 f c' d => Made H1 f (X.env.qual ++ "<lambda>") pr bd sc (cloFrom X.env.cells sc.names []) d c') (some i)) := ⟨fun pins s σ H Q I h => by
  obtain ⟨hT, h⟩ := h
  refine PySem.W.kdv_lam (by rw [hdf]; rfl) hkd ?_
  rw [hdf]
  refine PySem.W.kdv_all1 (thn (he.run pins s σ H (fun v H1 => v = .int i ∧ H1 = H) I ⟨rfl, rfl⟩) fun u s1 ⟨v, H1, I1, r1, q1⟩ => PySem.W.kdv_all0 ?_)
  obtain ⟨ev, eH⟩ := q1
  subst ev eH
  obtain ⟨t, rfl⟩ := r1
  rw [makeFunction_eq]
  simp only [List.zip_nil_right, List.filterMap_nil, List.isEmpty_nil, List.isEmpty_cons, Bool.false_eq_true, if_false, if_true, pure_bind]
  refine wpAny_bind (wpAny_newTextTuple ?_)
  have fr : H1 s1.heap.objs.size = none := I1.hok.fresh (Nat.le_refl _)
  have J : Inv X pins σ (upd H1 s1.heap.objs.size (DefO s1.heap.objs.size i)) { s1 with heap := s1.heap.push (PySem.W.kdv_tup [.int i t]) } :=
    I1.laid (t' := s1.toks) (fun _ _ z => Heap.get?_push_of_some _ z) (Nat.le_refl _) ⟨⟨t, Heap.get?_push_size _ rfl⟩, ⟨_, Heap.get?_push_size _ rfl⟩, fun _ _ ⟨x, y⟩ st => ⟨x, st _ y⟩⟩
  exact tail_make (d := some (s1.heap.objs.size, i)) J TB hcode hm hu (tabs_new hT fr) upd_same (hfree I.ok) fun f c' H2 s' J2 x t2 m => ⟨.ref f, H2, J2, rfl, h f c' _ H2 ⟨fun z => (by cases z), fun z => (by cases z)⟩ (fun a j z => (by cases z; rfl)) ((extN_new fr).trans x) t2 m⟩⟩
end
end LamV

set_option Elab.async false
set_option linter.all false
set_option maxRecDepth 100000
set_option maxHeartbeats 4000000
/-! LW: a lambda that was kept, called by a def that got it; the def called from a comprehension of the lambda's maker. -/
namespace LamV
open PySem PySem.Spec PyProof.Rows L2 LamX
/-- its own names are no names of the maker, the others are captured or global -/
structure LamW (N : List Str) (sc scope : Scope) : Prop where
  kind : scope.kind = .function
  co : scope.isCoroutine = false
  gen : scope.isGenerator = false
  cells : ∀ y ∈ scope.names, y.2 ≠ .cell
  mine : ∀ y ∈ scope.names, y.2 = .local → y.1 ∉ N
  free : ∀ y ∈ scope.names, y.2 = .free → sc.names.lookup y.1 = some .cell ∨ sc.names.lookup y.1 = some .free
def lamWB (N : List Str) (sc scope : Scope) : Bool :=
  decide (scope.kind = .function) && (!scope.isCoroutine && (!scope.isGenerator && scope.names.all fun y => !decide (y.2 = .cell) && ((!decide (y.2 = .local) || decide (y.1 ∉ N)) && (!decide (y.2 = .free) || (decide (sc.names.lookup y.1 = some .cell) || decide (sc.names.lookup y.1 = some .free))))))
theorem lamW_by {N : List Str} {sc scope : Scope} (h : lamWB N sc scope = true) : LamW N sc scope := by
  unfold lamWB at h
  simp only [Bool.and_eq_true, Bool.or_eq_true, Bool.not_eq_true', decide_eq_true_eq, decide_eq_false_iff_not, List.all_eq_true] at h
  obtain ⟨a1, a2, a3, a4⟩ := h
  exact ⟨a1, a2, a3, fun y hy => (a4 y hy).1, fun y hy e => (a4 y hy).2.1.resolve_left (fun z => z e), fun y hy e => (a4 y hy).2.2.resolve_left (fun z => z e)⟩
theorem LamW.has {X : Cx} {scope : Scope} {N : List Str} (L : LamW N X.env.scope scope) (ok : X.Ok) : ∀ y ∈ scope.names, y.2 = .free → ∃ c, X.env.cells.lookup y.1 = some c := fun y hy e =>
  ok.has _ (L.free y hy e)
section
variable {X : Cx} {pins : List (Addr × Obj)} {σ : L2.St} {H HZ : Hp} {s s1 : Shared}
/-- what the lambda captured is the maker's -/
theorem clo_sub {scope : Scope} {N : List Str} (L : LamW N X.env.scope scope) (ok : X.Ok) {y : Str} {c : Addr} (e : (cloFrom X.env.cells scope.names []).lookup y = some c) : X.env.cells.lookup y = some c := by
  rcases cloFrom_mem (PySem.mem_of_lookup e) with z | ⟨z1, z2⟩
  · exact absurd z (by simp)
  · obtain ⟨d, hd⟩ := L.has ok (y, .free) z1 rfl
    have hd : X.env.cells.lookup y = some d := hd
    have w : c = d := by rw [z2, hd] <;> rfl
    rw [w]; exact hd
theorem clo_at {scope : Scope} {N : List Str} (L : LamW N X.env.scope scope) (ok : X.Ok) {y : Str} (e : scope.names.lookup y = some .free) : ∃ c, (cloFrom X.env.cells scope.names []).lookup y = some c :=
  mem_lookup (cloFrom_has (cells := X.env.cells) (acc := []) (show (y, NameKind.free) ∈ scope.names from PySem.mem_of_lookup e))
/-- the lambda's body begins -/
theorem begin_lam {A : Around} {outer : List Env} {E : XK} {scope : Scope} {f c' : Addr} {h1 : Heap} {tk : Nat} {ex : List Addr} {mb : Str → Option Value} (I : Inv X pins σ H s) (L : LamW X.N X.env.scope scope) (z0 : Env0 X.prog X.w X.K X.mg X.base A outer s1 HZ) (calm : A.handled = none)
    (un : Un (frs X.stack) ex H HZ s.heap s1.heap) (hex : ∀ y c, X.env.cells.lookup y = some c → c ∉ ex) (hns : h1.Ns s1.heap.objs.size mb) (kp : ∀ b o, s1.heap.get? b = some o → h1.get? b = some o) :
    Inv (lamCx X A outer s1 HZ E scope f c') [] σ HZ { s1 with heap := h1, toks := tk } := by
  have move : ∀ {y : Str} {c : Addr} {v : Option Value}, X.env.cells.lookup y = some c → s.heap.IsCell c v → h1.IsCell c v := fun {y c v} hy ⟨o, ho, hd⟩ => by
    obtain ⟨sl, w⟩ := un.any ho (I.freeC y c hy) (hex y c hy)
    exact ⟨_, kp _ _ w, hd⟩
  have none_ : ∀ b : Addr, b ∉ (lamCx X A outer s1 HZ E scope f c').ex := fun b z => by cases z
  have ok1 : (lamCx X A outer s1 HZ E scope f c').Ok :=
    { mod := z0.mod, kind := L.kind, glob := rfl, blt := rfl, above := Nat.le_refl _
      inj := fun x y c e1 e2 => I.ok.inj x y c (clo_sub L I.ok e1) (clo_sub L I.ok e2)
      has := fun y hy => by
        rcases (show scope.names.lookup y = some .cell ∨ scope.names.lookup y = some .free from hy) with z | z
        · exact absurd rfl (L.cells _ (PySem.mem_of_lookup z))
        · exact clo_at L I.ok z
      cab := fun y c z _ => (by cases (show false = true from z))
      hd := fun _ => calm
      frames := Around.frames_deeper z0.frames
      stk := .inr ⟨rfl, rfl⟩
      exf := fun b z => absurd z (none_ b)
      bs := z0.bs, bsz := z0.bsz
      noex := fun b _ _ => none_ b
      exfs := fun b z => absurd z (none_ b)
      funs := z0.funs, frf := z0.frf }
  refine { ok := ok1, os := rfl, bare := z0.bare, base := Un.kept kp, loc := ⟨mb, hns, fun i y v e1 e2 e3 => ?_⟩, cell := fun y c e => ?_, free := z0.hok.fresh (Nat.le_refl _), freeC := fun y c e => ?_,
           pin := fun q hq => (by cases (show q ∈ ([] : List (Addr × Obj)) from hq)), hok := z0.hok.kept kp, len := I.len }
  · have e1 : X.N[i]? = some y := e1
    rcases (show Vis scope y from e3) with k | k | k
    · exact absurd (List.mem_of_getElem? e1) (L.mine _ (PySem.mem_of_lookup k) rfl)
    · exact absurd rfl (L.cells _ (PySem.mem_of_lookup k))
    · obtain ⟨_, _, look⟩ := I.loc
      have kind := L.free _ (PySem.mem_of_lookup k) rfl
      obtain ⟨u, ru, w⟩ := look i y v e1 e2 (.inr kind)
      obtain ⟨c, hc⟩ := clo_at L I.ok k
      refine ⟨u, ru, .inr ⟨.inr k, c, hc, ?_⟩⟩
      have hX := clo_sub L I.ok hc
      rcases w with ⟨w1, _⟩ | ⟨_, c2, w2, w3⟩
      · have w1 : X.env.scope.names.lookup y = some .local := w1
        rcases kind with z | z
        · have z : X.env.scope.names.lookup y = some .cell := z
          rw [z] at w1; cases w1
        · have z : X.env.scope.names.lookup y = some .free := z
          rw [z] at w1; cases w1
      · rw [hX] at w2
        cases w2
        exact move hX w3
  · have hX := clo_sub L I.ok e
    obtain ⟨v, hv⟩ := I.cell y c hX
    exact ⟨v, move hX hv⟩
  · have hX := clo_sub L I.ok e
    obtain ⟨v, o, ho, _⟩ := I.cell y c hX
    exact un.free c o ho (I.freeC y c hX) (hex y c hX)
/-- how the lambda takes no argument -/
def Bnd (q : Str) (pr : Arguments) (bd : Expr) (scope : Scope) (i : Option Int) : Prop := ∀ (d : Df) (s1 : Shared) (P : Program) (w : World) (HZ : Hp), (i = none ↔ d = none) → (∀ a j, d = some (a, j) → i = some j) → HOk P w HZ s1.heap → d.ok HZ → ∀ (cl : List (Str × Addr)) (doc pm cv ctv : Value),
  ∃ binds, BindsTo s1 (PySem.W.kdv_fn "<lambda>" q pr (.expr bd) scope cl d.v doc pm cv ctv) ⟨[], []⟩ binds ∧ ∀ y ∈ binds, scope.names.lookup y.1 = some .local
theorem bnd_none {q : Str} {pr : Arguments} {bd : Expr} {scope : Scope} (h : ∀ (cl : List (Str × Addr)) (doc pm cv ctv : Value), bindArgs (PySem.W.kdv_fn "<lambda>" q pr (.expr bd) scope cl .none doc pm cv ctv) ⟨[], []⟩ = pure []) : Bnd q pr bd scope none := fun d s1 P w HZ hd _ _ _ cl doc pm cv ctv => by
  have e := hd.mp rfl
  subst e
  exact ⟨[], BindsTo.of_eq (h cl doc pm cv ctv), fun y hy => by cases hy⟩
theorem bnd_some {q y : Str} {pr : Arguments} {bd : Expr} {scope : Scope} {i : Int} {k : List (Str × Addr) → Addr → Value → Value → Value → Value → Option (Array Value) → Sem (List (Str × Value))} (hy : scope.names.lookup y = some .local)
    (h : ∀ (cl : List (Str × Addr)) (T : Addr) (doc pm cv ctv : Value), bindArgs (PySem.W.kdv_fn "<lambda>" q pr (.expr bd) scope cl (.ref T) doc pm cv ctv) ⟨[], []⟩ = seqItems? (.ref T) >>= k cl T doc pm cv ctv) (h2 : ∀ (cl : List (Str × Addr)) (T : Addr) (doc pm cv ctv : Value) (t : Tok), k cl T doc pm cv ctv (some #[.int i t]) = pure [(y, .int i t)]) : Bnd q pr bd scope (some i) := fun d s1 P w HZ hd hj hok dok cl doc pm cv ctv => by
  cases d with
  | none => exact absurd (hd.mpr rfl) (by simp)
  | some d =>
    have e := hj d.1 d.2 rfl
    cases e
    obtain ⟨⟨t, ht⟩, _⟩ := hok _ _ dok
    refine ⟨[(y, .int d.2 t)], BindsTo.of_defaults rfl ht rfl (h cl d.1 doc pm cv ctv) (h2 cl d.1 doc pm cv ctv t), fun z hz => ?_⟩
    rw [List.mem_singleton.mp hz]
    exact hy
/-- x() in a def that got the lambda -/
theorem pe_actV {CXg : CXT} {Eg : XK} {Ng : List Str} {qg : Str} {sg : Scope} {g f c' : Addr} {cdg : Value} {pr : Arguments} {bd : Expr} {scope : Scope} {k i : Nat} {a : Str} {pn : List (Addr × Obj)} {xe : Value → Shared → Prop} {W : WX} {E : XK} {tb : TE} {p1 p2 : Pos} {sz : Shared} {Hz : Hp} {ex : List Addr} {dv : Option Int} {d : Df}
    (I : Inv X pins σ H s) (L : LamW X.N X.env.scope scope) (un0 : Un (frs X.stack) ex H Hz s.heap sz.heap) (hex : ∀ y c, X.env.cells.lookup y = some c → c ∉ ex) (bn : Bnd (X.env.qual ++ "<lambda>") pr bd scope dv) (hd1 : dv = none ↔ d = none) (hd2 : ∀ a j, d = some (a, j) → dv = some j)
    (tk : Takes ((cxOf CXg X.prog X.w X.K X.mg X.base Ng qg sg g cdg X.A X.stack sz Hz Eg).tr pn xe) W) (hW : ∀ cls d σ' H', E cls d H' → W cls d σ' H') (hr : Room (k + 1) (X.A.deeper (envOfC qg sg sz.heap.objs.size g cdg)))
    (hbody : ∀ (A : Around) (outer : List Env) (s : Shared) (H : Hp), Room k (A.deeper (lamEnv X scope s.heap.objs.size f c')) → PE (lamCx X A outer s H E scope f c') bd tb)
    (hN : Ng[i]? = some a) (hv : Vis sg a) (hdb : (a == ("__debug__" : Str)) = false) (hcd : (a == ("__classdict__" : Str)) = false) :
    PE ((cxOf CXg X.prog X.w X.K X.mg X.base Ng qg sg g cdg X.A X.stack sz Hz Eg).tr pn xe) (.Call (.Name a p1) [] [] p2)
      (fun τ HZ Q => τ[i]? = some (some (.ref f)) ∧ Made HZ f (X.env.qual ++ "<lambda>") pr bd scope (cloFrom X.env.cells scope.names []) d c' ∧ tb σ HZ Q) := ⟨fun pz s2 τ HZ Q IZ h => by
  obtain ⟨here, made, h⟩ := h
  refine wpAny_Call_Name_kw (thn ((pe_var (pos := p1) (i := i) hN hv hdb hcd).run pz s2 τ HZ (fun v H1 => v = .ref f ∧ H1 = HZ) IZ ⟨_, here, rfl, rfl⟩) fun u s1 ⟨v, H1, I1, ru, ev, eH⟩ => ?_)
  subst ev
  rw [eH] at I1
  obtain rfl : u = Value.ref f := ru
  obtain ⟨⟨doc, pm, ctv, fo⟩, _, _⟩ := I1.hok f _ made.fn
  obtain ⟨⟨oc, vs, t, w1, w2, w3⟩, _, _⟩ := I1.hok c' _ made.co
  obtain ⟨binds, hbt, hloc⟩ := bn d s1 X.prog X.w HZ hd1 hd2 I1.hok made.df (cloFrom X.env.cells scope.names []) doc pm (.ref c') ctv
  have un1 : Un (frs X.stack) [] Hz HZ sz.heap s1.heap := I1.base
  have un : Un (frs X.stack) ex H HZ s.heap s1.heap := un0.trans (un1.mono (fun _ z => z) fun b z => by cases z)
  refine PySem.W.callWith_F0 ⟨_, _, _, _, fo⟩ ?_
  have run : codeAny (model X.prog X.w) (X.A.deeper (envOfC qg sg sz.heap.objs.size g cdg)) (.call (.ref f) ⟨[], []⟩) (CR (L2.CX X.prog X.w) (envOfC qg sg sz.heap.objs.size g cdg :: X.stack) X.prog X.w HZ s1 Q E) s1 := by
    refine PySem.W.kla_callFunE hr.depth fo rfl L.co L.gen rfl ⟨c', oc, vs, t, rfl, w1, w2, w3⟩ (hbt _ _ _ _ ?_)
    refine wpAny_newFunctionEnv L.cells hloc (fun h1 hns hsb => ⟨I1.nolimit.fresh _ hsb, ?_⟩) L.kind
    show codeAny _ _ (.expr bd (lamEnv X scope s1.heap.objs.size f c')) _ _
    have J : Inv (lamCx X (X.A.deeper (envOfC qg sg sz.heap.objs.size g cdg)) (envOfC qg sg sz.heap.objs.size g cdg :: X.stack) s1 HZ E scope f c') [] σ HZ { s1 with heap := h1, toks := s1.toks + binds.length } :=
      begin_lam I L I1.env0 hr.hd un hex hns fun b o e => hsb.extBut b o (Nat.ne_of_lt (Heap.lt_size e)) (Heap.get?_push_of_some _ e)
    exact PySem.W.kla_codeExpr (wpAny_mono ((hbody _ _ s1 HZ (hr.deeper _)).run [] _ _ HZ Q J h) (fun v s' ⟨x, H', J', rv, q⟩ => ⟨x, H', J'.os, J'.bare, J'.base, J'.hok, rv, q⟩) fun e s' hq => hq)
  have px : Passes (L2.CX X.prog X.w) ((cxOf CXg X.prog X.w X.K X.mg X.base Ng qg sg g cdg X.A X.stack sz Hz Eg).tr pn xe) E := passes_call tk hW
  refine wpAny_call (codeAny_mono run fun r s' hq => ?_)
  match r, hq with
  | .error e, hq => exact px pz τ HZ s1 e s' I1 hq
  | .ok (.ret u), hq => exact I1.after hq
  | .ok .next, hq => exact False.elim hq
  | .ok .brk, hq => exact False.elim hq
  | .ok .cont, hq => exact False.elim hq⟩
end
end LamV

set_option Elab.async false
set_option linter.all false
set_option maxRecDepth 100000
set_option maxHeartbeats 4000000
/-! LX: a comprehension whose element may look back at the def's own state. -/
namespace LamV
open PySem PySem.Spec PyProof.Rows L2
section
variable {X : Cx}
/-- as tLc, the element's reading told of the slots that the def had -/
def tLcK (wi : TI) (g : TG) (te : L2.St → TE) (vs : List Nat) : TE := fun σ H Q => tLc wi g (fun _ H' Q' => Q' true H') (te σ) vs σ H Q
theorem pe_lcK {elt tg iter : Expr} {scope : Scope} {own : List (Str × Nat)} {pos : Pos} {wi : TI} {g : TG} {te : L2.St → TE} (calm : X.calm = true) (nd : X.N.Nodup) (hi : PI X tg iter wi) (bk : BlkOk X.N X.env.scope scope own)
    (hg : ∀ (s : Shared) (H : Hp) (C : Addr) (cl : List (Str × Addr)) (fp : List Addr), PG (X.blk s H scope (compEnvC scope cl C X.env) fp) tg g)
    (he : ∀ (pins : List (Addr × Obj)) (s : Shared) (σ : L2.St) (H : Hp) (C : Addr) (cl : List (Str × Addr)) (fp : List Addr), Inv X pins σ H s → (∀ y c, X.env.cells.lookup y = some c → c ∉ fp) → PE (X.blk s H scope (compEnvC scope cl C X.env) fp) elt (te σ))
    (hs : ∀ x, foldedSetIterable iter X.env x = pure x := by intro _; rfl) : PE X (.ListComp elt [⟨tg, iter, [], 0⟩] scope pos) (tLcK wi g te (own.map (·.2))) := by
  refine ⟨fun pins s σ H Q I rd => ?_⟩
  have caps : ∀ y ∈ scope.names, y.2 = .free → ∃ c, X.env.cells.lookup y.1 = some c := fun y hy e => I.ok.has _ (bk.free y hy e)
  rw [eval_ListComp]
  refine wpAny_comprehension_free rfl hs (closure_ok caps) bk.kind (fun y hy e => (bk.uniq y hy).trans (congrArg some e)) ?_
  refine thn (hi.run pins s σ H _ I rd) fun _ _ next => thn next fun _ s2 ⟨it, fp, tn, J, H2, z, I2, T, at0, ff, cont⟩ => ?_
  subst z
  refine wpAny_newObj_type (newEnv_comp ?_) (Nat.zero_le _)
  -- the list D is laid: s3, H3
  have nD : H2 s2.heap.objs.size = none := I2.hok.fresh (Nat.le_refl _)
  have J3 : Inv X pins σ (upd H2 s2.heap.objs.size (.lst [])) { s2 with heap := s2.heap.push { cls := .type "list", data := .seq ([] : List Value).toArray } } :=
    I2.laid (t' := s2.toks) (fun _ _ w => Heap.get?_push_of_some _ w) (Nat.le_refl _) ⟨Nat.zero_le _, [], 0, .nil, Heap.get?_push_size _ rfl⟩
  have old : ∀ b ∈ fp, b < s2.heap.objs.size := fun b hb => (T.obj _ _ at0 b hb).elim fun _ w => Heap.lt_size w.1
  obtain ⟨W, ⟨m0, w0⟩, loop⟩ := cont _ nD
  have F3 : ∀ b ∈ fp, FpOk X pins (upd H2 s2.heap.objs.size (.lst [])) b ∧ b < (s2.heap.push { cls := .type "list", data := .seq ([] : List Value).toArray }).objs.size := fun b hb =>
    ⟨⟨(upd_ne (Nat.ne_of_lt (old b hb))).trans (ff b hb).1, (ff b hb).2⟩, by rw [Heap.size_push]; exact Nat.lt_succ_of_lt (old b hb)⟩
  have at3 : tn 0 (s2.heap.push { cls := .type "list", data := .seq ([] : List Value).toArray }) := T.keep _ _ _ at0 fun b _ o w => Heap.get?_push_of_some _ w
  generalize s2.heap.objs.size = D at nD J3 w0 loop F3 ⊢
  generalize upd H2 D (.lst []) = H3 at J3 w0 F3
  generalize hS : ({ s2 with heap := s2.heap.push { cls := .type "list", data := .seq ([] : List Value).toArray } } : Shared) = s3 at J3 ⊢
  have hS3 : s3.heap = s2.heap.push { cls := .type "list", data := .seq ([] : List Value).toArray } := by rw [← hS]
  rw [← hS3] at F3 at3
  -- the block begins: s4
  have J4 := block_start J3 bk nd F3
  have PGs := hg s3 H3 s3.heap.objs.size (cellsFrom (s3.heap.objs.size + 1) scope.names (cloFrom X.env.cells scope.names [])) fp
  have PEs := he pins s3 σ H3 s3.heap.objs.size (cellsFrom (s3.heap.objs.size + 1) scope.names (cloFrom X.env.cells scope.names [])) fp J3 fun y c hy hc => (F3 c hc).1.2.2.2.2.1 y c hy rfl
  have free3 : ∀ b ∈ fp, H3 b = none := fun b hb => (F3 b hb).1.1
  refine (?_ : codeAny (model X.prog X.w) X.A (.compStart (.ListComp elt [⟨tg, iter, [], 0⟩] scope pos) 0 (.ref it) (.ref D) (compEnvC scope (cellsFrom (s3.heap.objs.size + 1) scope.names (cloFrom X.env.cells scope.names [])) s3.heap.objs.size X.env)) _ { s3 with heap := pushCells (s3.heap.push { cls := .type "dict", data := .dict #[] }) scope.names })
  generalize hce : compEnvC scope (cellsFrom (s3.heap.objs.size + 1) scope.names (cloFrom X.env.cells scope.names [])) s3.heap.objs.size X.env = ce at J4 PGs PEs ⊢
  have L0 : ce.locals = s3.heap.objs.size := by rw [← hce]; rfl
  generalize hS4 : ({ s3 with heap := pushCells (s3.heap.push { cls := .type "dict", data := .dict #[] }) scope.names } : Shared) = s4 at J4 ⊢
  have at4 : tn 0 s4.heap := T.keep _ _ _ at3 fun b _ o w => by rw [← hS4]; exact pushCells_keeps _ _ _ _ (Heap.get?_push_of_some _ w)
  have own_ : ∀ {τ : L2.St} {G : Hp} {t : Shared}, Inv (X.blk s3 H3 scope ce fp) [] τ G t → (∀ b ∈ fp, G b = none) → ∀ b ∈ fp, FpOk (X.blk s3 H3 scope ce fp) [] G b := fun {τ G t} K hn b hb =>
    ⟨hn b hb, (K.ok.exf b hb).1, K.ok.exfs b hb, .inl hb, (K.ok.exf b hb).2, fun p hp => (by cases (show p ∈ ([] : List (Addr × Obj)) from hp))⟩
  refine (fun body => codeAny_compStart_list body (T.self X.A 0 _ _ _ at4 body)) ?_
  refine compLoop_any (fun n t => ∃ i G, Inv (X.blk s3 H3 scope ce fp) [] (wipe σ (own.map (·.2))) G t ∧ (tn i t.heap ∧ (∀ b ∈ fp, G b = none)) ∧ W i n G) ?_ m0 ⟨0, H3, J4, ⟨at4, free3⟩, w0⟩
  rintro n s5 ⟨i, H5, J5, ⟨at5, free5⟩, w5⟩
  rcases loop i n H5 w5 with ⟨stop, fin⟩ | ⟨go, Nx, less, step⟩
  · refine thnF (T.done (Cx.blk X s3 H3 scope ce fp) rfl rfl rfl calm i [] s5 _ H5 (fun _ _ => False) J5 (own_ J5 free5) at5 stop) fun r s6 ⟨hr, J6⟩ => ?_
    subst hr
    have nC : H5 s3.heap.objs.size = none := by rw [← L0]; exact J6.free
    obtain ⟨g0, g1, _, g3, g4, g5⟩ := J3.fpOk (Nat.le_refl _) nC
    have back : Inv X pins σ H5 s6 := by
      refine J3.call' (ch := fp) J6.os J6.base J6.hok J6.bare fun b hb => ?_
      obtain ⟨_, z1, _, z3, z4, z5⟩ := (F3 b hb).1
      exact ⟨z3, z1, z4, z5⟩
    obtain ⟨m, hn, _⟩ := J6.loc
    exact ⟨m, by rw [← L0]; exact hn, fun h6 sb => ⟨.ref D, H5, back.turned (t' := s6.toks) (fun b o hb e => (sb.2 b hb).trans e) g0 g1 g3 g4 g5, rfl, fin⟩⟩
  · refine thnF (T.item (Cx.blk X s3 H3 scope ce fp) rfl rfl rfl calm i [] s5 _ H5 (fun _ _ => False) J5 (own_ J5 free5) at5 go) fun r s6 ⟨u, hr, turn⟩ => ?_
    subst hr
    refine thnF turn fun _ s7 ⟨x, H7, J7, rx, yl, at7, free7⟩ => ?_
    refine thnF (PGs.run _ s7 _ H7 x u _ (J7.pinned (own_ J7 free7) (T.obj _ _ at7)) rx (step x H7 yl)) fun _ s8 ⟨σ8, H8, J8, w8, q8⟩ => ?_
    refine wpAny_pure ?_
    have q8 := q8
    simp only [if_true] at q8 ⊢
    refine thnF (PEs.run _ s8 σ8 H8 _ J8 q8) fun z s9 ⟨yv, H9, J9, ry, acc, hD, hz, nx⟩ => ?_
    refine app_ok (X := X.blk s3 H3 scope ce fp) J9 hD hz ry fun s10 J10 => ?_
    obtain ⟨m', hm, w'⟩ := less _ nx
    have stay : ∀ b ∈ fp, ∀ o, s7.heap.get? b = some o → s10.heap.get? b = some o ∧ upd H9 D (.lst (acc ++ [yv])) b = none := fun b hb o e => by
      have z := J10.pin (b, o) (List.mem_append_right _ (List.mem_append_right _ (mem_pinsAt hb e)))
      exact ⟨z.1, z.2.1⟩
    refine ⟨m', hm, i + 1, _, (J10.unpinned (pins := [])).weak (by rw [← w8, wipe_length]) (fun j v e => ?_), ⟨T.keep _ _ _ at7 fun b hb o e => (stay b hb o e).1, fun b hb => ?_⟩, w'⟩
    · rw [← w8] at e
      exact (wipe_some e).1
    · obtain ⟨o, e, _⟩ := T.obj _ _ at7 b hb
      exact (stay b hb o e).2
end
end LamV

set_option Elab.async false
set_option linter.all false
set_option maxRecDepth 100000
set_option maxHeartbeats 4000000
/-! LY: f(x) in a comprehension, x one of the lambdas that the def made, f a def that calls what it gets. -/
namespace LamV
open PySem PySem.Spec PyProof.Rows L2 LamX
/-- the def that calls what it got: TT is what it makes of the reading; R what must stand for the call -/
def GivesR (X : Cx) (Ng : List Str) (x : Str) (sg : Scope) (g : Addr) (cdg : Value) (bg : List Stmt) (a : Str) (TT : (XK → Hp → VK → Prop) → Hp → VK → Prop) : Prop :=
  ∀ (f : Addr) (R : Hp → Prop) (s : Shared) (H : Hp) (Q : VK) (tl : XK → Hp → VK → Prop),
    (∀ (W : WX) (pn : List (Addr × Obj)) (xe : Value → Shared → Prop) (E : XK) (p1 p2 : Pos), Takes ((cxOf C8.CX0 X.prog X.w X.K X.mg X.base Ng x sg g cdg X.A X.stack s H C8.E0).tr pn xe) W → (∀ cls d τ G, E cls d G → W cls d τ G) →
      PE ((cxOf C8.CX0 X.prog X.w X.K X.mg X.base Ng x sg g cdg X.A X.stack s H C8.E0).tr pn xe) (.Call (.Name a p1) [] [] p2) fun τ G Q' => τ[0]? = some (some (.ref f)) ∧ R G ∧ tl E G Q') →
    R H → TT tl H Q → ∃ t, PSs (cxOf C8.CX0 X.prog X.w X.K X.mg X.base Ng x sg g cdg X.A X.stack s H C8.E0).nox bg t ∧ t { nx := fun _ G => Q .non G, rt := Q } (L2.start Ng [.ref f]) H
/-- the lambdas of a def, by number -/
structure Fam where
  pr : Nat → Arguments
  bd : Nat → Expr
  sc : Nat → Scope
  dv : Nat → Option Int
def Fam.at (F : Fam) (q : Str) (cells : List (Str × Addr)) (j : Nat) (f c' : Addr) (d : Df) (H : Hp) : Prop := (F.dv j = none ↔ d = none) ∧ (∀ a i, d = some (a, i) → F.dv j = some i) ∧ Made H f q (F.pr j) (F.bd j) (F.sc j) (cloFrom cells (F.sc j).names []) d c'
theorem Fam.at.ext {F : Fam} {q : Str} {cells : List (Str × Addr)} {j : Nat} {f c' : Addr} {d : Df} {H H' : Hp} (m : F.at q cells j f c' d H) (e : ∀ c φ, H c = some (.ext φ) → H' c = some (.ext φ)) : F.at q cells j f c' d H' := ⟨m.1, m.2.1, m.2.2.ext e⟩
def tFam (F : Fam) (n : Nat) (q : Str) (cells : List (Str × Addr)) (i : Nat) (TT : (XK → Hp → VK → Prop) → Hp → VK → Prop) (t : Nat → XK → TE) (σ : L2.St) : TE := fun τ G Q => ∃ (j : Nat) (f c' : Addr) (d : Df), j < n ∧ τ[i]? = some (some (.ref f)) ∧ F.at q cells j f c' d G ∧ TT (fun E G' Q' => t j E σ G' Q') G Q
theorem pe_famcall {X : Cx} {F : Fam} {n : Nat} {TT : (XK → Hp → VK → Prop) → Hp → VK → Prop} {t : Nat → XK → TE} {x a v : Str} {g C : Addr} {k i : Nat} {pg : Arguments} {bg : List Stmt} {sg : Scope} {dV kV doc pm cdv ct oc : Value} {an od : Option Addr} {osl : Array (Option Value)} {Ng : List Str}
    {pins : List (Addr × Obj)} {s3 : Shared} {σ : L2.St} {H3 : Hp} {bsc : Scope} {cl : List (Str × Addr)} {fp : List Addr} {p vp pos : Pos} (J : Inv X pins σ H3 s3) (hex : ∀ y c, X.env.cells.lookup y = some c → c ∉ fp)
    (L : ∀ j, j < n → LamW X.N X.env.scope (F.sc j)) (bn : ∀ j, j < n → Bnd (X.env.qual ++ "<lambda>") (F.pr j) (F.bd j) (F.sc j) (F.dv j))
    (hgl : Gl (X.blk s3 H3 bsc (compEnvC bsc cl C X.env) fp) x) (hm : X.mg x = some (.ref g)) (hkp : PySem.W.keepIn X.K (.ref g) = true)
    (lk : X.K.lookup g = some ⟨oc, od, .func (PySem.W.fnOf x x pg bg sg dV kV doc pm an cdv ct), osl⟩) (hcg : PySem.W.codeIn X.K cdv x = true) (hb : L2.Binds X.K (PySem.W.fnOf x x pg bg sg dV kV doc pm an cdv ct) [a] []) (Sg : FnScope Ng [a] sg) (hNg : Ng[0]? = some a) (hva : Vis sg a)
    (hG : GivesR X Ng x sg g cdv bg a TT) (hr : Room (k + 2) X.A)
    (hbody : ∀ j, j < n → ∀ (A : Around) (outer : List Env) (s : Shared) (H : Hp) (E : XK) (f c' : Addr), Room k (A.deeper (lamEnv X (F.sc j) s.heap.objs.size f c')) → PE (lamCx X A outer s H E (F.sc j) f c') (F.bd j) (t j E))
    (hN : X.N[i]? = some v) (hv : Vis (compEnvC bsc cl C X.env).scope v) (hvd : (v == ("__debug__" : Str)) = false) (hvc : (v == ("__classdict__" : Str)) = false) (hdb : (x == ("__debug__" : Str)) = false) (hd : (a == ("__debug__" : Str)) = false) (hcd : (a == ("__classdict__" : Str)) = false) :
    PE (X.blk s3 H3 bsc (compEnvC bsc cl C X.env) fp) (.Call (.Name x p) [.Name v vp] [] pos) (tFam F n (X.env.qual ++ "<lambda>") X.env.cells i TT t σ) := ⟨fun pz s τ H Q I h => by
  obtain ⟨j, f, c', d, hj, here, made, tt⟩ := h
  refine wpAny_Call_Name_kw (ld_glob I hgl hm ?_ hdb)
  refine PySem.W.callWith_K (h₀ := X.base) I.ok.mod.kin hkp ?_ (by rfl) (by rfl)
  refine (?_ : wpAny _ _ (spliced ((false, eval (.Name v vp) (compEnvC bsc cl C X.env)) :: backTo pos (starEach [] (compEnvC bsc cl C X.env)))) _ _ s)
  refine Calls.spliced_cons (thn ((pe_var (X := X.blk s3 H3 bsc (compEnvC bsc cl C X.env) fp) (pos := vp) (i := i) hN hv hvd hvc).run pz s τ H (fun w H1 => w = .ref f ∧ H1 = H) I ⟨_, here, rfl, rfl⟩) fun u s1 ⟨w, H1, I1, ru, ew, eH⟩ => ?_)
  subst ew
  rw [eH] at I1
  obtain rfl : u = Value.ref f := ru
  refine Calls.spliced_nil ⟨I1.kIn, ?_⟩
  have far : Un (frs X.stack) fp H3 H s3.heap s1.heap := I1.base
  have go : codeAny (model X.prog X.w) X.A (.call (.ref g) ⟨[.ref f], []⟩) (CR C8.CX0 X.stack X.prog X.w H s1 Q C8.E0) s1 := by
    refine run_ofS (N := Ng) (ps := [a]) (us := [.ref f]) (vs := [.ref f]) lk hcg Sg hr I1.env0 (hb s1 [.ref f] I1.kIn rfl) (.cons rfl .nil) rfl fun room => ?_
    obtain ⟨t2, run, read⟩ := hG f (fun G => Made G f (X.env.qual ++ "<lambda>") (F.pr j) (F.bd j) (F.sc j) (cloFrom X.env.cells (F.sc j).names []) d c') s1 H Q (fun E G Q' => t j E σ G Q')
      (fun W pn xe E p1 p2 tk hW => pe_actV (i := 0) J (L j hj) far hex (bn j hj) made.1 made.2.1 tk hW room (fun A outer s H hr2 => hbody j hj A outer s H E f c' hr2) hNg hva hd hcd) made.2.2 tt
    exact ⟨t2, run.nox, read⟩
  refine wpAny_call (codeAny_mono go fun r s2 hq => ?_)
  match r, hq with
  | .error e, hq => exact (show False from hq).elim
  | .ok (.ret u), hq => exact I1.after hq
  | .ok .next, hq => exact False.elim hq
  | .ok .brk, hq => exact False.elim hq
  | .ok .cont, hq => exact False.elim hq⟩
end LamV

set_option Elab.async false
set_option linter.all false
set_option maxRecDepth 100000
set_option maxHeartbeats 4000000
/-! LZ: lambdas kept in a list and handed to a catcher, one by one: each lets its own error out. -/
namespace LamV
open PySem PySem.Spec PyProof.Rows L2 LamX
/-- new since H: nothing stood there, or a table that the lambdas don't use -/
def New (T : List (Addr × Str)) (H : Hp) (a : Addr) : Prop := (∀ o, H a = some o → ∃ ps, o = .tbl ps) ∧ ∀ q, (a, q) ∉ T
theorem new_of {T : List (Addr × Str)} {H G : Hp} {a : Addr} (x : ExtN H G) (t : Tabs T G) (n : G a = none) : New T H a :=
  ⟨fun o h => Classical.byContradiction fun z => (by rw [x a o h (fun ps w => z ⟨ps, w⟩)] at n; cases n), fun q m => (by obtain ⟨ps, h, _⟩ := t _ m; rw [show G (a, q).1 = none from n] at h; cases h)⟩
theorem tabs_upd {T : List (Addr × Str)} {G : Hp} {p : Addr} {o u : HO} (t : Tabs T G) (hp : G p = some u) (n1 : ∀ ps, u ≠ .tbl ps) (n2 : ∀ φ, u ≠ .ext φ) : Tabs T (upd G p o) := fun x hx => by
  obtain ⟨ps, h1, h2, h3⟩ := t x hx
  have ne : ∀ {b v}, G b = some v → (∀ z, v = z → u ≠ z) → b ≠ p := fun {b v} hb hv z => by rw [z, hp] at hb; exact hv v rfl (Option.some.inj hb)
  refine ⟨ps, by rw [upd_ne (ne h1 fun z e => e ▸ n1 ps)]; exact h1, h2, fun pos cv hc => ?_⟩
  obtain ⟨c, e1, e2⟩ := h3 pos cv hc
  exact ⟨c, e1, by rw [upd_ne (ne e2 fun z e => e ▸ n2 _)]; exact e2⟩
theorem extN_upd {T : List (Addr × Str)} {H G : Hp} {p : Addr} {o : HO} (x : ExtN H G) (n : New T H p) : ExtN H (upd G p o) := fun b v hb nt => by
  rw [upd_ne (fun z => by obtain ⟨ps, w⟩ := n.1 v (z ▸ hb); exact nt ps w)]
  exact x b v hb nt
theorem Made.upd {H : Hp} {f : Addr} {q : Str} {pr : Arguments} {bd : Expr} {sc : Scope} {cl : List (Str × Addr)} {d : Df} {c' p : Addr} {o : HO} (m : Made H f q pr bd sc cl d c') (hp : H p = none ∨ ∃ u, H p = some u ∧ ∀ φ, u ≠ .ext φ) : Made (upd H p o) f q pr bd sc cl d c' :=
  m.ext fun c φ h => by
    rw [upd_ne (fun z => ?_)]
    · exact h
    · rcases hp with e | ⟨u, e, n⟩
      · rw [z, e] at h; cases h
      · rw [z, e] at h; exact n φ (Option.some.inj h)
theorem Made.extN {H H' : Hp} {f : Addr} {q : Str} {pr : Arguments} {bd : Expr} {sc : Scope} {cl : List (Str × Addr)} {d : Df} {c' : Addr} (m : Made H f q pr bd sc cl d c') (x : ExtN H H') : Made H' f q pr bd sc cl d c' := m.ext fun c φ h => x _ _ h fun ps z => nomatch z
/-- call upon call: D is the list that the comprehension makes; what was new at its start stays -/
def chain (t : Nat → XK → TE) (Dc : Nat → Addr) (K : PySem.W.Frag) (T : List (Addr × Str)) (H H1 : Hp) (D : Addr) (σ : L2.St) (fin : Hp → Prop) : List Nat → Hp → Prop
  | [], G => fin G
  | j :: ks, G => ∀ G0 : Hp, (∀ b o, b ≠ D → G b = some o → G0 b = some o) → (∃ acc, G0 D = some (.lst acc)) →
    ∀ (E : XK) (Q : VK), (∀ cls d G', cls = .ref (Dc j) → (d = none ∨ ∃ dd, d = some dd ∧ G' dd = some (.xd [])) → (∀ a xs, SqT K G0 a xs → SqT K G' a xs) → (∀ c φ, G0 c = some (.ext φ) → G' c = some (.ext φ)) → (∀ a o, New T H a → H1 a = some o → (∀ ps, o ≠ .tbl ps) → a ≠ D → G0 a = some o → G' a = some o) →
      (∀ acc, G0 D = some (.lst acc) → G' D = some (.lst acc)) → chain t Dc K T H H1 D σ fin ks G' → E cls d G') → t j E σ G0 Q
/-- the statements together: the list of lambdas goes to slot i, what is due to slot k -/
def tKept (K : PySem.W.Frag) (T : List (Addr × Str)) (t : Nat → XK → TE) (Dc : Nat → Addr) (n i k : Nat) : TS := fun DD σ H => Tabs T H ∧ ∀ (H1 : Hp) (D : Addr) (v w : V), ExtN H H1 → Tabs T H1 → New T H D → H1 D = some (.lst []) →
  chain t Dc K T H H1 D ((σ.set i (some v)).set k (some w)) (fun G => ∀ G' : Hp, (∀ b o, b ≠ D → G b = some o → G' b = some o) → DD.nx ((σ.set i (some v)).set k (some w)) G') (List.range n) H1
end LamV
namespace Fm
open PySem PySem.Spec PyProof.Rows L2 LamV
def fchain (fb : Nat → PXF → FE) (Dc : Nat → Addr) (L : Loc) (fin : Mem → Prop) : List Nat → Mem → Prop
  | [], M => fin M
  | j :: ks, M => fb j (fun C fs M' => C = Dc j ∧ fs = [] ∧ fchain fb Dc L fin ks M') L M (fun _ _ => False)
def fKept (T : List (Addr × Str)) (fb : Nat → PXF → FE) (Dc : Nat → Addr) (n i k : Nat) : FS := fun DD L M => TabsM T M ∧ fchain fb Dc ((L.set i none).set k none) (DD.nx ((L.set i none).set k none)) (List.range n) M
section
variable {K : PySem.W.Frag} {B : Bs} {T : List (Addr × Str)} {t : Nat → XK → TE} {fb : Nat → PXF → FE} {Dc : Nat → Addr} {n i k : Nat}
theorem RL.set_none {H : Hp} {ρ : List Addr} : ∀ {L : Loc} {σ : L2.St} {i : Nat} {v : Option V}, RL K H ρ L σ → RL K H ρ (L.set i none) (σ.set i v)
  | [], _, _, _, h => by
    unfold RL at h
    subst h
    exact rfl
  | t :: L, _, 0, v, h => by
    unfold RL at h
    obtain ⟨w, τ, rfl, _, h2⟩ := h
    exact ⟨v, τ, rfl, trivial, h2⟩
  | t :: L, _, i + 1, v, h => by
    unfold RL at h
    obtain ⟨w, τ, rfl, h1, h2⟩ := h
    exact ⟨w, τ.set i v, rfl, h1, RL.set_none h2⟩
/-- all but one thing stays, no number names it -/
theorem but_gw {H H' : Hp} {ρ : List Addr} {M : Mem} {D : Addr} {acc : List V} (hD : H D = some (.lst acc)) (e : ∀ b o, b ≠ D → H b = some o → H' b = some o) (hn : D ∉ ρ) (m : RM K H ρ M) : Gw K H ρ H' ρ ∧ RM K H' ρ M := by
  have up : ∀ {b o}, H b = some o → (∀ xs, o ≠ .lst xs) → H' b = some o := fun {b o} h nl => e b o (fun z => by rw [z, hD] at h; exact nl acc (Option.some.inj h).symm) h
  have g : Gw K H ρ H' ρ := by
    refine ⟨⟨[], by simp⟩, fun a xs h => ?_, fun c o im h => up h im.ne.1⟩
    rcases h with (h | ⟨o, h⟩) | h
    · exact .inl (.inl (up h fun _ z => nomatch z))
    · exact .inl (.inr ⟨o, up h fun _ z => nomatch z⟩)
    · exact .inr h
  refine ⟨g, m.len, fun k o ek => ?_, m.nd⟩
  obtain ⟨a, h1, h2⟩ := m.at_ k o ek
  have na : a ≠ D := fun z => hn (z ▸ List.mem_of_getElem? h1)
  refine ⟨a, h1, h2.mono0 g ?_ fun d q => up q fun _ z => nomatch z⟩
  cases o with
  | lst ts => obtain ⟨xs, z, _⟩ := h2; rw [z]; exact e _ _ na z
  | ins C fs => obtain ⟨dx, gs, z, _⟩ := h2; rw [z]; exact e _ _ na z
  | tab P q => obtain ⟨rfl, ps, z, _⟩ := h2; rw [z]; exact e _ _ na z
  | scr ns k m r => obtain ⟨s, z, _⟩ := h2; rw [z]; exact e _ _ na z
  | dic ps => obtain ⟨kvs, z, _⟩ := h2; rw [z]; exact e _ _ na z
theorem grow_but {H G G0 : Hp} {ρ ρ' : List Addr} {D : Addr} (g : Grow K H ρ G ρ') {T : List (Addr × Str)} (nD : New T H D) (e : ∀ b o, b ≠ D → G b = some o → G0 b = some o) (gw : Gw K G ρ' G0 ρ') : Grow K H ρ G0 ρ' :=
  ⟨g.ext, fun a xs h => gw.tup a xs (g.tup a xs h), fun a o h n nt => e a o (fun z => by obtain ⟨ps, w⟩ := nD.1 o (z ▸ h); exact nt ps w) (g.oth a o h n nt), g.new, fun c o im h => gw.cod c o im (g.cod c o im h)⟩
theorem xr_nil {H : Hp} {ρ : List Addr} {d : Option Addr} (x : XR K H ρ [] d) : d = none ∨ ∃ dd, d = some dd ∧ H dd = some (.xd []) := by
  rcases x with ⟨_, h⟩ | ⟨dd, gs, h1, h2, h3⟩
  · exact .inl h
  · unfold RFs at h3
    subst h3
    exact .inr ⟨dd, h1, h2⟩
theorem sim_kept (s : ∀ (j : Nat) (B : Bs) (E : XK) (PX : PXF), OutX K B.1 B.2 PX E → SimE K B (t j E) (fb j PX)) : SimS K B (tKept K T t Dc n i k) (fKept T fb Dc n i k) := ⟨fun {σ H ρ L M D' DD} hl hm ⟨ta, fc⟩ e => by
  refine ⟨ta.heap hm, fun H1 D v w ex T1 nD hD => ?_⟩
  obtain ⟨g1, m1⟩ := tabs_grow ex T1 ta hm
  have hl1 : RL K H1 ρ ((L.set i none).set k none) ((σ.set i (some v)).set k (some w)) := RL.set_none (RL.set_none (hl.mono g1).rl)
  have nw : ∀ a, New T H a → a ∉ ρ := fun a h z => by
    obtain ⟨x, hx⟩ := List.mem_iff_getElem?.mp z
    obtain ⟨o, hM, ho⟩ := hm.obj hx
    cases o with
    | lst ts => obtain ⟨xs, z, _⟩ := ho; obtain ⟨ps, w⟩ := h.1 _ z; cases w
    | ins C fs => obtain ⟨dx, gs, z, _⟩ := ho; obtain ⟨ps, w⟩ := h.1 _ z; cases w
    | tab P q => obtain ⟨rfl, _⟩ := ho; exact h.2 q (ta.2 _ _ (List.mem_of_getElem? hM))
    | scr ns k m r => obtain ⟨s, z, _⟩ := ho; obtain ⟨ps, w⟩ := h.1 _ z; cases w
    | dic ps => obtain ⟨kvs, z, _⟩ := ho; obtain ⟨ps, w⟩ := h.1 _ z; cases w
  -- the word: what is known between two calls
  have go : ∀ (ks : List Nat) (G : Hp) (ρ' : List Addr) (M' : Mem), Grow K H ρ G ρ' → RL K G ρ' ((L.set i none).set k none) ((σ.set i (some v)).set k (some w)) → RM K G ρ' M' → (∀ a o, New T H a → H1 a = some o → (∀ ps, o ≠ .tbl ps) → a ∉ ρ' ∧ (a ≠ D → G a = some o)) → (∃ acc, G D = some (.lst acc)) →
      fchain fb Dc ((L.set i none).set k none) (D'.nx ((L.set i none).set k none)) ks M' →
      chain t Dc K T H H1 D ((σ.set i (some v)).set k (some w)) (fun G => ∀ G' : Hp, (∀ b o, b ≠ D → G b = some o → G' b = some o) → DD.nx ((σ.set i (some v)).set k (some w)) G') ks G := by
    intro ks
    induction ks with
    | nil =>
      intro G ρ' M' g l m nr ⟨acc, hacc⟩ f G' rel
      have nDr : D ∉ ρ' := (nr D _ nD hD fun ps z => nomatch z).1
      obtain ⟨gw, m2⟩ := but_gw hacc rel nDr m
      have g2 : Grow K H ρ G' ρ' := grow_but g nD rel gw
      exact e.nx _ _ _ _ _ g2 ⟨l.mono0 gw, hl.gr.trans g2⟩ m2 f
    | cons j ks ih =>
      intro G ρ' M' g l m nr ⟨acc, hacc⟩ f G0 rel ⟨acc0, hacc0⟩ E Q hE
      have nDr : D ∉ ρ' := (nr D _ nD hD fun ps z => nomatch z).1
      obtain ⟨gw, m2⟩ := but_gw hacc rel nDr m
      have g2 : Grow K H ρ G0 ρ' := grow_but g nD rel gw
      refine (s j (G0, ρ') E (fun C fs M' => C = Dc j ∧ fs = [] ∧ fchain fb Dc ((L.set i none).set k none) (D'.nx ((L.set i none).set k none)) ks M') ?_).run ⟨l.mono0 gw, Grow.refl⟩ m2 f (fun _ _ _ _ _ _ _ _ p => p.elim)
      intro C fs d G' ρ2 M2 g3 m3 x p
      obtain ⟨rfl, rfl, p⟩ := p
      have g4 := g2.trans g3
      have keepD : ∀ a, G0 D = some (.lst a) → G' D = some (.lst a) := fun a h => g3.oth D _ h nDr fun ps z => nomatch z
      refine hE _ _ _ rfl (xr_nil x) (fun a xs h => g3.tup a xs h) (fun c φ h => g3.cod c _ (.inr ⟨φ, rfl⟩) h) (fun a o h0 h1 nt _ h => g3.oth a o h (nr a o h0 h1 nt).1 nt) keepD ?_
      refine ih G' ρ2 M2 g4 ((l.mono0 gw).mono g3) m3 (fun a o h0 h1 nt => ?_) ⟨acc0, keepD _ hacc0⟩ p
      obtain ⟨ha, hp⟩ := nr a o h0 h1 nt
      refine ⟨fun z => ?_, fun hne => g3.oth a o (rel a o hne (hp hne)) ha nt⟩
      by_cases hne : a = D
      · obtain ⟨ps, w⟩ := g3.new a z ha _ (hne ▸ hacc0)
        cases w
      · obtain ⟨ps, w⟩ := g3.new a z ha o (rel a o hne (hp hne))
        exact nt ps w
  exact go (List.range n) H1 ρ M g1 hl1 m1 (fun a o h h1 _ => ⟨nw a h, fun _ => h1⟩) ⟨[], hD⟩ fc⟩
end
end Fm

set_option Elab.async false
set_option linter.all false
set_option maxRecDepth 100000
set_option maxHeartbeats 4000000
namespace T1
open PySem PySem.Spec PyProof.Rows L2 C8
local macro_rules | `(tactic| walk_at "hf") => `(tactic| (fail_if_success (show (fun _ => none : Hp) _ = _)); first | assumption | with_reducible exact upd_same | ((with_reducible show upd _ _ _ _ = _); first | exact up_new' (by assumption) (by walk_at "hf") | exact up_set (by walk_at "ne") (by walk_at "hf")) | exact Same.at' (by assumption) (by walk_at "hf") | exact But.at' (by assumption) (by walk_at "ne") (by walk_at "ne") (by walk_at "hf"))
local macro_rules | `(tactic| walk_at "hf0") => `(tactic| (fail_if_success (show (fun _ => none : Hp) _ = _)); first | assumption | with_reducible exact upd_same | ((with_reducible show upd _ _ _ _ = _); exact up_new' (by assumption) (by walk_at "hf0")))
local macro_rules | `(tactic| walk_at "ne") => `(tactic| first | assumption | (apply Ne.symm; assumption) | exact ne_of_none' (by assumption) (by walk_at "hf0") | exact Ne.symm (ne_of_none' (by assumption) (by walk_at "hf0")) | exact LSt.f1 (by assumption) (by walk_at "lst") | exact LSt.f2 (by assumption) (by walk_at "lst"))
local macro_rules | `(tactic| walk_at "sqt") => `(tactic| (fail_if_success (show SqT _ (fun _ => none) _ _)); first | assumption | exact SqT.of' (by walk_at "hf") | ((with_reducible show SqT _ (upd _ _ _) _ _); first | exact SqT.new' (by assumption) (by walk_at "sqt") | exact SqT.put' (by walk_at "hf") (by walk_at "sqt")) | exact Same.tup (by assumption) (by walk_at "sqt") | exact But.tup (by assumption) (by walk_at "lst") (by walk_at "sqt"))
local macro_rules | `(tactic| walk_at "sql") => `(tactic| (fail_if_success (show SqL _ (fun _ => none) _ _)); first | assumption | exact SqL.of' (by walk_at "hf") | ((with_reducible show SqL _ (upd _ _ _) _ _); exact SqL.new' (by assumption) (by walk_at "sql")) | exact Same.sql' (by assumption) (by walk_at "sql"))
local macro_rules | `(tactic| walk_at "lst") => `(tactic| (fail_if_success (show LSt (fun _ => none) _ _)); first | assumption | ((with_reducible show LSt (upd _ _ _) _ _); first | exact LSt.new (by walk_at "lst") (by assumption) | exact LSt.put (by walk_at "lst") (by walk_at "ne") (by walk_at "ne")) | exact LSt.same' (by assumption) (by walk_at "lst"))
local macro_rules | `(tactic| walk_at "but") => `(tactic| first | assumption | exact But.refl _ _ _ | ((with_reducible show But _ _ _ (upd _ _ _)); exact But.nw (by assumption) (by walk_at "but")) | exact But.bu (by assumption) (by walk_at "but") | exact But.sm (by assumption) (by walk_at "but"))
local macro_rules | `(tactic| walk_at "ls") => `(tactic| first | assumption | exact Ls.same (by walk_at "ls") (Same.upd' (by assumption)))
local macro_rules | `(tactic| walk_at "ll") => `(tactic| first | assumption | exact LL.same (by walk_at "ll") (Same.upd' (by assumption)) | exact LL.same' (by assumption) (by walk_at "ll") | exact LL.but' (by assumption) (by walk_at "lst") (by walk_at "ll"))
local macro_rules | `(tactic| walk_at "sm") => `(tactic| first | assumption | exact Same.refl _ | ((with_reducible show Same _ (upd _ _ _)); first | exact Same.put' (by assumption) (by walk_at "sm") | exact Same.trans (by walk_at "sm") (Same.upd' (by assumption))) | exact Same.trans (by walk_at "sm") (by assumption))
/-- one step of a reading -/
local macro_rules | `(tactic| walk_at "rd") => `(tactic| first
  | with_reducible refine iteF ?_
  | with_reducible refine iteT ?_
  | with_reducible refine itNotF ?_
  | with_reducible refine itNotT ?_
  | refine ⟨_, rfl, ?_⟩
  | refine ⟨_, _, rfl, rfl, ?_⟩
  | refine ⟨_, _, rfl, ?_⟩
  | refine ⟨(_ : Addr), (_ : List V), (_ : Int), (_ : V), rfl, rfl, SqL.of' (by walk_at "hf"), (by first | assumption | rfl), ?_⟩
  | refine ⟨(_ : Addr), (_ : List V), (_ : Int), (_ : V), rfl, rfl, (by walk_at "sqt" : SqT _ _ _ _), (by first | assumption | rfl), ?_⟩
  | refine .inl ⟨_, rfl, ?_⟩
  | refine ⟨_, _, rfl, .inl (by walk_at "sql" : SqL _ _ _ _), ?_⟩
  | refine ⟨_, _, rfl, .inl ⟨(by walk_at "sql" : SqL _ _ _ _), fun p hp => ?_⟩⟩
  | refine ⟨_, _, rfl, .inr ⟨(by walk_at "sqt" : SqT _ _ _ _), ?_⟩⟩
  | refine fun (p : Addr) (hp : (_ : Hp) p = none) => ?_
  | refine ⟨_, _, rfl, .inr (by walk_at "sqt" : SqT _ _ _ _), ?_⟩
  | refine And.intro (by show _ ≤ sizeLine; first | decide | walk_at "sz") (fun p hp => ?_)
  | refine ⟨(_ : Addr), (_ : Addr), (_ : List V), (_ : List V), rfl, rfl, (by walk_at "hf"), (by walk_at "hf"), (by walk_at "sz"), fun p hp => ?_⟩
  | refine ⟨(_ : Addr), (_ : Addr), (_ : List V), (_ : List V), rfl, rfl, (by walk_at "hf"), (by walk_at "hf"), (by walk_at "sz"), ?_⟩
  | refine ⟨(_ : Addr), (_ : List V), (_ : Int), (_ : Nat), rfl, rfl, (by walk_at "hf"), (by rfl), ?_⟩
  | refine And.intro ⟨_, (by walk_at "sql" : SqL _ _ _ _)⟩ ?_
  | refine And.intro ⟨_, (by walk_at "sqt" : SqT _ _ _ _)⟩ ?_
  | refine And.intro (.inl ⟨rfl, _, SqL.of' (by walk_at "hf")⟩) ?_
  | refine And.intro (by walk_at "cond") ?_
  | exact .inl ⟨rfl, _, SqL.of' (by walk_at "hf")⟩
  | with_reducible refine iteT ?_
  | with_reducible refine iteF ?_
  | refine And.intro (by rfl : scal _ _ = true) ?_
  | refine And.intro (by rfl : _ = V.non) ?_
  | refine And.intro (by rfl : wipe _ _ = wipe _ _) ?_
  | refine And.intro (by rfl : (_ : List V) = []) ?_
  | refine ⟨(_ : Addr), (_ : List V), rfl, (by walk_at "sqt" : SqT _ _ _ _), (by rfl), ?_⟩)
/-- a test: known, or both ways -/
local macro_rules | `(tactic| walk_at "if") => `(tactic| first
  | with_reducible refine itD (by omega) ?_
  | with_reducible refine itN (by omega) ?_
  | with_reducible refine itnD (by omega) ?_
  | with_reducible refine itnN (by omega) ?_
  | with_reducible refine itE (by omega) ?_
  | with_reducible refine itEn (by omega) ?_
  | with_reducible refine itnE (by omega) ?_
  | with_reducible refine itnEn (by omega) ?_
  | with_reducible refine itN (by intro z; cases z) ?_
  | with_reducible refine itD (by decide) ?_
  | with_reducible refine itN (by decide) ?_
  | with_reducible refine itnD (by decide) ?_
  | with_reducible refine itnN (by decide) ?_)
local macro_rules | `(tactic| walk_at "if2") => `(tactic| first
  | with_reducible refine itS (fun z => ?_) (fun z => ?_)
  | with_reducible refine itS' (fun z => ?_) (fun z => ?_)
  | with_reducible refine itSE (fun z => ?_) (fun z => ?_)
  | with_reducible refine itnS (fun z => ?_) (fun z => ?_)
  | with_reducible refine itnS' (fun z => ?_) (fun z => ?_)
  | with_reducible refine itnSE (fun z => ?_) (fun z => ?_))
local macro_rules | `(tactic| walk_at "go") => `(tactic| repeat' (first | walk_at "rd" | walk_at "if" | walk_at "if2" | fail))
local macro_rules | `(tactic| walk_at "sz") => `(tactic| (rw [sizeLine_eq]; simp only [List.length_append, List.length_map, List.length_cons, List.length_nil]; omega))
local macro_rules | `(tactic| walk_at "cond") => `(tactic| first | assumption | (show (_ : Int) ≠ 0; first | omega | (split <;> omega)) | (show (0 : Int) < _; first | assumption | decide) | exact ⟨by decide, by decide, by decide⟩ | exact .inr ⟨by decide, by decide⟩ | exact wide_div (b := 64) (by assumption) (by omega) (by decide) (by decide) | exact ⟨by decide, by decide⟩)


section
variable {X : Cx} {g CB : Addr} {cl : Nat → Addr} {cdg : Value} {cs : ErrC}
/-- the call, for the try's body -/
def TCallR (f : Addr) (R : Hp → Prop) (tl : XK → Hp → VK → Prop) : WX → TS := fun W D σ H =>
  ∃ Ech : XK, (∀ cls d σ' H', Ech cls d H' → W cls d σ' H') ∧ σ[0]? = some (some (.ref f)) ∧ R H ∧ tl Ech H fun _ H' => D.nx σ H'
theorem err_givesR (T : BR X.K X.mg cs) (G : Cls12 X.mg CB cl) (P5 : PlainE X.K CB (cl 5) cl 5) (P6 : PlainE X.K CB (cl 6) cl 6) (P7 : PlainE X.K CB (cl 7) cl 7) :
    LamV.GivesR X ["_law_call", "e", "_law_kinds", "_law_names", "_law_name"] "_law_error" (fnScope s__law_error) g cdg (fnBody s__law_error) "_law_call" (TTerr X.K cl) := by
  intro f R s H Q tl act hR h
  let X0 : Cx := (cxOf C8.CX0 X.prog X.w X.K X.mg X.base ["_law_call", "e", "_law_kinds", "_law_names", "_law_name"] "_law_error" (fnScope s__law_error) g cdg X.A X.stack s H C8.E0).nox
  refine ⟨_, pss_cons (ps_try_as (X := X0) (c := .ref CB) (i := 1) (n := "e") (tb := TCallR f R tl) (ts := TSu X.K cl) (Wout := fun _ _ _ _ => False) rfl rfl scErr.nd rfl rfl ⟨rfl, by decide, .inl G.gB⟩ LamX.takes0 (fun W pn xe tk _ => ?_) (fun a oe cls d pn hz hf => ?_))
    (pss_one (ps_ret (pe_tup (pa_cons pe_str pa_nil)))), ?_⟩
  · refine ⟨fun pins s1 σ H1 D I h1 => ?_⟩
    obtain ⟨Ech, hW, e1, e2, e3⟩ := h1
    exact (pss_one (ps_expr (act W pn xe Ech _ _ tk hW))).run pins s1 σ H1 D I ⟨e1, e2, e3⟩
  · refine ⟨fun pins s1 σ H1 D I h1 => ?_⟩
    obtain ⟨τ, rfl, hd, h1⟩ := h1
    have five : τ.length = 5 := (List.length_set ..).symm.trans I.len
    match τ, five with
    | [v0, _, v2, v3, v4], _ =>
      rcases hd with rfl | ⟨dd, rfl, hdd⟩
      · rcases h1 with ⟨rfl, k⟩ | ⟨rfl, k⟩ | ⟨rfl, k⟩
        · obtain ⟨t, ht, read⟩ := su_place (g := g) (cdg := cdg) (s := s) (H := H) T G P6 a oe pn hz hf
          exact ht.run pins s1 _ H1 D I (read D v0 v2 v3 v4 H1 k)
        · obtain ⟨t, ht, read⟩ := su_bridge (g := g) (cdg := cdg) (s := s) (H := H) T G P7 a oe pn hz hf
          exact ht.run pins s1 _ H1 D I (read D v0 v2 v3 v4 H1 k)
        · obtain ⟨t, ht, read⟩ := su_load (g := g) (cdg := cdg) (s := s) (H := H) T G P5 a oe pn hz hf
          exact ht.run pins s1 _ H1 D I (read D v0 v2 v3 v4 H1 k)
      · rcases h1 with ⟨rfl, k⟩ | ⟨rfl, k⟩ | ⟨rfl, k⟩
        · obtain ⟨t, ht, read⟩ := su2_place (g := g) (cdg := cdg) (s := s) (H := H) T G P6 a dd oe pn hz hf
          exact ht.run pins s1 _ H1 D I (read D v0 v2 v3 v4 H1 hdd k)
        · obtain ⟨t, ht, read⟩ := su2_bridge (g := g) (cdg := cdg) (s := s) (H := H) T G P7 a dd oe pn hz hf
          exact ht.run pins s1 _ H1 D I (read D v0 v2 v3 v4 H1 hdd k)
        · obtain ⟨t, ht, read⟩ := su2_load (g := g) (cdg := cdg) (s := s) (H := H) T G P5 a dd oe pn hz hf
          exact ht.run pins s1 _ H1 D I (read D v0 v2 v3 v4 H1 hdd k)
  · refine ⟨ErrOf X.K cl Q, fun cls d σ H1 h1 => ?_, rfl, hR, h⟩
    have em : PySem.W.exmOne X.K cls (.ref CB) = some true := by
      rcases h1.2 with ⟨rfl, _⟩ | ⟨rfl, _⟩ | ⟨rfl, _⟩
      · exact P6.em
      · exact P7.em
      · exact P5.em
    exact ⟨true, em, fun _ a ha => ⟨σ, rfl, h1⟩, fun z => Bool.noConfusion z⟩
end
end T1

set_option Elab.async false
set_option linter.all false
set_option maxRecDepth 100000
set_option maxHeartbeats 4000000
namespace T1
open PySem PySem.Spec PyProof.Rows L2 C8 Fm
local macro_rules | `(tactic| walk_at "sim1") => `(tactic| with_reducible first
  | exact sim_nil | exact sim_var | exact sim_int | exact sim_str | exact sim_bl | exact sim_non | exact sim_raw
  | apply sim_cons | apply sim_op | apply sim_un | apply sim_tup | apply sim_lst
  | apply sim_CB | apply sim_if | apply sim_test | apply sim_B | apply sim_not | apply sim_and | apply sim_or
  | apply sim_andV | apply sim_orV | apply sim_notV | apply sim_chain | exact sim_nopart | apply sim_part
  | apply sim_sl | apply sim_BML | apply sim_BMS | apply sim_BM0S | apply sim_M1 | apply sim_M0
  | apply sim_fmt | apply sim_joined | exact SimJ.nil | apply SimJ.cons
  | exact s_I0i | exact s_I0b | exact s_Ii | exact s_Ui | exact s_eq | exact s_ne | exact s_isN | exact s_notN | exact s_ixL | exact s_ixT | exact s_ixS
  | exact s_cat | exact s_catA | exact s_rep | exact s_repT | exact s_in | exact s_slL | exact s_slA | exact s_slS | exact s_addS | exact s_leS | exact s_ltS
  | exact c_len | exact c_lenS | exact c_list | exact c_tuple | exact c_int1 | exact c_intS | exact c_strI | exact c_max2 | exact c_min2
  | exact m_append | exact m_extend | exact m_split | exact m_join | exact m_0b | exact m_1b
  | apply sim_call | exact simSpF
  | exact sim_name | exact sim_gnil | apply sim_gcons | apply sim_gtup | apply sim_gsub | exact set_list
  | exact sim_next | apply sim_seq | apply sim_cut | exact sim_break | exact sim_cont | apply sim_drop | apply sim_ret | exact sim_retN
  | apply sim_ifS | exact sim_never | apply sim_asg | apply sim_par | apply sim_aug
  | apply sim_for | apply sim_while | apply i_list | apply i_tup | apply i_rng1 | apply i_rng2 | apply i_str | apply i_enum | apply i_zip
  | apply sim_lc | exact sim_yes | exact sim_namew (by decide) | exact sim_gnilw | apply sim_gconsw | apply sim_gtupw
  | apply sim_fld | apply sim_con | apply sim_setFld | apply sim_make | apply sim_prop | apply sim_meth | apply sim_cmeth | exact c_isi | apply sim_isiT | exact s_eqD | exact s_neD
  | walk_at "sim2")
local macro_rules | `(tactic| walk_at "sim2") => `(tactic| fail)
local macro_rules | `(tactic| walk_at "sim") => `(tactic| repeat' (walk_at "sim1"))
/-- open the trees' reading as far as it goes by itself -/
local macro_rules | `(tactic| walk_at "fm") => `(tactic| simp (config := { failIfUnchanged := false }) only [fVar, fC, fOp, fUn, fNil, fCons, fTup, fLst, fCB, fIf, fTest, fNot, fAnd, fOr, fAndV, fOrV, fNotV, fChain, fNoPart, fPart, fI, fI0, fU, fEq, fNe, fIsN, fNotN, fIxL, fIxT, fIxS,
  fCat, fCatA, fRep, fRepT, fSlL, fSlA, fSlS, fSl, fLen, fLenS, fList, fTuple, fIntS, fStrI, fMax2, fMin2, fAppend, fExtend, fIn, fBM, fMS, fBMS, fBM0S, fAddS, fLeS, fLtS, fM0b, fM1b, fSplit, fJoin, fJoined, fJs,
  fName, fGNil, fGCons, fGTup, fSetL, fGSub, fNext, fSeq, fCut, fBreak, fCont, fDrop, fRet, fRetN, fIfS, fAsg, fPar, fAug, fCall, fFld, fCon, fSetFld, fMake, fProp, fMeth, fCMeth, fIsi, fIsiT, fEqD, fNeD, insAt_ref, insO_ins, fFmt, fmtS_i, fmtS_s, fmtOk_i, fmtOk_s, fIL, fIT, fIR1, fIR2, fIS, fIEn, fIZ,
  startL, List.map_cons, List.map_nil, List.length_cons, List.length_nil, List.cons_append, List.nil_append, List.replicate, List.getElem?_cons_zero, List.getElem?_cons_succ, List.set_cons_zero, List.set_cons_succ, Nat.reduceSub, Nat.reduceAdd,
  Option.some.injEq, Tr.int.injEq, Tr.str.injEq, Tr.bl.injEq, Tr.tup.injEq, Tr.ref.injEq, List.cons.injEq, exists_eq_left, exists_eq_left', exists_eq_right, true_and, and_true, and_self, exists_and_left, tupOf_tup, eqS_ii, eqS_ss, eqS_bb, eqS_ni, eqS_in, eqS_nn, isStr_s, isN_n, isN_i, isN_b, isN_s, isN_t, isN_r, noRaw_n, noRaw_i, noRaw_b, noRaw_s, noRaw_t, noRaw_r, and_assoc, reduceIte, Bool.false_eq_true, exists_const, lstAt_ref, seqAt_ref, seqAt_tup, refAt_ref, lstO_lst, app_assoc2, len_app1, at_kk, at_00, set_k, set_00, Nat.add_assoc, Option.map_some, Prod.mk.injEq, int_cast_inj, Nat.zero_le, decide_eq_true_eq, Bool.not_eq_true', decide_eq_false_iff_not, Nat.add_zero, implies_true, forall_const, ite_true, ite_false, if_true, if_false, decide_true, decide_false, Bool.not_true, Bool.not_false, asg_len, Option.isSome_some])
local macro_rules | `(tactic| walk_at "bel") => `(tactic| first | rfl | (simp (config := { failIfUnchanged := false }) only [belM, O.bel, bels_strs, bels_ints, belL, Tr.bel, Tr.bels, Bool.and_true, Bool.true_and, Bool.and_self, decide_eq_true_eq, Bool.and_eq_true, true_and, and_true, List.length_cons, List.length_nil, Nat.reduceAdd]; try omega))

local macro_rules | `(tactic| walk_at "sim2") => `(tactic| first | exact simNext | assumption | exact sim_dnew | apply sim_dnin | apply sim_din | apply sim_dput | apply sim_dget | apply sim_dget1 | exact c_listD | exact c_hpush | exact c_hpop | apply sim_truL | exact c_sum | exact c_sortI | apply sim_match | apply SimM2.cons | exact SimM2.nil | apply i_enumT | apply sim_truS | apply sim_listG | apply sim_lcG | apply sim_eitherG | apply sim_methG | apply sim_methJ | apply sim_either | apply sim_sortKey | apply sim_sortSet | (apply sim_raise0; assumption) | apply sim_plain | apply sim_cval)
local macro_rules | `(tactic| walk_at "sim1") => `(tactic| first | (with_reducible apply sim_callX; assumption) | (with_reducible apply sim_methX; assumption) | (with_reducible apply sim_makeX; assumption) | (with_reducible apply sim_makeKX; assumption) | (with_reducible apply sim_makeVSX; assumption) | (with_reducible apply sim_conA) | (with_reducible apply sim_sortSet))
local macro_rules | `(tactic| walk_at "fm2") => `(tactic| simp (config := { failIfUnchanged := false }) only [dm_app, dm_len, dm_at, dm_at0, dm_set, dm_set0, List.getElem?_cons_zero, List.getElem?_cons_succ, List.set_cons_zero, List.set_cons_succ, lstO_lst, Option.isSome_some, Option.map_some, Option.some.injEq, Prod.mk.injEq, Nat.add_assoc, Nat.reduceAdd, exists_eq_left', exists_eq_left, true_and, and_assoc, fRaise0, fPlain, fCVal, fNv, int1_i, fEither, fTruS, fIEnT, fMatch, fGoM, setAllT, fMakeK, fMakeVS, fMethJ, fEitherG, fListG, fSortKey, fSortSet, fConA, fDnew, fDNin, fDIn, fDPut, fDGet, fDGet1, fListD, fTruL, fHpush, fHpop, fSum, fSortI])
local macro_rules | `(tactic| walk_at "fd") => `(tactic| (walk_at "fm"; walk_at "fm2"; walk_at "fm"; walk_at "fm2"; walk_at "fm"))

/-! ### drawn lives and links -/
def fs__law_life : FSp := fun ts M P _ => ∃ wide d g, ts = [.ref 1, .bl wide] ∧ M = dm d g ∧ d.ok ∧ ∀ r d', d'.ok → 0 ≤ r → r ≤ 1000000000000000000 → P (.int r) (dm d' g)
def fs__law_links : FSp := fun ts M P _ => ∃ c mx wide d g, ts = [.ref 1, .int c, .int mx, .bl wide] ∧ M = dm d g ∧ d.ok ∧ 1 ≤ c ∧ c ≤ 1000 ∧ 0 ≤ mx ∧ mx ≤ 1000 ∧
  ∀ (ls : List Lk) d', d'.ok → (ls.length : Int) ≤ mx → (∀ l ∈ ls, goodLk c l) → P (.tup (ls.map lkT)) (dm d' g)
section
variable {P : Program} {w : World} {K : PySem.W.Frag} {mg : Str → Option Value} {base : Heap} {cs : ErrC}
structure Cn (P : Program) (w : World) (K : PySem.W.Frag) (mg : Str → Option Value) (base : Heap) : Prop where
  _law_next : Cal P w K mg base 1 "_law_next" spNext []
structure Cl (P : Program) (w : World) (K : PySem.W.Frag) (mg : Str → Option Value) (base : Heap) : Prop where
  _law_next : Cal P w K mg base 1 "_law_next" spNext []
  _law_life : Cal P w K mg base 2 "_law_life" (spF K fs__law_life) []
theorem scLifeF : FnScope ["_law_h", "_law_wide"] ["_law_h", "_law_wide"] (fnScope s__law_life) := fnScope_by (by decide +kernel)
theorem ok_lifeF {f : Addr} {fd : FuncData} (F : Def K mg "_law_life" s__law_life f fd) (b : Binds K fd ["_law_h", "_law_wide"] []) (T : BR K mg cs) (C : Cn P w K mg base) : Cal P w K mg base 2 "_law_life" (spF K fs__law_life) [] := by
  refine cal0 F b .nil scLifeF (fun vs H Q E h => ?_) (fun cdv A outer s H vs Q E hr h => ?_)
  · obtain ⟨ts, ρ, M, P, PX, r, m, ⟨w, d, g, rfl, _⟩, o, ox⟩ := h
    exact r.len
  · refine ⟨_, (pss_one (ps_ret (pe_c C._law_next hr (by first | decide | omega) (by rfl) (pa_cons (pv 0) (pa_cons (pe_ix ix_list (pe_lst (pa_cons pe_int (pa_cons pe_int (pa_cons (pe_op op_pow pe_int pe_int) (pa_cons (pe_op op_add (pe_op op_pow pe_int pe_int) pe_int) pa_nil))))) (pe_c C._law_next hr (by first | decide | omega) (by rfl) (pa_cons (pv 0) (pa_cons (pe_ifExp (pt_val (pv 1)) pe_int pe_int) pa_nil))) (fun _ _ => rfl)) pa_nil))))), ?_⟩
    obtain ⟨ts, ρ, M, P, PX, r, m, ⟨w, d, g, rfl, rfl, hd, q⟩, o, ox⟩ := h
    simp only [nox_K, cx_K]
    refine run_in r m o (by walk_at "sim") ?_
    walk_at "fm"
    walk_at "fm2"
    refine ⟨⟨by decide, by decide, by decide⟩, ⟨by decide, by decide, by decide⟩, by rw [sizeLine_eq]; decide, ?_⟩
    have key : ∀ (r : Int), 0 ≤ r → r < 4 → ∃ v : Int, atI ([.int 9, .int 40, .int ((10 : Int) ^ (6 : Int).toNat), .int ((10 : Int) ^ (18 : Int).toNat + 1)] : List Tr) r = some (.int v) ∧ 0 < v ∧ v ≤ 1000000000000000001 := fun r r0 r1 => by
      have hr : r = 0 ∨ r = 1 ∨ r = 2 ∨ r = 3 := by omega
      rcases hr with rfl | rfl | rfl | rfl
      · exact ⟨9, rfl, by decide, by decide⟩
      · exact ⟨40, rfl, by decide, by decide⟩
      · exact ⟨_, rfl, by decide, by decide⟩
      · exact ⟨_, rfl, by decide, by decide⟩
    have go : ∀ r d1, d1.ok → 0 ≤ r → r < 4 → ∃ ts, lstO (dm d1 g ++ [O.lst [Tr.int 9, Tr.int 40, Tr.int (10 ^ Int.toNat 6), Tr.int (10 ^ Int.toNat 18 + 1)]])[List.length g + 2]? = some ts ∧ ∃ x, Tr.int r = Tr.int x ∧ ∃ x_1, atI ts x = some x_1 ∧ fsNext [Tr.ref 1, x_1] (dm d1 g ++ [O.lst [Tr.int 9, Tr.int 40, Tr.int (10 ^ Int.toNat 6), Tr.int (10 ^ Int.toNat 18 + 1)]]) (Keep (List.length g + 2) P) noX := fun r d1 hd1 r0 r1 => by
      obtain ⟨v, hv, v0, v1⟩ := key r r0 r1
      refine ⟨_, by rw [dm_at0]; rfl, r, rfl, _, hv, next_at hd1 v0 (by omega) fun r' d2 hd2 r'0 r'1 => keep_dm m rfl (q r' d2 hd2 r'0 (by omega))⟩
    cases w
    · rw [if_neg Bool.false_ne_true]
      exact next_at hd (by decide) (by decide) fun r d1 hd1 r0 r1 => go r d1 hd1 r0 (by omega)
    · rw [if_pos rfl]
      exact next_at hd (by decide) (by decide) fun r d1 hd1 r0 r1 => go r d1 hd1 r0 r1
theorem scLinksF : FnScope ["_law_h", "_law_count", "_law_most", "_law_wide", "_law_found", "_law_k", "_law_one", "_law_other"] ["_law_h", "_law_count", "_law_most", "_law_wide"] (fnScope s__law_links) := fnScope_by (by decide +kernel)
theorem ok_linksF {f : Addr} {fd : FuncData} (F : Def K mg "_law_links" s__law_links f fd) (b : Binds K fd ["_law_h", "_law_count", "_law_most", "_law_wide"] []) (T : BR K mg cs) (C : Cl P w K mg base) : Cal P w K mg base 3 "_law_links" (spF K fs__law_links) [] := by
  refine cal0 F b .nil scLinksF (fun vs H Q E h => ?_) (fun cdv A outer s H vs Q E hr h => ?_)
  · obtain ⟨ts, ρ, M, P, PX, r, m, ⟨c, mx, w, d, g, rfl, _⟩, o, ox⟩ := h
    exact r.len
  · refine ⟨_, (pss_cons (ps_set (i := 4) scLinksF.nd rfl (Or.inl rfl) (pe_lst pa_nil))
 (pss_cons (ps_for PassesOwn.never rfl (pi_range1 (by rfl) T.range (pa_cons (pe_ifExp (pt_cmpR op_gt (pv 1) pe_int (nomark _)) (pe_c C._law_next hr (by first | decide | omega) (by rfl) (pa_cons (pv 0) (pa_cons (pe_op op_add (pv 2) pe_int) pa_nil))) pe_int) pa_nil)) (pg_name (i := 5) scLinksF.nd rfl (Or.inl rfl)) (pss_cons (ps_set (i := 6) scLinksF.nd rfl (Or.inl rfl) (pe_c C._law_next hr (by first | decide | omega) (by rfl) (pa_cons (pv 0) (pa_cons (pv 1) pa_nil))))
 (pss_cons (ps_set (i := 7) scLinksF.nd rfl (Or.inl rfl) (pe_op op_modN (pe_op op_add (pe_op op_add (pv 6) pe_int) (pe_c C._law_next hr (by first | decide | omega) (by rfl) (pa_cons (pv 0) (pa_cons (pe_op op_sub (pv 1) pe_int) pa_nil)))) (pv 1)))
 (pss_one (ps_expr (pe_bm PySem.F.plainAttrs_list PySem.F.slot_list_append PySem.F.type_list_append mt_append (pv 4) (pa_cons (pe_tup (pa_cons (pv 6) (pa_cons (pv 7) (pa_cons (pe_op op_add pe_int (pe_c C._law_next hr (by first | decide | omega) (by rfl) (pa_cons (pv 0) (pa_cons (pe_ix ix_list (pe_lst (pa_cons pe_int (pa_cons pe_int pa_nil))) (pe_op op_fdiv (pe_c C._law_next hr (by first | decide | omega) (by rfl) (pa_cons (pv 0) (pa_cons pe_int pa_nil))) pe_int) (fun _ _ => rfl)) pa_nil)))) (pa_cons (pe_c C._law_life hr (by first | decide | omega) (by rfl) (pa_cons (pv 0) (pa_cons (pv 3) pa_nil))) pa_nil))))) pa_nil)))))))
 (pss_one (ps_ret (pe_callTy call_tuple_of (by rfl) T.tuple (by decide +kernel) (pa_cons (pv 4) pa_nil)))))), ?_⟩
    obtain ⟨ts, ρ, M, P, PX, r, m, ⟨c, mx, w, d, g, rfl, rfl, hd, c0, c1, m0, m1, q⟩, o, ox⟩ := h
    simp only [nox_K, cx_K]
    refine run_in r m o (by walk_at "sim") ?_
    walk_at "fm"
    walk_at "fm2"
    unfold fFor
    walk_at "fm"
    by_cases c2 : 1 < c
    · rw [if_pos c2]
      refine next_at hd (by omega) (by omega) fun n d1 hd1 n0 n1 => ?_
      refine ⟨n, rfl, by omega, by omega, fun i L2 M2 => ∃ (d2 : Dr) (ls : List Lk) (v5 v6 v7 : Option Tr), d2.ok ∧ L2 = [some (.ref 1), some (.int c), some (.int mx), some (.bl w), some (.ref (List.length g + 2)), v5, v6, v7] ∧ M2 = dm d2 g ++ [.lst (ls.map lkT)] ∧ ls.length = i ∧ ∀ l ∈ ls, goodLk c l, ⟨d1, [], none, none, none, hd1, rfl, rfl, rfl, fun l hl => nomatch hl⟩, ?_, ?_⟩
      · rintro i t L2 M2 ht ⟨d2, ls, v5, v6, v7, hd2, rfl, rfl, hl, hok⟩
        walk_at "fm"
        refine next_at hd2 (by omega) (by omega) fun r1 d3 hd3 r10 r11 => ?_
        walk_at "fm"
        refine next_at hd3 (by omega) (by omega) fun r2 d4 hd4 r20 r21 => ?_
        walk_at "fd"
        refine ⟨by omega, by rw [sizeLine_eq]; decide, next_at hd4 (by decide) (by decide) fun r3 d5 hd5 r30 r31 => ?_⟩
        walk_at "fd"
        obtain ⟨v, hv, v0, v1⟩ : ∃ v : Int, atI ([.int 3, .int 99] : List Tr) (r3 / 3) = some (.int v) ∧ 0 < v ∧ v ≤ 99 := by
          have hr : r3 / 3 = 0 ∨ r3 / 3 = 1 := by omega
          rcases hr with e | e <;> rw [e]
          · exact ⟨3, rfl, by decide, by decide⟩
          · exact ⟨99, rfl, by decide, by decide⟩
        refine ⟨⟨by decide, by decide⟩, .int v, hv, next_at hd5 v0 (by omega) fun r4 d6 hd6 r40 r41 => ?_⟩
        walk_at "fd"
        refine ⟨w, d6, g ++ _, rfl, dm_app.symm, hd6, fun r5 d7 hd7 r50 r51 => ?_⟩
        walk_at "fd"
        have hc : 0 ≤ (r1 + 1 + r2).fmod c ∧ (r1 + 1 + r2).fmod c < c ∧ (r1 + 1 + r2).fmod c ≠ r1 := by
          rw [Int.fmod_eq_emod_of_nonneg _ (by omega)]
          refine ⟨Int.emod_nonneg _ (by omega), Int.emod_lt_of_pos _ (by omega), fun e => ?_⟩
          by_cases hlt : r1 + 1 + r2 < c
          · rw [Int.emod_eq_of_lt (by omega) hlt] at e
            omega
          · rw [← Int.sub_emod_right, Int.emod_eq_of_lt (by omega) (by omega)] at e
            omega
        obtain ⟨hc0, hc1, hc2⟩ := hc
        refine ⟨by rw [sizeLine_eq]; decide, by rw [sizeLine_eq, List.length_map]; have := (rngT_get ht).1; omega, ?_⟩
        refine forget_dm (h := [_]) (by simp) (LocLe.refl _) ⟨d7, hd7, ls ++ [(r1, (r1 + 1 + r2).fmod c, 1 + r4, r5)], _, _, _, rfl, by rw [List.map_append]; rfl, by simp [hl], ?_⟩ ?_ m.belM ?_
        · intro l hl
          rcases List.mem_append.mp hl with hl | hl
          · exact hok l hl
          · rw [List.mem_singleton.mp hl]
            exact ⟨r10, r11, hc0, hc1, fun z => hc2 z.symm, by show 1 ≤ 1 + r4; omega, by show 1 + r4 ≤ 99; omega, r50, r51⟩
        · obtain ⟨_, rfl⟩ := rngT_get ht
          walk_at "bel"
        · have := bel_lks (n := List.length g + 3) (ls ++ [(r1, (r1 + 1 + r2).fmod c, 1 + r4, r5)])
          rw [List.map_append] at this
          show (Tr.bels _ _ && true) = true
          rw [Bool.and_true]
          exact this
      · rintro L2 M2 ⟨d2, ls, v5, v6, v7, hd2, rfl, rfl, hl, hok⟩
        walk_at "fd"
        rw [rngT_len] at hl
        refine keep_dm m (by show Tr.bels _ _ = true; exact bel_lks _) (q ls d2 hd2 (by omega) hok)
    · rw [if_neg c2]
      refine ⟨by decide, by decide, fun i L2 M2 => L2 = [some (.ref 1), some (.int c), some (.int mx), some (.bl w), some (.ref (List.length g + 2)), none, none, none] ∧ M2 = dm d g ++ [.lst []], ⟨rfl, rfl⟩, ?_, ?_⟩
      · rintro i t L2 M2 ht
        simp [rngT] at ht
      · rintro L2 M2 ⟨rfl, rfl⟩
        walk_at "fd"
        exact keep_dm m rfl (q [] d hd (by simpa using m0) fun l hl => nomatch hl)
end
end T1

set_option Elab.async false
set_option linter.all false
set_option maxRecDepth 100000
set_option maxHeartbeats 4000000
namespace T1
open PySem PySem.Spec PyProof.Rows L2 C8 Fm
local macro_rules | `(tactic| walk_at "sim1") => `(tactic| with_reducible first
  | exact sim_nil | exact sim_var | exact sim_int | exact sim_str | exact sim_bl | exact sim_non | exact sim_raw
  | apply sim_cons | apply sim_op | apply sim_un | apply sim_tup | apply sim_lst
  | apply sim_CB | apply sim_if | apply sim_test | apply sim_B | apply sim_not | apply sim_and | apply sim_or
  | apply sim_andV | apply sim_orV | apply sim_notV | apply sim_chain | exact sim_nopart | apply sim_part
  | apply sim_sl | apply sim_BML | apply sim_BMS | apply sim_BM0S | apply sim_M1 | apply sim_M0
  | apply sim_fmt | apply sim_joined | exact SimJ.nil | apply SimJ.cons
  | exact s_I0i | exact s_I0b | exact s_Ii | exact s_Ui | exact s_eq | exact s_ne | exact s_isN | exact s_notN | exact s_ixL | exact s_ixT | exact s_ixS
  | exact s_cat | exact s_catA | exact s_rep | exact s_repT | exact s_in | exact s_slL | exact s_slA | exact s_slS | exact s_addS | exact s_leS | exact s_ltS
  | exact c_len | exact c_lenS | exact c_list | exact c_tuple | exact c_int1 | exact c_intS | exact c_strI | exact c_max2 | exact c_min2
  | exact m_append | exact m_extend | exact m_split | exact m_join | exact m_0b | exact m_1b
  | apply sim_call | exact simSpF
  | exact sim_name | exact sim_gnil | apply sim_gcons | apply sim_gtup | apply sim_gsub | exact set_list
  | exact sim_next | apply sim_seq | apply sim_cut | exact sim_break | exact sim_cont | apply sim_drop | apply sim_ret | exact sim_retN
  | apply sim_ifS | exact sim_never | apply sim_asg | apply sim_par | apply sim_aug
  | apply sim_for | apply sim_while | apply i_list | apply i_tup | apply i_rng1 | apply i_rng2 | apply i_str | apply i_enum | apply i_zip
  | apply sim_lc | exact sim_yes | exact sim_namew (by decide) | exact sim_gnilw | apply sim_gconsw | apply sim_gtupw
  | apply sim_fld | apply sim_con | apply sim_setFld | apply sim_make | apply sim_prop | apply sim_meth | apply sim_cmeth | exact c_isi | apply sim_isiT | exact s_eqD | exact s_neD
  | walk_at "sim2")
local macro_rules | `(tactic| walk_at "sim2") => `(tactic| fail)
local macro_rules | `(tactic| walk_at "sim") => `(tactic| repeat' (walk_at "sim1"))
/-- open the trees' reading as far as it goes by itself -/
local macro_rules | `(tactic| walk_at "fm") => `(tactic| simp (config := { failIfUnchanged := false }) only [fVar, fC, fOp, fUn, fNil, fCons, fTup, fLst, fCB, fIf, fTest, fNot, fAnd, fOr, fAndV, fOrV, fNotV, fChain, fNoPart, fPart, fI, fI0, fU, fEq, fNe, fIsN, fNotN, fIxL, fIxT, fIxS,
  fCat, fCatA, fRep, fRepT, fSlL, fSlA, fSlS, fSl, fLen, fLenS, fList, fTuple, fIntS, fStrI, fMax2, fMin2, fAppend, fExtend, fIn, fBM, fMS, fBMS, fBM0S, fAddS, fLeS, fLtS, fM0b, fM1b, fSplit, fJoin, fJoined, fJs,
  fName, fGNil, fGCons, fGTup, fSetL, fGSub, fNext, fSeq, fCut, fBreak, fCont, fDrop, fRet, fRetN, fIfS, fAsg, fPar, fAug, fCall, fFld, fCon, fSetFld, fMake, fProp, fMeth, fCMeth, fIsi, fIsiT, fEqD, fNeD, insAt_ref, insO_ins, fFmt, fmtS_i, fmtS_s, fmtOk_i, fmtOk_s, fIL, fIT, fIR1, fIR2, fIS, fIEn, fIZ,
  startL, List.map_cons, List.map_nil, List.length_cons, List.length_nil, List.cons_append, List.nil_append, List.replicate, List.getElem?_cons_zero, List.getElem?_cons_succ, List.set_cons_zero, List.set_cons_succ, Nat.reduceSub, Nat.reduceAdd,
  Option.some.injEq, Tr.int.injEq, Tr.str.injEq, Tr.bl.injEq, Tr.tup.injEq, Tr.ref.injEq, List.cons.injEq, exists_eq_left, exists_eq_left', exists_eq_right, true_and, and_true, and_self, exists_and_left, tupOf_tup, eqS_ii, eqS_ss, eqS_bb, eqS_ni, eqS_in, eqS_nn, isStr_s, isN_n, isN_i, isN_b, isN_s, isN_t, isN_r, noRaw_n, noRaw_i, noRaw_b, noRaw_s, noRaw_t, noRaw_r, and_assoc, reduceIte, Bool.false_eq_true, exists_const, lstAt_ref, seqAt_ref, seqAt_tup, refAt_ref, lstO_lst, app_assoc2, len_app1, at_kk, at_00, set_k, set_00, Nat.add_assoc, Option.map_some, Prod.mk.injEq, int_cast_inj, Nat.zero_le, decide_eq_true_eq, Bool.not_eq_true', decide_eq_false_iff_not, Nat.add_zero, implies_true, forall_const, ite_true, ite_false, if_true, if_false, decide_true, decide_false, Bool.not_true, Bool.not_false, asg_len, Option.isSome_some])
local macro_rules | `(tactic| walk_at "bel") => `(tactic| first | rfl | (simp (config := { failIfUnchanged := false }) only [belM, O.bel, bels_strs, bels_ints, belL, Tr.bel, Tr.bels, Bool.and_true, Bool.true_and, Bool.and_self, decide_eq_true_eq, Bool.and_eq_true, true_and, and_true, List.length_cons, List.length_nil, Nat.reduceAdd]; try omega))

local macro_rules | `(tactic| walk_at "sim2") => `(tactic| first | exact simNext | assumption | exact sim_dnew | apply sim_dnin | apply sim_din | apply sim_dput | apply sim_dget | apply sim_dget1 | exact c_listD | exact c_hpush | exact c_hpop | apply sim_truL | exact c_sum | exact c_sortI | apply sim_match | apply SimM2.cons | exact SimM2.nil | apply i_enumT | apply sim_truS | apply sim_listG | apply sim_lcG | apply sim_eitherG | apply sim_methG | apply sim_methJ | apply sim_either | apply sim_sortKey | apply sim_sortSet | (apply sim_raise0; assumption) | apply sim_plain | apply sim_cval)
local macro_rules | `(tactic| walk_at "sim1") => `(tactic| first | (with_reducible apply sim_callX; assumption) | (with_reducible apply sim_methX; assumption) | (with_reducible apply sim_makeX; assumption) | (with_reducible apply sim_makeKX; assumption) | (with_reducible apply sim_makeVSX; assumption) | (with_reducible apply sim_conA) | (with_reducible apply sim_sortSet))
local macro_rules | `(tactic| walk_at "fm2") => `(tactic| simp (config := { failIfUnchanged := false }) only [dm_app, dm_len, dm_at, dm_at0, dm_set, dm_set0, List.getElem?_cons_zero, List.getElem?_cons_succ, List.set_cons_zero, List.set_cons_succ, lstO_lst, Option.isSome_some, Option.map_some, Option.some.injEq, Prod.mk.injEq, Nat.add_assoc, Nat.reduceAdd, exists_eq_left', exists_eq_left, true_and, and_assoc, fRaise0, fPlain, fCVal, fNv, int1_i, fEither, fTruS, fIEnT, fMatch, fGoM, setAllT, fMakeK, fMakeVS, fMethJ, fEitherG, fListG, fSortKey, fSortSet, fConA, fDnew, fDNin, fDIn, fDPut, fDGet, fDGet1, fListD, fTruL, fHpush, fHpop, fSum, fSortI])
local macro_rules | `(tactic| walk_at "fd") => `(tactic| (walk_at "fm"; walk_at "fm2"; walk_at "fm"; walk_at "fm2"; walk_at "fm"))

local macro_rules | `(tactic| walk_at "sim1") => `(tactic| with_reducible apply sim_isiT)
/-! ### the law's comparison -/
theorem lc_R {L : Fm.Loc} {M : Mem} {P : PF} {fg : FG} {ft : FT} {fe : FE} {vs : List Nat} {fa : FA} {k : Nat} (F : Tr → Option Tr) (h : ∀ R : FIt → Mem → Prop, R ⟨rngT 0 k, fun _ => True⟩ M → fIR1 fa L M R) (hM : belM M.length M = true) (hn : k ≤ sizeLine) (hF : ∀ t ∈ rngT 0 k, ∀ y, F t = some y → Tr.bel M.length y = true)
    (step : ∀ t ∈ rngT 0 k, LcStep F fg ft fe vs L M t) (fin : P (.ref M.length) (M ++ [.lst ((rngT 0 k).filterMap F)])) : fLc (fIR1 fa) fg ft fe vs L M P :=
  h _ (Fm.lc_core (it := ⟨rngT 0 k, fun _ => True⟩) F trivial hM (by show (rngT 0 k).length ≤ _; rw [rngT_len]; exact hn) hF step fin)
theorem kb_int_tuple : kitB "int" "tuple" = some false := by decide +kernel
theorem kb_int_list : kitB "int" "list" = some false := by decide +kernel
theorem kb_int_bool : kitB "int" "bool" = some false := by decide +kernel
theorem kb_int_int : kitB "int" "int" = some true := by decide +kernel
theorem kb_tuple_tuple : kitB "tuple" "tuple" = some true := by decide +kernel
theorem kb_tuple_list : kitB "tuple" "list" = some false := by decide +kernel
theorem kb_tuple_bool : kitB "tuple" "bool" = some false := by decide +kernel
theorem kb_tuple_int : kitB "tuple" "int" = some false := by decide +kernel
theorem kb_list_tuple : kitB "list" "tuple" = some false := by decide +kernel
theorem kb_list_list : kitB "list" "list" = some true := by decide +kernel
theorem kb_list_bool : kitB "list" "bool" = some false := by decide +kernel
theorem kb_list_int : kitB "list" "int" = some false := by decide +kernel
theorem kb_str_tuple : kitB "str" "tuple" = some false := by decide +kernel
theorem kb_str_list : kitB "str" "list" = some false := by decide +kernel
theorem kb_str_bool : kitB "str" "bool" = some false := by decide +kernel
theorem kb_str_int : kitB "str" "int" = some false := by decide +kernel
theorem kb_none_dict : kitB "NoneType" "dict" = some false := by decide +kernel
theorem kb_none_tuple : kitB "NoneType" "tuple" = some false := by decide +kernel
theorem kb_none_list : kitB "NoneType" "list" = some false := by decide +kernel
theorem kb_none_str : kitB "NoneType" "str" = some false := by decide +kernel
theorem kb_none_int : kitB "NoneType" "int" = some false := by decide +kernel
theorem kb_none_bool : kitB "NoneType" "bool" = some false := by decide +kernel
theorem kb_bool_dict : kitB "bool" "dict" = some false := by decide +kernel
theorem kb_bool_tuple : kitB "bool" "tuple" = some false := by decide +kernel
theorem kb_bool_list : kitB "bool" "list" = some false := by decide +kernel
theorem kb_bool_str : kitB "bool" "str" = some false := by decide +kernel
theorem kb_bool_bool : kitB "bool" "bool" = some true := by decide +kernel
theorem kb_int_dict : kitB "int" "dict" = some false := by decide +kernel
theorem kb_int_str : kitB "int" "str" = some false := by decide +kernel
theorem kb_str_dict : kitB "str" "dict" = some false := by decide +kernel
theorem kb_str_str : kitB "str" "str" = some true := by decide +kernel
theorem kb_tuple_dict : kitB "tuple" "dict" = some false := by decide +kernel
theorem kb_tuple_str : kitB "tuple" "str" = some false := by decide +kernel
theorem kb_list_dict : kitB "list" "dict" = some false := by decide +kernel
theorem kb_list_str : kitB "list" "str" = some false := by decide +kernel
theorem kb_bool_int : kitB "bool" "int" = some true := by decide +kernel
/-- an item of a list or a tuple -/
def fIxQ : F2 := fun x y M P => ∃ ts i t, seqAt M x = some ts ∧ y = .int i ∧ atI ts i = some t ∧ P t M
theorem seqAt_cases {M : Mem} {x : Tr} {ts : List Tr} (h : seqAt M x = some ts) : lstAt M x = some ts ∨ tupOf x = some ts := by
  cases x with
  | tup us => exact .inr h
  | _ => exact .inl h
theorem s_ixQ {K : PySem.W.Frag} : Sim2 K (rIx K) fIxQ := ⟨fun hm rx ry ⟨ts, i, t, e1, e2, e3, p⟩ o => by
  rcases seqAt_cases e1 with h | h
  · exact .inl (s_ixL.run hm rx ry ⟨ts, i, t, h, e2, e3, p⟩ o)
  · exact .inr (.inl (s_ixT.run hm rx ry ⟨ts, i, t, h, e2, e3, p⟩ o))⟩
local macro_rules | `(tactic| walk_at "sim2") => `(tactic| exact s_ixQ)
def Flat1 (x y : Tr) : Prop := (∃ i, x = .int i ∧ y = .int i) ∨ (∃ s, x = .str s ∧ y = .str s) ∨ (∃ b, x = .bl b ∧ y = .bl b) ∨ (x = .non ∧ y = .non)
def LikeT : Nat → Mem → Tr → Tr → Prop
  | 0, _, x, y => Flat1 x y
  | n + 1, M, x, y => Flat1 x y ∨ ∃ xs ys, ((x = .tup xs ∧ y = .tup ys) ∨ (lstAt M x = some xs ∧ lstAt M y = some ys)) ∧ xs.length = ys.length ∧ xs.length ≤ 1000000 ∧ ∀ (i : Nat) a b, xs[i]? = some a → ys[i]? = some b → LikeT n M a b
def fsLike (n : Nat) : FSp := fun ts M P _ => ∃ x y, ts = [x, y] ∧ LikeT n M x y ∧ P (.bl true) M
structure Cal_ (P : Program) (w : World) (K : PySem.W.Frag) (mg : Str → Option Value) (base : Heap) (k n : Nat) : Prop where
  _law_alike : Cal P w K mg base k "_law_alike" (spF K (fsLike n)) []
theorem lstAt_mono {M g : Mem} {x : Tr} {ts : List Tr} (h : lstAt M x = some ts) : lstAt (M ++ g) x = some ts := by
  cases x with
  | ref n =>
    rw [lstAt_ref] at h ⊢
    cases e : M[n]? with
    | none => rw [e] at h; cases h
    | some o => rw [at_l e, ← e]; exact h
  | _ => exact h
theorem seqAt_lst {M : Mem} {x : Tr} {ts : List Tr} (h : lstAt M x = some ts) : seqAt M x = some ts := by
  cases x with
  | tup us => cases h
  | _ => exact h
theorem tyN_lst {M : Mem} {x : Tr} {ts : List Tr} (h : lstAt M x = some ts) : tyN M x = some "list" := by
  cases x with
  | ref n =>
    show (match lstAt M (.ref n) with | some _ => some "list" | none => none) = _
    rw [h]
  | _ => cases h
section
variable {P : Program} {w : World} {K : PySem.W.Frag} {mg : Str → Option Value} {base : Heap} {cs : ErrC}
theorem scLike : FnScope ["_law_found", "_law_due", "_law_k"] ["_law_found", "_law_due"] (fnScope s__law_alike) := fnScope_by (by decide +kernel)
theorem ok_like0 {f : Addr} {fd : FuncData} (F : Def K mg "_law_alike" s__law_alike f fd) (b : Binds K fd ["_law_found", "_law_due"] []) (T : BR K mg cs) : Cal P w K mg base 1 "_law_alike" (spF K (fsLike 0)) [] := by
  refine cal0 F b .nil scLike (fun vs H Q E h => ?_) (fun cdv A outer s H vs Q E hr h => ?_)
  · obtain ⟨ts, ρ, M, P, PX, r, m, ⟨x, y, rfl, _⟩, o, ox⟩ := h
    exact r.len
  · refine ⟨_, (pss_cons (ps_if (pt_val (pe_callB call_isi (by rfl) T.isinstance (by decide +kernel) (pa_cons (pv 1) (pa_cons (pe_bltn (v := .ty "dict") (by rfl) T.dict (by decide +kernel) rfl) pa_nil)))) (pss_one ps_never) pss_nil)
 (pss_cons (ps_if (pt_val (pe_callB call_isiT (by rfl) T.isinstance (by decide +kernel) (pa_cons (pv 1) (pa_cons (pe_tup (pa_cons (pe_bltn (v := .ty "tuple") (by rfl) T.tuple (by decide +kernel) rfl) (pa_cons (pe_bltn (v := .ty "list") (by rfl) T.list (by decide +kernel) rfl) pa_nil))) pa_nil)))) (pss_cons (ps_if (PW.pt (pw_or (pt_not (pt_val (pe_callB call_isiT (by rfl) T.isinstance (by decide +kernel) (pa_cons (pv 0) (pa_cons (pe_tup (pa_cons (pe_bltn (v := .ty "tuple") (by rfl) T.tuple (by decide +kernel) rfl) (pa_cons (pe_bltn (v := .ty "list") (by rfl) T.list (by decide +kernel) rfl) pa_nil))) pa_nil))))) (pw_or1 (pt_cmpR op_ne (pe_callB call_isi (by rfl) T.isinstance (by decide +kernel) (pa_cons (pv 0) (pa_cons (pe_bltn (v := .ty "list") (by rfl) T.list (by decide +kernel) rfl) pa_nil))) (pe_callB call_isi (by rfl) T.isinstance (by decide +kernel) (pa_cons (pv 1) (pa_cons (pe_bltn (v := .ty "list") (by rfl) T.list (by decide +kernel) rfl) pa_nil))) (nomark _))))) (pss_one (ps_ret pe_bl)) pss_nil)
 (pss_cons (ps_if (pt_cmpR op_ne (pe_callB call_len_seq (by rfl) T.len PySem.boot_len (pa_cons (pv 0) pa_nil)) (pe_callB call_len_seq (by rfl) T.len PySem.boot_len (pa_cons (pv 1) pa_nil)) (nomark _)) (pss_one (ps_ret pe_bl)) pss_nil)
 (pss_one ps_never))) pss_nil)
 (pss_cons (ps_if (PW.pt (pw_or (pt_cmpR op_isN (pv 1) pe_non (nomark _)) (pw_or1 (pt_val (pe_callB call_isi (by rfl) T.isinstance (by decide +kernel) (pa_cons (pv 1) (pa_cons (pe_bltn (v := .ty "str") (by rfl) T.str (by decide +kernel) rfl) pa_nil))))))) (pss_one (ps_ret (pe_and (pe_cmpR op_eq (pv 0) (pv 1) (nomark _)) (pe_one (pe_cmpR op_eq (pe_callB call_isi (by rfl) T.isinstance (by decide +kernel) (pa_cons (pv 0) (pa_cons (pe_bltn (v := .ty "str") (by rfl) T.str (by decide +kernel) rfl) pa_nil))) (pe_callB call_isi (by rfl) T.isinstance (by decide +kernel) (pa_cons (pv 1) (pa_cons (pe_bltn (v := .ty "str") (by rfl) T.str (by decide +kernel) rfl) pa_nil))) (nomark _)))))) pss_nil)
 (pss_one (ps_ret (pe_and (pe_callB call_isi (by rfl) T.isinstance (by decide +kernel) (pa_cons (pv 0) (pa_cons (pe_bltn (v := .ty "int") (by rfl) T.int (by decide +kernel) rfl) pa_nil))) (pe_and (pe_cmpR op_eq (pe_callB call_isi (by rfl) T.isinstance (by decide +kernel) (pa_cons (pv 0) (pa_cons (pe_bltn (v := .ty "bool") (by rfl) T.bool (by decide +kernel) rfl) pa_nil))) (pe_callB call_isi (by rfl) T.isinstance (by decide +kernel) (pa_cons (pv 1) (pa_cons (pe_bltn (v := .ty "bool") (by rfl) T.bool (by decide +kernel) rfl) pa_nil))) (nomark _)) (pe_one (pe_cmpR op_eq (pv 0) (pv 1) (nomark _)))))))))), ?_⟩
    obtain ⟨ts, ρ, M, P, PX, r, m, ⟨x, y, rfl, hs, q⟩, o, ox⟩ := h
    try simp only [nox_K, cx_K]
    refine run_in r m o (by walk_at "sim") ?_
    have nd : ∀ M z, tyN M (.str z) = some "str" := fun _ _ => rfl
    have ni : ∀ M i, tyN M (.int i) = some "int" := fun _ _ => rfl
    have nb : ∀ M i, tyN M (.bl i) = some "bool" := fun _ _ => rfl
    have nn : ∀ M, tyN M .non = some "NoneType" := fun _ => rfl
    rcases hs with ⟨i, rfl, rfl⟩ | ⟨z, rfl, rfl⟩ | ⟨z, rfl, rfl⟩ | ⟨rfl, rfl⟩
    · walk_at "fm"
      simp only [Tr.raw.injEq, V.ty.injEq, exists_eq_left', ni, Option.some.injEq, kb_int_dict, kb_int_tuple, kb_int_list, kb_int_str, kb_int_int, kb_int_bool, Bool.or_false, Bool.false_eq_true, if_false, if_true, eqV, decide_true]
      walk_at "fm"
      first | exact keep_same m rfl q | (rw [if_neg (by simp)]; exact keep_same m rfl q) | trace_state
    · walk_at "fm"
      simp only [Tr.raw.injEq, V.ty.injEq, exists_eq_left', nd, Option.some.injEq, kb_str_dict, kb_str_tuple, kb_str_list, kb_str_str, kb_str_int, kb_str_bool, Bool.or_false, Bool.false_eq_true, if_false, if_true, eqV, decide_true]
      walk_at "fm"
      first | exact keep_same m rfl q | (rw [if_neg (by simp)]; exact keep_same m rfl q) | trace_state
    · walk_at "fm"
      simp only [Tr.raw.injEq, V.ty.injEq, exists_eq_left', nb, Option.some.injEq, kb_bool_dict, kb_bool_tuple, kb_bool_list, kb_bool_str, kb_bool_int, kb_bool_bool, Bool.or_false, Bool.false_eq_true, if_false, if_true, eqV, decide_true]
      walk_at "fm"
      first | exact keep_same m rfl q | (rw [if_neg (by simp)]; exact keep_same m rfl q) | trace_state
    · walk_at "fm"
      simp only [Tr.raw.injEq, V.ty.injEq, exists_eq_left', nn, Option.some.injEq, kb_none_dict, kb_none_tuple, kb_none_list, kb_none_str, kb_none_int, kb_none_bool, Bool.or_false, Bool.false_eq_true, if_false, if_true, eqV, decide_true]
      walk_at "fm"
      first | exact keep_same m rfl q | (rw [if_neg (by simp)]; exact keep_same m rfl q) | trace_state
theorem ok_likeN {f : Addr} {fd : FuncData} {k n : Nat} (F : Def K mg "_law_alike" s__law_alike f fd) (b : Binds K fd ["_law_found", "_law_due"] []) (T : BR K mg cs) (C : Cal_ P w K mg base k n) : Cal P w K mg base (k + 1) "_law_alike" (spF K (fsLike (n + 1))) [] := by
  refine cal0 F b .nil scLike (fun vs H Q E h => ?_) (fun cdv A outer s H vs Q E hr h => ?_)
  · obtain ⟨ts, ρ, M, P, PX, r, m, ⟨x, y, rfl, _⟩, o, ox⟩ := h
    exact r.len
  · refine ⟨_, (pss_cons (ps_if (pt_val (pe_callB call_isi (by rfl) T.isinstance (by decide +kernel) (pa_cons (pv 1) (pa_cons (pe_bltn (v := .ty "dict") (by rfl) T.dict (by decide +kernel) rfl) pa_nil)))) (pss_one ps_never) pss_nil)
 (pss_cons (ps_if (pt_val (pe_callB call_isiT (by rfl) T.isinstance (by decide +kernel) (pa_cons (pv 1) (pa_cons (pe_tup (pa_cons (pe_bltn (v := .ty "tuple") (by rfl) T.tuple (by decide +kernel) rfl) (pa_cons (pe_bltn (v := .ty "list") (by rfl) T.list (by decide +kernel) rfl) pa_nil))) pa_nil)))) (pss_cons (ps_if (PW.pt (pw_or (pt_not (pt_val (pe_callB call_isiT (by rfl) T.isinstance (by decide +kernel) (pa_cons (pv 0) (pa_cons (pe_tup (pa_cons (pe_bltn (v := .ty "tuple") (by rfl) T.tuple (by decide +kernel) rfl) (pa_cons (pe_bltn (v := .ty "list") (by rfl) T.list (by decide +kernel) rfl) pa_nil))) pa_nil))))) (pw_or1 (pt_cmpR op_ne (pe_callB call_isi (by rfl) T.isinstance (by decide +kernel) (pa_cons (pv 0) (pa_cons (pe_bltn (v := .ty "list") (by rfl) T.list (by decide +kernel) rfl) pa_nil))) (pe_callB call_isi (by rfl) T.isinstance (by decide +kernel) (pa_cons (pv 1) (pa_cons (pe_bltn (v := .ty "list") (by rfl) T.list (by decide +kernel) rfl) pa_nil))) (nomark _))))) (pss_one (ps_ret pe_bl)) pss_nil)
 (pss_cons (ps_if (pt_cmpR op_ne (pe_callB call_len_seq (by rfl) T.len PySem.boot_len (pa_cons (pv 0) pa_nil)) (pe_callB call_len_seq (by rfl) T.len PySem.boot_len (pa_cons (pv 1) pa_nil)) (nomark _)) (pss_one (ps_ret pe_bl)) pss_nil)
 (pss_one (ps_ret (pe_cmpR (op_eqD hr.units) (pe_lc (own := [("_law_k", 2)]) (g := gName 2) rfl scLike.nd (pi_range1 (by rfl) T.range (pa_cons (pe_callB (call_lenK (K := K) rfl) (by rfl) T.len PySem.boot_len (pa_cons (pv 1) pa_nil)) pa_nil)) (blkOk_by (N := ["_law_found", "_law_due", "_law_k"]) (sc := fnScope s__law_alike) (by decide +kernel)) (fun _ _ _ _ _ => pg_name (i := 2) scLike.nd rfl (Or.inl rfl)) (fun _ _ _ _ _ => (pts_one (pt_not (pt_val (pe_c C._law_alike hr (by first | decide | omega) (by rfl) (pa_cons (pe_ix (ix_seqK (K := K) rfl) (pv 0) (pv 2) (fun _ _ => rfl)) (pa_cons (pe_ix (ix_seqK (K := K) rfl) (pv 1) (pv 2) (fun _ _ => rfl)) pa_nil))))))) (fun _ _ _ _ _ => (pv 2))) (pe_lst pa_nil) (nomark _)))))) pss_nil)
 (pss_cons (ps_if (PW.pt (pw_or (pt_cmpR op_isN (pv 1) pe_non (nomark _)) (pw_or1 (pt_val (pe_callB call_isi (by rfl) T.isinstance (by decide +kernel) (pa_cons (pv 1) (pa_cons (pe_bltn (v := .ty "str") (by rfl) T.str (by decide +kernel) rfl) pa_nil))))))) (pss_one (ps_ret (pe_and (pe_cmpR op_eq (pv 0) (pv 1) (nomark _)) (pe_one (pe_cmpR op_eq (pe_callB call_isi (by rfl) T.isinstance (by decide +kernel) (pa_cons (pv 0) (pa_cons (pe_bltn (v := .ty "str") (by rfl) T.str (by decide +kernel) rfl) pa_nil))) (pe_callB call_isi (by rfl) T.isinstance (by decide +kernel) (pa_cons (pv 1) (pa_cons (pe_bltn (v := .ty "str") (by rfl) T.str (by decide +kernel) rfl) pa_nil))) (nomark _)))))) pss_nil)
 (pss_one (ps_ret (pe_and (pe_callB call_isi (by rfl) T.isinstance (by decide +kernel) (pa_cons (pv 0) (pa_cons (pe_bltn (v := .ty "int") (by rfl) T.int (by decide +kernel) rfl) pa_nil))) (pe_and (pe_cmpR op_eq (pe_callB call_isi (by rfl) T.isinstance (by decide +kernel) (pa_cons (pv 0) (pa_cons (pe_bltn (v := .ty "bool") (by rfl) T.bool (by decide +kernel) rfl) pa_nil))) (pe_callB call_isi (by rfl) T.isinstance (by decide +kernel) (pa_cons (pv 1) (pa_cons (pe_bltn (v := .ty "bool") (by rfl) T.bool (by decide +kernel) rfl) pa_nil))) (nomark _)) (pe_one (pe_cmpR op_eq (pv 0) (pv 1) (nomark _)))))))))), ?_⟩
    obtain ⟨ts, ρ, M, P, PX, r, m, ⟨x, y, rfl, hs, q⟩, o, ox⟩ := h
    try simp only [nox_K, cx_K]
    refine run_in r m o (by walk_at "sim") ?_
    have nd : ∀ M z, tyN M (.str z) = some "str" := fun _ _ => rfl
    have ni : ∀ M i, tyN M (.int i) = some "int" := fun _ _ => rfl
    have nb : ∀ M i, tyN M (.bl i) = some "bool" := fun _ _ => rfl
    have nn : ∀ M, tyN M .non = some "NoneType" := fun _ => rfl
    rcases hs with (⟨i, rfl, rfl⟩ | ⟨z, rfl, rfl⟩ | ⟨z, rfl, rfl⟩ | ⟨rfl, rfl⟩) | ⟨xs, ys, hxy, hl, hz, hn⟩
    · walk_at "fm"
      simp only [Tr.raw.injEq, V.ty.injEq, exists_eq_left', ni, Option.some.injEq, kb_int_dict, kb_int_tuple, kb_int_list, kb_int_str, kb_int_int, kb_int_bool, Bool.or_false, Bool.false_eq_true, if_false, if_true, eqV, decide_true]
      walk_at "fm"
      first | exact keep_same m rfl q | (rw [if_neg (by simp)]; exact keep_same m rfl q) | trace_state
    · walk_at "fm"
      simp only [Tr.raw.injEq, V.ty.injEq, exists_eq_left', nd, Option.some.injEq, kb_str_dict, kb_str_tuple, kb_str_list, kb_str_str, kb_str_int, kb_str_bool, Bool.or_false, Bool.false_eq_true, if_false, if_true, eqV, decide_true]
      walk_at "fm"
      first | exact keep_same m rfl q | (rw [if_neg (by simp)]; exact keep_same m rfl q) | trace_state
    · walk_at "fm"
      simp only [Tr.raw.injEq, V.ty.injEq, exists_eq_left', nb, Option.some.injEq, kb_bool_dict, kb_bool_tuple, kb_bool_list, kb_bool_str, kb_bool_int, kb_bool_bool, Bool.or_false, Bool.false_eq_true, if_false, if_true, eqV, decide_true]
      walk_at "fm"
      first | exact keep_same m rfl q | (rw [if_neg (by simp)]; exact keep_same m rfl q) | trace_state
    · walk_at "fm"
      simp only [Tr.raw.injEq, V.ty.injEq, exists_eq_left', nn, Option.some.injEq, kb_none_dict, kb_none_tuple, kb_none_list, kb_none_str, kb_none_int, kb_none_bool, Bool.or_false, Bool.false_eq_true, if_false, if_true, eqV, decide_true]
      walk_at "fm"
      first | exact keep_same m rfl q | (rw [if_neg (by simp)]; exact keep_same m rfl q) | trace_state
    · have sx : seqAt M x = some xs ∧ seqAt M y = some ys := by
        rcases hxy with ⟨rfl, rfl⟩ | ⟨h1, h2⟩
        · exact ⟨rfl, rfl⟩
        · exact ⟨seqAt_lst h1, seqAt_lst h2⟩
      obtain ⟨sx, sy⟩ := sx
      obtain ⟨a, ha, hb, k0, k1, k2, hor, hk1, hk2⟩ : ∃ a, tyN M x = some a ∧ tyN M y = some a ∧ kitB a "dict" = some false ∧ ∃ r1 r2, (r1 || r2) = true ∧ kitB a "tuple" = some r1 ∧ kitB a "list" = some r2 := by
        rcases hxy with ⟨rfl, rfl⟩ | ⟨h1, h2⟩
        · exact ⟨"tuple", rfl, rfl, kb_tuple_dict, true, false, rfl, kb_tuple_tuple, kb_tuple_list⟩
        · exact ⟨"list", tyN_lst h1, tyN_lst h2, kb_list_dict, false, true, rfl, kb_list_tuple, kb_list_list⟩
      walk_at "fm"
      refine ⟨"dict", rfl, a, hb, false, k0, ?_⟩
      rw [if_neg (by decide)]
      refine ⟨a, hb, k1, hk1, k2, hk2, ?_⟩
      rw [if_pos hor]
      refine ⟨a, ha, k1, hk1, k2, hk2, ?_⟩
      rw [if_neg (by rw [hor]; decide)]
      refine ⟨"list", rfl, a, ha, k2, hk2, "list", rfl, a, hb, k2, hk2, ?_⟩
      rw [if_neg (by simp)]
      refine ⟨xs, sx, ys, sy, ?_⟩
      rw [if_neg (by simpa using hl)]
      refine lc_R (k := ys.length) (fun _ => none) (fun R hR => ?_) m.belM (by rw [sizeLine_eq]; omega) (fun t ht z hz => by cases hz) (fun t ht => ?_) ?_
      · walk_at "fm"
        exact ⟨ys, sy, by omega, by omega, by rw [Int.toNat_natCast]; exact hR⟩
      · obtain ⟨i, hi⟩ := List.mem_iff_getElem?.mp ht
        obtain ⟨hi1, rfl⟩ := rngT_get hi
        rw [Int.zero_add]
        intro R N hR hN
        have hx1 : xs[i]? = some (xs[i]'(by omega)) := List.getElem?_eq_getElem (by omega)
        have hy1 : ys[i]? = some (ys[i]'hi1) := List.getElem?_eq_getElem hi1
        simp only [wipeF]
        walk_at "fm"
        refine ⟨xs, (i : Int), _, sx, rfl, atI_nat hx1, ys, (i : Int), _, sy, rfl, atI_nat hy1, _, _, rfl, hn i _ _ hx1 hy1, true, rfl, ?_⟩
        rw [if_neg (by decide)]
        exact (hN rfl).1
      · have ef : (rngT 0 ys.length).filterMap (fun _ => (none : Option Tr)) = [] := by simp
        rw [ef]
        walk_at "fm"
        exact ⟨.list [], .lst (lstAt_of at_0) .nil, .list [], .lst (lstAt_of (by rw [at_kk]; rfl)) .nil, by decide +kernel, by decide +kernel, keep_app m rfl q⟩
end
end T1

set_option Elab.async false
set_option linter.all false
set_option maxRecDepth 100000
set_option maxHeartbeats 4000000
/-! MN: min of a list of pairs (length, route). -/
namespace MNx
open PySem PySem.Spec PyProof.Rows L2 PySem.W
open Fm (dr)
def ni (r : List Nat) : List Int := r.map fun i : Nat => (i : Int)
def dz (a : Int × List Nat) : Int × Tup Int := (a.1, ⟨ni a.2⟩)
theorem ni_inj : ∀ {r s : List Nat}, ni r = ni s → r = s
  | [], [], _ => rfl
  | [], _ :: _, h => by cases h
  | _ :: _, [], h => by cases h
  | x :: r, y :: s, h => by
    have h1 : (x : Int) = (y : Int) ∧ ni r = ni s := by
      have : (x : Int) :: ni r = (y : Int) :: ni s := h
      injection this with a b
      exact ⟨a, b⟩
    rw [ni_inj h1.2, show x = y by omega]
theorem listLt_lex : ∀ r s : List Nat, listLt (ni r) (ni s) = GM.lexN r s
  | [], [] => rfl
  | [], _ :: _ => rfl
  | _ :: _, [] => rfl
  | x :: r, y :: s => by
    show listLt ((x : Int) :: ni r) ((y : Int) :: ni s) = _
    unfold listLt GM.lexN
    by_cases h : x = y
    · rw [if_pos h, if_pos (by omega), listLt_lex r s]
    · rw [if_neg h, if_neg (by omega)]
      exact decide_eq_decide.mpr (by omega)
theorem lt_R (a b : Int × List Nat) : DatumOrd.lt (dz a) (dz b) = true ↔ GM.LtR a b := by
  show (if a.1 = b.1 then listLt (ni a.2) (ni b.2) else decide (a.1 < b.1)) = true ↔ _
  unfold GM.LtR
  by_cases h : a.1 = b.1
  · rw [if_pos h, listLt_lex]
    constructor
    · intro z; exact .inr ⟨h, z⟩
    · rintro (z | ⟨_, z⟩)
      · omega
      · exact z
  · rw [if_neg h, decide_eq_true_eq]
    constructor
    · intro z; exact .inl z
    · rintro (z | ⟨z, _⟩)
      · exact z
      · exact absurd z h
instance : DecidableRel GM.LtR := fun a b => by unfold GM.LtR; exact inferInstance
def minR (x : Int × List Nat) (xs : List (Int × List Nat)) : Int × List Nat := xs.foldl (fun a y => if GM.LtR y a then y else a) x
theorem minOf_dz : ∀ (xs : List (Int × List Nat)) (x : Int × List Nat), minOf (dz x) (xs.map dz) = dz (minR x xs)
  | [], x => rfl
  | y :: ys, x => by
    show minOf (if DatumOrd.lt (dz y) (dz x) = true then dz y else dz x) (ys.map dz) = dz (minR (if GM.LtR y x then y else x) ys)
    rw [← minOf_dz ys]
    by_cases h : GM.LtR y x
    · rw [if_pos h, if_pos ((lt_R y x).mpr h)]
    · rw [if_neg h, if_neg (fun z => h ((lt_R y x).mp z))]
theorem minR_least : ∀ (xs : List (Int × List Nat)) (x : Int × List Nat), ∀ y ∈ x :: xs, ¬ GM.LtR y (minR x xs)
  | [], x, y, hy => by
    rw [List.mem_singleton.mp hy]
    exact fun z => GM.ltR_as z z
  | z :: zs, x, y, hy => by
    have ih := minR_least zs (if GM.LtR z x then z else x)
    show ¬ GM.LtR y (minR (if GM.LtR z x then z else x) zs)
    by_cases h : GM.LtR z x
    · rw [if_pos h] at ih ⊢
      rcases List.mem_cons.mp hy with rfl | hy
      · exact GM.ltR_tr (ih z List.mem_cons_self) (GM.ltR_as h)
      · exact ih y hy
    · rw [if_neg h] at ih ⊢
      rcases List.mem_cons.mp hy with rfl | hy
      · exact ih y List.mem_cons_self
      · rcases List.mem_cons.mp hy with rfl | hy
        · exact GM.ltR_tr (ih x List.mem_cons_self) h
        · exact ih y (List.mem_cons_of_mem _ hy)
def rdD (a : Int × List Nat) : PyData := .tuple [.int a.1, .tuple (dr a.2)]
theorem toD_dz (a : Int × List Nat) : Datum.toD (dz a) = rdD a := by
  show PyData.tuple [PyData.int a.1, PyData.tuple ((ni a.2).map PyData.int)] = _
  unfold rdD dr ni
  rw [List.map_map]
  rfl
theorem rdD_inj {a b : Int × List Nat} (h : rdD a = rdD b) : a = b := by
  rw [← toD_dz, ← toD_dz] at h
  have e : PyData.eqv (Datum.toD (dz a)) (Datum.toD (dz b)) = decide (dz a = dz b) := Datum.eqv _ _
  have e2 : PyData.eqv (Datum.toD (dz b)) (Datum.toD (dz b)) = decide (dz b = dz b) := Datum.eqv _ _
  rw [h, e2, decide_eq_true rfl] at e
  have e3 : dz a = dz b := of_decide_eq_true e.symm
  have h1 : a.1 = b.1 := congrArg (fun z : Int × Tup Int => z.1) e3
  have h2 : (⟨ni a.2⟩ : Tup Int) = ⟨ni b.2⟩ := congrArg (fun z : Int × Tup Int => z.2) e3
  injection h2 with h2
  exact Prod.ext h1 (ni_inj h2)
def rMinP (K : PySem.W.Frag) : List V → Hp → VK → Prop := fun vs H Q => ∃ (l : Addr) (zs : List (V × Int × List Nat)), vs = [.ref l] ∧ SqL K H l (zs.map (·.1)) ∧ (∀ z ∈ zs, Dp K H z.1 (rdD z.2)) ∧ zs ≠ [] ∧
  ∀ z ∈ zs, (∀ y ∈ zs, ¬ GM.LtR y.2 z.2) → Q z.1 H
theorem dpAll_of {K : PySem.W.Frag} {H : Hp} : ∀ {zs : List (V × Int × List Nat)}, (∀ z ∈ zs, Dp K H z.1 (rdD z.2)) → DpAll K H (zs.map (·.1)) (zs.map fun z => rdD z.2)
  | [], _ => .nil
  | z :: zs, h => .cons (h z List.mem_cons_self) (dpAll_of fun y hy => h y (List.mem_cons_of_mem _ hy))
theorem vals_at : ∀ {xs : List V} {us : List Value} {i : Nat} {u : Value}, Vals xs us → us[i]? = some u → ∃ x, xs[i]? = some x ∧ RelV x u
  | _, _, _, _, .nil, h => by cases h
  | _, _, 0, _, .cons r _, h => by cases h; exact ⟨_, rfl, r⟩
  | _, _, i + 1, _, .cons _ t, h => vals_at (i := i) t h
theorem lay_rd (a : Int × List Nat) : (rdD a).canLay0 = true := by
  unfold rdD
  simp [PyData.canLay0, PyData.canLayAll0, Fm.lay_dr]
section
variable {X : Cx}
theorem cr_minP (hc : X.calm = true) (hu : X.A.units + 64 < cLine) : CallR X (.builtin "min") (rMinP X.K) := by
  intro pins s σ H vs us Q I r h
  obtain ⟨a, zs, rfl, hs, hd, hne, q⟩ := h
  obtain ⟨its, rv, hl, _⟩ := I.list hs
  rw [Vals.ref1 r]
  obtain ⟨as, ra⟩ := Dp.readsAll I _ _ _ (dpAll_of hd) rv
  have em : zs.map (fun z => rdD z.2) = (zs.map fun z => dz z.2).map Datum.toD := by
    rw [List.map_map]
    exact List.map_congr_left fun z _ => (toD_dz z.2).symm
  rw [em] at ra
  cases hz : zs with
  | nil => exact absurd hz hne
  | cons z0 zs' =>
    have hold : HoldAll s.heap its.toArray.toList (dz z0.2 :: zs'.map fun z => dz z.2) := ⟨as, by rw [hz] at ra; simpa using ra⟩
    refine min_list_datum (α := Int × Tup Int) (I.ok.hd hc) hl.isList hold (by show X.A.units + 1 + 2 < cLine; omega) fun i v h' tk hi ho hk => ?_
    have hi' : its[i]? = some v := by simpa using hi
    obtain ⟨x, hx, rx⟩ := vals_at rv hi'
    rw [List.getElem?_map] at hx
    cases hzi : zs[i]? with
    | none => rw [hzi] at hx; cases hx
    | some z =>
      rw [hzi] at hx
      cases hx
      have hm := List.mem_of_getElem? hzi
      refine ⟨z.1, H, I.kept hk, rx, q z hm fun y hy => ?_⟩
      obtain ⟨bs, rb⟩ := ho
      obtain ⟨cs, rc⟩ := Dp.reads I _ _ _ (hd z hm) rx
      have e1 : zs'.map (fun z => dz z.2) = (zs'.map (·.2)).map dz := by rw [List.map_map]; rfl
      rw [e1, minOf_dz, toD_dz] at rb
      have e2 : rdD z.2 = rdD (minR z0.2 (zs'.map (·.2))) := PySem.SeqAt.Reads.unique _ _ _ _ _ (lay_rd _) (Reads.keeps hk rc) rb
      rw [rdD_inj e2]
      refine minR_least _ _ _ ?_
      rw [hz] at hy
      rcases List.mem_cons.mp hy with rfl | hy
      · exact List.mem_cons_self
      · exact List.mem_cons_of_mem _ (List.mem_map_of_mem hy)
end
end MNx
namespace Fm
open PySem PySem.Spec PyProof.Rows L2
def wT (a : Int × List Nat) : Tr := .tup [.int a.1, rtT a.2]
def fMinP : FC := fun xs M P => ∃ n zs, xs = [.ref n] ∧ M[n]? = some (.lst (zs.map wT)) ∧ zs ≠ [] ∧ ∀ z ∈ zs, (∀ y ∈ zs, ¬ GM.LtR y z) → P (wT z) M
theorem dT_w (a : Int × List Nat) : dT (wT a) = MNx.rdD a := by
  show PyData.tuple [PyData.int a.1, PyData.tuple (dTs (a.2.map fun i : Nat => Tr.int (i : Int)))] = _
  rw [dTs_rt]
  rfl
theorem plain_w (a : Int × List Nat) : plainT (wT a) = true := by
  show (true && (plainTs (a.2.map fun i : Nat => Tr.int (i : Int)) && true)) = true
  rw [plain_rt]
  rfl
theorem trips {K : PySem.W.Frag} {H : Hp} {ρ : List Addr} : ∀ {zs : List (Int × List Nat)} {vs : List V}, RTs K H ρ (zs.map wT) vs → ∃ ws : List (V × Int × List Nat), ws.map (·.2) = zs ∧ ws.map (·.1) = vs ∧ ∀ w ∈ ws, RT K H ρ (wT w.2) w.1
  | [], _, r => by
    unfold RTs at r
    subst r
    exact ⟨[], rfl, rfl, fun _ h => by cases h⟩
  | z :: zs, _, r => by
    rw [List.map_cons] at r
    unfold RTs at r
    obtain ⟨x, ys, rfl, r1, r2⟩ := r
    obtain ⟨ws, e1, e2, e3⟩ := trips r2
    refine ⟨(x, z) :: ws, by rw [List.map_cons, e1], by rw [List.map_cons, e2], fun w hw => ?_⟩
    rcases List.mem_cons.mp hw with rfl | hw
    · exact r1
    · exact e3 w hw
theorem c_minP {K : PySem.W.Frag} : SimC K (MNx.rMinP K) fMinP := ⟨fun {H ρ M xs xvs P Q} hm rx ⟨n, zs, e, en, hne, p⟩ o => by
  subst e
  obtain ⟨xv, rfl, r1⟩ := rx.one
  obtain ⟨a, h1, rfl⟩ := r1.ref_inv
  obtain ⟨a', h2, vs, h3, h4⟩ := hm.at_ n _ en
  rw [h1] at h2
  cases h2
  obtain ⟨ws, q1, q2, q3⟩ := trips h4
  refine ⟨a, ws, rfl, .inl (.inl (h3.trans (by rw [← q2]))), fun z hz => ?_, fun z => hne (by rw [← q1, z]; rfl), fun z hz hl => o _ _ _ _ _ Grow.refl hm (q3 z hz) (p z.2 (by rw [← q1]; exact List.mem_map_of_mem hz) fun y hy => ?_)⟩
  · rw [← dT_w]
    exact dp_of (plain_w _) (q3 z hz)
  · rw [← q1] at hy
    obtain ⟨w, hw, rfl⟩ := List.mem_map.mp hy
    exact hl w hw⟩
theorem bel_w {n : Nat} (a : Int × List Nat) : Tr.bel n (wT a) = true := by
  show (true && (Tr.bels n (a.2.map fun i : Nat => Tr.int (i : Int)) && true)) = true
  rw [bel_rt]
  rfl
theorem bel_ws {n : Nat} : ∀ zs : List (Int × List Nat), Tr.bels n (zs.map wT) = true
  | [] => rfl
  | z :: zs => by
    show (Tr.bel n (wT z) && Tr.bels n (zs.map wT)) = true
    rw [bel_w, bel_ws zs]
    rfl
end Fm

set_option Elab.async false
set_option linter.all false
/-! GS: routes without a place twice; the first of them is the first of all. -/
namespace GM
/-- the routes without a place twice: lengths and bridges, as they are tried -/
def waysS (st : Step) (m : Nat) (e : Int) : Nat → Int → List Int → List (Int × List Nat)
  | 0, p, _ => if p = e then [(0, [])] else []
  | n + 1, p, used => if p = e then [(0, [])] else (List.range m).flatMap fun k => match st p k with
    | some a => if a.1 ∈ used then [] else (waysS st m e n a.1 (used ++ [a.1])).map fun b => (a.2 + b.1, k :: b.2)
    | none => []
def Simp (st : Step) (e : Int) : Int → List Int → List Nat → Prop
  | p, _, [] => p = e
  | p, used, k :: r => p ≠ e ∧ ∃ a, st p k = some a ∧ a.1 ∉ used ∧ Simp st e a.1 (used ++ [a.1]) r
section
variable {st : Step} {e : Int} {m : Nat}
theorem walk_cons_some {p q l : Int} {k : Nat} {r : List Nat} (h : walk st p (k :: r) = some (q, l)) : ∃ a b, st p k = some a ∧ walk st a.1 r = some b ∧ q = b.1 ∧ l = a.2 + b.2 := by
  rw [walk_cons] at h
  cases h1 : st p k with
  | none => rw [h1] at h; cases h
  | some a =>
    rw [h1] at h
    have h : (walk st a.1 r).map (fun b => (b.1, a.2 + b.2)) = some (q, l) := h
    cases h2 : walk st a.1 r with
    | none => rw [h2] at h; cases h
    | some b =>
      rw [h2] at h
      cases h
      exact ⟨a, b, rfl, h2, rfl, rfl⟩
theorem walk_cons_of {p : Int} {k : Nat} {r : List Nat} {a b : Int × Int} (h1 : st p k = some a) (h2 : walk st a.1 r = some b) : walk st p (k :: r) = some (b.1, a.2 + b.2) := by
  rw [walk_cons, h1]
  show (walk st a.1 r).map _ = _
  rw [h2]
  rfl
theorem waysS_sound : ∀ {n : Nat} {p : Int} {used : List Int}, ∀ a ∈ waysS st m e n p used, walk st p a.2 = some (e, a.1)
  | 0, p, used, a, ha => by
    unfold waysS at ha
    split at ha
    · rename_i h
      rw [List.mem_singleton.mp ha, h]
      rfl
    · cases ha
  | n + 1, p, used, a, ha => by
    unfold waysS at ha
    split at ha
    · rename_i h
      rw [List.mem_singleton.mp ha, h]
      rfl
    · obtain ⟨k, _, hk⟩ := List.mem_flatMap.mp ha
      cases hs : st p k with
      | none => rw [hs] at hk; cases hk
      | some q =>
        rw [hs] at hk
        simp only at hk
        split at hk
        · cases hk
        · obtain ⟨b, hb, rfl⟩ := List.mem_map.mp hk
          exact walk_cons_of hs (waysS_sound b hb)
theorem waysS_all {c : Int} (hk : ∀ p k a, st p k = some a → k < m ∧ 0 ≤ a.1 ∧ a.1 < c) (full : ∀ used : List Int, used.Nodup → (∀ x ∈ used, 0 ≤ x ∧ x < c) → c ≤ used.length → ∀ q, 0 ≤ q → q < c → q ∈ used) :
    ∀ {n : Nat} {r : List Nat} {p l : Int} {used : List Int}, used.Nodup → (∀ x ∈ used, 0 ≤ x ∧ x < c) → c ≤ used.length + n → Simp st e p used r → walk st p r = some (e, l) → (l, r) ∈ waysS st m e n p used
  | 0, [], p, l, used, _, _, _, hs, hw => by
    have hs : p = e := hs
    cases hw
    unfold waysS
    rw [if_pos hs]
    exact List.mem_singleton.mpr rfl
  | 0, k :: r, p, l, used, nd, hu, hc, hs, hw => by
    obtain ⟨_, a, ha, hn, _⟩ := hs
    obtain ⟨_, h0, h1⟩ := hk _ _ _ ha
    exact absurd (full used nd hu (by simpa using hc) a.1 h0 h1) hn
  | n + 1, [], p, l, used, _, _, _, hs, hw => by
    have hs : p = e := hs
    cases hw
    unfold waysS
    rw [if_pos hs]
    exact List.mem_singleton.mpr rfl
  | n + 1, k :: r, p, l, used, nd, hu, hc, hs, hw => by
    obtain ⟨hp, a, ha, hn, hs⟩ := hs
    obtain ⟨hkm, h0, h1⟩ := hk _ _ _ ha
    obtain ⟨a', b, e1, e2, e3, e4⟩ := walk_cons_some hw
    rw [ha] at e1
    cases e1
    have e2' : walk st a.1 r = some (e, b.2) := by rw [e2, e3]
    have ih := waysS_all hk full (n := n) (r := r) (p := a.1) (l := b.2) (used := used ++ [a.1])
      (by rw [List.nodup_append]; exact ⟨nd, by simp, fun x hx y hy => by rw [List.mem_singleton.mp hy]; exact fun z => hn (z ▸ hx)⟩)
      (fun x hx => by
        rcases List.mem_append.mp hx with h | h
        · exact hu x h
        · rw [List.mem_singleton.mp h]; exact ⟨h0, h1⟩)
      (by rw [List.length_append]; simp only [List.length_cons, List.length_nil]; omega) hs e2'
    unfold waysS
    rw [if_neg hp]
    refine List.mem_flatMap.mpr ⟨k, List.mem_range.mpr hkm, ?_⟩
    rw [ha]
    simp only
    rw [if_neg hn]
    exact List.mem_map.mpr ⟨_, ih, by rw [e4]⟩
theorem simp_or (hp : Pos st) {s : Int} : ∀ {r r0 : List Nat} {p l l0 : Int} {used : List Int}, walk st s r0 = some (p, l0) → (∀ q ∈ used, ∃ ra rb la, r0 = ra ++ rb ∧ walk st s ra = some (q, la)) → walk st p r = some (e, l) →
    Simp st e p used r ∨ ∃ r' l', walk st s r' = some (e, l') ∧ l' < l0 + l ∧ r'.length < r0.length + r.length
  | [], r0, p, l, l0, used, h0, hv, hw => by
    cases hw
    exact .inl rfl
  | k :: r, r0, p, l, l0, used, h0, hv, hw => by
    by_cases hpe : p = e
    · have h3 := walk_pos hp hw
      rw [List.length_cons] at h3
      exact .inr ⟨r0, l0, by rw [h0, hpe], by omega, by rw [List.length_cons]; omega⟩
    · obtain ⟨a, b, e1, e2, e3, e4⟩ := walk_cons_some hw
      have h1 := hp _ _ a.1 a.2 e1
      by_cases hm : a.1 ∈ used
      · obtain ⟨ra, rb, la, e5, e6⟩ := hv _ hm
        rw [e5, walk_app, e6] at h0
        have h0 : (walk st a.1 rb).map (fun b => (b.1, la + b.2)) = some (p, l0) := h0
        cases h7 : walk st a.1 rb with
        | none => rw [h7] at h0; cases h0
        | some w =>
          rw [h7] at h0
          cases h0
          have h8 := walk_pos hp (q := w.1) (l := w.2) h7
          refine .inr ⟨ra ++ r, la + b.2, ?_, by omega, by rw [e5, List.length_append, List.length_append, List.length_cons]; omega⟩
          rw [walk_app, e6]
          show (walk st a.1 r).map _ = _
          rw [e2, e3]
          rfl
      · have hsn : walk st s (r0 ++ [k]) = some (a.1, l0 + a.2) := walk_snoc h0 e1
        have hv2 : ∀ q ∈ used ++ [a.1], ∃ ra rb la, r0 ++ [k] = ra ++ rb ∧ walk st s ra = some (q, la) := fun q hq => by
          rcases List.mem_append.mp hq with h | h
          · obtain ⟨ra, rb, la, e5, e6⟩ := hv q h
            exact ⟨ra, rb ++ [k], la, by rw [e5, List.append_assoc], e6⟩
          · rw [List.mem_singleton.mp h]
            exact ⟨r0 ++ [k], [], _, by simp, hsn⟩
        rcases simp_or hp (r := r) (r0 := r0 ++ [k]) (p := a.1) (l := b.2) (used := used ++ [a.1]) hsn hv2 (by rw [e2, e3]) with h | ⟨r', l', g1, g2, g3⟩
        · exact .inl ⟨hpe, a, e1, hm, h⟩
        · refine .inr ⟨r', l', g1, by omega, ?_⟩
          rw [List.length_append] at g3
          simp only [List.length_cons, List.length_nil] at g3 ⊢
          try omega
theorem simp_le (hp : Pos st) {s : Int} : ∀ (n : Nat) {r : List Nat} {l : Int}, r.length ≤ n → walk st s r = some (e, l) → ∃ r' l', walk st s r' = some (e, l') ∧ Simp st e s [s] r' ∧ ¬ LtR (l, r) (l', r')
  | n, r, l, hn, hw => by
    rcases simp_or hp (r0 := []) (p := s) (l0 := 0) (used := [s]) rfl (fun q hq => ⟨[], [], 0, rfl, by rw [List.mem_singleton.mp hq]; rfl⟩) hw with h | ⟨r', l', g1, g2, g3⟩
    · exact ⟨r, l, hw, h, fun z => ltR_as z z⟩
    · cases n with
      | zero => simp only [List.length_nil] at g3; omega
      | succ n =>
        obtain ⟨r2, l2, k1, k2, k3⟩ := simp_le hp n (by simp only [List.length_nil] at g3; omega) g1
        refine ⟨r2, l2, k1, k2, ltR_tr k3 ?_⟩
        exact ltR_as (.inl (by show l' < l; omega))
theorem best_of_ways {c : Int} {n : Nat} {s : Int} (hp : Pos st) (hk : ∀ p k a, st p k = some a → k < m ∧ 0 ≤ a.1 ∧ a.1 < c) (full : ∀ used : List Int, used.Nodup → (∀ x ∈ used, 0 ≤ x ∧ x < c) → c ≤ used.length → ∀ q, 0 ≤ q → q < c → q ∈ used)
    (s0 : 0 ≤ s) (s1 : s < c) (hc : c ≤ 1 + n) : (∀ a ∈ waysS st m e n s [s], (∀ y ∈ waysS st m e n s [s], ¬ LtR y a) → Best st s e a) ∧ (waysS st m e n s [s] = [] → ∀ r l, walk st s r ≠ some (e, l)) := by
  have all : ∀ {r : List Nat} {l : Int}, walk st s r = some (e, l) → ∃ y ∈ waysS st m e n s [s], ¬ LtR (l, r) y := fun {r l} hw => by
    obtain ⟨r', l', k1, k2, k3⟩ := simp_le hp r.length (Nat.le_refl _) hw
    exact ⟨(l', r'), waysS_all hk full (by simp) (fun x hx => by rw [List.mem_singleton.mp hx]; exact ⟨s0, s1⟩) (by simp only [List.length_cons, List.length_nil]; omega) k2 k1, k3⟩
  refine ⟨fun a ha hl => ⟨waysS_sound a ha, fun l r hw => ?_⟩, fun h r l hw => ?_⟩
  · obtain ⟨y, hy, hn⟩ := all hw
    exact ltR_tr (hl y hy) hn
  · obtain ⟨y, hy, _⟩ := all hw
    rw [h] at hy
    cases hy
theorem flat_len {α : Type} {b : Nat} (f : Nat → List α) : ∀ (ks : List Nat), (∀ k ∈ ks, (f k).length ≤ b) → (ks.flatMap f).length ≤ ks.length * b
  | [], _ => by simp
  | k :: ks, h => by
    rw [List.flatMap_cons, List.length_append, List.length_cons, Nat.add_mul]
    have h1 := h k List.mem_cons_self
    have h2 := flat_len f ks fun j hj => h j (List.mem_cons_of_mem _ hj)
    omega
theorem waysS_len {b : Nat} (hm : m ≤ b) (hb : 1 ≤ b) : ∀ {n : Nat} {p : Int} {used : List Int}, (waysS st m e n p used).length ≤ b ^ n ∧ ∀ a ∈ waysS st m e n p used, a.2.length ≤ n
  | 0, p, used => by
    unfold waysS
    split
    · exact ⟨Nat.le_refl _, fun a ha => by rw [List.mem_singleton.mp ha]; exact Nat.le_refl _⟩
    · exact ⟨Nat.zero_le _, fun a ha => by cases ha⟩
  | n + 1, p, used => by
    unfold waysS
    split
    · refine ⟨?_, fun a ha => by rw [List.mem_singleton.mp ha]; exact Nat.zero_le _⟩
      exact Nat.one_le_pow _ _ hb
    · refine ⟨?_, fun a ha => ?_⟩
      · refine Nat.le_trans (flat_len (b := b ^ n) _ _ fun k _ => ?_) ?_
        · split
          · split
            · exact Nat.zero_le _
            · rw [List.length_map]
              exact (waysS_len hm hb).1
          · exact Nat.zero_le _
        · rw [List.length_range, Nat.pow_succ, Nat.mul_comm]
          exact Nat.mul_le_mul_left _ hm
      · obtain ⟨k, _, hk⟩ := List.mem_flatMap.mp ha
        split at hk
        · split at hk
          · cases hk
          · obtain ⟨c, hc, rfl⟩ := List.mem_map.mp hk
            have := (waysS_len hm hb).2 c hc
            simp only [List.length_cons]
            omega
        · cases hk
end
end GM

set_option Elab.async false
set_option linter.all false
set_option maxRecDepth 100000
set_option maxHeartbeats 4000000
namespace T1
open PySem PySem.Spec PyProof.Rows L2 C8 Fm
local macro_rules | `(tactic| walk_at "sim1") => `(tactic| with_reducible first
  | exact sim_nil | exact sim_var | exact sim_int | exact sim_str | exact sim_bl | exact sim_non | exact sim_raw
  | apply sim_cons | apply sim_op | apply sim_un | apply sim_tup | apply sim_lst
  | apply sim_CB | apply sim_if | apply sim_test | apply sim_B | apply sim_not | apply sim_and | apply sim_or
  | apply sim_andV | apply sim_orV | apply sim_notV | apply sim_chain | exact sim_nopart | apply sim_part
  | apply sim_sl | apply sim_BML | apply sim_BMS | apply sim_BM0S | apply sim_M1 | apply sim_M0
  | apply sim_fmt | apply sim_joined | exact SimJ.nil | apply SimJ.cons
  | exact s_I0i | exact s_I0b | exact s_Ii | exact s_Ui | exact s_eq | exact s_ne | exact s_isN | exact s_notN | exact s_ixL | exact s_ixT | exact s_ixS
  | exact s_cat | exact s_catA | exact s_rep | exact s_repT | exact s_in | exact s_slL | exact s_slA | exact s_slS | exact s_addS | exact s_leS | exact s_ltS
  | exact c_len | exact c_lenS | exact c_list | exact c_tuple | exact c_int1 | exact c_intS | exact c_strI | exact c_max2 | exact c_min2
  | exact m_append | exact m_extend | exact m_split | exact m_join | exact m_0b | exact m_1b
  | apply sim_call | exact simSpF
  | exact sim_name | exact sim_gnil | apply sim_gcons | apply sim_gtup | apply sim_gsub | exact set_list
  | exact sim_next | apply sim_seq | apply sim_cut | exact sim_break | exact sim_cont | apply sim_drop | apply sim_ret | exact sim_retN
  | apply sim_ifS | exact sim_never | apply sim_asg | apply sim_par | apply sim_aug
  | apply sim_for | apply sim_while | apply i_list | apply i_tup | apply i_rng1 | apply i_rng2 | apply i_str | apply i_enum | apply i_zip
  | apply sim_lc | exact sim_yes | exact sim_namew (by decide) | exact sim_gnilw | apply sim_gconsw | apply sim_gtupw
  | apply sim_fld | apply sim_con | apply sim_setFld | apply sim_make | apply sim_prop | apply sim_meth | apply sim_cmeth | exact c_isi | apply sim_isiT | exact s_eqD | exact s_neD
  | walk_at "sim2")
local macro_rules | `(tactic| walk_at "sim2") => `(tactic| fail)
local macro_rules | `(tactic| walk_at "sim") => `(tactic| repeat' (walk_at "sim1"))
/-- open the trees' reading as far as it goes by itself -/
local macro_rules | `(tactic| walk_at "fm") => `(tactic| simp (config := { failIfUnchanged := false }) only [fVar, fC, fOp, fUn, fNil, fCons, fTup, fLst, fCB, fIf, fTest, fNot, fAnd, fOr, fAndV, fOrV, fNotV, fChain, fNoPart, fPart, fI, fI0, fU, fEq, fNe, fIsN, fNotN, fIxL, fIxT, fIxS,
  fCat, fCatA, fRep, fRepT, fSlL, fSlA, fSlS, fSl, fLen, fLenS, fList, fTuple, fIntS, fStrI, fMax2, fMin2, fAppend, fExtend, fIn, fBM, fMS, fBMS, fBM0S, fAddS, fLeS, fLtS, fM0b, fM1b, fSplit, fJoin, fJoined, fJs,
  fName, fGNil, fGCons, fGTup, fSetL, fGSub, fNext, fSeq, fCut, fBreak, fCont, fDrop, fRet, fRetN, fIfS, fAsg, fPar, fAug, fCall, fFld, fCon, fSetFld, fMake, fProp, fMeth, fCMeth, fIsi, fIsiT, fEqD, fNeD, insAt_ref, insO_ins, fFmt, fmtS_i, fmtS_s, fmtOk_i, fmtOk_s, fIL, fIT, fIR1, fIR2, fIS, fIEn, fIZ,
  startL, List.map_cons, List.map_nil, List.length_cons, List.length_nil, List.cons_append, List.nil_append, List.replicate, List.getElem?_cons_zero, List.getElem?_cons_succ, List.set_cons_zero, List.set_cons_succ, Nat.reduceSub, Nat.reduceAdd,
  Option.some.injEq, Tr.int.injEq, Tr.str.injEq, Tr.bl.injEq, Tr.tup.injEq, Tr.ref.injEq, List.cons.injEq, exists_eq_left, exists_eq_left', exists_eq_right, true_and, and_true, and_self, exists_and_left, tupOf_tup, eqS_ii, eqS_ss, eqS_bb, eqS_ni, eqS_in, eqS_nn, isStr_s, isN_n, isN_i, isN_b, isN_s, isN_t, isN_r, noRaw_n, noRaw_i, noRaw_b, noRaw_s, noRaw_t, noRaw_r, and_assoc, reduceIte, Bool.false_eq_true, exists_const, lstAt_ref, seqAt_ref, seqAt_tup, refAt_ref, lstO_lst, app_assoc2, len_app1, at_kk, at_00, set_k, set_00, Nat.add_assoc, Option.map_some, Prod.mk.injEq, int_cast_inj, Nat.zero_le, decide_eq_true_eq, Bool.not_eq_true', decide_eq_false_iff_not, Nat.add_zero, implies_true, forall_const, ite_true, ite_false, if_true, if_false, decide_true, decide_false, Bool.not_true, Bool.not_false, asg_len, Option.isSome_some])
local macro_rules | `(tactic| walk_at "bel") => `(tactic| first | rfl | (simp (config := { failIfUnchanged := false }) only [belM, O.bel, bels_strs, bels_ints, belL, Tr.bel, Tr.bels, Bool.and_true, Bool.true_and, Bool.and_self, decide_eq_true_eq, Bool.and_eq_true, true_and, and_true, List.length_cons, List.length_nil, Nat.reduceAdd]; try omega))

local macro_rules | `(tactic| walk_at "sim2") => `(tactic| first | exact simNext | assumption | exact sim_dnew | apply sim_dnin | apply sim_din | apply sim_dput | apply sim_dget | apply sim_dget1 | exact c_listD | exact c_hpush | exact c_hpop | apply sim_truL | exact c_sum | exact c_sortI | apply sim_match | apply SimM2.cons | exact SimM2.nil | apply i_enumT | apply sim_truS | apply sim_listG | apply sim_lcG | apply sim_eitherG | apply sim_methG | apply sim_methJ | apply sim_either | apply sim_sortKey | apply sim_sortSet | (apply sim_raise0; assumption) | apply sim_plain | apply sim_cval)
local macro_rules | `(tactic| walk_at "sim1") => `(tactic| first | (with_reducible apply sim_callX; assumption) | (with_reducible apply sim_methX; assumption) | (with_reducible apply sim_makeX; assumption) | (with_reducible apply sim_makeKX; assumption) | (with_reducible apply sim_makeVSX; assumption) | (with_reducible apply sim_conA) | (with_reducible apply sim_sortSet))
local macro_rules | `(tactic| walk_at "fm2") => `(tactic| simp (config := { failIfUnchanged := false }) only [dm_app, dm_len, dm_at, dm_at0, dm_set, dm_set0, List.getElem?_cons_zero, List.getElem?_cons_succ, List.set_cons_zero, List.set_cons_succ, lstO_lst, Option.isSome_some, Option.map_some, Option.some.injEq, Prod.mk.injEq, Nat.add_assoc, Nat.reduceAdd, exists_eq_left', exists_eq_left, true_and, and_assoc, fRaise0, fPlain, fCVal, fNv, int1_i, fEither, fTruS, fIEnT, fMatch, fGoM, setAllT, fMakeK, fMakeVS, fMethJ, fEitherG, fListG, fSortKey, fSortSet, fConA, fDnew, fDNin, fDIn, fDPut, fDGet, fDGet1, fListD, fTruL, fHpush, fHpop, fSum, fSortI])
local macro_rules | `(tactic| walk_at "fd") => `(tactic| (walk_at "fm"; walk_at "fm2"; walk_at "fm"; walk_at "fm2"; walk_at "fm"))

local macro_rules | `(tactic| walk_at "sim1") => `(tactic| with_reducible apply sim_isiT)
local macro_rules | `(tactic| walk_at "sim2") => `(tactic| exact c_minP)
/-! ### the routes, by trying them -/
def wys (ls : List Lk) (rem : List Int) (ld e : Int) (n : Nat) (p : Int) (used : List Int) : List (Int × List Nat) := GM.waysS (stp ls rem ld) ls.length e n p used
def fsWy (n : Nat) : FSp := fun ts M P _ => ∃ (c : Int) (ls : List Lk) (rem : List Int) (here e ld : Int) (u : Nat) (used : List Int), ts = [.tup (ls.map lkT), remT rem, .int here, .int e, .int ld, .ref u] ∧ M[u]? = some (.lst (used.map Tr.int)) ∧
  rem.length = ls.length ∧ ls.length ≤ 9 ∧ n ≤ 5 ∧ (∀ l ∈ ls, goodLk c l) ∧ c ≤ 12 ∧ used.Nodup ∧ (∀ x ∈ used, 0 ≤ x ∧ x < c) ∧ c ≤ used.length + n ∧
  P (.ref M.length) (M ++ [.lst ((wys ls rem ld e n here used).map wT)])
def wyK (ls : List Lk) (rem : List Int) (ld e : Int) (n : Nat) (here : Int) (used : List Int) (k : Nat) : List (Int × List Nat) := match stp ls rem ld here k with
  | some a => if a.1 ∈ used then [] else (wys ls rem ld e n a.1 (used ++ [a.1])).map fun b => (a.2 + b.1, k :: b.2)
  | none => []
theorem any_mem {g : Int} : ∀ used : List Int, ((used.map Tr.int).any fun y => eqvT y (Tr.int g)) = decide (g ∈ used)
  | [] => rfl
  | x :: used => by
    rw [List.map_cons, List.any_cons, any_mem used]
    show (decide (x = g) || decide (g ∈ used)) = _
    by_cases h : x = g
    · simp [h]
    · simp [h, Ne.symm h]
theorem all_flat : ∀ used : List Int, (used.map Tr.int).all flatT = true
  | [] => rfl
  | x :: used => by
    rw [List.map_cons, List.all_cons, all_flat used]
    rfl
theorem wys_here {ls : List Lk} {rem : List Int} {ld e : Int} {n : Nat} {here : Int} {used : List Int} (h : here = e) : wys ls rem ld e n here used = [(0, [])] := by
  unfold wys
  cases n with
  | zero => unfold GM.waysS; rw [if_pos h]
  | succ n => unfold GM.waysS; rw [if_pos h]
theorem wys_step {ls : List Lk} {rem : List Int} {ld e : Int} {n : Nat} {here : Int} {used : List Int} (h : here ≠ e) : wys ls rem ld e (n + 1) here used = (List.range ls.length).flatMap (wyK ls rem ld e n here used) := by
  unfold wys GM.waysS
  rw [if_neg h]
  rfl
theorem wyK_len {ls : List Lk} {rem : List Int} {ld e : Int} {n : Nat} {here : Int} {used : List Int} (h9 : ls.length ≤ 9) (k : Nat) : (wyK ls rem ld e n here used k).length ≤ 9 ^ n := by
  unfold wyK
  split
  · split
    · exact Nat.zero_le _
    · rw [List.length_map]
      exact (GM.waysS_len h9 (by decide)).1
  · exact Nat.zero_le _
theorem full_of (c : Int) (used : List Int) (nd : used.Nodup) (hu : ∀ x ∈ used, 0 ≤ x ∧ x < c) (hc : c ≤ used.length) (q : Int) (h0 : 0 ≤ q) (h1 : q < c) : q ∈ used := by
  refine Classical.byContradiction fun hn => ?_
  have := nodup_le c.toNat (q :: used) (List.nodup_cons.mpr ⟨hn, nd⟩) fun x hx => by
    rcases List.mem_cons.mp hx with rfl | h
    · omega
    · have := hu x h
      omega
  rw [List.length_cons] at this
  omega
structure Cw (P : Program) (w : World) (K : PySem.W.Frag) (mg : Str → Option Value) (base : Heap) (k n : Nat) : Prop where
  _law_ways : Cal P w K mg base k "_law_ways" (spF K (fsWy n)) []
section
variable {P : Program} {w : World} {K : PySem.W.Frag} {mg : Str → Option Value} {base : Heap} {cs : ErrC}
theorem scWy : FnScope ["_law_links_here", "_law_lives", "_law_here", "_law_end", "_law_load", "_law_used", "_law_found", "_law_k", "_law_one", "_law_other", "_law_length", "_law_life_here", "_law_goal", "_law_more", "_law_rest"] ["_law_links_here", "_law_lives", "_law_here", "_law_end", "_law_load", "_law_used"] (fnScope s__law_ways) := fnScope_by (by decide +kernel)
theorem ok_wyN {f : Addr} {fd : FuncData} {k n : Nat} (F : Def K mg "_law_ways" s__law_ways f fd) (b : Binds K fd ["_law_links_here", "_law_lives", "_law_here", "_law_end", "_law_load", "_law_used"] []) (T : BR K mg cs) (C : Cw P w K mg base k n) : Cal P w K mg base (k + 1) "_law_ways" (spF K (fsWy (n + 1))) [] := by
  refine cal0 F b .nil scWy (fun vs H Q E h => ?_) (fun cdv A outer s H vs Q E hr h => ?_)
  · obtain ⟨ts, ρ, M, P, PX, r, m, ⟨c, ls, rem, here, e, ld, u, used, rfl, _⟩, o, ox⟩ := h
    exact r.len
  · refine ⟨_, (pss_cons (ps_if (pt_cmpR op_eq (pv 2) (pv 3) (nomark _)) (pss_one (ps_ret (pe_lst (pa_cons (pe_tup (pa_cons pe_int (pa_cons (pe_tup pa_nil) pa_nil))) pa_nil)))) pss_nil)
 (pss_cons (ps_set (i := 6) scWy.nd rfl (Or.inl rfl) (pe_lst pa_nil))
 (pss_cons (ps_for PassesOwn.never rfl (pi_range1 (by rfl) T.range (pa_cons (pe_callB call_len_seq (by rfl) T.len PySem.boot_len (pa_cons (pv 0) pa_nil)) pa_nil)) (pg_name (i := 7) scWy.nd rfl (Or.inl rfl)) (pss_cons (ps_asg (pe_ix ix_tup (pv 0) (pv 7) (fun _ _ => rfl)) (pg_tup rfl (pgs_cons (pg_name (i := 8) scWy.nd rfl (Or.inl rfl)) (pgs_cons (pg_name (i := 9) scWy.nd rfl (Or.inl rfl)) (pgs_cons (pg_name (i := 10) scWy.nd rfl (Or.inl rfl)) (pgs_cons (pg_name (i := 11) scWy.nd rfl (Or.inl rfl)) pgs_nil))))))
 (pss_one (ps_if (PW.pt (pw_and (pt_cmpR op_ge (pe_ix ix_tup (pv 1) (pv 7) (fun _ _ => rfl)) (pv 4) (nomark _)) (pw_and1 (pt_cmpR op_in_seq (pv 2) (pe_tup (pa_cons (pv 8) (pa_cons (pv 9) pa_nil))) (by rfl))))) (pss_cons (ps_set (i := 12) scWy.nd rfl (Or.inl rfl) (pe_op op_sub (pe_op op_add (pv 8) (pv 9)) (pv 2)))
 (pss_one (ps_if (pt_cmpR op_notIn_seq (pv 12) (pv 5) (by rfl)) (pss_one (ps_for PassesOwn.never rfl (pi_list (pe_c C._law_ways hr (by first | decide | omega) (by rfl) (pa_cons (pv 0) (pa_cons (pv 1) (pa_cons (pv 12) (pa_cons (pv 3) (pa_cons (pv 4) (pa_cons (pe_op op_cat (pv 5) (pe_lst (pa_cons (pv 12) pa_nil))) pa_nil)))))))) (pg_tup rfl (pgs_cons (pg_name (i := 13) scWy.nd rfl (Or.inl rfl)) (pgs_cons (pg_name (i := 14) scWy.nd rfl (Or.inl rfl)) pgs_nil))) (pss_one (ps_expr (pe_bm PySem.F.plainAttrs_list PySem.F.slot_list_append PySem.F.type_list_append mt_append (pv 6) (pa_cons (pe_tup (pa_cons (pe_op op_add (pv 10) (pv 13)) (pa_cons (pe_op op_catA (pe_tup (pa_cons (pv 7) pa_nil)) (pv 14)) pa_nil))) pa_nil)))))) pss_nil))) pss_nil))))
 (pss_one (ps_ret (pv 6)))))), ?_⟩
    obtain ⟨ts, ρ, M, P, PX, r, m, ⟨c, ls, rem, here, e, ld, u, used, rfl, hu, hrl, h9, h5, hg, hc12, hnd, hur, hcn, q⟩, o, ox⟩ := h
    try simp only [nox_K, cx_K]
    refine run_in r m o (by walk_at "sim") ?_
    walk_at "fd"
    have hM := m.belM
    have hul : u < List.length M := (List.getElem?_eq_some_iff.mp hu).1
    have hbw : ∀ (N : Nat) (zs : List (Int × List Nat)), belM N [O.lst (zs.map wT)] = true := fun N zs => by simp only [belM, O.bel, bel_ws, Bool.and_true]
    by_cases he : here = e
    · rw [if_pos he]
      rw [wys_here he] at q
      exact ⟨by rw [sizeLine_eq]; decide, by rw [sizeLine_eq]; decide, keep_whole (by simp) (by simp [Tr.bel]) (by rw [List.length_append]; exact belM_ext hM (hbw _ [(0, [])])) q⟩
    · rw [if_neg he]
      rw [wys_step he] at q
      unfold fFor
      walk_at "fd"
      refine ⟨by rw [List.length_map]; omega, by rw [List.length_map]; omega, fun i L2 M2 => ∃ v7 v8 v9 v10 v11 v12 v13 v14, L2 = [some (Tr.tup (List.map lkT ls)), some (remT rem), some (Tr.int here), some (Tr.int e), some (Tr.int ld), some (Tr.ref u), some (Tr.ref (List.length M)), v7, v8, v9, v10, v11, v12, v13, v14] ∧
        M2 = M ++ [.lst (((List.range i).flatMap (wyK ls rem ld e n here used)).map wT)], ⟨none, none, none, none, none, none, none, none, rfl, rfl⟩, ?_, ?_⟩
      · rintro i t L2 M2 hti ⟨v7, v8, v9, v10, v11, v12, v13, v14, rfl, rfl⟩
        obtain ⟨hi, rfl⟩ := rngT_get hti
        rw [Int.zero_add]
        rw [Int.toNat_natCast, List.length_map] at hi
        obtain ⟨l, hl⟩ : ∃ l, ls[i]? = some l := ⟨_, List.getElem?_eq_getElem hi⟩
        obtain ⟨rr, hr⟩ : ∃ r, rem[i]? = some r := ⟨_, List.getElem?_eq_getElem (by omega)⟩
        obtain ⟨g1, g2, g3, g4, g5, g6, g7, g8, g9'⟩ := hg l (List.mem_of_getElem? hl)
        have hst : stp ls rem ld here i = if ld ≤ rr then (beyond l here).map fun q => (q, l.2.2.1) else none := by
          unfold stp
          rw [hl, hr]
        have snoc : (List.range (i + 1)).flatMap (wyK ls rem ld e n here used) = (List.range i).flatMap (wyK ls rem ld e n here used) ++ wyK ls rem ld e n here used i := by
          rw [List.range_succ, List.flatMap_append]
          simp
        have put : ∀ (g : Mem) (zs : List (Int × List Nat)) (a7 a8 a9 a10 a11 a12 a13 a14 : Option Tr), zs = (List.range (i + 1)).flatMap (wyK ls rem ld e n here used) → Forget (List.length M + 1) (fun L2 M2 => ∃ v7 v8 v9 v10 v11 v12 v13 v14, L2 = [some (Tr.tup (List.map lkT ls)), some (remT rem), some (Tr.int here), some (Tr.int e), some (Tr.int ld), some (Tr.ref u), some (Tr.ref (List.length M)), v7, v8, v9, v10, v11, v12, v13, v14] ∧
            M2 = M ++ [.lst (((List.range (i + 1)).flatMap (wyK ls rem ld e n here used)).map wT)]) [some (Tr.tup (List.map lkT ls)), some (remT rem), some (Tr.int here), some (Tr.int e), some (Tr.int ld), some (Tr.ref u), some (Tr.ref (List.length M)), a7, a8, a9, a10, a11, a12, a13, a14] (M ++ ([.lst (zs.map wT)] ++ g)) := fun g zs a7 a8 a9 a10 a11 a12 a13 a14 hz => by
          subst hz
          refine forget_to (M := M) (L' := [some (Tr.tup (List.map lkT ls)), some (remT rem), some (Tr.int here), some (Tr.int e), some (Tr.int ld), some (Tr.ref u), some (Tr.ref (List.length M)), none, none, none, none, none, none, none, none]) (by simp) ⟨_, rfl, _, rfl, _, rfl, _, rfl, _, rfl, _, rfl, _, rfl, _, _, rfl, _, _, rfl, _, _, rfl, _, _, rfl, _, _, rfl, _, _, rfl, _, _, rfl, _, _, rfl, rfl⟩
            ⟨none, none, none, none, none, none, none, none, rfl, rfl⟩ ?_ hM (hbw _ _)
          simp only [belL, Tr.bel, remT, bel_lks, bel_ints, Bool.and_true, Bool.true_and, Bool.and_eq_true, decide_eq_true_eq, List.length_cons, List.length_nil]
          omega
        have hk0 : ld ≤ rr → beyond l here = none → wyK ls rem ld e n here used i = [] := fun h1 h2 => by
          unfold wyK
          rw [hst, if_pos h1, h2]
          rfl
        have hany : ([Tr.int l.1, Tr.int l.2.1].any fun y => eqvT y (Tr.int here)) = (decide (l.1 = here) || decide (l.2.1 = here)) := by
          simp only [List.any_cons, List.any_nil, eqvT, Bool.or_false]
          rfl
        walk_at "fd"
        refine ⟨_, atI_nat (by rw [List.getElem?_map, hl]; rfl), _, rfl, rfl, _, _, rfl, _, _, rfl, _, _, rfl, _, _, rfl, rfl, _, rfl, .int rr, atI_nat (by rw [List.getElem?_map, hr]; rfl), rr, rfl, ?_⟩
        by_cases h1 : ld ≤ rr
        · rw [if_pos h1] at hst ⊢
          refine ⟨by rw [sizeLine_eq]; decide, rfl, rfl, ?_⟩
          rw [hany]
          by_cases h2 : beyond l here = none
          · have hno : (decide (l.1 = here) || decide (l.2.1 = here)) = false := by
              unfold beyond at h2
              split at h2
              · cases h2
              · split at h2
                · cases h2
                · rename_i x y
                  simp [Ne.symm x, Ne.symm y]
            rw [hno, if_neg (by decide)]
            have := put [] ((List.range i).flatMap (wyK ls rem ld e n here used)) (some (.int i)) (some (.int l.1)) (some (.int l.2.1)) (some (.int l.2.2.1)) (some (.int l.2.2.2)) v12 v13 v14 (by rw [snoc, hk0 h1 h2, List.append_nil])
            rwa [List.append_nil] at this
          · obtain ⟨g, hgl⟩ := Option.ne_none_iff_exists'.mp h2
            have hyes : (decide (l.1 = here) || decide (l.2.1 = here)) = true ∧ l.1 + l.2.1 - here = g ∧ 0 ≤ g ∧ g < c := by
              unfold beyond at hgl
              split at hgl
              · rename_i x
                cases hgl
                refine ⟨by simp [x], by rw [x]; omega, g3, g4⟩
              · split at hgl
                · rename_i x
                  cases hgl
                  refine ⟨by simp [x], by rw [x]; omega, g1, g2⟩
                · cases hgl
            obtain ⟨hyes, hgoal, hg0, hg1⟩ := hyes
            rw [hyes, if_pos rfl]
            have hstp : stp ls rem ld here i = some (g, l.2.2.1) := by rw [hst, hgl]; rfl
            refine ⟨_, rfl, _, rfl, ?_⟩
            rw [hgoal]
            refine ⟨_, by rw [at_l hu]; rfl, rfl, all_flat used, ?_⟩
            rw [any_mem]
            by_cases hm : g ∈ used
            · rw [decide_eq_true hm, if_neg (by decide)]
              have := put [] ((List.range i).flatMap (wyK ls rem ld e n here used)) (some (.int i)) (some (.int l.1)) (some (.int l.2.1)) (some (.int l.2.2.1)) (some (.int l.2.2.2)) (some (.int g)) v13 v14 (by rw [snoc]; unfold wyK; rw [hstp]; simp only; rw [if_pos hm, List.append_nil])
              rwa [List.append_nil] at this
            · rw [decide_eq_false hm, if_pos rfl]
              have hul12 := nodup_le 12 used hnd fun x hx => by
                have := hur x hx
                omega
              refine ⟨by rw [sizeLine_eq]; decide, _, by rw [at_l hu]; rfl, by rw [List.length_map, sizeLine_eq]; omega, ?_⟩
              have hK : wyK ls rem ld e n here used i = (wys ls rem ld e n g (used ++ [g])).map fun b => (l.2.2.1 + b.1, i :: b.2) := by
                unfold wyK
                rw [hstp]
                simp only
                rw [if_neg hm]
              have hWl : (wys ls rem ld e n g (used ++ [g])).length ≤ 9 ^ n ∧ ∀ a ∈ wys ls rem ld e n g (used ++ [g]), a.2.length ≤ n := GM.waysS_len h9 (by decide)
              have hFl := GM.flat_len (b := 9 ^ n) (wyK ls rem ld e n here used) (List.range i) fun k _ => wyK_len h9 k
              have h9n : 9 ^ n ≤ 9 ^ 5 := Nat.pow_le_pow_right (by decide) (by omega)
              have h95 : 9 ^ 5 = 59049 := by decide
              have hFl2 : ((List.range i).flatMap (wyK ls rem ld e n here used)).length ≤ 9 * 59049 := Nat.le_trans hFl (by rw [List.length_range]; exact Nat.mul_le_mul (by omega) (by omega))
              refine ⟨c, ls, rem, g, e, ld, _, used ++ [g], rfl, by rw [at_k, List.map_append]; rfl, hrl, h9, by omega, hg, hc12, by rw [List.nodup_append]; exact ⟨hnd, by simp, fun x hx y hy => by rw [List.mem_singleton.mp hy]; exact fun z => hm (by rw [z] at hx; exact hx)⟩, fun x hx => by
                rcases List.mem_append.mp hx with h | h
                · exact hur x h
                · rw [List.mem_singleton.mp h]; exact ⟨hg0, hg1⟩, by rw [List.length_append]; simp only [List.length_cons, List.length_nil]; omega, ?_⟩
              generalize wys ls rem ld e n g (used ++ [g]) = ws at hK hWl ⊢
              generalize (List.range i).flatMap (wyK ls rem ld e n here used) = acc at snoc hFl2 put ⊢
              walk_at "fd"
              refine ⟨fun j L2 M2 => ∃ v13 v14, L2 = [some (Tr.tup (List.map lkT ls)), some (remT rem), some (Tr.int here), some (Tr.int e), some (Tr.int ld), some (Tr.ref u), some (Tr.ref (List.length M)), some (Tr.int i), some (Tr.int l.1), some (Tr.int l.2.1), some (Tr.int l.2.2.1), some (Tr.int l.2.2.2), some (Tr.int g), v13, v14] ∧
                M2 = M ++ [.lst ((acc ++ (ws.take j).map fun b => (l.2.2.1 + b.1, i :: b.2)).map wT), .lst [.int g], .lst (used.map Tr.int ++ [.int g]), .lst (ws.map wT)], ⟨v13, v14, rfl, by simp⟩, ?_, ?_, ?_⟩
              · rintro j L2 M2 _ ⟨u13, u14, rfl, rfl⟩
                rw [at_k]
                rfl
              · rintro j t L2 M2 htj ⟨u13, u14, rfl, rfl⟩
                rw [List.getElem?_map] at htj
                cases ha : ws[j]? with
                | none => rw [ha] at htj; cases htj
                | some a =>
                  rw [ha] at htj
                  cases htj
                  have hj := (List.getElem?_eq_some_iff.mp ha).1
                  have haL := hWl.2 a (List.mem_of_getElem? ha)
                  walk_at "fd"
                  refine ⟨_, rfl, rfl, _, _, rfl, _, _, rfl, rfl, a.1, rfl, by rw [sizeLine_eq]; decide, a.2.map (fun i : Nat => Tr.int (i : Int)), rfl, by rw [List.length_map, sizeLine_eq]; omega, by rw [sizeLine_eq]; decide, by rw [List.length_map, List.length_append, List.length_map, List.length_take, sizeLine_eq]; omega, ?_⟩
                  have ee : List.map wT (acc ++ (ws.take j).map fun b => (l.2.2.1 + b.1, i :: b.2)) ++ [Tr.tup [Tr.int (l.2.2.1 + a.1), Tr.tup (Tr.int (i : Int) :: a.2.map (fun i : Nat => Tr.int (i : Int)))]] = List.map wT (acc ++ (ws.take (j + 1)).map fun b => (l.2.2.1 + b.1, i :: b.2)) := by
                    rw [List.take_add_one, ha, List.map_append, List.map_append, List.map_append, List.map_append, ← List.append_assoc]
                    rfl
                  rw [ee]
                  refine forget_same (L' := [some (Tr.tup (List.map lkT ls)), some (remT rem), some (Tr.int here), some (Tr.int e), some (Tr.int ld), some (Tr.ref u), some (Tr.ref (List.length M)), some (Tr.int i), some (Tr.int l.1), some (Tr.int l.2.1), some (Tr.int l.2.2.1), some (Tr.int l.2.2.2), some (Tr.int g), none, none]) ⟨_, rfl, _, rfl, _, rfl, _, rfl, _, rfl, _, rfl, _, rfl, _, rfl, _, rfl, _, rfl, _, rfl, _, rfl, _, rfl, _, _, rfl, _, _, rfl, rfl⟩
                    ⟨none, none, rfl, rfl⟩ ⟨by simp, ?_⟩ (belM_app2 hM ?_)
                  · simp only [belL, Tr.bel, remT, bel_lks, bel_ints, Bool.and_true, Bool.true_and, Bool.and_eq_true, decide_eq_true_eq, List.length_append, List.length_cons, List.length_nil]
                    omega
                  · have b1 : ∀ N, Tr.bels N (used.map Tr.int ++ [Tr.int g]) = true := fun N => by
                      have := bels_ints (n := N) (used ++ [g])
                      rwa [List.map_append] at this
                    simp only [belM, O.bel, bel_ws, b1, Bool.and_true, Bool.true_and]
                    rfl
              · rintro L2 M2 ⟨u13, u14, rfl, rfl⟩
                rw [List.length_map, List.take_of_length_le (Nat.le_refl _)]
                exact put _ _ _ _ _ _ _ _ _ _ (by rw [snoc, hK])
        · rw [if_neg h1] at hst ⊢
          have := put [] ((List.range i).flatMap (wyK ls rem ld e n here used)) (some (.int i)) (some (.int l.1)) (some (.int l.2.1)) (some (.int l.2.2.1)) (some (.int l.2.2.2)) v12 v13 v14 (by rw [snoc]; unfold wyK; rw [hst, List.append_nil])
          rwa [List.append_nil] at this
      · rintro L2 M2 ⟨v7, v8, v9, v10, v11, v12, v13, v14, rfl, rfl⟩
        rw [rngT_len, Int.toNat_natCast, List.length_map]
        walk_at "fd"
        exact keep_whole (by simp) (by simp [Tr.bel]) (by rw [List.length_append]; exact belM_ext hM (hbw _ _)) q
theorem ok_wy0 {f : Addr} {fd : FuncData} (F : Def K mg "_law_ways" s__law_ways f fd) (b : Binds K fd ["_law_links_here", "_law_lives", "_law_here", "_law_end", "_law_load", "_law_used"] []) (T : BR K mg cs) : Cal P w K mg base 1 "_law_ways" (spF K (fsWy 0)) [] := by
  refine cal0 F b .nil scWy (fun vs H Q E h => ?_) (fun cdv A outer s H vs Q E hr h => ?_)
  · obtain ⟨ts, ρ, M, P, PX, r, m, ⟨c, ls, rem, here, e, ld, u, used, rfl, _⟩, o, ox⟩ := h
    exact r.len
  · refine ⟨_, (pss_cons (ps_if (pt_cmpR op_eq (pv 2) (pv 3) (nomark _)) (pss_one (ps_ret (pe_lst (pa_cons (pe_tup (pa_cons pe_int (pa_cons (pe_tup pa_nil) pa_nil))) pa_nil)))) pss_nil)
 (pss_cons (ps_set (i := 6) scWy.nd rfl (Or.inl rfl) (pe_lst pa_nil))
 (pss_cons (ps_for PassesOwn.never rfl (pi_range1 (by rfl) T.range (pa_cons (pe_callB call_len_seq (by rfl) T.len PySem.boot_len (pa_cons (pv 0) pa_nil)) pa_nil)) (pg_name (i := 7) scWy.nd rfl (Or.inl rfl)) (pss_cons (ps_asg (pe_ix ix_tup (pv 0) (pv 7) (fun _ _ => rfl)) (pg_tup rfl (pgs_cons (pg_name (i := 8) scWy.nd rfl (Or.inl rfl)) (pgs_cons (pg_name (i := 9) scWy.nd rfl (Or.inl rfl)) (pgs_cons (pg_name (i := 10) scWy.nd rfl (Or.inl rfl)) (pgs_cons (pg_name (i := 11) scWy.nd rfl (Or.inl rfl)) pgs_nil))))))
 (pss_one (ps_if (PW.pt (pw_and (pt_cmpR op_ge (pe_ix ix_tup (pv 1) (pv 7) (fun _ _ => rfl)) (pv 4) (nomark _)) (pw_and1 (pt_cmpR op_in_seq (pv 2) (pe_tup (pa_cons (pv 8) (pa_cons (pv 9) pa_nil))) (by rfl))))) (pss_cons (ps_set (i := 12) scWy.nd rfl (Or.inl rfl) (pe_op op_sub (pe_op op_add (pv 8) (pv 9)) (pv 2)))
 (pss_one (ps_if (pt_cmpR op_notIn_seq (pv 12) (pv 5) (by rfl)) (pss_one ps_never) pss_nil))) pss_nil))))
 (pss_one (ps_ret (pv 6)))))), ?_⟩
    obtain ⟨ts, ρ, M, P, PX, r, m, ⟨c, ls, rem, here, e, ld, u, used, rfl, hu, hrl, h9, h5, hg, hc12, hnd, hur, hcn, q⟩, o, ox⟩ := h
    try simp only [nox_K, cx_K]
    refine run_in r m o (by walk_at "sim") ?_
    walk_at "fd"
    have hM := m.belM
    have hul : u < List.length M := (List.getElem?_eq_some_iff.mp hu).1
    have hbw : ∀ (N : Nat) (zs : List (Int × List Nat)), belM N [O.lst (zs.map wT)] = true := fun N zs => by simp only [belM, O.bel, bel_ws, Bool.and_true]
    by_cases he : here = e
    · rw [if_pos he]
      rw [wys_here he] at q
      exact ⟨by rw [sizeLine_eq]; decide, by rw [sizeLine_eq]; decide, keep_whole (by simp) (by simp [Tr.bel]) (by rw [List.length_append]; exact belM_ext hM (hbw _ [(0, [])])) q⟩
    · rw [if_neg he]
      rw [show wys ls rem ld e 0 here used = [] from by unfold wys GM.waysS; rw [if_neg he]] at q
      unfold fFor
      walk_at "fd"
      refine ⟨by rw [List.length_map]; omega, by rw [List.length_map]; omega, fun i L2 M2 => ∃ v7 v8 v9 v10 v11 v12 v13 v14, L2 = [some (Tr.tup (List.map lkT ls)), some (remT rem), some (Tr.int here), some (Tr.int e), some (Tr.int ld), some (Tr.ref u), some (Tr.ref (List.length M)), v7, v8, v9, v10, v11, v12, v13, v14] ∧
        M2 = M ++ [.lst []], ⟨none, none, none, none, none, none, none, none, rfl, rfl⟩, ?_, ?_⟩
      · rintro i t L2 M2 hti ⟨v7, v8, v9, v10, v11, v12, v13, v14, rfl, rfl⟩
        obtain ⟨hi, rfl⟩ := rngT_get hti
        rw [Int.zero_add]
        rw [Int.toNat_natCast, List.length_map] at hi
        obtain ⟨l, hl⟩ : ∃ l, ls[i]? = some l := ⟨_, List.getElem?_eq_getElem hi⟩
        obtain ⟨rr, hr⟩ : ∃ r, rem[i]? = some r := ⟨_, List.getElem?_eq_getElem (by omega)⟩
        obtain ⟨g1, g2, g3, g4, g5, g6, g7, g8, g9'⟩ := hg l (List.mem_of_getElem? hl)
        have put : ∀ (a7 a8 a9 a10 a11 a12 a13 a14 : Option Tr), Forget (List.length M + 1) (fun L2 M2 => ∃ v7 v8 v9 v10 v11 v12 v13 v14, L2 = [some (Tr.tup (List.map lkT ls)), some (remT rem), some (Tr.int here), some (Tr.int e), some (Tr.int ld), some (Tr.ref u), some (Tr.ref (List.length M)), v7, v8, v9, v10, v11, v12, v13, v14] ∧
            M2 = M ++ [.lst []]) [some (Tr.tup (List.map lkT ls)), some (remT rem), some (Tr.int here), some (Tr.int e), some (Tr.int ld), some (Tr.ref u), some (Tr.ref (List.length M)), a7, a8, a9, a10, a11, a12, a13, a14] (M ++ [.lst []]) := fun a7 a8 a9 a10 a11 a12 a13 a14 => by
          refine forget_same (L' := [some (Tr.tup (List.map lkT ls)), some (remT rem), some (Tr.int here), some (Tr.int e), some (Tr.int ld), some (Tr.ref u), some (Tr.ref (List.length M)), none, none, none, none, none, none, none, none]) ⟨_, rfl, _, rfl, _, rfl, _, rfl, _, rfl, _, rfl, _, rfl, _, _, rfl, _, _, rfl, _, _, rfl, _, _, rfl, _, _, rfl, _, _, rfl, _, _, rfl, _, _, rfl, rfl⟩
            ⟨none, none, none, none, none, none, none, none, rfl, rfl⟩ ⟨by simp, ?_⟩ (belM_app2 hM (hbw _ []))
          simp only [belL, Tr.bel, remT, bel_lks, bel_ints, Bool.and_true, Bool.true_and, Bool.and_eq_true, decide_eq_true_eq, List.length_append, List.length_cons, List.length_nil]
          omega
        have hany : ([Tr.int l.1, Tr.int l.2.1].any fun y => eqvT y (Tr.int here)) = (decide (l.1 = here) || decide (l.2.1 = here)) := by
          simp only [List.any_cons, List.any_nil, eqvT, Bool.or_false]
          rfl
        walk_at "fd"
        refine ⟨_, atI_nat (by rw [List.getElem?_map, hl]; rfl), _, rfl, rfl, _, _, rfl, _, _, rfl, _, _, rfl, _, _, rfl, rfl, _, rfl, .int rr, atI_nat (by rw [List.getElem?_map, hr]; rfl), rr, rfl, ?_⟩
        by_cases h1 : ld ≤ rr
        · rw [if_pos h1]
          refine ⟨by rw [sizeLine_eq]; decide, rfl, rfl, ?_⟩
          rw [hany]
          by_cases h2 : (decide (l.1 = here) || decide (l.2.1 = here)) = true
          · rw [if_pos h2]
            refine ⟨_, rfl, _, rfl, _, by rw [at_l hu]; rfl, rfl, all_flat used, ?_⟩
            have hg2 : 0 ≤ l.1 + l.2.1 - here ∧ l.1 + l.2.1 - here < c := by
              rw [Bool.or_eq_true, decide_eq_true_eq, decide_eq_true_eq] at h2
              omega
            rw [any_mem, decide_eq_true (full_of c used hnd hur (by simpa using hcn) _ hg2.1 hg2.2), if_neg (by decide)]
            exact put _ _ _ _ _ _ _ _
          · rw [if_neg h2]
            exact put _ _ _ _ _ _ _ _
        · rw [if_neg h1]
          exact put _ _ _ _ _ _ _ _
      · rintro L2 M2 ⟨v7, v8, v9, v10, v11, v12, v13, v14, rfl, rfl⟩
        walk_at "fd"
        exact keep_whole (by simp) (by simp [Tr.bel]) (by rw [List.length_append]; exact belM_ext hM (hbw _ [])) q
end
end T1

set_option Elab.async false
set_option linter.all false
set_option maxRecDepth 100000
set_option maxHeartbeats 4000000
namespace T1
open PySem PySem.Spec PyProof.Rows L2 C8 Fm
local macro_rules | `(tactic| walk_at "sim1") => `(tactic| with_reducible first
  | exact sim_nil | exact sim_var | exact sim_int | exact sim_str | exact sim_bl | exact sim_non | exact sim_raw
  | apply sim_cons | apply sim_op | apply sim_un | apply sim_tup | apply sim_lst
  | apply sim_CB | apply sim_if | apply sim_test | apply sim_B | apply sim_not | apply sim_and | apply sim_or
  | apply sim_andV | apply sim_orV | apply sim_notV | apply sim_chain | exact sim_nopart | apply sim_part
  | apply sim_sl | apply sim_BML | apply sim_BMS | apply sim_BM0S | apply sim_M1 | apply sim_M0
  | apply sim_fmt | apply sim_joined | exact SimJ.nil | apply SimJ.cons
  | exact s_I0i | exact s_I0b | exact s_Ii | exact s_Ui | exact s_eq | exact s_ne | exact s_isN | exact s_notN | exact s_ixL | exact s_ixT | exact s_ixS
  | exact s_cat | exact s_catA | exact s_rep | exact s_repT | exact s_in | exact s_slL | exact s_slA | exact s_slS | exact s_addS | exact s_leS | exact s_ltS
  | exact c_len | exact c_lenS | exact c_list | exact c_tuple | exact c_int1 | exact c_intS | exact c_strI | exact c_max2 | exact c_min2
  | exact m_append | exact m_extend | exact m_split | exact m_join | exact m_0b | exact m_1b
  | apply sim_call | exact simSpF
  | exact sim_name | exact sim_gnil | apply sim_gcons | apply sim_gtup | apply sim_gsub | exact set_list
  | exact sim_next | apply sim_seq | apply sim_cut | exact sim_break | exact sim_cont | apply sim_drop | apply sim_ret | exact sim_retN
  | apply sim_ifS | exact sim_never | apply sim_asg | apply sim_par | apply sim_aug
  | apply sim_for | apply sim_while | apply i_list | apply i_tup | apply i_rng1 | apply i_rng2 | apply i_str | apply i_enum | apply i_zip
  | apply sim_lc | exact sim_yes | exact sim_namew (by decide) | exact sim_gnilw | apply sim_gconsw | apply sim_gtupw
  | apply sim_fld | apply sim_con | apply sim_setFld | apply sim_make | apply sim_prop | apply sim_meth | apply sim_cmeth | exact c_isi | apply sim_isiT | exact s_eqD | exact s_neD
  | walk_at "sim2")
local macro_rules | `(tactic| walk_at "sim2") => `(tactic| fail)
local macro_rules | `(tactic| walk_at "sim") => `(tactic| repeat' (walk_at "sim1"))
/-- open the trees' reading as far as it goes by itself -/
local macro_rules | `(tactic| walk_at "fm") => `(tactic| simp (config := { failIfUnchanged := false }) only [fVar, fC, fOp, fUn, fNil, fCons, fTup, fLst, fCB, fIf, fTest, fNot, fAnd, fOr, fAndV, fOrV, fNotV, fChain, fNoPart, fPart, fI, fI0, fU, fEq, fNe, fIsN, fNotN, fIxL, fIxT, fIxS,
  fCat, fCatA, fRep, fRepT, fSlL, fSlA, fSlS, fSl, fLen, fLenS, fList, fTuple, fIntS, fStrI, fMax2, fMin2, fAppend, fExtend, fIn, fBM, fMS, fBMS, fBM0S, fAddS, fLeS, fLtS, fM0b, fM1b, fSplit, fJoin, fJoined, fJs,
  fName, fGNil, fGCons, fGTup, fSetL, fGSub, fNext, fSeq, fCut, fBreak, fCont, fDrop, fRet, fRetN, fIfS, fAsg, fPar, fAug, fCall, fFld, fCon, fSetFld, fMake, fProp, fMeth, fCMeth, fIsi, fIsiT, fEqD, fNeD, insAt_ref, insO_ins, fFmt, fmtS_i, fmtS_s, fmtOk_i, fmtOk_s, fIL, fIT, fIR1, fIR2, fIS, fIEn, fIZ,
  startL, List.map_cons, List.map_nil, List.length_cons, List.length_nil, List.cons_append, List.nil_append, List.replicate, List.getElem?_cons_zero, List.getElem?_cons_succ, List.set_cons_zero, List.set_cons_succ, Nat.reduceSub, Nat.reduceAdd,
  Option.some.injEq, Tr.int.injEq, Tr.str.injEq, Tr.bl.injEq, Tr.tup.injEq, Tr.ref.injEq, List.cons.injEq, exists_eq_left, exists_eq_left', exists_eq_right, true_and, and_true, and_self, exists_and_left, tupOf_tup, eqS_ii, eqS_ss, eqS_bb, eqS_ni, eqS_in, eqS_nn, isStr_s, isN_n, isN_i, isN_b, isN_s, isN_t, isN_r, noRaw_n, noRaw_i, noRaw_b, noRaw_s, noRaw_t, noRaw_r, and_assoc, reduceIte, Bool.false_eq_true, exists_const, lstAt_ref, seqAt_ref, seqAt_tup, refAt_ref, lstO_lst, app_assoc2, len_app1, at_kk, at_00, set_k, set_00, Nat.add_assoc, Option.map_some, Prod.mk.injEq, int_cast_inj, Nat.zero_le, decide_eq_true_eq, Bool.not_eq_true', decide_eq_false_iff_not, Nat.add_zero, implies_true, forall_const, ite_true, ite_false, if_true, if_false, decide_true, decide_false, Bool.not_true, Bool.not_false, asg_len, Option.isSome_some])
local macro_rules | `(tactic| walk_at "bel") => `(tactic| first | rfl | (simp (config := { failIfUnchanged := false }) only [belM, O.bel, bels_strs, bels_ints, belL, Tr.bel, Tr.bels, Bool.and_true, Bool.true_and, Bool.and_self, decide_eq_true_eq, Bool.and_eq_true, true_and, and_true, List.length_cons, List.length_nil, Nat.reduceAdd]; try omega))

local macro_rules | `(tactic| walk_at "sim2") => `(tactic| first | exact simNext | assumption | exact sim_dnew | apply sim_dnin | apply sim_din | apply sim_dput | apply sim_dget | apply sim_dget1 | exact c_listD | exact c_hpush | exact c_hpop | apply sim_truL | exact c_sum | exact c_sortI | apply sim_match | apply SimM2.cons | exact SimM2.nil | apply i_enumT | apply sim_truS | apply sim_listG | apply sim_lcG | apply sim_eitherG | apply sim_methG | apply sim_methJ | apply sim_either | apply sim_sortKey | apply sim_sortSet | (apply sim_raise0; assumption) | apply sim_plain | apply sim_cval)
local macro_rules | `(tactic| walk_at "sim1") => `(tactic| first | (with_reducible apply sim_callX; assumption) | (with_reducible apply sim_methX; assumption) | (with_reducible apply sim_makeX; assumption) | (with_reducible apply sim_makeKX; assumption) | (with_reducible apply sim_makeVSX; assumption) | (with_reducible apply sim_conA) | (with_reducible apply sim_sortSet))
local macro_rules | `(tactic| walk_at "fm2") => `(tactic| simp (config := { failIfUnchanged := false }) only [dm_app, dm_len, dm_at, dm_at0, dm_set, dm_set0, List.getElem?_cons_zero, List.getElem?_cons_succ, List.set_cons_zero, List.set_cons_succ, lstO_lst, Option.isSome_some, Option.map_some, Option.some.injEq, Prod.mk.injEq, Nat.add_assoc, Nat.reduceAdd, exists_eq_left', exists_eq_left, true_and, and_assoc, fRaise0, fPlain, fCVal, fNv, int1_i, fEither, fTruS, fIEnT, fMatch, fGoM, setAllT, fMakeK, fMakeVS, fMethJ, fEitherG, fListG, fSortKey, fSortSet, fConA, fDnew, fDNin, fDIn, fDPut, fDGet, fDGet1, fListD, fTruL, fHpush, fHpop, fSum, fSortI])
local macro_rules | `(tactic| walk_at "fd") => `(tactic| (walk_at "fm"; walk_at "fm2"; walk_at "fm"; walk_at "fm2"; walk_at "fm"))

local macro_rules | `(tactic| walk_at "sim2") => `(tactic| exact c_minP)
/-! ### the first route, by trying -/
theorem da_rt {M : Mem} : ∀ r : List Nat, DaAll M (r.map fun i : Nat => Tr.int (i : Int)) (dr r)
  | [] => .nil
  | i :: r => .cons (.int _) (da_rt r)
theorem da_w {M : Mem} (a : Int × List Nat) : Da M (wT a) (MNx.rdD a) := .tup (.cons (.int _) (.cons (.tup (da_rt a.2)) .nil))
theorem da_ws {M : Mem} : ∀ zs : List (Int × List Nat), DaAll M (zs.map wT) (zs.map MNx.rdD)
  | [] => .nil
  | z :: zs => .cons (da_w z) (da_ws zs)
theorem lay_rds : ∀ zs : List (Int × List Nat), PyData.canLayAll0 (zs.map MNx.rdD) = true
  | [] => rfl
  | z :: zs => by
    rw [List.map_cons, PyData.canLayAll0, MNx.lay_rd, lay_rds zs]
    rfl
theorem dep_rds : ∀ zs : List (Int × List Nat), PyData.depthAll (zs.map MNx.rdD) ≤ 2
  | [] => Nat.zero_le _
  | z :: zs => by
    rw [List.map_cons, PyData.depthAll]
    refine Nat.max_le.mpr ⟨?_, dep_rds zs⟩
    unfold MNx.rdD
    simp [PyData.depth, PyData.depthAll, dep_dr]
theorem shp_rds (zs : List (Int × List Nat)) : SeqAt.shaped (.list (zs.map MNx.rdD)) = true := by
  unfold SeqAt.shaped
  have := dep_rds zs
  rw [PyData.canLay0, lay_rds, PyData.depth]
  exact decide_eq_true (by omega)
theorem eqv_nil (zs : List (Int × List Nat)) : PyData.eqv (.list (zs.map MNx.rdD)) (.list []) = zs.isEmpty := by
  cases zs with
  | nil => simp [PyData.eqv, PyData.eqvAll]
  | cons z zs => simp [PyData.eqv, PyData.eqvAll]
theorem stp_k {c : Int} {ls : List Lk} {rem : List Int} {ld : Int} (hg : ∀ l ∈ ls, goodLk c l) (p : Int) (k : Nat) (a : Int × Int) (h : stp ls rem ld p k = some a) : k < ls.length ∧ 0 ≤ a.1 ∧ a.1 < c ∧ 1 ≤ a.2 := by
  unfold stp at h
  cases e : ls[k]? with
  | none => rw [e] at h; cases h
  | some l =>
    rw [e] at h
    obtain ⟨h1, h2, h3, h4, h5, h6, h7, _⟩ := hg l (List.mem_of_getElem? e)
    cases e2 : rem[k]? with
    | none => rw [e2] at h; cases h
    | some r =>
      rw [e2] at h
      simp only at h
      split at h
      · unfold beyond at h
        refine ⟨(List.getElem?_eq_some_iff.mp e).1, ?_⟩
        split at h
        · cases h; exact ⟨h3, h4, h6⟩
        · split at h
          · cases h; exact ⟨h1, h2, h6⟩
          · cases h
      · cases h
def fsWay : FSp := fun ts M P _ => ∃ (c : Int) (ls : List Lk) (rem : List Int) (a b ld : Int), ts = [.tup (ls.map lkT), remT rem, .tup [.int a, .int b, .int ld]] ∧ rem.length = ls.length ∧ ls.length ≤ 9 ∧ c ≤ 6 ∧ (∀ l ∈ ls, goodLk c l) ∧ 0 ≤ a ∧ a < c ∧ ∀ t, ShortT (stp ls rem ld) a b t → P t M
section
variable {P : Program} {w : World} {K : PySem.W.Frag} {mg : Str → Option Value} {base : Heap} {cs : ErrC}
theorem scWay : FnScope ["_law_links_here", "_law_lives", "_law_trip", "_law_found"] ["_law_links_here", "_law_lives", "_law_trip"] (fnScope s__law_way) := fnScope_by (by decide +kernel)
theorem ok_way {f : Addr} {fd : FuncData} (F : Def K mg "_law_way" s__law_way f fd) (b : Binds K fd ["_law_links_here", "_law_lives", "_law_trip"] []) (T : BR K mg cs) (C : Cw P w K mg base 6 5) : Cal P w K mg base 7 "_law_way" (spF K fsWay) [] := by
  refine cal0 F b .nil scWay (fun vs H Q E h => ?_) (fun cdv A outer s H vs Q E hr h => ?_)
  · obtain ⟨ts, ρ, M, P, PX, r, m, ⟨c, ls, rem, a, b, ld, rfl, _⟩, o, ox⟩ := h
    exact r.len
  · refine ⟨_, (pss_cons (ps_set (i := 3) scWay.nd rfl (Or.inl rfl) (pe_c C._law_ways hr (by first | decide | omega) (by rfl) (pa_cons (pv 0) (pa_cons (pv 1) (pa_cons (pe_ix ix_tup (pv 2) pe_int (fun _ _ => rfl)) (pa_cons (pe_ix ix_tup (pv 2) pe_int (fun _ _ => rfl)) (pa_cons (pe_ix ix_tup (pv 2) pe_int (fun _ _ => rfl)) (pa_cons (pe_lst (pa_cons (pe_ix ix_tup (pv 2) pe_int (fun _ _ => rfl)) pa_nil)) pa_nil))))))))
 (pss_one (ps_ret (pe_ifExp (pt_cmpR (op_neD hr.units) (pv 3) (pe_lst pa_nil) (nomark _)) (pe_ix ix_tup (pe_callB (MNx.cr_minP rfl hr.units) (by rfl) T.min (by decide +kernel) (pa_cons (pv 3) pa_nil)) pe_int (fun _ _ => rfl)) pe_non)))), ?_⟩
    obtain ⟨ts, ρ, M, P, PX, r, m, ⟨c, ls, rem, a, b, ld, rfl, hrl, h9, hc6, hg, ha0, ha1, q⟩, o, ox⟩ := h
    try simp only [nox_K, cx_K]
    refine run_in r m o (by walk_at "sim") ?_
    walk_at "fd"
    have hM := m.belM
    have key := GM.best_of_ways (st := stp ls rem ld) (m := ls.length) (e := b) (n := 5) (c := c) (s := a) (fun p i q l h => (stp_k hg p i (q, l) h).2.2.2) (fun p k x h => by obtain ⟨h1, h2, h3, _⟩ := stp_k hg p k x h; exact ⟨h1, h2, h3⟩) (full_of c) ha0 ha1 (by omega)
    refine ⟨_, rfl, _, rfl, _, rfl, _, rfl, by rw [sizeLine_eq]; decide, c, ls, rem, a, b, ld, _, [a], rfl, at_k0, hrl, h9, by decide, hg, by omega, by simp, fun x hx => by rw [List.mem_singleton.mp hx]; exact ⟨ha0, ha1⟩, by simp only [List.length_cons, List.length_nil]; omega, ?_⟩
    have hW : wys ls rem ld b 5 a [a] = GM.waysS (stp ls rem ld) ls.length b 5 a [a] := rfl
    rw [hW]
    generalize GM.waysS (stp ls rem ld) ls.length b 5 a [a] = zs at key ⊢
    walk_at "fd"
    refine ⟨_, .lst (lstAt_of (by rw [at_k]; rfl)) (da_ws zs), _, .lst (lstAt_of (by rw [at_k]; rfl)) .nil, shp_rds zs, shp_rds [], ?_⟩
    rw [eqv_nil]
    cases zs with
    | nil =>
      rw [if_neg (by decide)]
      exact keep_app m rfl (q _ (.inr ⟨fun r q' l hw z => key.2 rfl r l (by rw [hw, z]), rfl⟩))
    | cons z0 zs0 =>
      rw [if_pos (show (z0 :: zs0).isEmpty = false from rfl)]
      have hne : z0 :: zs0 ≠ [] := fun z => nomatch z
      generalize z0 :: zs0 = zs at key hne ⊢
      refine ⟨_, zs, rfl, by rw [at_k]; rfl, hne, fun z hz hl => ⟨_, rfl, _, rfl, keep_app m (bel_rtT z.2) (q _ (.inl ⟨z.1, z.2, key.1 z hz hl, rfl⟩))⟩⟩
end
end T1

set_option Elab.async false
set_option linter.all false
set_option maxRecDepth 100000
set_option maxHeartbeats 4000000
namespace T1
open PySem PySem.Spec PyProof.Rows L2 C8 Fm
local macro_rules | `(tactic| walk_at "sim1") => `(tactic| with_reducible first
  | exact sim_nil | exact sim_var | exact sim_int | exact sim_str | exact sim_bl | exact sim_non | exact sim_raw
  | apply sim_cons | apply sim_op | apply sim_un | apply sim_tup | apply sim_lst
  | apply sim_CB | apply sim_if | apply sim_test | apply sim_B | apply sim_not | apply sim_and | apply sim_or
  | apply sim_andV | apply sim_orV | apply sim_notV | apply sim_chain | exact sim_nopart | apply sim_part
  | apply sim_sl | apply sim_BML | apply sim_BMS | apply sim_BM0S | apply sim_M1 | apply sim_M0
  | apply sim_fmt | apply sim_joined | exact SimJ.nil | apply SimJ.cons
  | exact s_I0i | exact s_I0b | exact s_Ii | exact s_Ui | exact s_eq | exact s_ne | exact s_isN | exact s_notN | exact s_ixL | exact s_ixT | exact s_ixS
  | exact s_cat | exact s_catA | exact s_rep | exact s_repT | exact s_in | exact s_slL | exact s_slA | exact s_slS | exact s_addS | exact s_leS | exact s_ltS
  | exact c_len | exact c_lenS | exact c_list | exact c_tuple | exact c_int1 | exact c_intS | exact c_strI | exact c_max2 | exact c_min2
  | exact m_append | exact m_extend | exact m_split | exact m_join | exact m_0b | exact m_1b
  | apply sim_call | exact simSpF
  | exact sim_name | exact sim_gnil | apply sim_gcons | apply sim_gtup | apply sim_gsub | exact set_list
  | exact sim_next | apply sim_seq | apply sim_cut | exact sim_break | exact sim_cont | apply sim_drop | apply sim_ret | exact sim_retN
  | apply sim_ifS | exact sim_never | apply sim_asg | apply sim_par | apply sim_aug
  | apply sim_for | apply sim_while | apply i_list | apply i_tup | apply i_rng1 | apply i_rng2 | apply i_str | apply i_enum | apply i_zip
  | apply sim_lc | exact sim_yes | exact sim_namew (by decide) | exact sim_gnilw | apply sim_gconsw | apply sim_gtupw
  | apply sim_fld | apply sim_con | apply sim_setFld | apply sim_make | apply sim_prop | apply sim_meth | apply sim_cmeth | exact c_isi | apply sim_isiT | exact s_eqD | exact s_neD
  | walk_at "sim2")
local macro_rules | `(tactic| walk_at "sim2") => `(tactic| fail)
local macro_rules | `(tactic| walk_at "sim") => `(tactic| repeat' (walk_at "sim1"))
/-- open the trees' reading as far as it goes by itself -/
local macro_rules | `(tactic| walk_at "fm") => `(tactic| simp (config := { failIfUnchanged := false }) only [fVar, fC, fOp, fUn, fNil, fCons, fTup, fLst, fCB, fIf, fTest, fNot, fAnd, fOr, fAndV, fOrV, fNotV, fChain, fNoPart, fPart, fI, fI0, fU, fEq, fNe, fIsN, fNotN, fIxL, fIxT, fIxS,
  fCat, fCatA, fRep, fRepT, fSlL, fSlA, fSlS, fSl, fLen, fLenS, fList, fTuple, fIntS, fStrI, fMax2, fMin2, fAppend, fExtend, fIn, fBM, fMS, fBMS, fBM0S, fAddS, fLeS, fLtS, fM0b, fM1b, fSplit, fJoin, fJoined, fJs,
  fName, fGNil, fGCons, fGTup, fSetL, fGSub, fNext, fSeq, fCut, fBreak, fCont, fDrop, fRet, fRetN, fIfS, fAsg, fPar, fAug, fCall, fFld, fCon, fSetFld, fMake, fProp, fMeth, fCMeth, fIsi, fIsiT, fEqD, fNeD, insAt_ref, insO_ins, fFmt, fmtS_i, fmtS_s, fmtOk_i, fmtOk_s, fIL, fIT, fIR1, fIR2, fIS, fIEn, fIZ,
  startL, List.map_cons, List.map_nil, List.length_cons, List.length_nil, List.cons_append, List.nil_append, List.replicate, List.getElem?_cons_zero, List.getElem?_cons_succ, List.set_cons_zero, List.set_cons_succ, Nat.reduceSub, Nat.reduceAdd,
  Option.some.injEq, Tr.int.injEq, Tr.str.injEq, Tr.bl.injEq, Tr.tup.injEq, Tr.ref.injEq, List.cons.injEq, exists_eq_left, exists_eq_left', exists_eq_right, true_and, and_true, and_self, exists_and_left, tupOf_tup, eqS_ii, eqS_ss, eqS_bb, eqS_ni, eqS_in, eqS_nn, isStr_s, isN_n, isN_i, isN_b, isN_s, isN_t, isN_r, noRaw_n, noRaw_i, noRaw_b, noRaw_s, noRaw_t, noRaw_r, and_assoc, reduceIte, Bool.false_eq_true, exists_const, lstAt_ref, seqAt_ref, seqAt_tup, refAt_ref, lstO_lst, app_assoc2, len_app1, at_kk, at_00, set_k, set_00, Nat.add_assoc, Option.map_some, Prod.mk.injEq, int_cast_inj, Nat.zero_le, decide_eq_true_eq, Bool.not_eq_true', decide_eq_false_iff_not, Nat.add_zero, implies_true, forall_const, ite_true, ite_false, if_true, if_false, decide_true, decide_false, Bool.not_true, Bool.not_false, asg_len, Option.isSome_some])
local macro_rules | `(tactic| walk_at "bel") => `(tactic| first | rfl | (simp (config := { failIfUnchanged := false }) only [belM, O.bel, bels_strs, bels_ints, belL, Tr.bel, Tr.bels, Bool.and_true, Bool.true_and, Bool.and_self, decide_eq_true_eq, Bool.and_eq_true, true_and, and_true, List.length_cons, List.length_nil, Nat.reduceAdd]; try omega))

local macro_rules | `(tactic| walk_at "sim2") => `(tactic| first | exact simNext | assumption | exact sim_dnew | apply sim_dnin | apply sim_din | apply sim_dput | apply sim_dget | apply sim_dget1 | exact c_listD | exact c_hpush | exact c_hpop | apply sim_truL | exact c_sum | exact c_sortI | apply sim_match | apply SimM2.cons | exact SimM2.nil | apply i_enumT | apply sim_truS | apply sim_listG | apply sim_lcG | apply sim_eitherG | apply sim_methG | apply sim_methJ | apply sim_either | apply sim_sortKey | apply sim_sortSet | (apply sim_raise0; assumption) | apply sim_plain | apply sim_cval)
local macro_rules | `(tactic| walk_at "sim1") => `(tactic| first | (with_reducible apply sim_callX; assumption) | (with_reducible apply sim_methX; assumption) | (with_reducible apply sim_makeX; assumption) | (with_reducible apply sim_makeKX; assumption) | (with_reducible apply sim_makeVSX; assumption) | (with_reducible apply sim_conA) | (with_reducible apply sim_sortSet))
local macro_rules | `(tactic| walk_at "fm2") => `(tactic| simp (config := { failIfUnchanged := false }) only [dm_app, dm_len, dm_at, dm_at0, dm_set, dm_set0, List.getElem?_cons_zero, List.getElem?_cons_succ, List.set_cons_zero, List.set_cons_succ, lstO_lst, Option.isSome_some, Option.map_some, Option.some.injEq, Prod.mk.injEq, Nat.add_assoc, Nat.reduceAdd, exists_eq_left', exists_eq_left, true_and, and_assoc, fRaise0, fPlain, fCVal, fNv, int1_i, fEither, fTruS, fIEnT, fMatch, fGoM, setAllT, fMakeK, fMakeVS, fMethJ, fEitherG, fListG, fSortKey, fSortSet, fConA, fDnew, fDNin, fDIn, fDPut, fDGet, fDGet1, fListD, fTruL, fHpush, fHpop, fSum, fSortI])
local macro_rules | `(tactic| walk_at "fd") => `(tactic| (walk_at "fm"; walk_at "fm2"; walk_at "fm"; walk_at "fm2"; walk_at "fm"))

/-- list(range(n)) -/
def fLstRg (fe : FE) : FE := fun L M P => fe L M fun x M1 => ∃ n : Int, x = .int n ∧ 0 ≤ n ∧ n ≤ 16777216 ∧ P (.ref M1.length) (M1 ++ [.lst (rngT 0 n.toNat)])
theorem rts_rg {K : PySem.W.Frag} {H : Hp} {ρ : List Addr} (a : Int) : ∀ l : List Nat, RTs K H ρ (l.map fun (k : Nat) => Tr.int (a + (k : Int))) (l.map fun i => V.int (a + (i : Nat)))
  | [] => RTs.nil
  | x :: l => RTs.cons RT.int_ (rts_rg a l)
theorem sim_lstRg {K : PySem.W.Frag} {B : Bs} {te : TE} {fe : FE} (a : SimE K B te fe) : SimE K B (tLstRg (tRg1 te)) (fLstRg fe) := ⟨fun hl hm h o => a.run hl hm h fun x xv H1 ρ1 M1 g1 m1 rx ⟨n, e, n0, n1, p⟩ => by
  subst e
  refine ⟨n, rx.int_inv, RgOk.of_le (Int.le_refl 0) n1 (by decide) n0, fun q hq => ?_⟩
  exact o _ _ _ _ _ (g1.trans (Grow.list m1 hq)) (m1.list hq (by unfold rngT rgV; rw [Int.sub_zero]; exact rts_rg 0 _)) (by unfold RT; exact ⟨q, m1.ref, rfl⟩) p⟩
local macro_rules | `(tactic| walk_at "sim2") => `(tactic| apply sim_lstRg)
/-! ### a chain of places -/
theorem asc_eq : ∀ {xs ys : List Int}, xs.Pairwise (· < ·) → ys.Pairwise (· < ·) → (∀ q, q ∈ xs ↔ q ∈ ys) → xs = ys
  | [], [], _, _, _ => rfl
  | [], y :: ys, _, _, h => absurd ((h y).mpr List.mem_cons_self) (by simp)
  | x :: xs, [], _, _, h => absurd ((h x).mp List.mem_cons_self) (by simp)
  | x :: xs, y :: ys, hx, hy, h => by
    rw [List.pairwise_cons] at hx hy
    have e : x = y := by
      rcases List.mem_cons.mp ((h x).mp List.mem_cons_self) with e | m1
      · exact e
      · rcases List.mem_cons.mp ((h y).mpr List.mem_cons_self) with e | m2
        · exact e.symm
        · have := hy.1 x m1
          have := hx.1 y m2
          omega
    subst e
    rw [asc_eq hx.2 hy.2 fun q => ?_]
    constructor
    · intro m
      rcases List.mem_cons.mp ((h q).mp (List.mem_cons_of_mem _ m)) with e | z
      · have := hx.1 q m
        omega
      · exact z
    · intro m
      rcases List.mem_cons.mp ((h q).mpr (List.mem_cons_of_mem _ m)) with e | z
      · have := hy.1 q m
        omega
      · exact z
def upI (n : Nat) : List Int := (List.range n).map fun k : Nat => (k : Int)
theorem upI_asc (n : Nat) : (upI n).Pairwise (· < ·) := by
  unfold upI
  rw [List.pairwise_map]
  exact (List.pairwise_lt_range (n := n)).imp fun h => by omega
theorem mem_upI {n : Nat} {q : Int} : q ∈ upI n ↔ 0 ≤ q ∧ q < n := by
  unfold upI
  rw [List.mem_map]
  constructor
  · rintro ⟨k, hk, rfl⟩
    have := List.mem_range.mp hk
    omega
  · rintro ⟨h0, h1⟩
    exact ⟨q.toNat, List.mem_range.mpr (by omega), by omega⟩
theorem rngT_up (n : Nat) : rngT 0 n = (upI n).map Tr.int := by
  unfold rngT upI
  rw [List.map_map]
  refine List.map_congr_left fun k _ => ?_
  show Tr.int (0 + (k : Int)) = Tr.int (k : Int)
  rw [Int.zero_add]
def chainL (ls : List Lk) : Prop := ∀ (j : Nat) l, ls[j]? = some l → l.1 = j ∧ l.2.1 = j + 1 ∧ 1 ≤ l.2.2.1 ∧ l.2.2.1 ≤ 99 ∧ l.2.2.2 = 9
theorem chain_ok {c : Int} {ls : List Lk} (h : chainL ls) (h1 : ls.length + 1 = c.toNat) (c0 : 9 ≤ c) (c1 : c ≤ 12) : okTown c ls := ⟨by omega, c1, by omega, fun l hl => by
  obtain ⟨j, hj, e⟩ := List.mem_iff_getElem.mp hl
  obtain ⟨a1, a2, a3, a4, a5⟩ := h j l (by rw [List.getElem?_eq_getElem hj, e])
  exact ⟨by omega, by omega, by omega, by omega, by omega, a3, a4, by omega, by omega⟩⟩
theorem chain_stp {ls : List Lk} (h : chainL ls) {k : Nat} (hk : k < ls.length) : (∃ l, stp ls (List.replicate ls.length 9) 9 (k : Int) k = some ((k : Int) + 1, l)) ∧ ∃ l, stp ls (List.replicate ls.length 9) 9 ((k : Int) + 1) k = some ((k : Int), l) := by
  obtain ⟨a1, a2, _⟩ := h k _ (List.getElem?_eq_getElem hk)
  have e2 : (List.replicate ls.length (9 : Int))[k]? = some 9 := by rw [List.getElem?_replicate, if_pos hk]
  constructor
  · refine ⟨ls[k].2.2.1, ?_⟩
    unfold stp beyond
    rw [List.getElem?_eq_getElem hk, e2]
    simp only
    rw [if_pos (by omega), if_pos a1.symm, a2]
    rfl
  · refine ⟨ls[k].2.2.1, ?_⟩
    unfold stp beyond
    rw [List.getElem?_eq_getElem hk, e2]
    simp only
    rw [if_pos (by omega), if_neg (by rw [a1]; omega), if_pos a2.symm, a1]
    rfl
theorem chain_walk {ls : List Lk} (h : chainL ls) : ∀ (n : Nat) (a q : Int), 0 ≤ a → a ≤ ls.length → 0 ≤ q → q ≤ ls.length → (a - q).natAbs = n → ∃ r l, GM.walk (stp ls (List.replicate ls.length 9) 9) a r = some (q, l)
  | 0, a, q, _, _, _, _, e => ⟨[], 0, by rw [show q = a by omega]; rfl⟩
  | n + 1, a, q, a0, a1, q0, q1, e => by
    by_cases hlt : a < q
    · obtain ⟨k, rfl⟩ := Int.eq_ofNat_of_zero_le a0
      obtain ⟨⟨t, ht⟩, _⟩ := chain_stp h (k := k) (by omega)
      obtain ⟨r, l, hr⟩ := chain_walk h n ((k : Int) + 1) q (by omega) (by omega) q0 q1 (by omega)
      exact ⟨k :: r, t + l, GM.walk_cons_of ht hr⟩
    · obtain ⟨k, hk⟩ := Int.eq_ofNat_of_zero_le (show 0 ≤ a - 1 by omega)
      obtain ⟨_, ⟨t, ht⟩⟩ := chain_stp h (k := k) (by omega)
      obtain ⟨r, l, hr⟩ := chain_walk h n (k : Int) q (by omega) (by omega) q0 q1 (by omega)
      exact ⟨k :: r, t + l, by rw [show a = (k : Int) + 1 by omega]; exact GM.walk_cons_of ht hr⟩
theorem walk_place {c : Int} {ls : List Lk} {rem : List Int} {ld : Int} (ok : okTown c ls) : ∀ {r : List Nat} {a q l : Int}, 0 ≤ a → a < c → GM.walk (stp ls rem ld) a r = some (q, l) → 0 ≤ q ∧ q < c
  | [], a, q, l, h0, h1, hw => by
    cases hw
    exact ⟨h0, h1⟩
  | k :: r, a, q, l, h0, h1, hw => by
    obtain ⟨x, b, e1, e2, rfl, _⟩ := GM.walk_cons_some hw
    obtain ⟨y0, y1, _⟩ := stp_place (q := x.1) (l := x.2) ok e1
    exact walk_place (l := b.2) ok y0 y1 e2
theorem chain_reach {c : Int} {ls : List Lk} {a : Int} {ns : List Int} (h : chainL ls) (h1 : ls.length + 1 = c.toNat) (c0 : 9 ≤ c) (c1 : c ≤ 12) (a0 : 0 ≤ a) (a1 : a < c) (R : Reach (stp ls (List.replicate ls.length 9) 9) a ns) : ns = upI c.toNat := by
  refine asc_eq R.asc (upI_asc _) fun q => ?_
  rw [R.mem, mem_upI]
  constructor
  · rintro ⟨r, l, hw⟩
    have := walk_place (chain_ok h h1 c0 c1) a0 a1 hw
    omega
  · rintro ⟨q0, q1⟩
    exact chain_walk h _ a q a0 (by omega) q0 (by omega) rfl
theorem da_ints {M : Mem} : ∀ xs : List Int, DaAll M (xs.map Tr.int) (xs.map PyData.int)
  | [] => .nil
  | x :: xs => .cons (.int _) (da_ints xs)
theorem lay_ints : ∀ xs : List Int, PyData.canLayAll0 (xs.map PyData.int) = true
  | [] => rfl
  | x :: xs => by
    rw [List.map_cons, PyData.canLayAll0, lay_ints xs]
    rfl
theorem dep_ints : ∀ xs : List Int, PyData.depthAll (xs.map PyData.int) = 0
  | [] => rfl
  | x :: xs => by
    rw [List.map_cons, PyData.depthAll, dep_ints xs]
    simp [PyData.depth]
theorem shp_ints (xs : List Int) : SeqAt.shaped (.list (xs.map PyData.int)) = true := by
  unfold SeqAt.shaped
  rw [PyData.canLay0, lay_ints, PyData.depth, dep_ints]
  rfl
theorem eqv_ints_all : ∀ xs : List Int, PyData.eqvAll (xs.map PyData.int) (xs.map PyData.int) = true
  | [] => by simp [PyData.eqvAll]
  | x :: xs => by
    rw [List.map_cons, PyData.eqvAll, eqv_ints_all xs]
    simp [PyData.eqv]
theorem eqv_ints (xs : List Int) : PyData.eqv (.list (xs.map PyData.int)) (.list (xs.map PyData.int)) = true := by
  rw [PyData.eqv]
  exact eqv_ints_all xs
theorem forgetA_whole {k : Nat} {J : List Tr → Mem → Prop} {acc : List Tr} {M : Mem} (hk : k ≤ List.length M) (hb : Tr.bels (List.length M) acc = true) (hM : belM (List.length M) M = true) (j : J acc M) : ForgetA k J acc M :=
  ⟨M.length, hk, hb, by rw [List.take_length]; exact hM, by rw [List.take_length]; exact j⟩
/-- what the law calls -/
structure Cc (P : Program) (w : World) (K : PySem.W.Frag) (mg : Str → Option Value) (base : Heap) (C : Addr) (cs : ErrC) : Prop where
  _law_next : Cal P w K mg base 1 "_law_next" spNext []
  _law_alike : Cal P w K mg base 3 "_law_alike" (spF K (fsLike 2)) []
  Town : MakX P w K mg base L2.CX0 2 "Town" C (spF K (fsTi C))
  shortest_route : CalX P w K mg base (L2.CX P w) 5 "shortest_route" (spF K (fsShort C cs))
  reached_places : CalX P w K mg base (L2.CX P w) 5 "reached_places" (spF K (fsReach C cs))
  route_length : CalX P w K mg base (L2.CX P w) 5 "route_length" (spF K (fsRlen C cs))
def fsChain : FSp := fun ts M P _ => ∃ (d : Dr) (g : Mem), ts = [.ref 1] ∧ M = dm d g ∧ d.ok ∧ ∀ d', d'.ok → P (.bl true) (dm d' g)
section
variable {P : Program} {w : World} {K : PySem.W.Frag} {mg : Str → Option Value} {base : Heap} {CT : Addr} {cs : ErrC}
theorem scChain : FnScope ["_law_h", "_law_count", "_law_links_here", "_law_town", "_law_lives", "_law_route", "_law_k"] ["_law_h"] (fnScope s__law_chain_right) := fnScope_by (by decide +kernel)
theorem ok_chain {f : Addr} {fd : FuncData} (F : Def K mg "_law_chain_right" s__law_chain_right f fd) (b : Binds K fd ["_law_h"] []) (T : BR K mg cs) (C0 : Cc P w K mg base CT cs) : Cal P w K mg base 8 "_law_chain_right" (spF K fsChain) [] := by
  refine cal0 F b .nil scChain (fun vs H Q E h => ?_) (fun cdv A outer s H vs Q E hr h => ?_)
  · obtain ⟨ts, ρ, M, P, PX, r, m, ⟨d, g, rfl, _⟩, o, ox⟩ := h
    exact r.len
  · have C := C0
    refine ⟨_, (pss_cons (ps_set (i := 1) scChain.nd rfl (Or.inl rfl) (pe_op op_add pe_int (pe_c C._law_next hr (by first | decide | omega) (by rfl) (pa_cons (pv 0) (pa_cons pe_int pa_nil)))))
 (pss_cons (ps_set (i := 2) scChain.nd rfl (Or.inr rfl) (pe_callTy call_tuple_of (by rfl) T.tuple (by decide +kernel) (pa_cons (pe_lc (own := [("_law_k", 6)]) (g := gName 6) rfl scChain.nd (pi_range1 (by rfl) T.range (pa_cons (pe_op op_sub (pv 1) pe_int) pa_nil)) (blkOk_by (N := ["_law_h", "_law_count", "_law_links_here", "_law_town", "_law_lives", "_law_route", "_law_k"]) (sc := fnScope s__law_chain_right) (by decide +kernel)) (fun _ _ _ _ _ => pg_name (i := 6) scChain.nd rfl (Or.inl rfl)) (fun _ _ _ _ _ => pts_nil) (fun _ _ _ _ _ => (pe_tup (pa_cons (pv 6) (pa_cons (pe_op op_add (pv 6) pe_int) (pa_cons (pe_op op_add pe_int (pe_c C._law_next hr (by first | decide | omega) (by rfl) (pa_cons (pv 0) (pa_cons pe_int pa_nil)))) (pa_cons pe_int pa_nil))))))) pa_nil)))
 (pss_cons (ps_par (i := 3) (j := 4) (by rfl) scChain.nd rfl rfl (by decide) rfl rfl (pa_cons (pe_mkX C.Town hr (by decide) (by rfl) L2.pass0 (pa_cons (pv 1) (pa_cons (pv 2) pa_nil))) (pa_cons (pe_op op_repT (pe_tup (pa_cons pe_int pa_nil)) (pe_op op_sub (pv 1) pe_int)) pa_nil)) (by rfl))
 (pss_cons (ps_if (pt_cmpR (op_neD hr.units) (pe_cX C.reached_places hr (by first | decide | omega) (by rfl) pass_no (pa_cons (pv 3) (pa_cons (pv 4) (pa_cons (pe_c C._law_next hr (by first | decide | omega) (by rfl) (pa_cons (pv 0) (pa_cons (pv 1) pa_nil))) (pa_cons pe_int pa_nil))))) (pe_listRg rfl (by rfl) T.list (prg_1 (by rfl) T.range (pv 1))) (nomark _)) (pss_one (ps_ret pe_bl)) pss_nil)
 (pss_cons (ps_set (i := 5) scChain.nd rfl (Or.inl rfl) (pe_callTy call_tuple_of (by rfl) T.tuple (by decide +kernel) (pa_cons (pe_lc (own := [("_law_k", 6)]) (g := gName 6) rfl scChain.nd (pi_range1 (by rfl) T.range (pa_cons (pe_c C._law_next hr (by first | decide | omega) (by rfl) (pa_cons (pv 0) (pa_cons pe_int pa_nil))) pa_nil)) (blkOk_by (N := ["_law_h", "_law_count", "_law_links_here", "_law_town", "_law_lives", "_law_route", "_law_k"]) (sc := fnScope s__law_chain_right) (by decide +kernel)) (fun _ _ _ _ _ => pg_name (i := 6) scChain.nd rfl (Or.inl rfl)) (fun _ _ _ _ _ => pts_nil) (fun _ _ _ _ _ => (pe_c C._law_next hr (by first | decide | omega) (by rfl) (pa_cons (pv 0) (pa_cons (pe_callB (call_lenK (K := K) rfl) (by rfl) T.len PySem.boot_len (pa_cons (pv 2) pa_nil)) pa_nil))))) pa_nil)))
 (pss_one (ps_ret (pe_c C._law_alike hr (by first | decide | omega) (by rfl) (pa_cons (pe_cX C.route_length hr (by first | decide | omega) (by rfl) pass_no (pa_cons (pv 3) (pa_cons (pv 5) pa_nil))) (pa_cons (pe_callB (cr_sum rfl) (by rfl) T.sum (by decide +kernel) (pa_cons (pe_lc (own := [("_law_k", 6)]) (g := gName 6) rfl scChain.nd (pi_tup (pv 5)) (blkOk_by (N := ["_law_h", "_law_count", "_law_links_here", "_law_town", "_law_lives", "_law_route", "_law_k"]) (sc := fnScope s__law_chain_right) (by decide +kernel)) (fun _ _ _ _ _ => pg_name (i := 6) scChain.nd rfl (Or.inl rfl)) (fun _ _ _ _ _ => pts_nil) (fun _ _ _ _ _ => (pe_ix (ix_tupK (K := K) rfl) (pe_ix (ix_tupK (K := K) rfl) (pv 2) (pv 6) (fun _ _ => rfl)) pe_int (fun _ _ => rfl)))) pa_nil)) pa_nil)))))))))), ?_⟩
    obtain ⟨ts, ρ, M, P, PX, r, m, ⟨d, g, rfl, rfl, hd, q⟩, o, ox⟩ := h
    try simp only [nox_K, cx_K]
    refine run_in r m o (by walk_at "sim") ?_
    walk_at "fd"
    have hM := m.belM
    refine next_0 hd (by decide) (by decide) fun x d1 hd1 x0 x1 => ⟨x, rfl, ?_⟩
    rw [fLc]
    walk_at "fd"
    refine ⟨by omega, by omega, fun i acc M2 => ∃ (d2 : Dr) (ls : List Lk), d2.ok ∧ M2 = dm d2 g ∧ acc = ls.map lkT ∧ ls.length = i ∧ chainL ls, ⟨d1, [], hd1, rfl, rfl, rfl, fun j l h => by cases h⟩, ?_, ?_⟩
    · rintro i t acc M2 hti ⟨d2, ls, hd2, rfl, rfl, hl, hch⟩
      obtain ⟨hi, rfl⟩ := rngT_get hti
      rw [Int.zero_add]
      simp only [wipeF]
      walk_at "fd"
      refine next_0 hd2 (by decide) (by decide) fun y d3 hd3 y0 y1 => ?_
      walk_at "fd"
      refine ⟨by rw [sizeLine_eq]; decide, by rw [List.length_map, sizeLine_eq]; omega, forgetA_whole (by rw [dm_len]; exact Nat.le_refl _) ?_ (belM_dm hM) ⟨d3, hd3, rfl, ls ++ [((i : Int), (i : Int) + 1, 1 + y, 9)], by rw [List.map_append]; rfl, by rw [List.length_append, hl]; rfl, ?_⟩⟩
      · have := bel_lks (n := List.length (dm d3 g)) (ls ++ [((i : Int), (i : Int) + 1, 1 + y, 9)])
        rwa [List.map_append] at this
      · intro j l hj
        by_cases hjl : j < ls.length
        · rw [List.getElem?_append_left hjl] at hj
          exact hch j l hj
        · rw [List.getElem?_append_right (by omega)] at hj
          have hj0 : j - ls.length = 0 := by
            have := (List.getElem?_eq_some_iff.mp hj).1
            simp only [List.length_cons, List.length_nil] at this
            omega
          rw [hj0] at hj
          cases hj
          refine ⟨by show (i : Int) = j; omega, by show (i : Int) + 1 = j + 1; omega, by show 1 ≤ 1 + y; omega, by show 1 + y ≤ 99; omega, rfl⟩
    · rintro acc M2 ⟨d2, ls, hd2, rfl, rfl, hl, hch⟩
      rw [rngT_len] at hl
      walk_at "fd"
      have hln : ls.length + 1 = (9 + x).toNat := by omega
      have hok := chain_ok hch hln (by omega) (by omega)
      refine ⟨_, 9 + x, ls, rfl, by rw [dm_at (k := 1)]; rfl, hok, ?_⟩
      rw [dm_set (k := 1)]
      refine ⟨rfl, by rw [sizeLine_eq]; decide, by simp, by omega, by omega, by decide, next_at hd2 (by omega) (by omega) fun y d3 hd3 y0 y1 => ?_⟩
      have hrep : (List.replicate (9 + x - 1).toNat [Tr.int 9]).flatten = (List.replicate ls.length (9 : Int)).map Tr.int := by
        rw [show (9 + x - 1).toNat = ls.length by omega]
        generalize ls.length = k
        induction k with
        | zero => rfl
        | succ k ih => rw [List.replicate_succ, List.flatten_cons, ih]; rfl
      rw [hrep]
      have hta : ∀ (d : Dr) (rest : Mem), TownAt CT (dm d g ++ (O.lst (List.map lkT ls) :: O.ins CT (tFT (9 + x) ls) :: rest)) (List.length g + 3) (9 + x) ls := fun d rest => ⟨by rw [dm_at (k := 1)]; rfl, hok⟩
      refine ⟨_, 9 + x, ls, List.replicate ls.length 9, y, 9, rfl, hta _ _, by simp, fun z => absurd ⟨y0, y1⟩ z, fun _ z => absurd (show (1 : Int) ≤ 9 ∧ (9 : Int) ≤ 9 from ⟨by decide, by decide⟩) z, fun _ _ ns e1 e2 R _ hbe => ?_⟩
      rw [chain_reach hch hln (by omega) (by omega) y0 y1 R]
      unfold fLstRg
      walk_at "fd"
      refine ⟨by omega, by omega, ?_⟩
      rw [rngT_up]
      refine ⟨_, .lst (lstAt_of (by rw [dm_at (k := 4)]; rfl)) (da_ints _), _, .lst (lstAt_of (by rw [dm_at (k := 5)]; rfl)) (da_ints _), shp_ints _, shp_ints _, ?_⟩
      rw [eqv_ints, if_neg (by decide)]
      have hbw : ∀ N, belM N [O.lst (List.map lkT ls), O.ins CT (tFT (9 + x) ls), e1, e2, O.lst (List.map Tr.int (upI (9 + x).toNat)), O.lst (List.map Tr.int (upI (9 + x).toNat))] = true := fun N => by
        have h1 := hbe N
        simp only [belM, O.bel, tFT, belF, Tr.bel, bel_lks, bels_ints, Bool.and_true, Bool.true_and, Bool.and_eq_true] at h1 ⊢
        exact h1
      rw [fLc]
      walk_at "fd"
      refine next_at hd3 (by decide) (by decide) fun n d4 hd4 n0 n1 => ?_
      refine ⟨n, rfl, by omega, by omega, fun i acc M2 => ∃ (d5 : Dr) (rs : List Int), d5.ok ∧ M2 = dm d5 g ++ [O.lst (List.map lkT ls), O.ins CT (tFT (9 + x) ls), e1, e2, O.lst (List.map Tr.int (upI (9 + x).toNat)), O.lst (List.map Tr.int (upI (9 + x).toNat))] ∧ acc = rs.map Tr.int ∧ rs.length = i ∧ ∀ r ∈ rs, 0 ≤ r ∧ r < ls.length, ⟨d4, [], hd4, rfl, rfl, rfl, fun r h => by cases h⟩, ?_, ?_⟩
      · rintro i t acc M2 hti ⟨d5, rs, hd5, rfl, rfl, hrl, hrs⟩
        obtain ⟨hi, rfl⟩ := rngT_get hti
        simp only [wipeF]
        walk_at "fd"
        rw [List.length_map]
        refine next_at hd5 (by omega) (by omega) fun v d6 hd6 v0 v1 => ?_
        refine ⟨by rw [List.length_map, sizeLine_eq]; omega, forgetA_whole (by rw [List.length_append, dm_len]; exact Nat.le_refl _) ?_ ?_ ⟨d6, hd6, rfl, rs ++ [v], by rw [List.map_append]; rfl, by rw [List.length_append, hrl]; rfl, fun r h => ?_⟩⟩
        · have := bels_ints (n := List.length (dm d6 g ++ [O.lst (List.map lkT ls), O.ins CT (tFT (9 + x) ls), e1, e2, O.lst (List.map Tr.int (upI (9 + x).toNat)), O.lst (List.map Tr.int (upI (9 + x).toNat))])) (rs ++ [v])
          rwa [List.map_append] at this
        · exact belM_app2 (belM_dm hM) (hbw _)
        · rcases List.mem_append.mp h with h | h
          · exact hrs r h
          · rw [List.mem_singleton.mp h]
            exact ⟨v0, v1⟩
      · rintro acc M2 ⟨d5, rs, hd5, rfl, rfl, hrl, hrs⟩
        rw [rngT_len] at hrl
        walk_at "fd"
        refine ⟨_, 9 + x, ls, rs, rfl, hta _ _, by rw [sizeLine_eq]; omega, fun _ => ?_, fun r hr hn => absurd (hrs r hr) hn⟩
        have hF : (rs.map Tr.int).filterMap (fun t => match t with | .int i => some (Tr.int (lenAt ls i)) | _ => none) = (rs.map (lenAt ls)).map Tr.int := by
          rw [List.filterMap_map, List.map_map, ← List.filterMap_eq_map]
          rfl
        refine lc_T (fun t => match t with | .int i => some (Tr.int (lenAt ls i)) | _ => none) rfl ?_ (by rw [List.length_map, sizeLine_eq]; omega) (fun t ht y hy => ?_) (fun t ht' => ?_) ?_
        · refine belM_app2 (belM_dm hM) ?_
          have h1 := hbw (List.length (dm d5 g ++ [O.lst (List.map lkT ls), O.ins CT (tFT (9 + x) ls), e1, e2, O.lst (List.map Tr.int (upI (9 + x).toNat)), O.lst (List.map Tr.int (upI (9 + x).toNat)), O.lst (List.map Tr.int rs)]))
          simp only [belM, O.bel, bels_ints, Bool.and_true, Bool.true_and] at h1 ⊢
          exact h1
        · cases t with
          | int i => cases hy; rfl
          | _ => cases hy
        · obtain ⟨v, hv, rfl⟩ := List.mem_map.mp ht'
          obtain ⟨v0, v1⟩ := hrs v hv
          intro R N r1 _
          walk_at "fd"
          obtain ⟨k, rfl⟩ := Int.eq_ofNat_of_zero_le v0
          have hk : k < ls.length := by omega
          refine ⟨_, rfl, _, rfl, _, rfl, _, rfl, lkT ls[k], atI_nat (by rw [List.getElem?_map, List.getElem?_eq_getElem hk]; rfl), _, rfl, _, rfl, (r1 _ ?_).1⟩
          show some (Tr.int (lenAt ls (k : Int))) = _
          unfold lenAt
          rw [Int.toNat_natCast, List.getElem?_eq_getElem hk]
          rfl
        · rw [hF]
          refine ⟨_, by rw [lstAt_ref, at_k0]; rfl, _, _, rfl, .inl (.inl ⟨_, rfl, rfl⟩), ?_⟩
          rw [List.append_assoc]
          exact keep_dm m rfl (q d5 hd5)
end
end T1

set_option Elab.async false
set_option linter.all false
set_option maxRecDepth 100000
set_option maxHeartbeats 4000000
namespace T1
open PySem PySem.Spec PyProof.Rows L2 C8 Fm
/-! ### the lambdas of the law -/
abbrev slots : List Str := ["_law_script", "_law_h", "_law_turn", "_law_count", "_law_links_here", "_law_town", "_law_lives", "_law_one", "_law_other", "_law_load", "_law_due", "_law_length", "_law_found", "_law_bad", "_law_odd", "_law_no", "_law_works", "_law_k", "_law_link", "_law_place", "_law_call"]
def sPass0 : Stmt := .Pass ⟨0, 0, 0, 0⟩
abbrev sFor : Stmt := (fnBody s_law).getD 2 sPass0
def forB : Stmt → List Stmt
  | .For _ _ b _ _ => b
  | _ => []
def listE : Stmt → List Expr
  | .Assign _ (.List es _) _ => es
  | .Expr (.Call _ [.List es _] _ _) _ => es
  | _ => []
abbrev lamE (j : Nat) : Expr := (listE ((forB sFor).getD (12 + j / 2) sPass0)).getD (j % 2) (.Name "" ⟨0, 0, 0, 0⟩)
def lPr : Expr → Arguments
  | .Lambda p _ _ _ => p
  | _ => fnArgs s_law
def lBd : Expr → Expr
  | .Lambda _ b _ _ => b
  | e => e
def lSc : Expr → Scope
  | .Lambda _ _ s _ => s
  | _ => fnScope s_law
def fam : LamV.Fam := ⟨fun j => lPr (lamE j), fun j => lBd (lamE j), fun j => lSc (lamE j), fun j => if j % 2 = 1 then some 0 else none⟩
abbrev lamQ : Str := (envOfC "law" (fnScope s_law) 0 0 .none).qual ++ "<lambda>"
def tVs : List Nat → TA
  | [] => tNil
  | i :: is => tCons (tVar i) (tVs is)
def tt (K : PySem.W.Frag) (C : Addr) (cs : ErrC) : Nat → XK → TE
  | 0, E => tCall (spF K (fsShort C cs)) [] E (tVs [5, 6, 13, 7, 14])
  | 1, E => tCall (spF K (fsShort C cs)) [] E (tVs [5, 6, 7, 13, 14])
  | 2, E => tCall (spF K (fsShort C cs)) [] E (tVs [5, 6, 7, 8, 14])
  | 3, E => tCall (spF K (fsReach C cs)) [] E (tVs [5, 6, 13, 14])
  | 4, E => tCall (spF K (fsReach C cs)) [] E (tVs [5, 6, 7, 14])
  | _, E => tCall (spF K (fsRlen C cs)) [] E (tCons (tVar 5) (tCons (tTup (tCons (tVar 15) tNil)) tNil))
def dc (cl : Nat → Addr) (j : Nat) : Addr := cl ([6, 6, 5, 6, 5, 7].getD j 7)
def nm (j : Nat) : Str := ["place", "place", "load", "place", "load", "bridge"].getD j "bridge"
theorem scLaw : FnScope slots ["_law_script"] (fnScope s_law) := fnScope_by (by decide +kernel)
theorem lw (j : Nat) (h : j < 6) : LamV.LamW slots (fnScope s_law) (fam.sc j) := by
  match j, h with
  | 0, _ => exact LamV.lamW_by (by decide +kernel)
  | 1, _ => exact LamV.lamW_by (by decide +kernel)
  | 2, _ => exact LamV.lamW_by (by decide +kernel)
  | 3, _ => exact LamV.lamW_by (by decide +kernel)
  | 4, _ => exact LamV.lamW_by (by decide +kernel)
  | 5, _ => exact LamV.lamW_by (by decide +kernel)
theorem bnd (q : Str) (j : Nat) (h : j < 6) : LamV.Bnd q (fam.pr j) (fam.bd j) (fam.sc j) (fam.dv j) := by
  match j, h with
  | 0, _ => exact LamV.bnd_none fun _ _ _ _ _ => rfl
  | 1, _ => exact LamV.bnd_some (y := "_law_a") (by decide +kernel) (fun _ _ _ _ _ _ => rfl) (fun _ _ _ _ _ _ _ => rfl)
  | 2, _ => exact LamV.bnd_none fun _ _ _ _ _ => rfl
  | 3, _ => exact LamV.bnd_some (y := "_law_a") (by decide +kernel) (fun _ _ _ _ _ _ => rfl) (fun _ _ _ _ _ _ _ => rfl)
  | 4, _ => exact LamV.bnd_none fun _ _ _ _ _ => rfl
  | 5, _ => exact LamV.bnd_some (y := "_law_a") (by decide +kernel) (fun _ _ _ _ _ _ => rfl) (fun _ _ _ _ _ _ _ => rfl)
section
variable {P : Program} {w : World} {K : PySem.W.Frag} {mg : Str → Option Value} {base : Heap} {C : Addr} {cs : ErrC}
theorem lbody (C0 : Cc P w K mg base C cs) {X : Cx} (hX : X.prog = P ∧ X.w = w ∧ X.K = K ∧ X.mg = mg ∧ X.base = base ∧ X.N = slots ∧ X.env.scope = fnScope s_law) (j : Nat) (hj : j < 6) (A : Around) (outer : List Env) (s : Shared) (H : Hp) (E : XK) (f c' : Addr) (hr : Room 5 (A.deeper (LamX.lamEnv X (fam.sc j) s.heap.objs.size f c'))) :
    PE (LamX.lamCx X A outer s H E (fam.sc j) f c') (fam.bd j) (tt K C cs j E) := by
  obtain ⟨rfl, rfl, rfl, rfl, rfl, hN, hS⟩ := hX
  obtain ⟨xp, xw, xk, xm, xb, xA, xN, xs, xH, xe, xo, xst, xex, xf, xc, xpn, xxe⟩ := X
  simp only at hN hS C0
  subst hN
  match j, hj with
  | 0, _ => exact pe_cX C0.shortest_route hr (by decide) (by rfl) (L2.passes_call (takes_of rfl rfl rfl rfl) (fun _ _ _ _ z => z)) (pa_cons (pv 5) (pa_cons (pv 6) (pa_cons (pv 13) (pa_cons (pv 7) (pa_cons (pv 14) pa_nil)))))
  | 1, _ => exact pe_cX C0.shortest_route hr (by decide) (by rfl) (L2.passes_call (takes_of rfl rfl rfl rfl) (fun _ _ _ _ z => z)) (pa_cons (pv 5) (pa_cons (pv 6) (pa_cons (pv 7) (pa_cons (pv 13) (pa_cons (pv 14) pa_nil)))))
  | 2, _ => exact pe_cX C0.shortest_route hr (by decide) (by rfl) (L2.passes_call (takes_of rfl rfl rfl rfl) (fun _ _ _ _ z => z)) (pa_cons (pv 5) (pa_cons (pv 6) (pa_cons (pv 7) (pa_cons (pv 8) (pa_cons (pv 14) pa_nil)))))
  | 3, _ => exact pe_cX C0.reached_places hr (by decide) (by rfl) (L2.passes_call (takes_of rfl rfl rfl rfl) (fun _ _ _ _ z => z)) (pa_cons (pv 5) (pa_cons (pv 6) (pa_cons (pv 13) (pa_cons (pv 14) pa_nil))))
  | 4, _ => exact pe_cX C0.reached_places hr (by decide) (by rfl) (L2.passes_call (takes_of rfl rfl rfl rfl) (fun _ _ _ _ z => z)) (pa_cons (pv 5) (pa_cons (pv 6) (pa_cons (pv 7) (pa_cons (pv 14) pa_nil))))
  | 5, _ => exact pe_cX C0.route_length hr (by decide) (by rfl) (L2.passes_call (takes_of rfl rfl rfl rfl) (fun _ _ _ _ z => z)) (pa_cons (pv 5) (pa_cons (pe_tup (pa_cons (pv 15) pa_nil)) pa_nil))
end
end T1

set_option Elab.async false
set_option linter.all false
set_option maxRecDepth 100000
set_option maxHeartbeats 4000000
namespace T1
open PySem PySem.Spec PyProof.Rows L2 C8 Fm
local macro_rules | `(tactic| walk_at "hf") => `(tactic| (fail_if_success (show (fun _ => none : Hp) _ = _)); first | assumption | with_reducible exact upd_same | ((with_reducible show upd _ _ _ _ = _); first | exact up_new' (by assumption) (by walk_at "hf") | exact up_set (by walk_at "ne") (by walk_at "hf")) | exact Same.at' (by assumption) (by walk_at "hf") | exact But.at' (by assumption) (by walk_at "ne") (by walk_at "ne") (by walk_at "hf"))
local macro_rules | `(tactic| walk_at "hf0") => `(tactic| (fail_if_success (show (fun _ => none : Hp) _ = _)); first | assumption | with_reducible exact upd_same | ((with_reducible show upd _ _ _ _ = _); exact up_new' (by assumption) (by walk_at "hf0")))
local macro_rules | `(tactic| walk_at "ne") => `(tactic| first | assumption | (apply Ne.symm; assumption) | exact ne_of_none' (by assumption) (by walk_at "hf0") | exact Ne.symm (ne_of_none' (by assumption) (by walk_at "hf0")) | exact LSt.f1 (by assumption) (by walk_at "lst") | exact LSt.f2 (by assumption) (by walk_at "lst"))
local macro_rules | `(tactic| walk_at "sqt") => `(tactic| (fail_if_success (show SqT _ (fun _ => none) _ _)); first | assumption | exact SqT.of' (by walk_at "hf") | ((with_reducible show SqT _ (upd _ _ _) _ _); first | exact SqT.new' (by assumption) (by walk_at "sqt") | exact SqT.put' (by walk_at "hf") (by walk_at "sqt")) | exact Same.tup (by assumption) (by walk_at "sqt") | exact But.tup (by assumption) (by walk_at "lst") (by walk_at "sqt"))
local macro_rules | `(tactic| walk_at "sql") => `(tactic| (fail_if_success (show SqL _ (fun _ => none) _ _)); first | assumption | exact SqL.of' (by walk_at "hf") | ((with_reducible show SqL _ (upd _ _ _) _ _); exact SqL.new' (by assumption) (by walk_at "sql")) | exact Same.sql' (by assumption) (by walk_at "sql"))
local macro_rules | `(tactic| walk_at "lst") => `(tactic| (fail_if_success (show LSt (fun _ => none) _ _)); first | assumption | ((with_reducible show LSt (upd _ _ _) _ _); first | exact LSt.new (by walk_at "lst") (by assumption) | exact LSt.put (by walk_at "lst") (by walk_at "ne") (by walk_at "ne")) | exact LSt.same' (by assumption) (by walk_at "lst"))
local macro_rules | `(tactic| walk_at "but") => `(tactic| first | assumption | exact But.refl _ _ _ | ((with_reducible show But _ _ _ (upd _ _ _)); exact But.nw (by assumption) (by walk_at "but")) | exact But.bu (by assumption) (by walk_at "but") | exact But.sm (by assumption) (by walk_at "but"))
local macro_rules | `(tactic| walk_at "ls") => `(tactic| first | assumption | exact Ls.same (by walk_at "ls") (Same.upd' (by assumption)))
local macro_rules | `(tactic| walk_at "ll") => `(tactic| first | assumption | exact LL.same (by walk_at "ll") (Same.upd' (by assumption)) | exact LL.same' (by assumption) (by walk_at "ll") | exact LL.but' (by assumption) (by walk_at "lst") (by walk_at "ll"))
local macro_rules | `(tactic| walk_at "sm") => `(tactic| first | assumption | exact Same.refl _ | ((with_reducible show Same _ (upd _ _ _)); first | exact Same.put' (by assumption) (by walk_at "sm") | exact Same.trans (by walk_at "sm") (Same.upd' (by assumption))) | exact Same.trans (by walk_at "sm") (by assumption))
/-- one step of a reading -/
local macro_rules | `(tactic| walk_at "rd") => `(tactic| first
  | with_reducible refine iteF ?_
  | with_reducible refine iteT ?_
  | with_reducible refine itNotF ?_
  | with_reducible refine itNotT ?_
  | refine ⟨_, rfl, ?_⟩
  | refine ⟨_, _, rfl, rfl, ?_⟩
  | refine ⟨_, _, rfl, ?_⟩
  | refine ⟨(_ : Addr), (_ : List V), (_ : Int), (_ : V), rfl, rfl, SqL.of' (by walk_at "hf"), (by first | assumption | rfl), ?_⟩
  | refine ⟨(_ : Addr), (_ : List V), (_ : Int), (_ : V), rfl, rfl, (by walk_at "sqt" : SqT _ _ _ _), (by first | assumption | rfl), ?_⟩
  | refine .inl ⟨_, rfl, ?_⟩
  | refine ⟨_, _, rfl, .inl (by walk_at "sql" : SqL _ _ _ _), ?_⟩
  | refine ⟨_, _, rfl, .inl ⟨(by walk_at "sql" : SqL _ _ _ _), fun p hp => ?_⟩⟩
  | refine ⟨_, _, rfl, .inr ⟨(by walk_at "sqt" : SqT _ _ _ _), ?_⟩⟩
  | refine fun (p : Addr) (hp : (_ : Hp) p = none) => ?_
  | refine ⟨_, _, rfl, .inr (by walk_at "sqt" : SqT _ _ _ _), ?_⟩
  | refine And.intro (by show _ ≤ sizeLine; first | decide | walk_at "sz") (fun p hp => ?_)
  | refine ⟨(_ : Addr), (_ : Addr), (_ : List V), (_ : List V), rfl, rfl, (by walk_at "hf"), (by walk_at "hf"), (by walk_at "sz"), fun p hp => ?_⟩
  | refine ⟨(_ : Addr), (_ : Addr), (_ : List V), (_ : List V), rfl, rfl, (by walk_at "hf"), (by walk_at "hf"), (by walk_at "sz"), ?_⟩
  | refine ⟨(_ : Addr), (_ : List V), (_ : Int), (_ : Nat), rfl, rfl, (by walk_at "hf"), (by rfl), ?_⟩
  | refine And.intro ⟨_, (by walk_at "sql" : SqL _ _ _ _)⟩ ?_
  | refine And.intro ⟨_, (by walk_at "sqt" : SqT _ _ _ _)⟩ ?_
  | refine And.intro (.inl ⟨rfl, _, SqL.of' (by walk_at "hf")⟩) ?_
  | refine And.intro (by walk_at "cond") ?_
  | exact .inl ⟨rfl, _, SqL.of' (by walk_at "hf")⟩
  | with_reducible refine iteT ?_
  | with_reducible refine iteF ?_
  | refine And.intro (by rfl : scal _ _ = true) ?_
  | refine And.intro (by rfl : _ = V.non) ?_
  | refine And.intro (by rfl : wipe _ _ = wipe _ _) ?_
  | refine And.intro (by rfl : (_ : List V) = []) ?_
  | refine ⟨(_ : Addr), (_ : List V), rfl, (by walk_at "sqt" : SqT _ _ _ _), (by rfl), ?_⟩)
/-- a test: known, or both ways -/
local macro_rules | `(tactic| walk_at "if") => `(tactic| first
  | with_reducible refine itD (by omega) ?_
  | with_reducible refine itN (by omega) ?_
  | with_reducible refine itnD (by omega) ?_
  | with_reducible refine itnN (by omega) ?_
  | with_reducible refine itE (by omega) ?_
  | with_reducible refine itEn (by omega) ?_
  | with_reducible refine itnE (by omega) ?_
  | with_reducible refine itnEn (by omega) ?_
  | with_reducible refine itN (by intro z; cases z) ?_
  | with_reducible refine itD (by decide) ?_
  | with_reducible refine itN (by decide) ?_
  | with_reducible refine itnD (by decide) ?_
  | with_reducible refine itnN (by decide) ?_)
local macro_rules | `(tactic| walk_at "if2") => `(tactic| first
  | with_reducible refine itS (fun z => ?_) (fun z => ?_)
  | with_reducible refine itS' (fun z => ?_) (fun z => ?_)
  | with_reducible refine itSE (fun z => ?_) (fun z => ?_)
  | with_reducible refine itnS (fun z => ?_) (fun z => ?_)
  | with_reducible refine itnS' (fun z => ?_) (fun z => ?_)
  | with_reducible refine itnSE (fun z => ?_) (fun z => ?_))
local macro_rules | `(tactic| walk_at "go") => `(tactic| repeat' (first | walk_at "rd" | walk_at "if" | walk_at "if2" | fail))
local macro_rules | `(tactic| walk_at "sz") => `(tactic| (rw [sizeLine_eq]; simp only [List.length_append, List.length_map, List.length_cons, List.length_nil]; omega))
local macro_rules | `(tactic| walk_at "cond") => `(tactic| first | assumption | (show (_ : Int) ≠ 0; first | omega | (split <;> omega)) | (show (0 : Int) < _; first | assumption | decide) | exact ⟨by decide, by decide, by decide⟩ | exact .inr ⟨by decide, by decide⟩ | exact wide_div (b := 64) (by assumption) (by omega) (by decide) (by decide) | exact ⟨by decide, by decide⟩)


section
variable {P : Program} {w : World} {K : PySem.W.Frag} {mg : Str → Option Value} {base : Heap} {CT : Addr} {cs : ErrC}
abbrev keptB : List Stmt := (forB sFor).drop 12
/-- what the calls find -/
structure CatchAt (K : PySem.W.Frag) (mg : Str → Option Value) (gE : Addr) (oc : Value) (od : Option Addr) (dV kV doc pm : Value) (an : Option Addr) (cdE ct : Value) (osl : Array (Option Value)) : Prop where
  mg : mg "_law_error" = some (.ref gE)
  k : PySem.W.keepIn K (.ref gE) = true
  lk : K.lookup gE = some ⟨oc, od, .func (PySem.W.fnOf "_law_error" "_law_error" (fnArgs s__law_error) (fnBody s__law_error) (fnScope s__law_error) dV kV doc pm an cdE ct), osl⟩
  co : PySem.W.codeIn K cdE "_law_error" = true
  b : L2.Binds K (PySem.W.fnOf "_law_error" "_law_error" (fnArgs s__law_error) (fnBody s__law_error) (fnScope s__law_error) dV kV doc pm an cdE ct) ["_law_call"] []
/-- the comprehension and the comparison -/
theorem kept_end {K : PySem.W.Frag} {CT : Addr} {cs : ErrC} {cl : Nat → Addr} {T : List (Addr × Str)} {q : Str} {cells : List (Str × Addr)} {D : Ends} {σ : L2.St} {H G : Hp} {W U f0 f1 f2 f3 f4 f5 p0 p1 p2 p3 p4 p5 : Addr} (hl : σ.length = 21)
    (h : ∀ (H1 : Hp) (D' : Addr) (v w : V), LamX.ExtN H H1 → LamX.Tabs T H1 → LamV.New T H D' → H1 D' = some (.lst []) → LamV.chain (tt K CT cs) (dc cl) K T H H1 D' ((σ.set 16 (some v)).set 10 (some w)) (fun G => ∀ G' : Hp, (∀ b o, b ≠ D' → G b = some o → G' b = some o) → D.nx ((σ.set 16 (some v)).set 10 (some w)) G') (List.range 6) H1)
    (x7 : LamX.ExtN H G) (t7 : LamX.Tabs T G) (NW : LamV.New T H W) (NU : LamV.New T H U) (w7 : G W = some (.lst [.ref f0, .ref f1, .ref f2, .ref f3, .ref f4, .ref f5])) (u7 : G U = some (.lst [.ref p0, .ref p1, .ref p2, .ref p3, .ref p4, .ref p5]))
    (tups : ∀ j b, ([p0, p1, p2, p3, p4, p5] : List Addr)[j]? = some b → G b = some (.tup [.str (nm j)])) (made : ∀ j, j < 6 → ∃ f c' d, ([.ref f0, .ref f1, .ref f2, .ref f3, .ref f4, .ref f5] : List V)[j]? = some (.ref f) ∧ fam.at q cells j f c' d G) :
    tIfS (tTest (tOp (rNeD K) (LamV.tLcK (iList K (tVar 16)) (gName 20) (LamV.tFam fam 6 q cells 20 (TTerr K cl) (tt K CT cs)) [20]) (tVar 10))) (tRet (tC (V.bl false))) tNext D ((σ.set 16 (some (V.ref W))).set 10 (some (V.ref U))) G := by
  have z16 : ((σ.set 16 (some (V.ref W))).set 10 (some (V.ref U)))[16]? = some (some (.ref W)) := by rw [List.getElem?_set_ne (by decide)]; exact List.getElem?_set_self (by omega)
  have z10 : ((σ.set 16 (some (V.ref W))).set 10 (some (V.ref U)))[10]? = some (some (.ref U)) := List.getElem?_set_self (by rw [List.length_set]; omega)
  generalize hσ : (σ.set 16 (some (V.ref W))).set 10 (some (V.ref U)) = σ' at z16 z10 ⊢
  have hl' : σ'.length = 21 := by rw [← hσ, List.length_set, List.length_set, hl]
  refine ⟨.ref W, z16, W, rfl, ⟨_, SqL.of' w7⟩, fun L nL => ?_⟩
  have NL := LamV.new_of x7 t7 nL
  have ch := h (upd G L (.lst [])) L (.ref W) (.ref U) (LamV.extN_upd x7 NL) (LamV.tabs_new t7 nL) NL upd_same
  rw [hσ] at ch
  have nWL : W ≠ L := ne_of_none w7 nL
  have nUL : U ≠ L := ne_of_none u7 nL
  have keep : ∀ a o, LamV.New T H a → G a = some o → (∀ ps, o ≠ .tbl ps) → a ≠ L → upd G L (.lst []) a = some o := fun a o _ e _ n => (upd_ne n).trans e
  obtain ⟨G1, hG1⟩ : ∃ G1, G1 = upd G L (.lst []) := ⟨_, rfl⟩
  have l1 : G1 L = some (.lst []) := by rw [hG1]; exact upd_same
  have w1 : G1 W = some (.lst [.ref f0, .ref f1, .ref f2, .ref f3, .ref f4, .ref f5]) := by rw [hG1]; exact (upd_ne nWL).trans w7
  have u1 : G1 U = some (.lst [.ref p0, .ref p1, .ref p2, .ref p3, .ref p4, .ref p5]) := by rw [hG1]; exact (upd_ne nUL).trans u7
  have tp1 : ∀ j b, ([p0, p1, p2, p3, p4, p5] : List Addr)[j]? = some b → G1 b = some (.tup [.str (nm j)]) := fun j b hb => by
    rw [hG1]
    exact (upd_ne (ne_of_none (tups j b hb) nL)).trans (tups j b hb)
  have md1 : ∀ j, j < 6 → ∃ f c' d, ([.ref f0, .ref f1, .ref f2, .ref f3, .ref f4, .ref f5] : List V)[j]? = some (.ref f) ∧ fam.at q cells j f c' d G1 := fun j hj => by
    obtain ⟨f, c', d, e1, e2⟩ := made j hj
    exact ⟨f, c', d, e1, e2.ext fun c φ hc => by rw [hG1, upd_ne (ne_of_none hc nL)]; exact hc⟩
  rw [← hG1] at ch ⊢
  have nWT : ∀ ps, HO.lst [V.ref f0, V.ref f1, V.ref f2, V.ref f3, V.ref f4, V.ref f5] ≠ .tbl ps := fun ps z => nomatch z
  refine ⟨fun i m G' => i ≤ 6 ∧ m = 6 - i ∧ ∃ (bs : List Addr) (Gp : Hp), bs.length = i ∧ G' L = some (.lst (bs.map V.ref)) ∧ (∀ k b, bs[k]? = some b → SqT K G' b [.str (nm k)]) ∧ (∀ a o, LamV.New T H a → G1 a = some o → (∀ ps, o ≠ .tbl ps) → a ≠ L → G' a = some o) ∧ (∀ c φ, G1 c = some (.ext φ) → G' c = some (.ext φ)) ∧
      (∀ a xs, SqT K G1 a xs → SqT K G' a xs) ∧ (∀ b o, b ≠ L → Gp b = some o → G' b = some o) ∧ LamV.chain (tt K CT cs) (dc cl) K T H G1 L σ' (fun G => ∀ G' : Hp, (∀ b o, b ≠ L → G b = some o → G' b = some o) → D.nx σ' G') ((List.range 6).drop i) Gp,
    ⟨6, by decide, rfl, [], G1, rfl, l1, fun k b z => (by simp at z), fun a o _ e _ _ => e, fun c φ e => e, fun a xs e => e, fun b o _ e => e, ch⟩, ?_⟩
  rintro i m G' ⟨hi, rfl, bs, Gp, hbl, hL, hbs, hk, hx, htp, hrel, hc⟩
  have wG : G' W = some (.lst [.ref f0, .ref f1, .ref f2, .ref f3, .ref f4, .ref f5]) := hk W _ NW w1 (fun ps z => nomatch z) nWL
  by_cases h6 : i = 6
  · subst h6
    refine .inl ⟨⟨_, SqL.of' wG, by simp⟩, .ref U, z10, ?_⟩
    have uG : G' U = some (.lst [.ref p0, .ref p1, .ref p2, .ref p3, .ref p4, .ref p5]) := hk U _ NU u1 (fun ps z => nomatch z) nUL
    have dL : DpAll K G' (bs.map V.ref) [.tuple [.str "place"], .tuple [.str "place"], .tuple [.str "load"], .tuple [.str "place"], .tuple [.str "load"], .tuple [.str "bridge"]] := by
      match bs, hbl, hbs with
      | [b0, b1, b2, b3, b4, b5], _, hbs =>
        exact .cons (.tup (hbs 0 b0 rfl) (.cons (.str _) .nil)) (.cons (.tup (hbs 1 b1 rfl) (.cons (.str _) .nil)) (.cons (.tup (hbs 2 b2 rfl) (.cons (.str _) .nil)) (.cons (.tup (hbs 3 b3 rfl) (.cons (.str _) .nil)) (.cons (.tup (hbs 4 b4 rfl) (.cons (.str _) .nil)) (.cons (.tup (hbs 5 b5 rfl) (.cons (.str _) .nil)) .nil)))))
    have tU : ∀ j b, ([p0, p1, p2, p3, p4, p5] : List Addr)[j]? = some b → SqT K G' b [.str (nm j)] := fun j b hb => htp _ _ (SqT.of' (tp1 j b hb))
    have dU : DpAll K G' [.ref p0, .ref p1, .ref p2, .ref p3, .ref p4, .ref p5] [.tuple [.str "place"], .tuple [.str "place"], .tuple [.str "load"], .tuple [.str "place"], .tuple [.str "load"], .tuple [.str "bridge"]] :=
      .cons (.tup (tU 0 p0 rfl) (.cons (.str _) .nil)) (.cons (.tup (tU 1 p1 rfl) (.cons (.str _) .nil)) (.cons (.tup (tU 2 p2 rfl) (.cons (.str _) .nil)) (.cons (.tup (tU 3 p3 rfl) (.cons (.str _) .nil)) (.cons (.tup (tU 4 p4 rfl) (.cons (.str _) .nil)) (.cons (.tup (tU 5 p5 rfl) (.cons (.str _) .nil)) .nil)))))
    have sh : SeqAt.shaped (.list [.tuple [.str "place"], .tuple [.str "place"], .tuple [.str "load"], .tuple [.str "place"], .tuple [.str "load"], .tuple [.str "bridge"]]) = true := by decide +kernel
    have ev : PyData.eqv (.list [.tuple [.str "place"], .tuple [.str "place"], .tuple [.str "load"], .tuple [.str "place"], .tuple [.str "load"], .tuple [.str "bridge"]]) (.list [.tuple [.str "place"], .tuple [.str "place"], .tuple [.str "load"], .tuple [.str "place"], .tuple [.str "load"], .tuple [.str "bridge"]]) = true := by decide +kernel
    refine ⟨_, _, .lst (SqL.of' hL) dL, .lst (SqL.of' uG) dU, sh, sh, _, rfl, ?_⟩
    rw [ev]
    exact hc G' hrel
  · have hlt : i < 6 := by omega
    obtain ⟨f, c', d, e1, e2⟩ := md1 i hlt
    refine .inr ⟨⟨_, _, SqL.of' wG, e1⟩, fun G2 => ∃ b, SqT K G2 b [.str (nm i)] ∧ ∃ Gp, G2 L = some (.lst ((bs ++ [b]).map V.ref)) ∧ (∀ k b', (bs ++ [b])[k]? = some b' → SqT K G2 b' [.str (nm k)]) ∧ (∀ a o, LamV.New T H a → G1 a = some o → (∀ ps, o ≠ .tbl ps) → a ≠ L → G2 a = some o) ∧ (∀ c φ, G1 c = some (.ext φ) → G2 c = some (.ext φ)) ∧
      (∀ a xs, SqT K G1 a xs → SqT K G2 a xs) ∧ (∀ b o, b ≠ L → Gp b = some o → G2 b = some o) ∧ LamV.chain (tt K CT cs) (dc cl) K T H G1 L σ' (fun G => ∀ G' : Hp, (∀ b o, b ≠ L → G b = some o → G' b = some o) → D.nx σ' G') ((List.range 6).drop (i + 1)) Gp, ?_, ?_⟩
    · rintro G2 ⟨b, hb, Gq, k1, k2, k3, k4, k5, k6, k7⟩
      exact ⟨6 - (i + 1), by omega, by omega, rfl, bs ++ [b], Gq, by rw [List.length_append, hbl]; rfl, k1, k2, k3, k4, k5, k6, k7⟩
    · rintro x G2 ⟨rfl, hy⟩
      have hx1 := hy _ (SqL.of' wG)
      rw [e1] at hx1
      cases hx1
      have hd : (List.range 6).drop i = i :: (List.range 6).drop (i + 1) := by
        match i, hlt with
        | 0, _ => rfl
        | 1, _ => rfl
        | 2, _ => rfl
        | 3, _ => rfl
        | 4, _ => rfl
        | 5, _ => rfl
      rw [hd] at hc
      have s20 : (σ'.set 20 (some (V.ref f)))[20]? = some (some (.ref f)) := List.getElem?_set_self (by omega)
      show wipe (List.set (wipe σ' [20]) 20 (some (V.ref f))) [20] = wipe σ' [20] ∧ _
      refine ⟨by show ((σ'.set 20 none).set 20 _).set 20 none = σ'.set 20 none; rw [List.set_set, List.set_set], ?_⟩
      show (if true = true then _ else _)
      rw [if_pos rfl]
      refine ⟨i, f, c', d, hlt, List.getElem?_set_self (by show 20 < (σ'.set 20 none).length; rw [List.length_set]; omega), e2.ext hx, ?_⟩
      refine hc _ hrel ⟨_, hL⟩ _ _ fun cls dd G3 ecls ed k1 k2 k3 k4 k5 => ?_
      subst ecls
      have hres : ∀ b G4, Same G3 G4 → SqT K G4 b [.str (nm i)] → ∃ acc, G4 L = some (HO.lst acc) ∧ acc.length < sizeLine ∧ ∃ b2, SqT K (upd G4 L (.lst (acc ++ [.ref b]))) b2 [.str (nm i)] ∧ ∃ Gp, (upd G4 L (.lst (acc ++ [.ref b]))) L = some (.lst ((bs ++ [b2]).map V.ref)) ∧ (∀ k b', (bs ++ [b2])[k]? = some b' → SqT K (upd G4 L (.lst (acc ++ [.ref b]))) b' [.str (nm k)]) ∧
          (∀ a o, LamV.New T H a → G1 a = some o → (∀ ps, o ≠ .tbl ps) → a ≠ L → (upd G4 L (.lst (acc ++ [.ref b]))) a = some o) ∧ (∀ c φ, G1 c = some (.ext φ) → (upd G4 L (.lst (acc ++ [.ref b]))) c = some (.ext φ)) ∧ (∀ a xs, SqT K G1 a xs → SqT K (upd G4 L (.lst (acc ++ [.ref b]))) a xs) ∧ (∀ b' o, b' ≠ L → Gp b' = some o → (upd G4 L (.lst (acc ++ [.ref b]))) b' = some o) ∧
          LamV.chain (tt K CT cs) (dc cl) K T H G1 L σ' (fun G => ∀ G' : Hp, (∀ b o, b ≠ L → G b = some o → G' b = some o) → D.nx σ' G') ((List.range 6).drop (i + 1)) Gp := fun b G4 sm sq => by
        have hL4 := sm _ _ (k4 _ hL)
        have put : ∀ a xs, SqT K G4 a xs → SqT K (upd G4 L (.lst (bs.map V.ref ++ [.ref b]))) a xs := fun a xs e => SqT.put' hL4 e
        refine ⟨bs.map V.ref, hL4, by rw [List.length_map, sizeLine_eq]; omega, b, put _ _ sq, G3, by rw [List.map_append]; exact upd_same, fun k b' hb => ?_, fun a o n e nt ne => ?_, fun c φ e => ?_, fun a xs e => put _ _ (Same.tup sm (k1 _ _ (htp _ _ e))), fun b' o ne e => (upd_ne ne).trans (sm _ _ e), k5⟩
        · by_cases hkl : k < bs.length
          · rw [List.getElem?_append_left hkl] at hb
            exact put _ _ (Same.tup sm (k1 _ _ (hbs k b' hb)))
          · rw [List.getElem?_append_right (by omega)] at hb
            have hk0 : k - bs.length = 0 := by
              have := (List.getElem?_eq_some_iff.mp hb).1
              simp only [List.length_cons, List.length_nil] at this
              omega
            rw [hk0] at hb
            cases hb
            rw [show k = i by omega]
            exact put _ _ sq
        · exact (upd_ne ne).trans (sm _ _ (k3 a o n e nt ne (hk a o n e nt ne)))
        · have e4 := sm _ _ (k2 c φ (hx c φ e))
          exact (upd_ne (ne_of e4 hL4 (fun z => nomatch z))).trans e4
      refine ⟨ed, ?_⟩
      match i, hlt, hres with
      | 0, _, hres => exact .inl ⟨rfl, hres⟩
      | 1, _, hres => exact .inl ⟨rfl, hres⟩
      | 2, _, hres => exact .inr (.inr ⟨rfl, hres⟩)
      | 3, _, hres => exact .inl ⟨rfl, hres⟩
      | 4, _, hres => exact .inr (.inr ⟨rfl, hres⟩)
      | 5, _, hres => exact .inr (.inl ⟨rfl, hres⟩)
theorem ps_kept {f clA Pt gE CB : Addr} {cl : Nat → Addr} {oc dV kV doc pm cdE ct : Value} {od an : Option Addr} {osl : Array (Option Value)} {A : Around} {outer : List Env} {s : Shared} {H : Hp} {E : XK} {k : Nat} (T : BR K mg cs) (C0 : Cc P w K mg base CT cs) (LE : CatchAt K mg gE oc od dV kV doc pm an cdE ct osl) (TB : LamX.TabB base mg clA Pt)
    (G : Cls12 mg CB cl) (P5 : PlainE K CB (cl 5) cl 5) (P6 : PlainE K CB (cl 6) cl 6) (P7 : PlainE K CB (cl 7) cl 7) (hr : Room 9 (A.deeper (envOfC "law" (fnScope s_law) s.heap.objs.size f (.ref clA)))) :
    PSs (cxOf C8.CX0 P w K mg base slots "law" (fnScope s_law) f (.ref clA) A outer s H E).nox keptB (LamV.tKept K [(Pt, lamQ)] (tt K CT cs) (dc cl) 6 16 10) := by
  let X0 : Cx := (cxOf C8.CX0 P w K mg base slots "law" (fnScope s_law) f (.ref clA) A outer s H E).nox
  have hm : (Pt, X0.env.qual ++ "<lambda>") ∈ [(Pt, lamQ)] := List.mem_singleton.mpr rfl
  have hu : ∀ p ∈ [(Pt, lamQ)], p.1 = Pt → p.2 = X0.env.qual ++ "<lambda>" := fun p hp _ => by rw [List.mem_singleton.mp hp] <;> rfl
  have lam0 : PE X0 (lamE 0) (LamV.tLamV [(Pt, lamQ)] (fun H1 f c' d => LamV.Made H1 f (X0.env.qual ++ "<lambda>") (fam.pr 0) (fam.bd 0) (fam.sc 0) (cloFrom X0.env.cells (fam.sc 0).names []) d c') none) := LamV.pe_lamV TB rfl hm hu (fun ok => (lw 0 (by decide)).has ok) rfl
  have lam1 : PE X0 (lamE 1) (LamV.tLamV [(Pt, lamQ)] (fun H1 f c' d => LamV.Made H1 f (X0.env.qual ++ "<lambda>") (fam.pr 1) (fam.bd 1) (fam.sc 1) (cloFrom X0.env.cells (fam.sc 1).names []) d c') (some 0)) := LamV.pe_lamD TB rfl hm hu (fun ok => (lw 1 (by decide)).has ok) rfl rfl pe_int
  have lam2 : PE X0 (lamE 2) (LamV.tLamV [(Pt, lamQ)] (fun H1 f c' d => LamV.Made H1 f (X0.env.qual ++ "<lambda>") (fam.pr 2) (fam.bd 2) (fam.sc 2) (cloFrom X0.env.cells (fam.sc 2).names []) d c') none) := LamV.pe_lamV TB rfl hm hu (fun ok => (lw 2 (by decide)).has ok) rfl
  have lam3 : PE X0 (lamE 3) (LamV.tLamV [(Pt, lamQ)] (fun H1 f c' d => LamV.Made H1 f (X0.env.qual ++ "<lambda>") (fam.pr 3) (fam.bd 3) (fam.sc 3) (cloFrom X0.env.cells (fam.sc 3).names []) d c') (some 0)) := LamV.pe_lamD TB rfl hm hu (fun ok => (lw 3 (by decide)).has ok) rfl rfl pe_int
  have lam4 : PE X0 (lamE 4) (LamV.tLamV [(Pt, lamQ)] (fun H1 f c' d => LamV.Made H1 f (X0.env.qual ++ "<lambda>") (fam.pr 4) (fam.bd 4) (fam.sc 4) (cloFrom X0.env.cells (fam.sc 4).names []) d c') none) := LamV.pe_lamV TB rfl hm hu (fun ok => (lw 4 (by decide)).has ok) rfl
  have lam5 : PE X0 (lamE 5) (LamV.tLamV [(Pt, lamQ)] (fun H1 f c' d => LamV.Made H1 f (X0.env.qual ++ "<lambda>") (fam.pr 5) (fam.bd 5) (fam.sc 5) (cloFrom X0.env.cells (fam.sc 5).names []) d c') (some 0)) := LamV.pe_lamD TB rfl hm hu (fun ok => (lw 5 (by decide)).has ok) rfl rfl pe_int
  obtain ⟨r, hr1, conv⟩ : ∃ r : TS, PSs X0 keptB r ∧ ∀ (D : Ends) (σ : L2.St) (H : Hp), σ.length = 21 → LamV.tKept K [(Pt, lamQ)] (tt K CT cs) (dc cl) 6 16 10 D σ H → r D σ H := by
    refine ⟨_, (pss_cons (ps_set (i := 16) scLaw.nd rfl (Or.inl rfl) (pe_lst (pa_cons lam0 (pa_cons lam1 pa_nil))))
 (pss_cons (ps_expr (pe_bm PySem.F.plainAttrs_list PySem.F.slot_list_extend PySem.F.type_list_extend mt_extend (pv 16) (pa_cons (pe_lst (pa_cons lam2 (pa_cons lam3 pa_nil))) pa_nil)))
 (pss_cons (ps_expr (pe_bm PySem.F.plainAttrs_list PySem.F.slot_list_extend PySem.F.type_list_extend mt_extend (pv 16) (pa_cons (pe_lst (pa_cons lam4 (pa_cons lam5 pa_nil))) pa_nil)))
 (pss_cons (ps_set (i := 10) scLaw.nd rfl (Or.inl rfl) (pe_lst (pa_cons (pe_tup (pa_cons pe_str pa_nil)) (pa_cons (pe_tup (pa_cons pe_str pa_nil)) (pa_cons (pe_tup (pa_cons pe_str pa_nil)) (pa_cons (pe_tup (pa_cons pe_str pa_nil)) (pa_cons (pe_tup (pa_cons pe_str pa_nil)) (pa_cons (pe_tup (pa_cons pe_str pa_nil)) pa_nil))))))))
 (pss_one (ps_if (pt_cmpR (op_neD hr.units) (LamV.pe_lcK (own := [("_law_call", 20)]) (g := gName 20) (te := LamV.tFam fam 6 (X0.env.qual ++ "<lambda>") X0.env.cells 20 (TTerr K cl) (tt K CT cs)) rfl scLaw.nd (pi_list (pv 16)) (blkOk_by (N := slots) (sc := fnScope s_law) (by decide +kernel)) (fun _ _ _ _ _ => pg_name (i := 20) scLaw.nd rfl (Or.inl rfl))
    (fun pins s σ H C c2 fp J hex => LamV.pe_famcall (k := 5) (Ng := ["_law_call", "e", "_law_kinds", "_law_names", "_law_name"]) (a := "_law_call") J hex lw (bnd _) (by rfl) LE.mg LE.k LE.lk LE.co LE.b scErr rfl (Or.inl rfl) (err_givesR T G P5 P6 P7) (hr.mono (by decide)) (fun j hj A outer s H E f c' hr2 => lbody C0 ⟨rfl, rfl, rfl, rfl, rfl, rfl, rfl⟩ j hj A outer s H E f c' hr2) (v := "_law_call") rfl (Or.inl rfl) (by decide) (by decide) (by decide) (by decide) (by decide)))
    (pv 10) (nomark _)) (pss_one (ps_ret pe_bl)) pss_nil)))))), fun D σ H hl h => ?_⟩
    obtain ⟨hT, h⟩ := h
    have z16 : ∀ v : V, (σ.set 16 (some v))[16]? = some (some v) := fun v => List.getElem?_set_self (by omega)
    refine ⟨hT, fun f0 c0 d0 G0 i0 j0 x0 t0 m0 => ⟨t0, fun f1 c1 d1 G1 i1 j1 x1 t1 m1 => ⟨by rw [sizeLine_eq]; simp, fun W nW => ?_⟩⟩⟩
    have NW := LamV.new_of (x0.trans x1) t1 nW
    have xa := LamV.extN_upd (o := .lst [.ref f0, .ref f1]) (x0.trans x1) NW
    have ta := LamV.tabs_new (o := .lst [.ref f0, .ref f1]) t1 nW
    have ma0 := (m0.extN x1).upd (o := .lst [.ref f0, .ref f1]) (.inl nW)
    have ma1 := m1.upd (o := .lst [.ref f0, .ref f1]) (.inl nW)
    have wa : upd G1 W (.lst [.ref f0, .ref f1]) W = some (.lst [.ref f0, .ref f1]) := upd_same
    refine ⟨.ref W, z16 _, .inl ⟨rfl, _, SqL.of' wa⟩, ?_⟩
    generalize upd G1 W (.lst [.ref f0, .ref f1]) = Ga at xa ta ma0 ma1 wa
    refine ⟨ta, fun f2 c2 d2 G2 i2 j2 x2 t2 m2 => ⟨t2, fun f3 c3 d3 G3 i3 j3 x3 t3 m3 => ⟨by rw [sizeLine_eq]; simp, fun Y nY => ?_⟩⟩⟩
    have xb := (xa.trans x2).trans x3
    have wb : G3 W = some (.lst [.ref f0, .ref f1]) := (x2.trans x3) _ _ wa fun ps z => nomatch z
    have nWY : W ≠ Y := ne_of_none wb nY
    have NY := LamV.new_of xb t3 nY
    have xb2 := LamV.extN_upd (o := .lst [.ref f2, .ref f3]) xb NY
    have tb2 := LamV.tabs_new (o := .lst [.ref f2, .ref f3]) t3 nY
    have wb2 : upd G3 Y (.lst [.ref f2, .ref f3]) W = some (.lst [.ref f0, .ref f1]) := (upd_ne nWY).trans wb
    have yb2 : upd G3 Y (.lst [.ref f2, .ref f3]) Y = some (.lst [.ref f2, .ref f3]) := upd_same
    have mb0 := (ma0.extN (x2.trans x3)).upd (o := .lst [.ref f2, .ref f3]) (.inl nY)
    have mb1 := (ma1.extN (x2.trans x3)).upd (o := .lst [.ref f2, .ref f3]) (.inl nY)
    have mb2 := (m2.extN x3).upd (o := .lst [.ref f2, .ref f3]) (.inl nY)
    have mb3 := m3.upd (o := .lst [.ref f2, .ref f3]) (.inl nY)
    refine ⟨W, Y, [.ref f0, .ref f1], [.ref f2, .ref f3], rfl, rfl, wb2, yb2, by rw [sizeLine_eq]; simp, ?_⟩
    generalize upd G3 Y (.lst [.ref f2, .ref f3]) = Gb at xb2 tb2 wb2 yb2 mb0 mb1 mb2 mb3
    show tSeq _ _ _ _ _
    have isW : ∀ {G : Hp} {ys : List V}, G W = some (.lst ys) → G W = none ∨ ∃ u, G W = some u ∧ ∀ φ, u ≠ .ext φ := fun e => .inr ⟨_, e, fun φ z => nomatch z⟩
    have xc := LamV.extN_upd (o := .lst ([.ref f0, .ref f1] ++ [.ref f2, .ref f3])) xb2 NW
    have tc := LamV.tabs_upd (o := .lst ([.ref f0, .ref f1] ++ [.ref f2, .ref f3])) tb2 wb2 (fun ps z => nomatch z) (fun φ z => nomatch z)
    have wc : upd Gb W (.lst ([.ref f0, .ref f1] ++ [.ref f2, .ref f3])) W = some (.lst ([.ref f0, .ref f1] ++ [.ref f2, .ref f3])) := upd_same
    have mc0 := mb0.upd (o := .lst ([.ref f0, .ref f1] ++ [.ref f2, .ref f3])) (isW wb2)
    have mc1 := mb1.upd (o := .lst ([.ref f0, .ref f1] ++ [.ref f2, .ref f3])) (isW wb2)
    have mc2 := mb2.upd (o := .lst ([.ref f0, .ref f1] ++ [.ref f2, .ref f3])) (isW wb2)
    have mc3 := mb3.upd (o := .lst ([.ref f0, .ref f1] ++ [.ref f2, .ref f3])) (isW wb2)
    refine ⟨.ref W, z16 _, .inl ⟨rfl, _, SqL.of' wc⟩, ?_⟩
    generalize upd Gb W (.lst ([.ref f0, .ref f1] ++ [.ref f2, .ref f3])) = Gc at xc tc wc mc0 mc1 mc2 mc3
    refine ⟨tc, fun f4 c4 d4 G4 i4 j4 x4 t4 m4 => ⟨t4, fun f5 c5 d5 G5 i5 j5 x5 t5 m5 => ⟨by rw [sizeLine_eq]; simp, fun Z nZ => ?_⟩⟩⟩
    have xd := (xc.trans x4).trans x5
    have wd : G5 W = some (.lst ([.ref f0, .ref f1] ++ [.ref f2, .ref f3])) := (x4.trans x5) _ _ wc fun ps z => nomatch z
    have nWZ : W ≠ Z := ne_of_none wd nZ
    have NZ := LamV.new_of xd t5 nZ
    have xd2 := LamV.extN_upd (o := .lst [.ref f4, .ref f5]) xd NZ
    have td2 := LamV.tabs_new (o := .lst [.ref f4, .ref f5]) t5 nZ
    have wd2 : upd G5 Z (.lst [.ref f4, .ref f5]) W = some (.lst ([.ref f0, .ref f1] ++ [.ref f2, .ref f3])) := (upd_ne nWZ).trans wd
    have zd2 : upd G5 Z (.lst [.ref f4, .ref f5]) Z = some (.lst [.ref f4, .ref f5]) := upd_same
    have md0 := (mc0.extN (x4.trans x5)).upd (o := .lst [.ref f4, .ref f5]) (.inl nZ)
    have md1 := (mc1.extN (x4.trans x5)).upd (o := .lst [.ref f4, .ref f5]) (.inl nZ)
    have md2 := (mc2.extN (x4.trans x5)).upd (o := .lst [.ref f4, .ref f5]) (.inl nZ)
    have md3 := (mc3.extN (x4.trans x5)).upd (o := .lst [.ref f4, .ref f5]) (.inl nZ)
    have md4 := (m4.extN x5).upd (o := .lst [.ref f4, .ref f5]) (.inl nZ)
    have md5 := m5.upd (o := .lst [.ref f4, .ref f5]) (.inl nZ)
    refine ⟨W, Z, [.ref f0, .ref f1] ++ [.ref f2, .ref f3], [.ref f4, .ref f5], rfl, rfl, wd2, zd2, by rw [sizeLine_eq]; simp, ?_⟩
    generalize upd G5 Z (.lst [.ref f4, .ref f5]) = Gd at xd2 td2 wd2 zd2 md0 md1 md2 md3 md4 md5
    show tSeq _ _ _ _ _
    have xe := LamV.extN_upd (o := .lst (([.ref f0, .ref f1] ++ [.ref f2, .ref f3]) ++ [.ref f4, .ref f5])) xd2 NW
    have te := LamV.tabs_upd (o := .lst (([.ref f0, .ref f1] ++ [.ref f2, .ref f3]) ++ [.ref f4, .ref f5])) td2 wd2 (fun ps z => nomatch z) (fun φ z => nomatch z)
    have we : upd Gd W (.lst (([.ref f0, .ref f1] ++ [.ref f2, .ref f3]) ++ [.ref f4, .ref f5])) W = some (.lst [.ref f0, .ref f1, .ref f2, .ref f3, .ref f4, .ref f5]) := upd_same
    have me0 := md0.upd (o := .lst (([.ref f0, .ref f1] ++ [.ref f2, .ref f3]) ++ [.ref f4, .ref f5])) (isW wd2)
    have me1 := md1.upd (o := .lst (([.ref f0, .ref f1] ++ [.ref f2, .ref f3]) ++ [.ref f4, .ref f5])) (isW wd2)
    have me2 := md2.upd (o := .lst (([.ref f0, .ref f1] ++ [.ref f2, .ref f3]) ++ [.ref f4, .ref f5])) (isW wd2)
    have me3 := md3.upd (o := .lst (([.ref f0, .ref f1] ++ [.ref f2, .ref f3]) ++ [.ref f4, .ref f5])) (isW wd2)
    have me4 := md4.upd (o := .lst (([.ref f0, .ref f1] ++ [.ref f2, .ref f3]) ++ [.ref f4, .ref f5])) (isW wd2)
    have me5 := md5.upd (o := .lst (([.ref f0, .ref f1] ++ [.ref f2, .ref f3]) ++ [.ref f4, .ref f5])) (isW wd2)
    generalize upd Gd W (.lst (([.ref f0, .ref f1] ++ [.ref f2, .ref f3]) ++ [.ref f4, .ref f5])) = Ge at xe te we me0 me1 me2 me3 me4 me5 ⊢
    have made : ∀ j, j < 6 → ∃ f c' d, ([.ref f0, .ref f1, .ref f2, .ref f3, .ref f4, .ref f5] : List V)[j]? = some (.ref f) ∧ fam.at (X0.env.qual ++ "<lambda>") X0.env.cells j f c' d Ge := fun j hj => by
      match j, hj with
      | 0, _ => exact ⟨f0, c0, d0, rfl, i0, j0, me0⟩
      | 1, _ => exact ⟨f1, c1, d1, rfl, i1, j1, me1⟩
      | 2, _ => exact ⟨f2, c2, d2, rfl, i2, j2, me2⟩
      | 3, _ => exact ⟨f3, c3, d3, rfl, i3, j3, me3⟩
      | 4, _ => exact ⟨f4, c4, d4, rfl, i4, j4, me4⟩
      | 5, _ => exact ⟨f5, c5, d5, rfl, i5, j5, me5⟩
    refine ⟨by rw [sizeLine_eq]; simp, fun p0 n0 => ⟨by rw [sizeLine_eq]; simp, fun p1 n1 => ⟨by rw [sizeLine_eq]; simp, fun p2 n2 => ⟨by rw [sizeLine_eq]; simp, fun p3 n3 => ⟨by rw [sizeLine_eq]; simp, fun p4 n4 => ⟨by rw [sizeLine_eq]; simp, fun p5 n5 => ⟨by rw [sizeLine_eq]; simp, fun U nU => ?_⟩⟩⟩⟩⟩⟩⟩
    obtain ⟨G6, hG6⟩ : ∃ G6, G6 = upd (upd (upd (upd (upd (upd Ge p0 (.tup [.str "place"])) p1 (.tup [.str "place"])) p2 (.tup [.str "load"])) p3 (.tup [.str "place"])) p4 (.tup [.str "load"])) p5 (.tup [.str "bridge"]) := ⟨_, rfl⟩
    have e6 : LamX.ExtN Ge G6 := by
      rw [hG6]
      exact (((((LamV.extN_new n0).trans (LamV.extN_new n1)).trans (LamV.extN_new n2)).trans (LamV.extN_new n3)).trans (LamV.extN_new n4)).trans (LamV.extN_new n5)
    have t6 : LamX.Tabs [(Pt, lamQ)] G6 := by
      rw [hG6]
      exact LamV.tabs_new (LamV.tabs_new (LamV.tabs_new (LamV.tabs_new (LamV.tabs_new (LamV.tabs_new te n0) n1) n2) n3) n4) n5
    have tups : ∀ j b, ([p0, p1, p2, p3, p4, p5] : List Addr)[j]? = some b → G6 b = some (.tup [.str (nm j)]) := fun j b hb => by
      rw [hG6]
      match j, hb with
      | 0, hb => cases hb; show _ = some (HO.tup [V.str "place"]); walk_at "hf"
      | 1, hb => cases hb; show _ = some (HO.tup [V.str "place"]); walk_at "hf"
      | 2, hb => cases hb; show _ = some (HO.tup [V.str "load"]); walk_at "hf"
      | 3, hb => cases hb; show _ = some (HO.tup [V.str "place"]); walk_at "hf"
      | 4, hb => cases hb; show _ = some (HO.tup [V.str "load"]); walk_at "hf"
      | 5, hb => cases hb; show _ = some (HO.tup [V.str "bridge"]); walk_at "hf"
      | j + 6, hb => simp at hb
    rw [← hG6] at nU ⊢
    have x7 : LamX.ExtN H (upd G6 U (.lst [.ref p0, .ref p1, .ref p2, .ref p3, .ref p4, .ref p5])) := (xe.trans e6).trans (LamV.extN_new nU)
    have t7 := LamV.tabs_new (o := .lst [.ref p0, .ref p1, .ref p2, .ref p3, .ref p4, .ref p5]) t6 nU
    have w7 : upd G6 U (.lst [.ref p0, .ref p1, .ref p2, .ref p3, .ref p4, .ref p5]) W = some (.lst [.ref f0, .ref f1, .ref f2, .ref f3, .ref f4, .ref f5]) := (e6.trans (LamV.extN_new nU)) _ _ we fun ps z => nomatch z
    have u7 : upd G6 U (.lst [.ref p0, .ref p1, .ref p2, .ref p3, .ref p4, .ref p5]) U = some (.lst [.ref p0, .ref p1, .ref p2, .ref p3, .ref p4, .ref p5]) := upd_same
    have NU := LamV.new_of (xe.trans e6) t6 nU
    have tups7 : ∀ j b, ([p0, p1, p2, p3, p4, p5] : List Addr)[j]? = some b → upd G6 U (.lst [.ref p0, .ref p1, .ref p2, .ref p3, .ref p4, .ref p5]) b = some (.tup [.str (nm j)]) := fun j b hb => (LamV.extN_new nU) _ _ (tups j b hb) fun ps z => nomatch z
    have made7 : ∀ j, j < 6 → ∃ f c' d, ([.ref f0, .ref f1, .ref f2, .ref f3, .ref f4, .ref f5] : List V)[j]? = some (.ref f) ∧ fam.at (X0.env.qual ++ "<lambda>") X0.env.cells j f c' d (upd G6 U (.lst [.ref p0, .ref p1, .ref p2, .ref p3, .ref p4, .ref p5])) := fun j hj => by
      obtain ⟨f, c', d, h1, h2⟩ := made j hj
      exact ⟨f, c', d, h1, h2.ext fun c φ hc => (e6.trans (LamV.extN_new nU)) _ _ hc fun ps z => nomatch z⟩
    refine kept_end hl h x7 t7 NW NU w7 u7 tups7 made7
  exact ⟨fun pins s1 σ H1 D I h => hr1.run pins s1 σ H1 D I (conv D σ H1 I.len h)⟩
end
end T1

set_option Elab.async false
set_option linter.all false
set_option maxRecDepth 100000
set_option maxHeartbeats 4000000
namespace T1
open PySem PySem.Spec PyProof.Rows L2 C8 Fm
local macro_rules | `(tactic| walk_at "hf") => `(tactic| (fail_if_success (show (fun _ => none : Hp) _ = _)); first | assumption | with_reducible exact upd_same | ((with_reducible show upd _ _ _ _ = _); first | exact up_new' (by assumption) (by walk_at "hf") | exact up_set (by walk_at "ne") (by walk_at "hf")) | exact Same.at' (by assumption) (by walk_at "hf") | exact But.at' (by assumption) (by walk_at "ne") (by walk_at "ne") (by walk_at "hf"))
local macro_rules | `(tactic| walk_at "hf0") => `(tactic| (fail_if_success (show (fun _ => none : Hp) _ = _)); first | assumption | with_reducible exact upd_same | ((with_reducible show upd _ _ _ _ = _); exact up_new' (by assumption) (by walk_at "hf0")))
local macro_rules | `(tactic| walk_at "ne") => `(tactic| first | assumption | (apply Ne.symm; assumption) | exact ne_of_none' (by assumption) (by walk_at "hf0") | exact Ne.symm (ne_of_none' (by assumption) (by walk_at "hf0")) | exact LSt.f1 (by assumption) (by walk_at "lst") | exact LSt.f2 (by assumption) (by walk_at "lst"))
local macro_rules | `(tactic| walk_at "sqt") => `(tactic| (fail_if_success (show SqT _ (fun _ => none) _ _)); first | assumption | exact SqT.of' (by walk_at "hf") | ((with_reducible show SqT _ (upd _ _ _) _ _); first | exact SqT.new' (by assumption) (by walk_at "sqt") | exact SqT.put' (by walk_at "hf") (by walk_at "sqt")) | exact Same.tup (by assumption) (by walk_at "sqt") | exact But.tup (by assumption) (by walk_at "lst") (by walk_at "sqt"))
local macro_rules | `(tactic| walk_at "sql") => `(tactic| (fail_if_success (show SqL _ (fun _ => none) _ _)); first | assumption | exact SqL.of' (by walk_at "hf") | ((with_reducible show SqL _ (upd _ _ _) _ _); exact SqL.new' (by assumption) (by walk_at "sql")) | exact Same.sql' (by assumption) (by walk_at "sql"))
local macro_rules | `(tactic| walk_at "lst") => `(tactic| (fail_if_success (show LSt (fun _ => none) _ _)); first | assumption | ((with_reducible show LSt (upd _ _ _) _ _); first | exact LSt.new (by walk_at "lst") (by assumption) | exact LSt.put (by walk_at "lst") (by walk_at "ne") (by walk_at "ne")) | exact LSt.same' (by assumption) (by walk_at "lst"))
local macro_rules | `(tactic| walk_at "but") => `(tactic| first | assumption | exact But.refl _ _ _ | ((with_reducible show But _ _ _ (upd _ _ _)); exact But.nw (by assumption) (by walk_at "but")) | exact But.bu (by assumption) (by walk_at "but") | exact But.sm (by assumption) (by walk_at "but"))
local macro_rules | `(tactic| walk_at "ls") => `(tactic| first | assumption | exact Ls.same (by walk_at "ls") (Same.upd' (by assumption)))
local macro_rules | `(tactic| walk_at "ll") => `(tactic| first | assumption | exact LL.same (by walk_at "ll") (Same.upd' (by assumption)) | exact LL.same' (by assumption) (by walk_at "ll") | exact LL.but' (by assumption) (by walk_at "lst") (by walk_at "ll"))
local macro_rules | `(tactic| walk_at "sm") => `(tactic| first | assumption | exact Same.refl _ | ((with_reducible show Same _ (upd _ _ _)); first | exact Same.put' (by assumption) (by walk_at "sm") | exact Same.trans (by walk_at "sm") (Same.upd' (by assumption))) | exact Same.trans (by walk_at "sm") (by assumption))
/-- one step of a reading -/
local macro_rules | `(tactic| walk_at "rd") => `(tactic| first
  | with_reducible refine iteF ?_
  | with_reducible refine iteT ?_
  | with_reducible refine itNotF ?_
  | with_reducible refine itNotT ?_
  | refine ⟨_, rfl, ?_⟩
  | refine ⟨_, _, rfl, rfl, ?_⟩
  | refine ⟨_, _, rfl, ?_⟩
  | refine ⟨(_ : Addr), (_ : List V), (_ : Int), (_ : V), rfl, rfl, SqL.of' (by walk_at "hf"), (by first | assumption | rfl), ?_⟩
  | refine ⟨(_ : Addr), (_ : List V), (_ : Int), (_ : V), rfl, rfl, (by walk_at "sqt" : SqT _ _ _ _), (by first | assumption | rfl), ?_⟩
  | refine .inl ⟨_, rfl, ?_⟩
  | refine ⟨_, _, rfl, .inl (by walk_at "sql" : SqL _ _ _ _), ?_⟩
  | refine ⟨_, _, rfl, .inl ⟨(by walk_at "sql" : SqL _ _ _ _), fun p hp => ?_⟩⟩
  | refine ⟨_, _, rfl, .inr ⟨(by walk_at "sqt" : SqT _ _ _ _), ?_⟩⟩
  | refine fun (p : Addr) (hp : (_ : Hp) p = none) => ?_
  | refine ⟨_, _, rfl, .inr (by walk_at "sqt" : SqT _ _ _ _), ?_⟩
  | refine And.intro (by show _ ≤ sizeLine; first | decide | walk_at "sz") (fun p hp => ?_)
  | refine ⟨(_ : Addr), (_ : Addr), (_ : List V), (_ : List V), rfl, rfl, (by walk_at "hf"), (by walk_at "hf"), (by walk_at "sz"), fun p hp => ?_⟩
  | refine ⟨(_ : Addr), (_ : Addr), (_ : List V), (_ : List V), rfl, rfl, (by walk_at "hf"), (by walk_at "hf"), (by walk_at "sz"), ?_⟩
  | refine ⟨(_ : Addr), (_ : List V), (_ : Int), (_ : Nat), rfl, rfl, (by walk_at "hf"), (by rfl), ?_⟩
  | refine And.intro ⟨_, (by walk_at "sql" : SqL _ _ _ _)⟩ ?_
  | refine And.intro ⟨_, (by walk_at "sqt" : SqT _ _ _ _)⟩ ?_
  | refine And.intro (.inl ⟨rfl, _, SqL.of' (by walk_at "hf")⟩) ?_
  | refine And.intro (by walk_at "cond") ?_
  | exact .inl ⟨rfl, _, SqL.of' (by walk_at "hf")⟩
  | with_reducible refine iteT ?_
  | with_reducible refine iteF ?_
  | refine And.intro (by rfl : scal _ _ = true) ?_
  | refine And.intro (by rfl : _ = V.non) ?_
  | refine And.intro (by rfl : wipe _ _ = wipe _ _) ?_
  | refine And.intro (by rfl : (_ : List V) = []) ?_
  | refine ⟨(_ : Addr), (_ : List V), rfl, (by walk_at "sqt" : SqT _ _ _ _), (by rfl), ?_⟩)
/-- a test: known, or both ways -/
local macro_rules | `(tactic| walk_at "if") => `(tactic| first
  | with_reducible refine itD (by omega) ?_
  | with_reducible refine itN (by omega) ?_
  | with_reducible refine itnD (by omega) ?_
  | with_reducible refine itnN (by omega) ?_
  | with_reducible refine itE (by omega) ?_
  | with_reducible refine itEn (by omega) ?_
  | with_reducible refine itnE (by omega) ?_
  | with_reducible refine itnEn (by omega) ?_
  | with_reducible refine itN (by intro z; cases z) ?_
  | with_reducible refine itD (by decide) ?_
  | with_reducible refine itN (by decide) ?_
  | with_reducible refine itnD (by decide) ?_
  | with_reducible refine itnN (by decide) ?_)
local macro_rules | `(tactic| walk_at "if2") => `(tactic| first
  | with_reducible refine itS (fun z => ?_) (fun z => ?_)
  | with_reducible refine itS' (fun z => ?_) (fun z => ?_)
  | with_reducible refine itSE (fun z => ?_) (fun z => ?_)
  | with_reducible refine itnS (fun z => ?_) (fun z => ?_)
  | with_reducible refine itnS' (fun z => ?_) (fun z => ?_)
  | with_reducible refine itnSE (fun z => ?_) (fun z => ?_))
local macro_rules | `(tactic| walk_at "go") => `(tactic| repeat' (first | walk_at "rd" | walk_at "if" | walk_at "if2" | fail))
local macro_rules | `(tactic| walk_at "sz") => `(tactic| (rw [sizeLine_eq]; simp only [List.length_append, List.length_map, List.length_cons, List.length_nil]; omega))
local macro_rules | `(tactic| walk_at "cond") => `(tactic| first | assumption | (show (_ : Int) ≠ 0; first | omega | (split <;> omega)) | (show (0 : Int) < _; first | assumption | decide) | exact ⟨by decide, by decide, by decide⟩ | exact .inr ⟨by decide, by decide⟩ | exact wide_div (b := 64) (by assumption) (by omega) (by decide) (by decide) | exact ⟨by decide, by decide⟩)


local macro_rules | `(tactic| walk_at "sim1") => `(tactic| with_reducible first
  | exact sim_nil | exact sim_var | exact sim_int | exact sim_str | exact sim_bl | exact sim_non | exact sim_raw
  | apply sim_cons | apply sim_op | apply sim_un | apply sim_tup | apply sim_lst
  | apply sim_CB | apply sim_if | apply sim_test | apply sim_B | apply sim_not | apply sim_and | apply sim_or
  | apply sim_andV | apply sim_orV | apply sim_notV | apply sim_chain | exact sim_nopart | apply sim_part
  | apply sim_sl | apply sim_BML | apply sim_BMS | apply sim_BM0S | apply sim_M1 | apply sim_M0
  | apply sim_fmt | apply sim_joined | exact SimJ.nil | apply SimJ.cons
  | exact s_I0i | exact s_I0b | exact s_Ii | exact s_Ui | exact s_eq | exact s_ne | exact s_isN | exact s_notN | exact s_ixL | exact s_ixT | exact s_ixS
  | exact s_cat | exact s_catA | exact s_rep | exact s_repT | exact s_in | exact s_slL | exact s_slA | exact s_slS | exact s_addS | exact s_leS | exact s_ltS
  | exact c_len | exact c_lenS | exact c_list | exact c_tuple | exact c_int1 | exact c_intS | exact c_strI | exact c_max2 | exact c_min2
  | exact m_append | exact m_extend | exact m_split | exact m_join | exact m_0b | exact m_1b
  | apply sim_call | exact simSpF
  | exact sim_name | exact sim_gnil | apply sim_gcons | apply sim_gtup | apply sim_gsub | exact set_list
  | exact sim_next | apply sim_seq | apply sim_cut | exact sim_break | exact sim_cont | apply sim_drop | apply sim_ret | exact sim_retN
  | apply sim_ifS | exact sim_never | apply sim_asg | apply sim_par | apply sim_aug
  | apply sim_for | apply sim_while | apply i_list | apply i_tup | apply i_rng1 | apply i_rng2 | apply i_str | apply i_enum | apply i_zip
  | apply sim_lc | exact sim_yes | exact sim_namew (by decide) | exact sim_gnilw | apply sim_gconsw | apply sim_gtupw
  | apply sim_fld | apply sim_con | apply sim_setFld | apply sim_make | apply sim_prop | apply sim_meth | apply sim_cmeth | exact c_isi | apply sim_isiT | exact s_eqD | exact s_neD
  | walk_at "sim2")
local macro_rules | `(tactic| walk_at "sim2") => `(tactic| fail)
local macro_rules | `(tactic| walk_at "sim") => `(tactic| repeat' (walk_at "sim1"))
/-- open the trees' reading as far as it goes by itself -/
local macro_rules | `(tactic| walk_at "fm") => `(tactic| simp (config := { failIfUnchanged := false }) only [fVar, fC, fOp, fUn, fNil, fCons, fTup, fLst, fCB, fIf, fTest, fNot, fAnd, fOr, fAndV, fOrV, fNotV, fChain, fNoPart, fPart, fI, fI0, fU, fEq, fNe, fIsN, fNotN, fIxL, fIxT, fIxS,
  fCat, fCatA, fRep, fRepT, fSlL, fSlA, fSlS, fSl, fLen, fLenS, fList, fTuple, fIntS, fStrI, fMax2, fMin2, fAppend, fExtend, fIn, fBM, fMS, fBMS, fBM0S, fAddS, fLeS, fLtS, fM0b, fM1b, fSplit, fJoin, fJoined, fJs,
  fName, fGNil, fGCons, fGTup, fSetL, fGSub, fNext, fSeq, fCut, fBreak, fCont, fDrop, fRet, fRetN, fIfS, fAsg, fPar, fAug, fCall, fFld, fCon, fSetFld, fMake, fProp, fMeth, fCMeth, fIsi, fIsiT, fEqD, fNeD, insAt_ref, insO_ins, fFmt, fmtS_i, fmtS_s, fmtOk_i, fmtOk_s, fIL, fIT, fIR1, fIR2, fIS, fIEn, fIZ,
  startL, List.map_cons, List.map_nil, List.length_cons, List.length_nil, List.cons_append, List.nil_append, List.replicate, List.getElem?_cons_zero, List.getElem?_cons_succ, List.set_cons_zero, List.set_cons_succ, Nat.reduceSub, Nat.reduceAdd,
  Option.some.injEq, Tr.int.injEq, Tr.str.injEq, Tr.bl.injEq, Tr.tup.injEq, Tr.ref.injEq, List.cons.injEq, exists_eq_left, exists_eq_left', exists_eq_right, true_and, and_true, and_self, exists_and_left, tupOf_tup, eqS_ii, eqS_ss, eqS_bb, eqS_ni, eqS_in, eqS_nn, isStr_s, isN_n, isN_i, isN_b, isN_s, isN_t, isN_r, noRaw_n, noRaw_i, noRaw_b, noRaw_s, noRaw_t, noRaw_r, and_assoc, reduceIte, Bool.false_eq_true, exists_const, lstAt_ref, seqAt_ref, seqAt_tup, refAt_ref, lstO_lst, app_assoc2, len_app1, at_kk, at_00, set_k, set_00, Nat.add_assoc, Option.map_some, Prod.mk.injEq, int_cast_inj, Nat.zero_le, decide_eq_true_eq, Bool.not_eq_true', decide_eq_false_iff_not, Nat.add_zero, implies_true, forall_const, ite_true, ite_false, if_true, if_false, decide_true, decide_false, Bool.not_true, Bool.not_false, asg_len, Option.isSome_some])
local macro_rules | `(tactic| walk_at "bel") => `(tactic| first | rfl | (simp (config := { failIfUnchanged := false }) only [belM, O.bel, bels_strs, bels_ints, belL, Tr.bel, Tr.bels, Bool.and_true, Bool.true_and, Bool.and_self, decide_eq_true_eq, Bool.and_eq_true, true_and, and_true, List.length_cons, List.length_nil, Nat.reduceAdd]; try omega))

local macro_rules | `(tactic| walk_at "sim2") => `(tactic| first | exact simNext | assumption | exact sim_dnew | apply sim_dnin | apply sim_din | apply sim_dput | apply sim_dget | apply sim_dget1 | exact c_listD | exact c_hpush | exact c_hpop | apply sim_truL | exact c_sum | exact c_sortI | apply sim_match | apply SimM2.cons | exact SimM2.nil | apply i_enumT | apply sim_truS | apply sim_listG | apply sim_lcG | apply sim_eitherG | apply sim_methG | apply sim_methJ | apply sim_either | apply sim_sortKey | apply sim_sortSet | (apply sim_raise0; assumption) | apply sim_plain | apply sim_cval)
local macro_rules | `(tactic| walk_at "sim1") => `(tactic| first | (with_reducible apply sim_callX; assumption) | (with_reducible apply sim_methX; assumption) | (with_reducible apply sim_makeX; assumption) | (with_reducible apply sim_makeKX; assumption) | (with_reducible apply sim_makeVSX; assumption) | (with_reducible apply sim_conA) | (with_reducible apply sim_sortSet))
local macro_rules | `(tactic| walk_at "fm2") => `(tactic| simp (config := { failIfUnchanged := false }) only [dm_app, dm_len, dm_at, dm_at0, dm_set, dm_set0, List.getElem?_cons_zero, List.getElem?_cons_succ, List.set_cons_zero, List.set_cons_succ, lstO_lst, Option.isSome_some, Option.map_some, Option.some.injEq, Prod.mk.injEq, Nat.add_assoc, Nat.reduceAdd, exists_eq_left', exists_eq_left, true_and, and_assoc, fRaise0, fPlain, fCVal, fNv, int1_i, fEither, fTruS, fIEnT, fMatch, fGoM, setAllT, fMakeK, fMakeVS, fMethJ, fEitherG, fListG, fSortKey, fSortSet, fConA, fDnew, fDNin, fDIn, fDPut, fDGet, fDGet1, fListD, fTruL, fHpush, fHpop, fSum, fSortI])
local macro_rules | `(tactic| walk_at "fd") => `(tactic| (walk_at "fm"; walk_at "fm2"; walk_at "fm"; walk_at "fm2"; walk_at "fm"))

local macro_rules | `(tactic| walk_at "sim2") => `(tactic| first | apply sim_lstRg | (with_reducible apply sim_cutF))
/-! ### the law -/
def fVs : List Nat → FA
  | [] => fNil
  | i :: is => fCons (fVar i) (fVs is)
theorem sim_vs {K : PySem.W.Frag} {B : Bs} : ∀ is : List Nat, SimA K B (tVs is) (fVs is)
  | [] => sim_nil
  | _ :: is => sim_cons sim_var (sim_vs is)
def ff (C : Addr) (cs : ErrC) : Nat → PXF → FE
  | 0, E => fCall (fsShort C cs) E (fVs [5, 6, 13, 7, 14])
  | 1, E => fCall (fsShort C cs) E (fVs [5, 6, 7, 13, 14])
  | 2, E => fCall (fsShort C cs) E (fVs [5, 6, 7, 8, 14])
  | 3, E => fCall (fsReach C cs) E (fVs [5, 6, 13, 14])
  | 4, E => fCall (fsReach C cs) E (fVs [5, 6, 7, 14])
  | _, E => fCall (fsRlen C cs) E (fCons (fVar 5) (fCons (fTup (fCons (fVar 15) fNil)) fNil))
theorem sim_ff {K : PySem.W.Frag} {C : Addr} {cs : ErrC} (j : Nat) (B : Bs) (E : XK) (PX : PXF) (hE : OutX K B.1 B.2 PX E) : SimE K B (tt K C cs j E) (ff C cs j PX) := by
  match j with
  | 0 => exact sim_callX hE simSpF (sim_vs _)
  | 1 => exact sim_callX hE simSpF (sim_vs _)
  | 2 => exact sim_callX hE simSpF (sim_vs _)
  | 3 => exact sim_callX hE simSpF (sim_vs _)
  | 4 => exact sim_callX hE simSpF (sim_vs _)
  | j + 5 => exact sim_callX hE simSpF (sim_cons sim_var (sim_cons (sim_tup (sim_cons sim_var sim_nil)) sim_nil))
theorem sim_kp {K : PySem.W.Frag} {B : Bs} {T : List (Addr × Str)} {C : Addr} {cs : ErrC} {cl : Nat → Addr} : SimS K B (LamV.tKept K T (tt K C cs) (dc cl) 6 16 10) (fKept T (ff C cs) (dc cl) 6 16 10) := sim_kept sim_ff
local macro_rules | `(tactic| walk_at "sim1") => `(tactic| exact sim_kp)
theorem short_uniq {st : GM.Step} {a b : Int} {t u : Tr} (h : ShortT st a b t) (k : ShortT st a b u) : t = u := by
  rcases h with ⟨l, r, h, rfl⟩ | ⟨h, rfl⟩ <;> rcases k with ⟨l2, r2, k, rfl⟩ | ⟨k, rfl⟩
  · have e : r = r2 := congrArg Prod.snd (h.uniq k)
    rw [e]
  · exact absurd rfl (k _ _ _ h.w)
  · exact absurd rfl (h _ _ _ k.w)
  · rfl
theorem simp_len {c : Int} {st : GM.Step} {e : Int} (hk : ∀ p k x, st p k = some x → 0 ≤ x.1 ∧ x.1 < c) (c0 : 0 ≤ c) : ∀ (r : List Nat) (p : Int) (used : List Int), used.Nodup → (∀ x ∈ used, 0 ≤ x ∧ x < c) → GM.Simp st e p used r → used.length + r.length ≤ c.toNat
  | [], p, used, nd, hu, _ => nodup_le c.toNat used nd fun x hx => by have := hu x hx; omega
  | k :: r, p, used, nd, hu, hs => by
    obtain ⟨_, x, hx, hn, hs⟩ := hs
    have h2 := hk _ _ _ hx
    have := simp_len hk c0 r x.1 (used ++ [x.1]) (by rw [List.nodup_append]; exact ⟨nd, by simp, fun y hy z hz => by rw [List.mem_singleton.mp hz]; exact fun w => hn (w ▸ hy)⟩) (fun y hy => by
      rcases List.mem_append.mp hy with h | h
      · exact hu y h
      · rw [List.mem_singleton.mp h]; exact h2) hs
    rw [List.length_append] at this
    simp only [List.length_cons, List.length_nil] at this ⊢
    omega
theorem best_len {c : Int} {ls : List Lk} {rem : List Int} {ld a b l : Int} {r : List Nat} (hg : ∀ x ∈ ls, goodLk c x) (a0 : 0 ≤ a) (a1 : a < c) (h : GM.Best (stp ls rem ld) a b (l, r)) : r.length ≤ c.toNat := by
  obtain ⟨r', l', k1, k2, k3⟩ := GM.simp_le (st := stp ls rem ld) (fun p i q l h => (stp_k hg p i (q, l) h).2.2.2) r.length (Nat.le_refl _) h.w
  have e := GM.ltR_tot (a := (l, r)) (b := (l', r')) k3 (h.le _ _ k1)
  have e2 : r = r' := congrArg Prod.snd e
  have := simp_len (c := c) (fun p k x h => by obtain ⟨_, h2, h3, _⟩ := stp_k hg p k x h; exact ⟨h2, h3⟩) (by omega) r' a [a] (by simp) (fun x hx => by rw [List.mem_singleton.mp hx]; exact ⟨a0, a1⟩) k2
  rw [e2]
  simp only [List.length_cons, List.length_nil] at this
  omega
theorem walk_k {c : Int} {ls : List Lk} {rem : List Int} {ld : Int} (hg : ∀ x ∈ ls, goodLk c x) : ∀ {r : List Nat} {a q l : Int}, GM.walk (stp ls rem ld) a r = some (q, l) → ∀ k ∈ r, k < ls.length
  | [], _, _, _, _, k, hk => by cases hk
  | k0 :: r, a, q, l, hw, k, hk => by
    obtain ⟨x, b, e1, e2, _, _⟩ := GM.walk_cons_some hw
    rcases List.mem_cons.mp hk with rfl | h
    · exact (stp_k hg _ _ _ e1).1
    · exact walk_k hg (q := b.1) (l := b.2) e2 k h
theorem rt_ni (r : List Nat) : rtT r = .tup ((MNx.ni r).map Tr.int) := by
  unfold rtT MNx.ni
  rw [List.map_map]
  rfl
theorem like_ints {M : Mem} (xs : List Int) (h : xs.length ≤ 1000000) : LikeT 2 M (.tup (xs.map Tr.int)) (.tup (xs.map Tr.int)) := by
  refine .inr ⟨_, _, .inl ⟨rfl, rfl⟩, rfl, by rw [List.length_map]; exact h, fun i a b ha hb => ?_⟩
  rw [ha] at hb
  cases hb
  rw [List.getElem?_map] at ha
  cases e : xs[i]? with
  | none => rw [e] at ha; cases ha
  | some x => rw [e] at ha; cases ha; exact .inl (.inl ⟨x, rfl, rfl⟩)
theorem like_lst {M : Mem} {n m : Nat} (xs : List Int) (h : xs.length ≤ 1000000) (hn : M[n]? = some (.lst (xs.map Tr.int))) (hm : M[m]? = some (.lst (xs.map Tr.int))) : LikeT 2 M (.ref n) (.ref m) := by
  refine .inr ⟨_, _, .inr ⟨lstAt_of hn, lstAt_of hm⟩, rfl, by rw [List.length_map]; exact h, fun i a b ha hb => ?_⟩
  rw [ha] at hb
  cases hb
  rw [List.getElem?_map] at ha
  cases e : xs[i]? with
  | none => rw [e] at ha; cases ha
  | some x => rw [e] at ha; cases ha; exact .inl (.inl ⟨x, rfl, rfl⟩)
theorem like_short {c : Int} {ls : List Lk} {rem : List Int} {ld a b : Int} {t : Tr} {M : Mem} (hg : ∀ x ∈ ls, goodLk c x) (a0 : 0 ≤ a) (a1 : a < c) (c1 : c ≤ 12) (h : ShortT (stp ls rem ld) a b t) : LikeT 2 M t t := by
  rcases h with ⟨l, r, hB, rfl⟩ | ⟨_, rfl⟩
  · have := best_len hg a0 a1 hB
    rw [rt_ni]
    exact like_ints _ (by unfold MNx.ni; rw [List.length_map]; omega)
  · exact .inl (.inr (.inr (.inr ⟨rfl, rfl⟩)))
theorem noRaw_short {st : GM.Step} {a b : Int} {t : Tr} (h : ShortT st a b t) : noRaw t = true := by
  rcases h with ⟨l, r, hB, rfl⟩ | ⟨_, rfl⟩ <;> rfl
noncomputable def reachL (st : GM.Step) (a : Int) (xs : List Int) : List Int := xs.filter fun q => @decide (∃ r l, GM.walk st a r = some (q, l)) (Classical.propDecidable _)
noncomputable def fF (st : GM.Step) (a : Int) : Tr → Option Tr
  | .int q => @ite _ (∃ r l, GM.walk st a r = some (q, l)) (Classical.propDecidable _) (some (.int q)) none
  | _ => none
theorem fF_ints (st : GM.Step) (a : Int) : ∀ xs : List Int, (xs.map Tr.int).filterMap (fF st a) = (reachL st a xs).map Tr.int
  | [] => rfl
  | x :: xs => by
    classical
    rw [List.map_cons, List.filterMap_cons]
    unfold reachL
    rw [List.filter_cons]
    by_cases h : ∃ r l, GM.walk st a r = some (x, l)
    · have e : fF st a (.int x) = some (.int x) := if_pos h
      rw [e, if_pos (decide_eq_true h), List.map_cons, fF_ints st a xs]
      rfl
    · have e : fF st a (.int x) = none := if_neg h
      rw [e, if_neg (by rw [decide_eq_false h]; decide), fF_ints st a xs]
      rfl
theorem reach_eq {c : Int} {ls : List Lk} {rem : List Int} {ld a : Int} {ns : List Int} (ok : okTown c ls) (a0 : 0 ≤ a) (a1 : a < c) (R : Reach (stp ls rem ld) a ns) : ns = reachL (stp ls rem ld) a (upI c.toNat) := by
  refine asc_eq R.asc ((upI_asc _).filter _) fun q => ?_
  unfold reachL
  classical
  rw [R.mem, List.mem_filter, mem_upI, decide_eq_true_eq]
  constructor
  · rintro ⟨r, l, hw⟩
    have := walk_place ok a0 a1 hw
    exact ⟨by omega, r, l, hw⟩
  · rintro ⟨_, h⟩
    exact h
theorem pick2 (u v : Int) (r : Int) (h0 : 0 ≤ r) (h1 : r < 2) : ∃ w, atI [Tr.int u, Tr.int v] r = some (.int w) ∧ (w = u ∨ w = v) := by
  have hr : r = 0 ∨ r = 1 := by omega
  rcases hr with rfl | rfl
  · exact ⟨u, rfl, .inl rfl⟩
  · exact ⟨v, rfl, .inr rfl⟩
theorem run_at {K : PySem.W.Frag} {B : Bs} {H : Hp} {ρ : List Addr} {L : Fm.Loc} {σ : L2.St} {M : Mem} {t : TS} {f : FS} {D' : FEnds} {D : Ends} (sim : SimS K B t f) (hl : RX K B H ρ L σ) (hm : RM K H ρ M) (p : f D' L M) (e : EndR K B H ρ D' D) : t D σ H := sim.run hl hm p e
/-- what the law calls -/
structure CLaw (P : Program) (w : World) (K : PySem.W.Frag) (mg : Str → Option Value) (base : Heap) (C : Addr) (cs : ErrC) : Prop extends Cc P w K mg base C cs where
  _law_mix : Cal P w K mg base 1 "_law_mix" (spMix K) []
  _law_links : Cal P w K mg base 3 "_law_links" (spF K fs__law_links) []
  _law_way : Cal P w K mg base 7 "_law_way" (spF K fsWay) []
  _law_chain_right : Cal P w K mg base 8 "_law_chain_right" (spF K fsChain) []
def spLaw (K : PySem.W.Frag) (Pt : Addr) (q : Str) : Sp := fun vs H Q _ => ∃ (a : Addr) (ns : List Int), vs = [.ref a] ∧ SqL K H a (ns.map V.int) ∧ ns.length ≤ 63 ∧ LamX.Tabs [(Pt, q)] H ∧ ∀ H', Q (.bl true) H'
section
variable {P : Program} {w : World} {K : PySem.W.Frag} {mg : Str → Option Value} {base : Heap} {CT : Addr} {cs : ErrC}
theorem law_rest {f clA Pt gE CB : Addr} {cl : Nat → Addr} {oc dV kV doc pm cdE ct : Value} {od an : Option Addr} {osl : Array (Option Value)} {A : Around} {outer : List Env} {s : Shared} {H : Hp} {E : XK} (T : BR K mg cs) (CL : CLaw P w K mg base CT cs) (LE : CatchAt K mg gE oc od dV kV doc pm an cdE ct osl) (TB : LamX.TabB base mg clA Pt)
    (G : Cls12 mg CB cl) (P5 : PlainE K CB (cl 5) cl 5) (P6 : PlainE K CB (cl 6) cl 6) (P7 : PlainE K CB (cl 7) cl 7) (hcs : cs.place = cl 6 ∧ cs.bridge = cl 7 ∧ cs.load = cl 5) (hr : Room 11 (A.deeper (envOfC "law" (fnScope s_law) s.heap.objs.size f (.ref clA)))) :
    ∃ r : TS, PSs (cxOf C8.CX0 P w K mg base slots "law" (fnScope s_law) f (.ref clA) A outer s H E).nox ((fnBody s_law).drop 1) r ∧ ∀ (H1 : Hp) (h sA a : Addr) (d : Dr), d.ok → RM K H1 [sA, h, Pt] (dm d [O.tab Pt lamQ]) → ∀ D : Ends, (∀ G, D.rt (.bl true) G) → r D ((L2.start slots [.ref a]).set 1 (some (.ref h))) H1 := by
  let X0 : Cx := (cxOf C8.CX0 P w K mg base slots "law" (fnScope s_law) f (.ref clA) A outer s H E).nox
  have C := CL
  have C0 := CL.toCc
  refine ⟨_, (pss_cons (ps_if (pt_not (pt_val (pe_c C._law_chain_right hr (by first | decide | omega) (by rfl) (pa_cons (pv 1) pa_nil)))) (pss_one (ps_ret pe_bl)) pss_nil)
 (pss_cons (ps_for PassesOwn.never rfl (pi_range1 (by rfl) T.range (pa_cons pe_int pa_nil)) (pg_name (i := 2) scLaw.nd rfl (Or.inl rfl)) (pss_cons (ps_set (i := 3) scLaw.nd rfl (Or.inl rfl) (pe_op op_add pe_int (pe_c C._law_next hr (by first | decide | omega) (by rfl) (pa_cons (pv 1) (pa_cons pe_int pa_nil)))))
 (pss_cons (ps_set (i := 4) scLaw.nd rfl (Or.inr rfl) (pe_c C._law_links hr (by first | decide | omega) (by rfl) (pa_cons (pv 1) (pa_cons (pv 3) (pa_cons pe_int (pa_cons pe_bl pa_nil))))))
 (pss_cons (ps_asg (pe_tup (pa_cons (pe_mkX C0.Town hr (by decide) (by rfl) L2.pass0 (pa_cons (pv 3) (pa_cons (pv 4) pa_nil))) (pa_cons (pe_callTy call_tuple_of (by rfl) T.tuple (by decide +kernel) (pa_cons (pe_lc (own := [("_law_link", 18)]) (g := gName 18) rfl scLaw.nd (pi_tup (pv 4)) (blkOk_by (N := ["_law_script", "_law_h", "_law_turn", "_law_count", "_law_links_here", "_law_town", "_law_lives", "_law_one", "_law_other", "_law_load", "_law_due", "_law_length", "_law_found", "_law_bad", "_law_odd", "_law_no", "_law_works", "_law_k", "_law_link", "_law_place", "_law_call"]) (sc := fnScope s_law) (by decide +kernel)) (fun _ _ _ _ _ => pg_name (i := 18) scLaw.nd rfl (Or.inl rfl)) (fun _ _ _ _ _ => pts_nil) (fun _ _ _ _ _ => (pe_c C._law_next hr (by first | decide | omega) (by rfl) (pa_cons (pv 1) (pa_cons pe_int pa_nil))))) pa_nil)) pa_nil))) (pg_tup rfl (pgs_cons (pg_name (i := 5) scLaw.nd rfl (Or.inr rfl)) (pgs_cons (pg_name (i := 6) scLaw.nd rfl (Or.inr rfl)) pgs_nil))))
 (pss_cons (ps_asg (pe_tup (pa_cons (pe_c C._law_next hr (by first | decide | omega) (by rfl) (pa_cons (pv 1) (pa_cons (pv 3) pa_nil))) (pa_cons (pe_c C._law_next hr (by first | decide | omega) (by rfl) (pa_cons (pv 1) (pa_cons (pv 3) pa_nil))) (pa_cons (pe_op op_add pe_int (pe_c C._law_next hr (by first | decide | omega) (by rfl) (pa_cons (pv 1) (pa_cons pe_int pa_nil)))) pa_nil)))) (pg_tup rfl (pgs_cons (pg_name (i := 7) scLaw.nd rfl (Or.inr rfl)) (pgs_cons (pg_name (i := 8) scLaw.nd rfl (Or.inr rfl)) (pgs_cons (pg_name (i := 9) scLaw.nd rfl (Or.inr rfl)) pgs_nil)))))
 (pss_cons (ps_set (i := 10) scLaw.nd rfl (Or.inl rfl) (pe_c C._law_way hr (by first | decide | omega) (by rfl) (pa_cons (pv 4) (pa_cons (pv 6) (pa_cons (pe_tup (pa_cons (pv 7) (pa_cons (pv 8) (pa_cons (pv 9) pa_nil)))) pa_nil)))))
 (pss_cons (ps_if (pt_not (pt_val (pe_c C._law_alike hr (by first | decide | omega) (by rfl) (pa_cons (pe_cX C.shortest_route hr (by first | decide | omega) (by rfl) pass_no (pa_cons (pv 5) (pa_cons (pv 6) (pa_cons (pv 7) (pa_cons (pv 8) (pa_cons (pv 9) pa_nil)))))) (pa_cons (pv 10) pa_nil))))) (pss_one (ps_ret pe_bl)) pss_nil)
 (pss_cons (ps_set (i := 11) scLaw.nd rfl (Or.inl rfl) pe_int)
 (pss_cut (ps_for PassesOwn.never rfl (pi_tup (pe_ifExp (pt_cmpR op_notN (pv 10) pe_non (nomark _)) (pv 10) (pe_tup pa_nil))) (pg_name (i := 17) scLaw.nd rfl (Or.inl rfl)) (pss_one (ps_set (i := 11) scLaw.nd rfl (Or.inl rfl) (pe_op op_add (pv 11) (pe_ix ix_tup (pe_ix ix_tup (pv 4) (pv 17) (fun _ _ => rfl)) pe_int (fun _ _ => rfl))))))
 (pss_cut (ps_if (PW.pt (pw_and (pt_cmpR op_notN (pv 10) pe_non (nomark _)) (pw_and1 (pt_not (pt_val (pe_c C._law_alike hr (by first | decide | omega) (by rfl) (pa_cons (pe_cX C.route_length hr (by first | decide | omega) (by rfl) pass_no (pa_cons (pv 5) (pa_cons (pv 10) pa_nil))) (pa_cons (pv 11) pa_nil)))))))) (pss_one (ps_ret pe_bl)) pss_nil)
 (pss_cons (ps_setLc (i := 12) (own := [("_law_place", 19)]) (g := gName 19) rfl scLaw.nd rfl rfl (sw_true rfl rfl rfl rfl) (pi_range1 (by rfl) T.range (pa_cons (pv 3) pa_nil)) (blkOk_by (N := ["_law_script", "_law_h", "_law_turn", "_law_count", "_law_links_here", "_law_town", "_law_lives", "_law_one", "_law_other", "_law_load", "_law_due", "_law_length", "_law_found", "_law_bad", "_law_odd", "_law_no", "_law_works", "_law_k", "_law_link", "_law_place", "_law_call"]) (sc := fnScope s_law) (by decide +kernel)) (fun _ _ _ _ _ => pg_name (i := 19) scLaw.nd rfl (Or.inl rfl)) (fun _ _ _ _ _ => (pts_one (pt_cmpR op_notN (pe_c C._law_way hr (by first | decide | omega) (by rfl) (pa_cons (pv 4) (pa_cons (pv 6) (pa_cons (pe_tup (pa_cons (pv 7) (pa_cons (pv 19) (pa_cons (pv 9) pa_nil)))) pa_nil)))) pe_non (nomark _)))) (fun _ _ _ _ _ => (pv 19)))
 (pss_cons (ps_if (pt_not (pt_val (pe_c C._law_alike hr (by first | decide | omega) (by rfl) (pa_cons (pe_cX C.reached_places hr (by first | decide | omega) (by rfl) pass_no (pa_cons (pv 5) (pa_cons (pv 6) (pa_cons (pv 7) (pa_cons (pv 9) pa_nil))))) (pa_cons (pv 12) pa_nil))))) (pss_one (ps_ret pe_bl)) pss_nil)
 (pss_cons (ps_asg (pe_tup (pa_cons (pe_ix ix_list (pe_lst (pa_cons (pe_un un_neg pe_int) (pa_cons (pv 3) pa_nil))) (pe_c C._law_next hr (by first | decide | omega) (by rfl) (pa_cons (pv 1) (pa_cons pe_int pa_nil))) (fun _ _ => rfl)) (pa_cons (pe_ix ix_list (pe_lst (pa_cons pe_int (pa_cons pe_int pa_nil))) (pe_c C._law_next hr (by first | decide | omega) (by rfl) (pa_cons (pv 1) (pa_cons pe_int pa_nil))) (fun _ _ => rfl)) (pa_cons (pe_ix ix_list (pe_lst (pa_cons (pe_un un_neg pe_int) (pa_cons (pe_callB call_len_seq (by rfl) T.len PySem.boot_len (pa_cons (pv 4) pa_nil)) pa_nil))) (pe_c C._law_next hr (by first | decide | omega) (by rfl) (pa_cons (pv 1) (pa_cons pe_int pa_nil))) (fun _ _ => rfl)) pa_nil)))) (pg_tup rfl (pgs_cons (pg_name (i := 13) scLaw.nd rfl (Or.inr rfl)) (pgs_cons (pg_name (i := 14) scLaw.nd rfl (Or.inr rfl)) (pgs_cons (pg_name (i := 15) scLaw.nd rfl (Or.inr rfl)) pgs_nil)))))
 (ps_kept (k := 0) T C0 LE TB G P5 P6 P7 (hr.mono (by decide))))))))))))))))
 (pss_one (ps_ret pe_bl)))), fun H1 h sA a d hd m0 D hD => ?_⟩
  have hl0 : RX K (H1, [sA, h, Pt]) H1 [sA, h, Pt] (some (.raw (.ref a)) :: some (.ref 1) :: List.replicate 19 none) ((L2.start slots [.ref a]).set 1 (some (.ref h))) := by
    refine ⟨?_, Grow.refl⟩
    refine ⟨_, _, rfl, ⟨_, rfl, by unfold RT; rfl⟩, _, _, rfl, ⟨_, rfl, by unfold RT; exact ⟨h, rfl, rfl⟩⟩, ?_⟩
    exact RL.nones 19 _ rfl
  simp only [X0, nox_K, cx_K]
  have hM : belM (List.length (dm d [O.tab Pt lamQ])) (dm d [O.tab Pt lamQ]) = true := m0.belM
  refine run_at (D' := { nx := fun _ _ => False, rt := fun v _ => v = .bl true, bk := fun _ _ => False, ct := fun _ _ => False }) (by walk_at "sim") hl0 m0 ?_ ⟨fun _ _ _ _ _ _ _ _ p => p.elim, fun v x G ρ' M' _ _ rx p => (by subst p; rw [rx.bl_inv]; exact hD _), fun _ _ _ _ _ _ _ _ p => p.elim, fun _ _ _ _ _ _ _ _ p => p.elim⟩
  walk_at "fd"
  refine ⟨d, [O.tab Pt lamQ], rfl, rfl, hd, fun d1 hd1 => ⟨true, rfl, ?_⟩⟩
  rw [if_neg (by decide)]
  unfold fFor
  walk_at "fd"
  refine ⟨by decide, by decide, fun i L2 M2 => ∃ (d : Dr) (v2 v3 v4 v5 v6 v7 v8 v9 v10 v11 v12 v13 v14 v15 v16 v17 v18 v19 v20 : Option Tr), d.ok ∧ L2 = [some (.raw (.ref a)), some (.ref 1), v2, v3, v4, v5, v6, v7, v8, v9, v10, v11, v12, v13, v14, v15, v16, v17, v18, v19, v20] ∧ M2 = dm d [O.tab Pt lamQ], ⟨d1, none, none, none, none, none, none, none, none, none, none, none, none, none, none, none, none, none, none, none, hd1, rfl, rfl⟩, ?_⟩
  · rintro i y L2 M2 hy ⟨d2, v2, v3, v4, v5, v6, v7, v8, v9, v10, v11, v12, v13, v14, v15, v16, v17, v18, v19, v20, hd2, rfl, rfl⟩
    walk_at "fd"
    refine next_0 hd2 (by decide) (by decide) fun r1 d3 hd3 r10 r11 => ⟨r1, rfl, ?_⟩
    refine ⟨1 + r1, 9, false, d3, [O.tab Pt lamQ], rfl, rfl, hd3, by omega, by omega, by decide, by decide, fun ls d4 hd4 hll hok => ?_⟩
    obtain ⟨c, hc⟩ : ∃ c, 1 + r1 = c := ⟨_, rfl⟩
    rw [hc] at hok ⊢
    have h9 : ls.length ≤ 9 := by omega
    have okT : okTown c ls := ⟨by omega, by omega, by omega, hok⟩
    walk_at "fd"
    refine ⟨_, c, ls, rfl, rfl, okT, ?_⟩
    have set3 : ∀ (d : Dr) (o u : O), (dm d [O.tab Pt lamQ] ++ [o]).set 3 u = dm d [O.tab Pt lamQ] ++ [u] := fun _ _ _ => rfl
    rw [set3]
    refine ⟨rfl, ?_⟩
    have hbM : ∀ d : Dr, belM (List.length (dm d [O.tab Pt lamQ] ++ [O.ins CT (tFT c ls)])) (dm d [O.tab Pt lamQ] ++ [O.ins CT (tFT c ls)]) = true := fun d => belM_app2 (belM_dm hM) (by simp only [belM, O.bel, tFT, belF, Tr.bel, bel_lks, Bool.and_true])
    rw [fLc]
    walk_at "fd"
    refine ⟨fun i acc M2 => ∃ (d5 : Dr) (rs : List Int), d5.ok ∧ M2 = dm d5 [O.tab Pt lamQ] ++ [O.ins CT (tFT c ls)] ∧ acc = rs.map Tr.int ∧ rs.length = i, ⟨d4, [], hd4, rfl, rfl, rfl⟩, ?_, ?_⟩
    · rintro j t acc M2 htj ⟨d5, rs, hd5, rfl, rfl, hrl⟩
      have hj : j < ls.length := by
        have := (List.getElem?_eq_some_iff.mp htj).1
        simpa using this
      simp only [wipeF]
      walk_at "fd"
      refine next_at hd5 (by decide) (by decide) fun z d6 hd6 z0 z1 => ⟨by rw [List.length_map, sizeLine_eq]; omega, forgetA_whole (by simp [dm_len]) ?_ (hbM d6) ⟨d6, hd6, rfl, rs ++ [z], by rw [List.map_append]; rfl, by rw [List.length_append, hrl]; rfl⟩⟩
      have := bels_ints (n := List.length (dm d6 [O.tab Pt lamQ] ++ [O.ins CT (tFT c ls)])) (rs ++ [z])
      rwa [List.map_append] at this
    · rintro acc M2 ⟨d5, rs, hd5, rfl, rfl, hrl⟩
      rw [List.length_map] at hrl
      walk_at "fd"
      refine ⟨by rw [sizeLine_eq]; decide, next_at hd5 (by omega) (by omega) fun p1 d6 hd6 p10 p11 => next_at hd6 (by omega) (by omega) fun p2 d7 hd7 p20 p21 => next_at hd7 (by decide) (by decide) fun p3 d8 hd8 p30 p31 => ⟨p3, rfl, by rw [sizeLine_eq]; decide, by rw [sizeLine_eq]; decide, ?_⟩⟩
      refine ⟨c, ls, rs, p1, p2, 1 + p3, rfl, hrl, h9, by omega, hok, p10, p11, fun t hS => ?_⟩
      have hta : ∀ (d : Dr) (g : Mem), TownAt CT (dm d [O.tab Pt lamQ] ++ (O.ins CT (tFT c ls) :: g)) 3 c ls := fun d g => ⟨rfl, okT⟩
      obtain ⟨ld, hld⟩ : ∃ ld, 1 + p3 = ld := ⟨_, rfl⟩
      have ld1 : 1 ≤ ld ∧ ld ≤ 9 := by omega
      rw [hld] at hS ⊢
      refine ⟨3, c, ls, rs, p1, p2, ld, rfl, hta _ _, hrl, fun z => absurd ⟨p10, p11⟩ z, fun _ z => absurd ⟨p20, p21⟩ z, fun _ _ z => absurd ld1 z, fun _ _ _ t2 hS2 => ?_⟩
      obtain rfl := short_uniq hS hS2
      refine ⟨_, _, rfl, like_short hok p10 p11 (by omega) hS, true, rfl, ?_⟩
      rw [if_neg (by decide)]
      have hb2 : ∀ N, belM N [O.ins CT (tFT c ls), O.lst (rs.map Tr.int)] = true := fun N => by simp only [belM, O.bel, tFT, belF, Tr.bel, bel_lks, bels_ints, Bool.and_true]
      have hbM2 : belM (List.length (dm d8 [O.tab Pt lamQ] ++ [O.ins CT (tFT c ls), O.lst (rs.map Tr.int)])) (dm d8 [O.tab Pt lamQ] ++ [O.ins CT (tFT c ls), O.lst (rs.map Tr.int)]) = true := belM_app2 (belM_dm hM) (hb2 _)
      have tbl : ∀ N, Tr.bel N t = true := fun N => bel_short hS
      refine ⟨noRaw_short hS, fun L' M' => ∃ (n : Int) (v12 v13 v14 v15 v16 v17 v18 v19 v20 : Option Tr), L' = [some (.raw (.ref a)), some (.ref 1), some y, some (.int c), some (.tup (ls.map lkT)), some (.ref 3), some (.tup (rs.map Tr.int)), some (.int p1), some (.int p2), some (.int ld), some t, some (.int n), v12, v13, v14, v15, v16, v17, v18, v19, v20] ∧ M' = dm d8 [O.tab Pt lamQ] ++ [O.ins CT (tFT c ls), O.lst (rs.map Tr.int)] ∧ ∀ r, t = rtT r → n = ((MNx.ni r).map (lenAt ls)).sum, ?_, ?_⟩
      · have hlr : ∀ N, Tr.bels N (ls.map lkT) = true := fun N => bel_lks ls
        have bl : ∀ (n : Int) (u : Tr), (∀ N, Tr.bel N u = true) → belL (List.length (dm d8 [O.tab Pt lamQ] ++ [O.ins CT (tFT c ls), O.lst (rs.map Tr.int)])) [some (.raw (.ref a)), some (.ref 1), some y, some (.int c), some (.tup (ls.map lkT)), some (.ref 3), some (.tup (rs.map Tr.int)), some (.int p1), some (.int p2), some (.int ld), some u, some (.int n), none, none, none, none, none, none, none, none, none] = true := fun n u hu => by
          have hy : ∃ k, y = .int k := by obtain ⟨_, e⟩ := rngT_get hy; exact ⟨_, e⟩
          obtain ⟨k, rfl⟩ := hy
          simp only [belL, Tr.bel, hlr, bels_ints, hu, Bool.and_true, Bool.true_and, Bool.and_eq_true, decide_eq_true_eq, List.length_append, dm_len, List.length_cons, List.length_nil]
          omega
        rcases hS with ⟨l, r, hB, rfl⟩ | ⟨hno, rfl⟩
        · have hrc := best_len hok p10 p11 hB
          have hrk := walk_k hok hB.w
          rw [if_pos (show isN (rtT r) = false from rfl)]
          refine ⟨_, rfl, fun i L2 M2 => ∃ v12 v13 v14 v15 v16 v17 v18 v19 v20, L2 = [some (.raw (.ref a)), some (.ref 1), some y, some (.int c), some (.tup (ls.map lkT)), some (.ref 3), some (.tup (rs.map Tr.int)), some (.int p1), some (.int p2), some (.int ld), some (rtT r), some (.int ((((MNx.ni r).take i).map (lenAt ls)).sum)), v12, v13, v14, v15, v16, v17, v18, v19, v20] ∧ M2 = dm d8 [O.tab Pt lamQ] ++ [O.ins CT (tFT c ls), O.lst (rs.map Tr.int)], ⟨v12, v13, v14, v15, v16, v17, v18, v19, v20, rfl, rfl⟩, ?_, ?_⟩
          · rintro k u L2 M2 hu ⟨w12, w13, w14, w15, w16, w17, w18, w19, w20, rfl, rfl⟩
            rw [List.getElem?_map] at hu
            cases hk : r[k]? with
            | none => rw [hk] at hu; cases hu
            | some x =>
              rw [hk] at hu
              cases hu
              have hx := hrk x (List.mem_of_getElem? hk)
              refine ⟨_, rfl, _, rfl, _, rfl, _, rfl, _, rfl, lkT ls[x], atI_nat (by rw [List.getElem?_map, List.getElem?_eq_getElem hx]; rfl), _, rfl, _, rfl, _, rfl, _, rfl, ?_⟩
              have es : (((MNx.ni r).take (k + 1)).map (lenAt ls)).sum = (((MNx.ni r).take k).map (lenAt ls)).sum + ls[x].2.2.1 := by
                have e1 : (MNx.ni r)[k]? = some (x : Int) := by unfold MNx.ni; rw [List.getElem?_map, hk]; rfl
                rw [List.take_add_one, e1]
                simp only [Option.toList_some, List.map_append, List.map_cons, List.map_nil, List.sum_append, List.sum_cons, List.sum_nil, Int.add_zero]
                congr 1
                unfold lenAt
                rw [Int.toNat_natCast, List.getElem?_eq_getElem hx]
                rfl
              exact forget_same (L' := [some (.raw (.ref a)), some (.ref 1), some y, some (.int c), some (.tup (ls.map lkT)), some (.ref 3), some (.tup (rs.map Tr.int)), some (.int p1), some (.int p2), some (.int ld), some (rtT r), some (.int ((((MNx.ni r).take k).map (lenAt ls)).sum + ls[x].2.2.1)), none, none, none, none, none, none, none, none, none]) ⟨_, rfl, _, rfl, _, rfl, _, rfl, _, rfl, _, rfl, _, rfl, _, rfl, _, rfl, _, rfl, _, rfl, _, rfl, _, _, rfl, _, _, rfl, _, _, rfl, _, _, rfl, _, _, rfl, _, _, rfl, _, _, rfl, _, _, rfl, _, _, rfl, rfl⟩
                ⟨none, none, none, none, none, none, none, none, none, by rw [es], rfl⟩ ⟨Nat.le_refl _, bl _ _ fun N => bel_rtT r⟩ hbM2
          · rintro L2 M2 ⟨w12, w13, w14, w15, w16, w17, w18, w19, w20, rfl, rfl⟩
            refine ⟨_, w12, w13, w14, w15, w16, w17, w18, w19, w20, rfl, rfl, fun r2 e => ?_⟩
            have er : MNx.ni r = MNx.ni r2 := by
              rw [rt_ni, rt_ni] at e
              injection e with e
              exact (List.map_inj_right (fun x y z => by injection z)).mp e
            rw [← er, List.length_map, List.take_of_length_le (by unfold MNx.ni; rw [List.length_map]; exact Nat.le_refl _)]
        · rw [if_neg (show ¬ isN Tr.non = false by decide)]
          refine ⟨fun i L2 M2 => L2 = [some (.raw (.ref a)), some (.ref 1), some y, some (.int c), some (.tup (ls.map lkT)), some (.ref 3), some (.tup (rs.map Tr.int)), some (.int p1), some (.int p2), some (.int ld), some .non, some (.int 0), v12, v13, v14, v15, v16, v17, v18, v19, v20] ∧ M2 = dm d8 [O.tab Pt lamQ] ++ [O.ins CT (tFT c ls), O.lst (rs.map Tr.int)], ⟨rfl, rfl⟩, ?_, ?_⟩
          · rintro k u L2 M2 hu
            simp at hu
          · rintro L2 M2 ⟨rfl, rfl⟩
            exact ⟨0, v12, v13, v14, v15, v16, v17, v18, v19, v20, rfl, rfl, fun r e => by unfold rtT at e; cases e⟩
      · rintro L' M' ⟨n, w12, w13, w14, w15, w16, w17, w18, w19, w20, rfl, rfl, hn⟩
        walk_at "fd"
        refine ⟨noRaw_short hS, fun L' M' => L' = [some (.raw (.ref a)), some (.ref 1), some y, some (.int c), some (.tup (ls.map lkT)), some (.ref 3), some (.tup (rs.map Tr.int)), some (.int p1), some (.int p2), some (.int ld), some t, some (.int n), w12, w13, w14, w15, w16, w17, w18, w19, w20] ∧ M' = dm d8 [O.tab Pt lamQ] ++ [O.ins CT (tFT c ls), O.lst (rs.map Tr.int)], ?_, ?_⟩
        · rcases hS with ⟨l, r, hB, rfl⟩ | ⟨hno, rfl⟩
          · have hrc := best_len hok p10 p11 hB
            have hrk := walk_k hok hB.w
            have hln : (MNx.ni r).length = r.length := by unfold MNx.ni; rw [List.length_map]
            rw [if_pos (show isN (rtT r) = false from rfl), hn r rfl]
            refine ⟨3, c, ls, MNx.ni r, by rw [rt_ni], hta _ _, by rw [hln, sizeLine_eq]; omega, fun _ => ⟨_, _, rfl, .inl (.inl ⟨_, rfl, rfl⟩), true, rfl, ?_⟩, fun x hx hb => absurd ?_ hb⟩
            · rw [if_neg (by decide)]
              exact ⟨rfl, rfl⟩
            · unfold MNx.ni at hx
              obtain ⟨k, hk, rfl⟩ := List.mem_map.mp hx
              have := hrk k hk
              omega
          · rw [if_neg (show ¬ isN Tr.non = false by decide)]
            exact ⟨rfl, rfl⟩
        · rintro L' M' ⟨rfl, rfl⟩
          have hbr : ∀ xs : List Int, belM (List.length (dm d8 [O.tab Pt lamQ] ++ [O.ins CT (tFT c ls), O.lst (rs.map Tr.int)])) (dm d8 [O.tab Pt lamQ] ++ [O.ins CT (tFT c ls), O.lst (rs.map Tr.int)]) = true := fun _ => hbM2
          refine lc_R (k := c.toNat) (fF (stp ls rs ld) p1) (fun R hR => ?_) hbM2 (by rw [sizeLine_eq]; omega) (fun u hu z hz => ?_) (fun u hu => ?_) ?_
          · walk_at "fd"
            exact ⟨by omega, by omega, hR⟩
          · unfold fF at hz
            split at hz
            · split at hz
              · cases hz; rfl
              · cases hz
            · cases hz
          · obtain ⟨i2, hi2⟩ := List.mem_iff_getElem?.mp hu
            obtain ⟨hi3, rfl⟩ := rngT_get hi2
            rw [Int.zero_add]
            intro R N r1 n1
            simp only [wipeF]
            walk_at "fd"
            refine ⟨by rw [sizeLine_eq]; decide, c, ls, rs, p1, (i2 : Int), ld, rfl, hrl, h9, by omega, hok, p10, p11, fun t2 hS2 => ⟨noRaw_short hS2, ?_⟩⟩
            rcases hS2 with ⟨l, r, hB, rfl⟩ | ⟨hno, rfl⟩
            · rw [if_pos (show isN (rtT r) = false from rfl)]
              exact (r1 _ (if_pos ⟨r, l, hB.w⟩)).1
            · rw [if_neg (show ¬ isN Tr.non = false by decide)]
              exact (n1 (if_neg (fun ⟨r, l, hw⟩ => hno r _ l hw rfl))).1
          · rw [rngT_up, fF_ints]
            walk_at "fd"
            refine ⟨3, c, ls, rs, p1, ld, rfl, hta _ _, hrl, fun z => absurd ⟨p10, p11⟩ z, fun _ z => absurd ld1 z, fun _ _ ns e1 e2 RR hl12 hbe => ?_⟩
            obtain rfl := reach_eq okT p10 p11 RR
            generalize reachL (stp ls rs ld) p1 (upI c.toNat) = ns at hl12 ⊢
            walk_at "fd"
            refine ⟨_, _, rfl, like_lst ns (by omega) rfl rfl, true, rfl, ?_⟩
            rw [if_neg (by decide)]
            walk_at "fd"
            refine ⟨by rw [sizeLine_eq]; decide, next_at hd8 (by decide) (by decide) fun q1 d9 hd9 q10 q11 => ?_⟩
            obtain ⟨bad, hbad, hbad2⟩ := pick2 (-1) c q1 q10 q11
            refine ⟨_, rfl, q1, rfl, _, hbad, ?_⟩
            walk_at "fd"
            refine ⟨by rw [sizeLine_eq]; decide, next_at hd9 (by decide) (by decide) fun q2 dA hdA q20 q21 => ?_⟩
            obtain ⟨odd, hodd, hodd2⟩ := pick2 0 10 q2 q20 q21
            refine ⟨_, rfl, q2, rfl, _, hodd, ?_⟩
            walk_at "fd"
            refine ⟨by rw [sizeLine_eq]; decide, next_at hdA (by decide) (by decide) fun q3 dB hdB q30 q31 => ?_⟩
            obtain ⟨no, hno, hno2⟩ := pick2 (-1) (List.map lkT ls).length q3 q30 q31
            rw [List.length_map] at hno2
            refine ⟨_, rfl, q3, rfl, _, hno, by rw [sizeLine_eq]; decide, ?_⟩
            have nbad : ¬ (0 ≤ bad ∧ bad < c) := by omega
            have nodd : ¬ (1 ≤ odd ∧ odd ≤ 9) := by omega
            have nno : ¬ (0 ≤ no ∧ no < ls.length) := by omega
            have hb0 := hbe 0
            have nt1 : ∀ P q, e1 ≠ .tab P q := fun P q z => by rw [z] at hb0; simp [belM, O.bel] at hb0
            have nt2 : ∀ P q, e2 ≠ .tab P q := fun P q z => by rw [z] at hb0; simp [belM, O.bel] at hb0
            refine ⟨⟨fun p hp => ?_, fun P q hp => ?_⟩, ?_⟩
            · rw [List.mem_singleton.mp hp]
              exact List.mem_of_getElem? (i := 2) rfl
            · unfold dm at hp
              simp only [List.mem_append, List.mem_cons, List.not_mem_nil, or_false, reduceCtorEq, false_or, O.tab.injEq] at hp
              rcases hp with ⟨rfl, rfl⟩ | h | h
              · exact List.mem_singleton.mpr rfl
              · exact absurd h.symm (nt1 _ _)
              · exact absurd h.symm (nt2 _ _)
            · show fchain (ff CT cs) (dc cl) _ _ [0, 1, 2, 3, 4, 5] _
              simp only [fchain, ff, fVs]
              walk_at "fd"
              refine ⟨3, c, ls, rs, bad, p1, odd, rfl, hta _ _, hrl, fun _ => ⟨hcs.1, rfl, ?_⟩, fun z => absurd z nbad, fun z => absurd z nbad, fun z => absurd z nbad⟩
              refine ⟨3, c, ls, rs, p1, bad, odd, rfl, hta _ _, hrl, fun z => absurd ⟨p10, p11⟩ z, fun _ _ => ⟨hcs.1, rfl, ?_⟩, fun _ z => absurd z nbad, fun _ z => absurd z nbad⟩
              refine ⟨3, c, ls, rs, p1, p2, odd, rfl, hta _ _, hrl, fun z => absurd ⟨p10, p11⟩ z, fun _ z => absurd ⟨p20, p21⟩ z, fun _ _ _ => ⟨hcs.2.2, rfl, ?_⟩, fun _ _ z => absurd z nodd⟩
              refine ⟨3, c, ls, rs, bad, odd, rfl, hta _ _, hrl, fun _ => ⟨hcs.1, rfl, ?_⟩, fun z => absurd z nbad, fun z => absurd z nbad⟩
              refine ⟨3, c, ls, rs, p1, odd, rfl, hta _ _, hrl, fun z => absurd ⟨p10, p11⟩ z, fun _ _ => ⟨hcs.2.2, rfl, ?_⟩, fun _ z => absurd z nodd⟩
              refine ⟨by rw [sizeLine_eq]; decide, 3, c, ls, [no], rfl, hta _ _, by rw [sizeLine_eq]; simp, fun z => absurd (z no List.mem_cons_self) nno, fun _ _ _ => ⟨hcs.2.1, rfl, ?_⟩⟩
              refine forget_base (M := dm dB [O.tab Pt lamQ]) (L' := [some (.raw (.ref a)), some (.ref 1), none, none, none, none, none, none, none, none, none, none, none, none, none, none, none, none, none, none, none]) (Nat.le_refl _) ⟨_, rfl, _, rfl, _, _, rfl, _, _, rfl, _, _, rfl, _, _, rfl, _, _, rfl, _, _, rfl, _, _, rfl, _, _, rfl, _, _, rfl, _, _, rfl, _, _, rfl, _, _, rfl, _, _, rfl, _, _, rfl, _, _, rfl, _, _, rfl, _, _, rfl, _, _, rfl, _, _, rfl, rfl⟩ ⟨dB, hdB, none, none, none, none, none, none, none, none, none, none, none, none, none, none, none, none, none, none, none, rfl, rfl⟩ (by simp [belL, Tr.bel, dm_len]) (belM_dm hM)
end
end T1

set_option Elab.async false
set_option linter.all false
set_option maxRecDepth 100000
set_option maxHeartbeats 4000000
namespace T1
open PySem PySem.Spec PyProof.Rows L2 C8 Fm
local macro_rules | `(tactic| walk_at "hf") => `(tactic| (fail_if_success (show (fun _ => none : Hp) _ = _)); first | assumption | with_reducible exact upd_same | ((with_reducible show upd _ _ _ _ = _); first | exact up_new' (by assumption) (by walk_at "hf") | exact up_set (by walk_at "ne") (by walk_at "hf")) | exact Same.at' (by assumption) (by walk_at "hf") | exact But.at' (by assumption) (by walk_at "ne") (by walk_at "ne") (by walk_at "hf"))
local macro_rules | `(tactic| walk_at "hf0") => `(tactic| (fail_if_success (show (fun _ => none : Hp) _ = _)); first | assumption | with_reducible exact upd_same | ((with_reducible show upd _ _ _ _ = _); exact up_new' (by assumption) (by walk_at "hf0")))
local macro_rules | `(tactic| walk_at "ne") => `(tactic| first | assumption | (apply Ne.symm; assumption) | exact ne_of_none' (by assumption) (by walk_at "hf0") | exact Ne.symm (ne_of_none' (by assumption) (by walk_at "hf0")) | exact LSt.f1 (by assumption) (by walk_at "lst") | exact LSt.f2 (by assumption) (by walk_at "lst"))
local macro_rules | `(tactic| walk_at "sqt") => `(tactic| (fail_if_success (show SqT _ (fun _ => none) _ _)); first | assumption | exact SqT.of' (by walk_at "hf") | ((with_reducible show SqT _ (upd _ _ _) _ _); first | exact SqT.new' (by assumption) (by walk_at "sqt") | exact SqT.put' (by walk_at "hf") (by walk_at "sqt")) | exact Same.tup (by assumption) (by walk_at "sqt") | exact But.tup (by assumption) (by walk_at "lst") (by walk_at "sqt"))
local macro_rules | `(tactic| walk_at "sql") => `(tactic| (fail_if_success (show SqL _ (fun _ => none) _ _)); first | assumption | exact SqL.of' (by walk_at "hf") | ((with_reducible show SqL _ (upd _ _ _) _ _); exact SqL.new' (by assumption) (by walk_at "sql")) | exact Same.sql' (by assumption) (by walk_at "sql"))
local macro_rules | `(tactic| walk_at "lst") => `(tactic| (fail_if_success (show LSt (fun _ => none) _ _)); first | assumption | ((with_reducible show LSt (upd _ _ _) _ _); first | exact LSt.new (by walk_at "lst") (by assumption) | exact LSt.put (by walk_at "lst") (by walk_at "ne") (by walk_at "ne")) | exact LSt.same' (by assumption) (by walk_at "lst"))
local macro_rules | `(tactic| walk_at "but") => `(tactic| first | assumption | exact But.refl _ _ _ | ((with_reducible show But _ _ _ (upd _ _ _)); exact But.nw (by assumption) (by walk_at "but")) | exact But.bu (by assumption) (by walk_at "but") | exact But.sm (by assumption) (by walk_at "but"))
local macro_rules | `(tactic| walk_at "ls") => `(tactic| first | assumption | exact Ls.same (by walk_at "ls") (Same.upd' (by assumption)))
local macro_rules | `(tactic| walk_at "ll") => `(tactic| first | assumption | exact LL.same (by walk_at "ll") (Same.upd' (by assumption)) | exact LL.same' (by assumption) (by walk_at "ll") | exact LL.but' (by assumption) (by walk_at "lst") (by walk_at "ll"))
local macro_rules | `(tactic| walk_at "sm") => `(tactic| first | assumption | exact Same.refl _ | ((with_reducible show Same _ (upd _ _ _)); first | exact Same.put' (by assumption) (by walk_at "sm") | exact Same.trans (by walk_at "sm") (Same.upd' (by assumption))) | exact Same.trans (by walk_at "sm") (by assumption))
/-- one step of a reading -/
local macro_rules | `(tactic| walk_at "rd") => `(tactic| first
  | with_reducible refine iteF ?_
  | with_reducible refine iteT ?_
  | with_reducible refine itNotF ?_
  | with_reducible refine itNotT ?_
  | refine ⟨_, rfl, ?_⟩
  | refine ⟨_, _, rfl, rfl, ?_⟩
  | refine ⟨_, _, rfl, ?_⟩
  | refine ⟨(_ : Addr), (_ : List V), (_ : Int), (_ : V), rfl, rfl, SqL.of' (by walk_at "hf"), (by first | assumption | rfl), ?_⟩
  | refine ⟨(_ : Addr), (_ : List V), (_ : Int), (_ : V), rfl, rfl, (by walk_at "sqt" : SqT _ _ _ _), (by first | assumption | rfl), ?_⟩
  | refine .inl ⟨_, rfl, ?_⟩
  | refine ⟨_, _, rfl, .inl (by walk_at "sql" : SqL _ _ _ _), ?_⟩
  | refine ⟨_, _, rfl, .inl ⟨(by walk_at "sql" : SqL _ _ _ _), fun p hp => ?_⟩⟩
  | refine ⟨_, _, rfl, .inr ⟨(by walk_at "sqt" : SqT _ _ _ _), ?_⟩⟩
  | refine fun (p : Addr) (hp : (_ : Hp) p = none) => ?_
  | refine ⟨_, _, rfl, .inr (by walk_at "sqt" : SqT _ _ _ _), ?_⟩
  | refine And.intro (by show _ ≤ sizeLine; first | decide | walk_at "sz") (fun p hp => ?_)
  | refine ⟨(_ : Addr), (_ : Addr), (_ : List V), (_ : List V), rfl, rfl, (by walk_at "hf"), (by walk_at "hf"), (by walk_at "sz"), fun p hp => ?_⟩
  | refine ⟨(_ : Addr), (_ : Addr), (_ : List V), (_ : List V), rfl, rfl, (by walk_at "hf"), (by walk_at "hf"), (by walk_at "sz"), ?_⟩
  | refine ⟨(_ : Addr), (_ : List V), (_ : Int), (_ : Nat), rfl, rfl, (by walk_at "hf"), (by rfl), ?_⟩
  | refine And.intro ⟨_, (by walk_at "sql" : SqL _ _ _ _)⟩ ?_
  | refine And.intro ⟨_, (by walk_at "sqt" : SqT _ _ _ _)⟩ ?_
  | refine And.intro (.inl ⟨rfl, _, SqL.of' (by walk_at "hf")⟩) ?_
  | refine And.intro (by walk_at "cond") ?_
  | exact .inl ⟨rfl, _, SqL.of' (by walk_at "hf")⟩
  | with_reducible refine iteT ?_
  | with_reducible refine iteF ?_
  | refine And.intro (by rfl : scal _ _ = true) ?_
  | refine And.intro (by rfl : _ = V.non) ?_
  | refine And.intro (by rfl : wipe _ _ = wipe _ _) ?_
  | refine And.intro (by rfl : (_ : List V) = []) ?_
  | refine ⟨(_ : Addr), (_ : List V), rfl, (by walk_at "sqt" : SqT _ _ _ _), (by rfl), ?_⟩)
/-- a test: known, or both ways -/
local macro_rules | `(tactic| walk_at "if") => `(tactic| first
  | with_reducible refine itD (by omega) ?_
  | with_reducible refine itN (by omega) ?_
  | with_reducible refine itnD (by omega) ?_
  | with_reducible refine itnN (by omega) ?_
  | with_reducible refine itE (by omega) ?_
  | with_reducible refine itEn (by omega) ?_
  | with_reducible refine itnE (by omega) ?_
  | with_reducible refine itnEn (by omega) ?_
  | with_reducible refine itN (by intro z; cases z) ?_
  | with_reducible refine itD (by decide) ?_
  | with_reducible refine itN (by decide) ?_
  | with_reducible refine itnD (by decide) ?_
  | with_reducible refine itnN (by decide) ?_)
local macro_rules | `(tactic| walk_at "if2") => `(tactic| first
  | with_reducible refine itS (fun z => ?_) (fun z => ?_)
  | with_reducible refine itS' (fun z => ?_) (fun z => ?_)
  | with_reducible refine itSE (fun z => ?_) (fun z => ?_)
  | with_reducible refine itnS (fun z => ?_) (fun z => ?_)
  | with_reducible refine itnS' (fun z => ?_) (fun z => ?_)
  | with_reducible refine itnSE (fun z => ?_) (fun z => ?_))
local macro_rules | `(tactic| walk_at "go") => `(tactic| repeat' (first | walk_at "rd" | walk_at "if" | walk_at "if2" | fail))
local macro_rules | `(tactic| walk_at "sz") => `(tactic| (rw [sizeLine_eq]; simp only [List.length_append, List.length_map, List.length_cons, List.length_nil]; omega))
local macro_rules | `(tactic| walk_at "cond") => `(tactic| first | assumption | (show (_ : Int) ≠ 0; first | omega | (split <;> omega)) | (show (0 : Int) < _; first | assumption | decide) | exact ⟨by decide, by decide, by decide⟩ | exact .inr ⟨by decide, by decide⟩ | exact wide_div (b := 64) (by assumption) (by omega) (by decide) (by decide) | exact ⟨by decide, by decide⟩)


/-! ### the law -/
section
variable {P : Program} {w : World} {K : PySem.W.Frag} {mg : Str → Option Value} {base : Heap} {CT : Addr} {cs : ErrC}
theorem ok_law {f clA Pt gE CB : Addr} {cl : Nat → Addr} {oc dV kV doc pm ct oc' dV' kV' doc' pm' cdE ct' : Value} {od an od' an' : Option Addr} {osl osl' : Array (Option Value)}
    (lk : K.lookup f = some ⟨oc, od, .func (PySem.W.fnOf "law" "law" (fnArgs s_law) (fnBody s_law) (fnScope s_law) dV kV doc pm an (.ref clA) ct), osl⟩) (cdL : PySem.W.codeIn K (.ref clA) "law" = true)
    (T : BR K mg cs) (CL : CLaw P w K mg base CT cs) (LE : CatchAt K mg gE oc' od' dV' kV' doc' pm' an' cdE ct' osl') (TB : LamX.TabB base mg clA Pt)
    (G : Cls12 mg CB cl) (P5 : PlainE K CB (cl 5) cl 5) (P6 : PlainE K CB (cl 6) cl 6) (P7 : PlainE K CB (cl 7) cl 7) (hcs : cs.place = cl 6 ∧ cs.bridge = cl 7 ∧ cs.load = cl 5) :
    FnOk P w K mg base C8.CX0 12 f (PySem.W.fnOf "law" "law" (fnArgs s_law) (fnBody s_law) (fnScope s_law) dV kV doc pm an (.ref clA) ct) ["_law_script"] (spLaw K Pt lamQ) := by
  refine fn_of lk cdL scLaw (fun vs H Q E h => ?_) (fun A outer s H vs Q E hr h => ?_)
  · obtain ⟨a, ns, rfl, _⟩ := h; rfl
  obtain ⟨a, ns, rfl, ha, hl, hT, q⟩ := h
  let X0 : Cx := (cxOf C8.CX0 P w K mg base slots "law" (fnScope s_law) f (.ref clA) A outer s H E).nox
  obtain ⟨r, hR, rR⟩ := law_rest (od := od') (an := an') (f := f) (A := A) (outer := outer) (s := s) (H := H) (E := E) T CL LE TB G P5 P6 P7 hcs hr
  have C := CL
  have hand : ∃ t, PSs X0 (fnBody s_law) t ∧ t { nx := fun _ H' => Q .non H', rt := Q } (L2.start slots [.ref a]) H := by
    refine ⟨_, pss_cons (ps_set (i := 1) scLaw.nd rfl (Or.inr rfl) (pe_c C._law_mix hr (by first | decide | omega) (by rfl) (pa_cons (pv 0) (pa_cons pe_int pa_nil)))) hR, ?_⟩
    walk_at "go"
    refine ⟨a, ns, 3, rfl, by decide, by decide, ha, hl, fun h sA H1 st sm => ?_⟩
    obtain ⟨m', k', xs', e1, e2, b⟩ := st.ex
    obtain ⟨ps, t1, t2, t3⟩ := (hT.ext sm) (Pt, lamQ) (List.mem_singleton.mpr rfl)
    refine rR H1 h sA a ⟨m', k', xs'⟩ b ⟨rfl, fun j u eu => ?_, ?_⟩ _ q
    · match j, eu with
      | 0, eu => cases eu; exact ⟨sA, rfl, _, e2, rts_ints _⟩
      | 1, eu => cases eu; exact ⟨h, rfl, _, e1, RTs.cons RT.int_ (RTs.cons (by unfold RT; exact ⟨sA, rfl, rfl⟩) (RTs.cons RT.int_ RTs.nil))⟩
      | 2, eu => cases eu; exact ⟨Pt, rfl, rfl, ps, t1, t2, t3⟩
      | j + 3, eu => simp [dm] at eu
    · have n1 : sA ≠ h := Ne.symm st.ne
      have n2 : sA ≠ Pt := ne_of e2 t1 (fun z => nomatch z)
      have n3 : h ≠ Pt := ne_of e1 t1 (fun z => nomatch z)
      simp [n1, n2, n3]
  obtain ⟨t, ht, hq⟩ := hand
  exact ⟨t, ht.nox, hq⟩
end
end T1

set_option Elab.async false
set_option linter.all false
set_option maxRecDepth 100000
set_option maxHeartbeats 4000000
namespace T1
open PySem PySem.Spec PyProof.Rows L2 C8 Fm
theorem tabs_nil {P : Addr} {q : Str} {H : Hp} (h : H P = some (.tbl #[])) : LamX.Tabs [(P, q)] H := fun p hp => by
  rw [List.mem_singleton.mp hp]
  exact ⟨#[], h, trivial, fun pos cv hc => by cases hc⟩
set_option maxHeartbeats 8000000 in
theorem all_mk {l : PySem.W.OpenLaw} {w : World} {K : PySem.W.Frag} {h : Heap} {mg : Str → Option Value} {fa : Addr} (X : K.In h) (G : h.Ns mainGlobals mg) (hfa : mg "law" = some (.ref fa))
    {CB C pS gS fTi p1 p2 g1 g2 fL cl Pt c0 c1 c2 c3 c4 c5 c6 c7 c8 c9 c10 c11 fMix fNxt fAli fErr fLif fLnk fWys fWay fCha fWfr fRfr fCp fCb fCl fSho fRea fRle : Addr} {u1 u4 u5 w_MAX_LOAD w_MAX_LENGTH : Tok} {r1 r2 rS : List Value}
    {ocMix kVMix dcMix pmMix cdMix ctMix ocNxt kVNxt dcNxt pmNxt cdNxt ctNxt ocAli kVAli dcAli pmAli cdAli ctAli ocErr kVErr dcErr pmErr cdErr ctErr ocLif kVLif dcLif pmLif cdLif ctLif ocLnk kVLnk dcLnk pmLnk cdLnk ctLnk ocWys kVWys dcWys pmWys cdWys ctWys ocWay kVWay dcWay pmWay cdWay ctWay ocCha kVCha dcCha pmCha cdCha ctCha ocWfr kVWfr dcWfr pmWfr cdWfr ctWfr ocRfr kVRfr dcRfr pmRfr cdRfr ctRfr ocCp kVCp dcCp pmCp cdCp ctCp ocCb kVCb dcCb pmCb cdCb ctCb ocCl kVCl dcCl pmCl cdCl ctCl ocSho kVSho dcSho pmSho cdSho ctSho ocRea kVRea dcRea pmRea cdRea ctRea ocRle kVRle dcRle pmRle cdRle ctRle ocL kVL dcL pmL ctL ocTi kVTi dcTi pmTi cdTi ctTi ocS kVS dcS pmS cdS ctS ocg1 kVg1 dcg1 pmg1 cdg1 ctg1 ocg2 kVg2 dcg2 pmg2 cdg2 ctg2 : Value} {odMix anMix odNxt anNxt odAli anAli odErr anErr odLif anLif odLnk anLnk odWys anWys odWay anWay odCha anCha odWfr anWfr odRfr anRfr odCp anCp odCb anCb odCl anCl odSho anSho odRea anRea odRle anRle odL anL odTi anTi odS anS odg1 ang1 odg2 ang2 : Option Addr} {slMix slNxt slAli slErr slLif slLnk slWys slWay slCha slWfr slRfr slCp slCb slCl slSho slRea slRle slL slTi slS slg1 slg2 : Array (Option Value)}
    (aCB : PySem.W.nsIn K mainGlobals "BridgeError" = some (some (.ref CB)))
    (aC : PySem.W.nsIn K mainGlobals "Town" = some (some (.ref C)))
    (aK0 : PySem.W.nsIn K mainGlobals "InvalidTown" = some (some (.ref c0)))
    (aK1 : PySem.W.nsIn K mainGlobals "InvalidText" = some (some (.ref c1)))
    (aK2 : PySem.W.nsIn K mainGlobals "InvalidTrips" = some (some (.ref c2)))
    (aK3 : PySem.W.nsIn K mainGlobals "InvalidCount" = some (some (.ref c3)))
    (aK4 : PySem.W.nsIn K mainGlobals "InvalidLife" = some (some (.ref c4)))
    (aK5 : PySem.W.nsIn K mainGlobals "InvalidLoad" = some (some (.ref c5)))
    (aK6 : PySem.W.nsIn K mainGlobals "UnknownPlace" = some (some (.ref c6)))
    (aK7 : PySem.W.nsIn K mainGlobals "UnknownBridge" = some (some (.ref c7)))
    (aK8 : PySem.W.nsIn K mainGlobals "UnknownKind" = some (some (.ref c8)))
    (aK9 : PySem.W.nsIn K mainGlobals "TooManyBridges" = some (some (.ref c9)))
    (aK10 : PySem.W.nsIn K mainGlobals "DifferentTowns" = some (some (.ref c10)))
    (aK11 : PySem.W.nsIn K mainGlobals "Contradiction" = some (some (.ref c11)))
    (eg5 : PySem.W.findIn K (.ref c5) "__getattribute__" = some (some (.builtin "BaseException.__getattribute__")))
    (ek5 : PySem.W.findIn K (.ref c5) "__getattr__" = some none)
    (es5 : PySem.W.subIn K (.ref c5) (.type "BaseException") = some true)
    (ed5 : PySem.W.hasDictIn K c5 = true)
    (ca5 : PySem.W.findIn K (.ref c5) "__class__" = some (some (.builtin "object.__class__")))
    (cm5 : PySem.W.mroIn K c5 (.type "object") = some true)
    (k_em5 : PySem.W.exmOne K (.ref c5) (.ref CB) = some true)
    (k_ve5 : PySem.W.kitOne K (.ref c5) (.type "ValueError") = some true)
    (k_q5 : PySem.W.excIn K c5 [.type "ValueError", .type "Exception", .type "BaseException", .type "object"] "ValueError.__new__" = true)
    (okp5 : PySem.W.keepIn K (.ref c5) = true)
    (ot5 : PySem.W.typeIn K (.ref c5) = some (.type "type"))
    (k_5_0 : PySem.W.kitOne K (.ref c5) (.ref c0) = some false)
    (k_5_1 : PySem.W.kitOne K (.ref c5) (.ref c1) = some false)
    (k_5_2 : PySem.W.kitOne K (.ref c5) (.ref c2) = some false)
    (k_5_3 : PySem.W.kitOne K (.ref c5) (.ref c3) = some false)
    (k_5_4 : PySem.W.kitOne K (.ref c5) (.ref c4) = some false)
    (k_5_5 : PySem.W.kitOne K (.ref c5) (.ref c5) = some true)
    (k_5_6 : PySem.W.kitOne K (.ref c5) (.ref c6) = some false)
    (k_5_7 : PySem.W.kitOne K (.ref c5) (.ref c7) = some false)
    (k_5_8 : PySem.W.kitOne K (.ref c5) (.ref c8) = some false)
    (k_5_9 : PySem.W.kitOne K (.ref c5) (.ref c9) = some false)
    (k_5_10 : PySem.W.kitOne K (.ref c5) (.ref c10) = some false)
    (k_5_11 : PySem.W.kitOne K (.ref c5) (.ref c11) = some false)
    (eg6 : PySem.W.findIn K (.ref c6) "__getattribute__" = some (some (.builtin "BaseException.__getattribute__")))
    (ek6 : PySem.W.findIn K (.ref c6) "__getattr__" = some none)
    (es6 : PySem.W.subIn K (.ref c6) (.type "BaseException") = some true)
    (ed6 : PySem.W.hasDictIn K c6 = true)
    (ca6 : PySem.W.findIn K (.ref c6) "__class__" = some (some (.builtin "object.__class__")))
    (cm6 : PySem.W.mroIn K c6 (.type "object") = some true)
    (k_em6 : PySem.W.exmOne K (.ref c6) (.ref CB) = some true)
    (k_ve6 : PySem.W.kitOne K (.ref c6) (.type "ValueError") = some true)
    (k_q6 : PySem.W.excIn K c6 [.type "ValueError", .type "Exception", .type "BaseException", .type "object"] "ValueError.__new__" = true)
    (okp6 : PySem.W.keepIn K (.ref c6) = true)
    (ot6 : PySem.W.typeIn K (.ref c6) = some (.type "type"))
    (k_6_0 : PySem.W.kitOne K (.ref c6) (.ref c0) = some false)
    (k_6_1 : PySem.W.kitOne K (.ref c6) (.ref c1) = some false)
    (k_6_2 : PySem.W.kitOne K (.ref c6) (.ref c2) = some false)
    (k_6_3 : PySem.W.kitOne K (.ref c6) (.ref c3) = some false)
    (k_6_4 : PySem.W.kitOne K (.ref c6) (.ref c4) = some false)
    (k_6_5 : PySem.W.kitOne K (.ref c6) (.ref c5) = some false)
    (k_6_6 : PySem.W.kitOne K (.ref c6) (.ref c6) = some true)
    (k_6_7 : PySem.W.kitOne K (.ref c6) (.ref c7) = some false)
    (k_6_8 : PySem.W.kitOne K (.ref c6) (.ref c8) = some false)
    (k_6_9 : PySem.W.kitOne K (.ref c6) (.ref c9) = some false)
    (k_6_10 : PySem.W.kitOne K (.ref c6) (.ref c10) = some false)
    (k_6_11 : PySem.W.kitOne K (.ref c6) (.ref c11) = some false)
    (eg7 : PySem.W.findIn K (.ref c7) "__getattribute__" = some (some (.builtin "BaseException.__getattribute__")))
    (ek7 : PySem.W.findIn K (.ref c7) "__getattr__" = some none)
    (es7 : PySem.W.subIn K (.ref c7) (.type "BaseException") = some true)
    (ed7 : PySem.W.hasDictIn K c7 = true)
    (ca7 : PySem.W.findIn K (.ref c7) "__class__" = some (some (.builtin "object.__class__")))
    (cm7 : PySem.W.mroIn K c7 (.type "object") = some true)
    (k_em7 : PySem.W.exmOne K (.ref c7) (.ref CB) = some true)
    (k_ve7 : PySem.W.kitOne K (.ref c7) (.type "ValueError") = some true)
    (k_q7 : PySem.W.excIn K c7 [.type "ValueError", .type "Exception", .type "BaseException", .type "object"] "ValueError.__new__" = true)
    (okp7 : PySem.W.keepIn K (.ref c7) = true)
    (ot7 : PySem.W.typeIn K (.ref c7) = some (.type "type"))
    (k_7_0 : PySem.W.kitOne K (.ref c7) (.ref c0) = some false)
    (k_7_1 : PySem.W.kitOne K (.ref c7) (.ref c1) = some false)
    (k_7_2 : PySem.W.kitOne K (.ref c7) (.ref c2) = some false)
    (k_7_3 : PySem.W.kitOne K (.ref c7) (.ref c3) = some false)
    (k_7_4 : PySem.W.kitOne K (.ref c7) (.ref c4) = some false)
    (k_7_5 : PySem.W.kitOne K (.ref c7) (.ref c5) = some false)
    (k_7_6 : PySem.W.kitOne K (.ref c7) (.ref c6) = some false)
    (k_7_7 : PySem.W.kitOne K (.ref c7) (.ref c7) = some true)
    (k_7_8 : PySem.W.kitOne K (.ref c7) (.ref c8) = some false)
    (k_7_9 : PySem.W.kitOne K (.ref c7) (.ref c9) = some false)
    (k_7_10 : PySem.W.kitOne K (.ref c7) (.ref c10) = some false)
    (k_7_11 : PySem.W.kitOne K (.ref c7) (.ref c11) = some false)
    (ehn : PySem.W.specialIn K (.builtin "object.__class__") "__get__" = some (some (.builtin "getset_descriptor.__get__")))
    (eht : PySem.W.takesIn K (.builtin "object.__class__") = some true)
    (crd : PySem.W.readsIn K C (.type "type") = true)
    (cga : PySem.W.specialIn K (.ref C) "__getattribute__" = some (some (.builtin "type.__getattribute__")))
    (vML : PySem.W.findCls K (.ref C) (.type "type") "MAX_LIFE" = some (.val (.int 1000000000000000000 u1)))
    (cpg : PySem.W.plainGet K C Str.empty = true)
    (chd : PySem.W.hasDictIn K C = true)
    (cpo : PySem.W.plainOver K C = true)
    (csa : PySem.W.findIn K (.ref C) "__setattr__" = some (some (.builtin "object.__setattr__")))
    (nC : PySem.W.findIn K (.ref C) "_count" = some none)
    (nB : PySem.W.findIn K (.ref C) "_bridges" = some none)
    (mpa : PySem.W.findIn K (.ref C) "MAX_PLACES" = some (some (.int 12 u4)))
    (mpg : PySem.W.specialIn K (.int 12 u4) "__get__" = some none)
    (mba : PySem.W.findIn K (.ref C) "MAX_BRIDGES" = some (some (.int 24 u5)))
    (mbg : PySem.W.specialIn K (.int 24 u5) "__get__" = some none)
    (sIc : PySem.W.isClsIn K C = true)
    (sIf : PySem.W.findIn K (.ref C) "is_bridge" = some (some (.ref pS)))
    (sIt : PySem.W.typeIn K (.ref pS) = some (.type "staticmethod"))
    (sIs : PySem.W.specialIn K (.ref pS) "__get__" = some (some (.builtin "staticmethod.__get__")))
    (sIk : PySem.W.takesIn K (.ref pS) = some false)
    (sIr : PySem.W.recIn K pS "staticmethod" = some (.ref gS :: rS))
    (cmk : PySem.W.makesIn K C = true)
    (iTi : PySem.W.findIn K (.ref C) "__init__" = some (some (.ref fTi)))
    (fTiF : PySem.W.isFn K (.ref fTi) = true)
    (ckp : PySem.W.keepIn K (.ref C) = true)
    (pa1 : PySem.W.findIn K (.ref C) "place_count" = some (some (.ref p1)))
    (pg1 : PySem.W.specialIn K (.ref p1) "__get__" = some (some (.builtin "property.__get__")))
    (pt1 : PySem.W.takesIn K (.ref p1) = some true)
    (pr1 : PySem.W.recIn K p1 "property" = some (.ref g1 :: r1))
    (pa2 : PySem.W.findIn K (.ref C) "bridges" = some (some (.ref p2)))
    (pg2 : PySem.W.specialIn K (.ref p2) "__get__" = some (some (.builtin "property.__get__")))
    (pt2 : PySem.W.takesIn K (.ref p2) = some true)
    (pr2 : PySem.W.recIn K p2 "property" = some (.ref g2 :: r2))
    (aMix : PySem.W.nsIn K mainGlobals "_law_mix" = some (some (.ref fMix)))
    (lMix : K.lookup fMix = some ⟨ocMix, odMix, .func (PySem.W.fnOf "_law_mix" "_law_mix" (fnArgs s__law_mix) (fnBody s__law_mix) (fnScope s__law_mix) .none kVMix dcMix pmMix anMix cdMix ctMix), slMix⟩)
    (ccMix : PySem.W.codeIn K cdMix "_law_mix" = true)
    (kkMix : PySem.W.keepIn K (.ref fMix) = true)
    (aNxt : PySem.W.nsIn K mainGlobals "_law_next" = some (some (.ref fNxt)))
    (lNxt : K.lookup fNxt = some ⟨ocNxt, odNxt, .func (PySem.W.fnOf "_law_next" "_law_next" (fnArgs s__law_next) (fnBody s__law_next) (fnScope s__law_next) .none kVNxt dcNxt pmNxt anNxt cdNxt ctNxt), slNxt⟩)
    (ccNxt : PySem.W.codeIn K cdNxt "_law_next" = true)
    (kkNxt : PySem.W.keepIn K (.ref fNxt) = true)
    (aAli : PySem.W.nsIn K mainGlobals "_law_alike" = some (some (.ref fAli)))
    (lAli : K.lookup fAli = some ⟨ocAli, odAli, .func (PySem.W.fnOf "_law_alike" "_law_alike" (fnArgs s__law_alike) (fnBody s__law_alike) (fnScope s__law_alike) .none kVAli dcAli pmAli anAli cdAli ctAli), slAli⟩)
    (ccAli : PySem.W.codeIn K cdAli "_law_alike" = true)
    (kkAli : PySem.W.keepIn K (.ref fAli) = true)
    (aErr : PySem.W.nsIn K mainGlobals "_law_error" = some (some (.ref fErr)))
    (lErr : K.lookup fErr = some ⟨ocErr, odErr, .func (PySem.W.fnOf "_law_error" "_law_error" (fnArgs s__law_error) (fnBody s__law_error) (fnScope s__law_error) .none kVErr dcErr pmErr anErr cdErr ctErr), slErr⟩)
    (ccErr : PySem.W.codeIn K cdErr "_law_error" = true)
    (kkErr : PySem.W.keepIn K (.ref fErr) = true)
    (aLif : PySem.W.nsIn K mainGlobals "_law_life" = some (some (.ref fLif)))
    (lLif : K.lookup fLif = some ⟨ocLif, odLif, .func (PySem.W.fnOf "_law_life" "_law_life" (fnArgs s__law_life) (fnBody s__law_life) (fnScope s__law_life) .none kVLif dcLif pmLif anLif cdLif ctLif), slLif⟩)
    (ccLif : PySem.W.codeIn K cdLif "_law_life" = true)
    (kkLif : PySem.W.keepIn K (.ref fLif) = true)
    (aLnk : PySem.W.nsIn K mainGlobals "_law_links" = some (some (.ref fLnk)))
    (lLnk : K.lookup fLnk = some ⟨ocLnk, odLnk, .func (PySem.W.fnOf "_law_links" "_law_links" (fnArgs s__law_links) (fnBody s__law_links) (fnScope s__law_links) .none kVLnk dcLnk pmLnk anLnk cdLnk ctLnk), slLnk⟩)
    (ccLnk : PySem.W.codeIn K cdLnk "_law_links" = true)
    (kkLnk : PySem.W.keepIn K (.ref fLnk) = true)
    (aWys : PySem.W.nsIn K mainGlobals "_law_ways" = some (some (.ref fWys)))
    (lWys : K.lookup fWys = some ⟨ocWys, odWys, .func (PySem.W.fnOf "_law_ways" "_law_ways" (fnArgs s__law_ways) (fnBody s__law_ways) (fnScope s__law_ways) .none kVWys dcWys pmWys anWys cdWys ctWys), slWys⟩)
    (ccWys : PySem.W.codeIn K cdWys "_law_ways" = true)
    (kkWys : PySem.W.keepIn K (.ref fWys) = true)
    (aWay : PySem.W.nsIn K mainGlobals "_law_way" = some (some (.ref fWay)))
    (lWay : K.lookup fWay = some ⟨ocWay, odWay, .func (PySem.W.fnOf "_law_way" "_law_way" (fnArgs s__law_way) (fnBody s__law_way) (fnScope s__law_way) .none kVWay dcWay pmWay anWay cdWay ctWay), slWay⟩)
    (ccWay : PySem.W.codeIn K cdWay "_law_way" = true)
    (kkWay : PySem.W.keepIn K (.ref fWay) = true)
    (aCha : PySem.W.nsIn K mainGlobals "_law_chain_right" = some (some (.ref fCha)))
    (lCha : K.lookup fCha = some ⟨ocCha, odCha, .func (PySem.W.fnOf "_law_chain_right" "_law_chain_right" (fnArgs s__law_chain_right) (fnBody s__law_chain_right) (fnScope s__law_chain_right) .none kVCha dcCha pmCha anCha cdCha ctCha), slCha⟩)
    (ccCha : PySem.W.codeIn K cdCha "_law_chain_right" = true)
    (kkCha : PySem.W.keepIn K (.ref fCha) = true)
    (aWfr : PySem.W.nsIn K mainGlobals "_ways_from" = some (some (.ref fWfr)))
    (lWfr : K.lookup fWfr = some ⟨ocWfr, odWfr, .func (PySem.W.fnOf "_ways_from" "_ways_from" (fnArgs s__ways_from) (fnBody s__ways_from) (fnScope s__ways_from) .none kVWfr dcWfr pmWfr anWfr cdWfr ctWfr), slWfr⟩)
    (ccWfr : PySem.W.codeIn K cdWfr "_ways_from" = true)
    (kkWfr : PySem.W.keepIn K (.ref fWfr) = true)
    (aRfr : PySem.W.nsIn K mainGlobals "_routes_from" = some (some (.ref fRfr)))
    (lRfr : K.lookup fRfr = some ⟨ocRfr, odRfr, .func (PySem.W.fnOf "_routes_from" "_routes_from" (fnArgs s__routes_from) (fnBody s__routes_from) (fnScope s__routes_from) .none kVRfr dcRfr pmRfr anRfr cdRfr ctRfr), slRfr⟩)
    (ccRfr : PySem.W.codeIn K cdRfr "_routes_from" = true)
    (kkRfr : PySem.W.keepIn K (.ref fRfr) = true)
    (aCp : PySem.W.nsIn K mainGlobals "check_place" = some (some (.ref fCp)))
    (lCp : K.lookup fCp = some ⟨ocCp, odCp, .func (PySem.W.fnOf "check_place" "check_place" (L2.defArgs s_check_place) (L2.defBody s_check_place) (L2.defScope s_check_place) .none kVCp dcCp pmCp anCp cdCp ctCp), slCp⟩)
    (ccCp : PySem.W.codeIn K cdCp "check_place" = true)
    (kkCp : PySem.W.keepIn K (.ref fCp) = true)
    (aCb : PySem.W.nsIn K mainGlobals "check_bridge" = some (some (.ref fCb)))
    (lCb : K.lookup fCb = some ⟨ocCb, odCb, .func (PySem.W.fnOf "check_bridge" "check_bridge" (L2.defArgs s_check_bridge) (L2.defBody s_check_bridge) (L2.defScope s_check_bridge) .none kVCb dcCb pmCb anCb cdCb ctCb), slCb⟩)
    (ccCb : PySem.W.codeIn K cdCb "check_bridge" = true)
    (kkCb : PySem.W.keepIn K (.ref fCb) = true)
    (aCl : PySem.W.nsIn K mainGlobals "check_load" = some (some (.ref fCl)))
    (lCl : K.lookup fCl = some ⟨ocCl, odCl, .func (PySem.W.fnOf "check_load" "check_load" (L2.defArgs s_check_load) (L2.defBody s_check_load) (L2.defScope s_check_load) .none kVCl dcCl pmCl anCl cdCl ctCl), slCl⟩)
    (ccCl : PySem.W.codeIn K cdCl "check_load" = true)
    (kkCl : PySem.W.keepIn K (.ref fCl) = true)
    (aSho : PySem.W.nsIn K mainGlobals "shortest_route" = some (some (.ref fSho)))
    (lSho : K.lookup fSho = some ⟨ocSho, odSho, .func (PySem.W.fnOf "shortest_route" "shortest_route" (L2.defArgs s_shortest_route) (L2.defBody s_shortest_route) (L2.defScope s_shortest_route) .none kVSho dcSho pmSho anSho cdSho ctSho), slSho⟩)
    (ccSho : PySem.W.codeIn K cdSho "shortest_route" = true)
    (kkSho : PySem.W.keepIn K (.ref fSho) = true)
    (aRea : PySem.W.nsIn K mainGlobals "reached_places" = some (some (.ref fRea)))
    (lRea : K.lookup fRea = some ⟨ocRea, odRea, .func (PySem.W.fnOf "reached_places" "reached_places" (L2.defArgs s_reached_places) (L2.defBody s_reached_places) (L2.defScope s_reached_places) .none kVRea dcRea pmRea anRea cdRea ctRea), slRea⟩)
    (ccRea : PySem.W.codeIn K cdRea "reached_places" = true)
    (kkRea : PySem.W.keepIn K (.ref fRea) = true)
    (aRle : PySem.W.nsIn K mainGlobals "route_length" = some (some (.ref fRle)))
    (lRle : K.lookup fRle = some ⟨ocRle, odRle, .func (PySem.W.fnOf "route_length" "route_length" (L2.defArgs s_route_length) (L2.defBody s_route_length) (L2.defScope s_route_length) .none kVRle dcRle pmRle anRle cdRle ctRle), slRle⟩)
    (ccRle : PySem.W.codeIn K cdRle "route_length" = true)
    (kkRle : PySem.W.keepIn K (.ref fRle) = true)
    (aL : PySem.W.nsIn K mainGlobals "law" = some (some (.ref fL)))
    (lL : K.lookup fL = some ⟨ocL, odL, .func (PySem.W.fnOf "law" "law" (fnArgs s_law) (fnBody s_law) (fnScope s_law) .none kVL dcL pmL anL (.ref cl) ctL), slL⟩)
    (ccL : PySem.W.codeIn K (.ref cl) "law" = true)
    (kkL : PySem.W.keepIn K (.ref fL) = true)
    (lTi : K.lookup fTi = some ⟨ocTi, odTi, .func (PySem.W.fnOf "__init__" "Town.__init__" (L2.defArgs s_Town___init__) (L2.defBody s_Town___init__) (L2.defScope s_Town___init__) .none kVTi dcTi pmTi anTi cdTi ctTi), slTi⟩)
    (ccTi : PySem.W.codeIn K cdTi "Town.__init__" = true)
    (kkTi : PySem.W.keepIn K (.ref fTi) = true)
    (lS : K.lookup gS = some ⟨ocS, odS, .func (PySem.W.fnOf "is_bridge" "Town.is_bridge" (L2.defArgs s_Town_is_bridge) (L2.defBody s_Town_is_bridge) (L2.defScope s_Town_is_bridge) .none kVS dcS pmS anS cdS ctS), slS⟩)
    (ccS : PySem.W.codeIn K cdS "Town.is_bridge" = true)
    (kkS : PySem.W.keepIn K (.ref gS) = true)
    (lg1 : K.lookup g1 = some ⟨ocg1, odg1, .func (PySem.W.fnOf "place_count" "Town.place_count" (L2.defArgs s_Town_place_count) (L2.defBody s_Town_place_count) (L2.defScope s_Town_place_count) .none kVg1 dcg1 pmg1 ang1 cdg1 ctg1), slg1⟩)
    (ccg1 : PySem.W.codeIn K cdg1 "Town.place_count" = true)
    (kkg1 : PySem.W.keepIn K (.ref g1) = true)
    (lg2 : K.lookup g2 = some ⟨ocg2, odg2, .func (PySem.W.fnOf "bridges" "Town.bridges" (L2.defArgs s_Town_bridges) (L2.defBody s_Town_bridges) (L2.defScope s_Town_bridges) .none kVg2 dcg2 pmg2 ang2 cdg2 ctg2), slg2⟩)
    (ccg2 : PySem.W.codeIn K cdg2 "Town.bridges" = true)
    (kkg2 : PySem.W.keepIn K (.ref g2) = true)
    (z_ValueError : PySem.W.nsIn K mainGlobals "ValueError" = some none)
    (z_bool : PySem.W.nsIn K mainGlobals "bool" = some none)
    (z_dict : PySem.W.nsIn K mainGlobals "dict" = some none)
    (z_enumerate : PySem.W.nsIn K mainGlobals "enumerate" = some none)
    (z_int : PySem.W.nsIn K mainGlobals "int" = some none)
    (z_isinstance : PySem.W.nsIn K mainGlobals "isinstance" = some none)
    (z_len : PySem.W.nsIn K mainGlobals "len" = some none)
    (z_list : PySem.W.nsIn K mainGlobals "list" = some none)
    (z_max : PySem.W.nsIn K mainGlobals "max" = some none)
    (z_min : PySem.W.nsIn K mainGlobals "min" = some none)
    (z_range : PySem.W.nsIn K mainGlobals "range" = some none)
    (z_reversed : PySem.W.nsIn K mainGlobals "reversed" = some none)
    (z_set : PySem.W.nsIn K mainGlobals "set" = some none)
    (z_sorted : PySem.W.nsIn K mainGlobals "sorted" = some none)
    (z_str : PySem.W.nsIn K mainGlobals "str" = some none)
    (z_sum : PySem.W.nsIn K mainGlobals "sum" = some none)
    (z_tuple : PySem.W.nsIn K mainGlobals "tuple" = some none)
    (z_zip : PySem.W.nsIn K mainGlobals "zip" = some none)
    (v_MAX_LOAD : PySem.W.nsIn K mainGlobals "MAX_LOAD" = some (some (.int 9 w_MAX_LOAD)))
    (v_MAX_LENGTH : PySem.W.nsIn K mainGlobals "MAX_LENGTH" = some (some (.int 99 w_MAX_LENGTH)))
    (v_heappush : PySem.W.nsIn K mainGlobals "heappush" = some (some (.builtin "_heapq.heappush")))
    (v_heappop : PySem.W.nsIn K mainGlobals "heappop" = some (some (.builtin "_heapq.heappop")))
    (ntP : K.lookup Pt = none)
    (cdH : PySem.W.codeHdIn K cl Pt = true)
    (tab : h.get? Pt = some { cls := .none, data := .fields #[] }) : LamX.LawAtS l w K C8.CX0 12 63 "_law_script" mg fa h := by
  have e := hfa.symm.trans (PySem.W.mg_of X G aL)
  cases e
  have T : BT mg := ⟨PySem.W.mg_none_of X G z_len, PySem.W.mg_none_of X G z_int, PySem.W.mg_none_of X G z_max, PySem.W.mg_none_of X G z_range, PySem.W.mg_none_of X G z_list, PySem.W.mg_none_of X G z_tuple, PySem.W.mg_none_of X G z_isinstance, PySem.W.mg_none_of X G z_enumerate, PySem.W.mg_none_of X G z_dict, PySem.W.mg_none_of X G z_str, PySem.W.mg_none_of X G z_bool⟩
  have U : BR K mg ⟨c6, c7, c5⟩ := ⟨PySem.W.mg_none_of X G z_len, PySem.W.mg_none_of X G z_int, PySem.W.mg_none_of X G z_max, PySem.W.mg_none_of X G z_min, PySem.W.mg_none_of X G z_range, PySem.W.mg_none_of X G z_list, PySem.W.mg_none_of X G z_tuple, PySem.W.mg_none_of X G z_dict, PySem.W.mg_none_of X G z_str, PySem.W.mg_none_of X G z_bool, PySem.W.mg_none_of X G z_set, PySem.W.mg_none_of X G z_zip, PySem.W.mg_none_of X G z_reversed, PySem.W.mg_none_of X G z_isinstance, PySem.W.mg_none_of X G z_enumerate, PySem.W.mg_none_of X G z_sorted, PySem.W.mg_none_of X G z_sum, PySem.W.mg_of X G v_heappush, PySem.W.mg_of X G v_heappop, ⟨_, PySem.W.mg_of X G v_MAX_LOAD, ⟨_, rfl⟩⟩, ⟨_, PySem.W.mg_of X G v_MAX_LENGTH, ⟨_, rfl⟩⟩, ⟨PySem.W.mg_of X G aK6, k_q6, okp6, es6, ot6⟩, ⟨PySem.W.mg_of X G aK7, k_q7, okp7, es7, ot7⟩, ⟨PySem.W.mg_of X G aK5, k_q5, okp5, es5, ot5⟩⟩
  let clF : Nat → Addr := fun j => ([c0, c1, c2, c3, c4, c5, c6, c7, c8, c9, c10, c11] : List Addr).getD j c11
  have G12 : Cls12 mg CB clF := ⟨PySem.W.mg_of X G aCB, PySem.W.mg_none_of X G z_ValueError, PySem.W.mg_of X G aK0, PySem.W.mg_of X G aK1, PySem.W.mg_of X G aK2, PySem.W.mg_of X G aK3, PySem.W.mg_of X G aK4, PySem.W.mg_of X G aK5, PySem.W.mg_of X G aK6, PySem.W.mg_of X G aK7, PySem.W.mg_of X G aK8, PySem.W.mg_of X G aK9, PySem.W.mg_of X G aK10, PySem.W.mg_of X G aK11⟩
  have P5 : PlainE K CB (clF 5) clF 5 := ⟨⟨eg5, ek5, es5, ed5, ca5, ehn, eht, cm5⟩, k_em5, k_ve5, k_5_0, k_5_1, k_5_2, k_5_3, k_5_4, k_5_5, k_5_6, k_5_7, k_5_8, k_5_9, k_5_10, k_5_11⟩
  have P6 : PlainE K CB (clF 6) clF 6 := ⟨⟨eg6, ek6, es6, ed6, ca6, ehn, eht, cm6⟩, k_em6, k_ve6, k_6_0, k_6_1, k_6_2, k_6_3, k_6_4, k_6_5, k_6_6, k_6_7, k_6_8, k_6_9, k_6_10, k_6_11⟩
  have P7 : PlainE K CB (clF 7) clF 7 := ⟨⟨eg7, ek7, es7, ed7, ca7, ehn, eht, cm7⟩, k_em7, k_ve7, k_7_0, k_7_1, k_7_2, k_7_3, k_7_4, k_7_5, k_7_6, k_7_7, k_7_8, k_7_9, k_7_10, k_7_11⟩
  have clC : L2.Cls K C := ⟨cpg, chd, cpo, csa⟩
  have TT : TownC K mg C pS gS := ⟨clC, PySem.W.mg_of X G aC, ⟨crd, cga⟩, nC, nB, ⟨_, ⟨mpa, ⟨_, rfl⟩, mpg, by decide +kernel⟩⟩, ⟨_, ⟨mba, ⟨_, rfl⟩, mbg, by decide +kernel⟩⟩, ⟨_, ⟨vML, ⟨_, rfl⟩⟩⟩, ⟨cpg, sIc, sIf, sIt, sIs, sIk, by decide +kernel, ⟨_, sIr⟩⟩, kkS⟩
  have FMix : C8.Fun K "_law_mix" "_law_mix" s__law_mix fMix _ := ⟨_, _, _, _, _, _, _, _, _, _, rfl, lMix, ccMix⟩
  have DMix : Def K mg "_law_mix" s__law_mix fMix _ := ⟨FMix, PySem.W.mg_of X G aMix, kkMix⟩
  have bMix := FMix.binds rfl (ps := ["_law_script", "_law_seed"]) fun _ _ _ _ _ _ us hl => match us, hl with | [_, _], _ => rfl
  have FNxt : C8.Fun K "_law_next" "_law_next" s__law_next fNxt _ := ⟨_, _, _, _, _, _, _, _, _, _, rfl, lNxt, ccNxt⟩
  have DNxt : Def K mg "_law_next" s__law_next fNxt _ := ⟨FNxt, PySem.W.mg_of X G aNxt, kkNxt⟩
  have bNxt := FNxt.binds rfl (ps := ["_law_h", "_law_limit"]) fun _ _ _ _ _ _ us hl => match us, hl with | [_, _], _ => rfl
  have FAli : C8.Fun K "_law_alike" "_law_alike" s__law_alike fAli _ := ⟨_, _, _, _, _, _, _, _, _, _, rfl, lAli, ccAli⟩
  have DAli : Def K mg "_law_alike" s__law_alike fAli _ := ⟨FAli, PySem.W.mg_of X G aAli, kkAli⟩
  have bAli := FAli.binds rfl (ps := ["_law_found", "_law_due"]) fun _ _ _ _ _ _ us hl => match us, hl with | [_, _], _ => rfl
  have FErr : C8.Fun K "_law_error" "_law_error" s__law_error fErr _ := ⟨_, _, _, _, _, _, _, _, _, _, rfl, lErr, ccErr⟩
  have DErr : Def K mg "_law_error" s__law_error fErr _ := ⟨FErr, PySem.W.mg_of X G aErr, kkErr⟩
  have bErr := FErr.binds rfl (ps := ["_law_call"]) fun _ _ _ _ _ _ us hl => match us, hl with | [_], _ => rfl
  have FLif : C8.Fun K "_law_life" "_law_life" s__law_life fLif _ := ⟨_, _, _, _, _, _, _, _, _, _, rfl, lLif, ccLif⟩
  have DLif : Def K mg "_law_life" s__law_life fLif _ := ⟨FLif, PySem.W.mg_of X G aLif, kkLif⟩
  have bLif := FLif.binds rfl (ps := ["_law_h", "_law_wide"]) fun _ _ _ _ _ _ us hl => match us, hl with | [_, _], _ => rfl
  have FLnk : C8.Fun K "_law_links" "_law_links" s__law_links fLnk _ := ⟨_, _, _, _, _, _, _, _, _, _, rfl, lLnk, ccLnk⟩
  have DLnk : Def K mg "_law_links" s__law_links fLnk _ := ⟨FLnk, PySem.W.mg_of X G aLnk, kkLnk⟩
  have bLnk := FLnk.binds rfl (ps := ["_law_h", "_law_count", "_law_most", "_law_wide"]) fun _ _ _ _ _ _ us hl => match us, hl with | [_, _, _, _], _ => rfl
  have FWys : C8.Fun K "_law_ways" "_law_ways" s__law_ways fWys _ := ⟨_, _, _, _, _, _, _, _, _, _, rfl, lWys, ccWys⟩
  have DWys : Def K mg "_law_ways" s__law_ways fWys _ := ⟨FWys, PySem.W.mg_of X G aWys, kkWys⟩
  have bWys := FWys.binds rfl (ps := ["_law_links_here", "_law_lives", "_law_here", "_law_end", "_law_load", "_law_used"]) fun _ _ _ _ _ _ us hl => match us, hl with | [_, _, _, _, _, _], _ => rfl
  have FWay : C8.Fun K "_law_way" "_law_way" s__law_way fWay _ := ⟨_, _, _, _, _, _, _, _, _, _, rfl, lWay, ccWay⟩
  have DWay : Def K mg "_law_way" s__law_way fWay _ := ⟨FWay, PySem.W.mg_of X G aWay, kkWay⟩
  have bWay := FWay.binds rfl (ps := ["_law_links_here", "_law_lives", "_law_trip"]) fun _ _ _ _ _ _ us hl => match us, hl with | [_, _, _], _ => rfl
  have FCha : C8.Fun K "_law_chain_right" "_law_chain_right" s__law_chain_right fCha _ := ⟨_, _, _, _, _, _, _, _, _, _, rfl, lCha, ccCha⟩
  have DCha : Def K mg "_law_chain_right" s__law_chain_right fCha _ := ⟨FCha, PySem.W.mg_of X G aCha, kkCha⟩
  have bCha := FCha.binds rfl (ps := ["_law_h"]) fun _ _ _ _ _ _ us hl => match us, hl with | [_], _ => rfl
  have FWfr : C8.Fun K "_ways_from" "_ways_from" s__ways_from fWfr _ := ⟨_, _, _, _, _, _, _, _, _, _, rfl, lWfr, ccWfr⟩
  have DWfr : Def K mg "_ways_from" s__ways_from fWfr _ := ⟨FWfr, PySem.W.mg_of X G aWfr, kkWfr⟩
  have bWfr := FWfr.binds rfl (ps := ["town", "remaining", "place", "load"]) fun _ _ _ _ _ _ us hl => match us, hl with | [_, _, _, _], _ => rfl
  have FRfr : C8.Fun K "_routes_from" "_routes_from" s__routes_from fRfr _ := ⟨_, _, _, _, _, _, _, _, _, _, rfl, lRfr, ccRfr⟩
  have DRfr : Def K mg "_routes_from" s__routes_from fRfr _ := ⟨FRfr, PySem.W.mg_of X G aRfr, kkRfr⟩
  have bRfr := FRfr.binds rfl (ps := ["town", "remaining", "start", "load"]) fun _ _ _ _ _ _ us hl => match us, hl with | [_, _, _, _], _ => rfl
  have FCp := L2.fun_mk (st := s_check_place) lCp ccCp kkCp
  have bCp := FCp.binds (ps := ["town", "place"]) fun _ _ _ _ _ _ us hl => match us, hl with | [_, _], _ => rfl
  have FCb := L2.fun_mk (st := s_check_bridge) lCb ccCb kkCb
  have bCb := FCb.binds (ps := ["town", "bridge"]) fun _ _ _ _ _ _ us hl => match us, hl with | [_, _], _ => rfl
  have FCl := L2.fun_mk (st := s_check_load) lCl ccCl kkCl
  have bCl := FCl.binds (ps := ["load"]) fun _ _ _ _ _ _ us hl => match us, hl with | [_], _ => rfl
  have FSho := L2.fun_mk (st := s_shortest_route) lSho ccSho kkSho
  have bSho := FSho.binds (ps := ["town", "remaining", "one", "other", "load"]) fun _ _ _ _ _ _ us hl => match us, hl with | [_, _, _, _, _], _ => rfl
  have FRea := L2.fun_mk (st := s_reached_places) lRea ccRea kkRea
  have bRea := FRea.binds (ps := ["town", "remaining", "place", "load"]) fun _ _ _ _ _ _ us hl => match us, hl with | [_, _, _, _], _ => rfl
  have FRle := L2.fun_mk (st := s_route_length) lRle ccRle kkRle
  have bRle := FRle.binds (ps := ["town", "route"]) fun _ _ _ _ _ _ us hl => match us, hl with | [_, _], _ => rfl
  have FTi := L2.fun_mk (st := s_Town___init__) lTi ccTi kkTi
  have bTi := FTi.binds (ps := ["self", "count", "bridges"]) fun _ _ _ _ _ _ us hl => match us, hl with | [_, _, _], _ => rfl
  have FS := L2.fun_mk (st := s_Town_is_bridge) lS ccS kkS
  have bS := FS.binds (ps := ["count", "bridge"]) fun _ _ _ _ _ _ us hl => match us, hl with | [_, _], _ => rfl
  have Fg1 := L2.fun_mk (st := s_Town_place_count) lg1 ccg1 kkg1
  have bg1 := Fg1.binds (ps := ["self"]) fun _ _ _ _ _ _ us hl => match us, hl with | [_], _ => rfl
  have Fg2 := L2.fun_mk (st := s_Town_bridges) lg2 ccg2 kkg2
  have bg2 := Fg2.binds (ps := ["self"]) fun _ _ _ _ _ _ us hl => match us, hl with | [_], _ => rfl
  refine ⟨PySem.W.fnOf "law" "law" (fnArgs s_law) (fnBody s_law) (fnScope s_law) .none kVL dcL pmL anL (.ref cl) ctL, [(cl, Pt)], spLaw K Pt lamQ, fun p hp => ?_, fun p hp => ?_, fun p hp => ?_, fun s u => .of_eq rfl, fun H a ns hl _ hH hS => ⟨a, ns, rfl, hS, hl, tabs_nil (hH _ (List.mem_singleton.mpr rfl)), fun _ => rfl⟩, fun base KX Gb TB => ?_⟩
  · rw [List.mem_singleton.mp hp]; exact tab
  · rw [List.mem_singleton.mp hp]; exact ntP
  · rw [List.mem_singleton.mp hp]; exact PySem.W.codeHd_of_K X cdH
  have OS := ok_isB (P := l.prog) (w := w) (base := base) FS U TT
  have OTi := ok_Ti (P := l.prog) (w := w) (base := base) FTi U TT OS bS
  have MKT : L2.Mk K C fTi := ⟨cmk, iTi, fTiF, ckp⟩
  have W : Tw l.prog w K mg base C := ⟨⟨_, _, _, _, clC, ⟨pa1, pg1, pt1, ⟨_, pr1⟩⟩, ok_places Fg1 U TT, bg1⟩, ⟨_, _, _, _, clC, ⟨pa2, pg2, pt2, ⟨_, pr2⟩⟩, ok_bridges Fg2 U TT, bg2⟩⟩
  have C3 : Chk l.prog w K mg base C ⟨c6, c7, c5⟩ := ⟨⟨_, _, _, ok_chkPlace FCp U W, PySem.W.mg_of X G aCp, kkCp, bCp⟩, ⟨_, _, _, ok_chkBridge FCb U W, PySem.W.mg_of X G aCb, kkCb, bCb⟩, ⟨_, _, _, ok_chkLoad FCl U, PySem.W.mg_of X G aCl, kkCl, bCl⟩⟩
  have Wy := ok_ways DWfr bWfr U W
  have Rt := ok_routes DRfr bRfr U Wy
  have Nx := ok_next (P := l.prog) (w := w) (base := base) DNxt bNxt T
  have L0 := ok_like0 (P := l.prog) (w := w) (base := base) DAli bAli U
  have L1 := ok_likeN DAli bAli U ⟨L0⟩
  have L2_ := ok_likeN DAli bAli U ⟨L1⟩
  have Lf := ok_lifeF DLif bLif U ⟨Nx⟩
  have Lk := ok_linksF DLnk bLnk U ⟨Nx, Lf⟩
  have W0 := ok_wy0 (P := l.prog) (w := w) (base := base) DWys bWys U
  have W1 := ok_wyN DWys bWys U ⟨W0⟩
  have W2 := ok_wyN DWys bWys U ⟨W1⟩
  have W3 := ok_wyN DWys bWys U ⟨W2⟩
  have W4 := ok_wyN DWys bWys U ⟨W3⟩
  have W5 := ok_wyN DWys bWys U ⟨W4⟩
  have Wa := ok_way DWay bWay U ⟨W5⟩
  have Cc0 : Cc l.prog w K mg base C ⟨c6, c7, c5⟩ := ⟨Nx, L2_, ⟨_, _, _, MKT, OTi, PySem.W.mg_of X G aC, bTi⟩, ⟨_, _, _, ok_short FSho U C3 Rt, PySem.W.mg_of X G aSho, kkSho, bSho⟩, ⟨_, _, _, ok_reach FRea U C3 Rt, PySem.W.mg_of X G aRea, kkRea, bRea⟩, ⟨_, _, _, ok_rlen FRle U W C3, PySem.W.mg_of X G aRle, kkRle, bRle⟩⟩
  have Ch := ok_chain DCha bCha U Cc0
  have CL : CLaw l.prog w K mg base C ⟨c6, c7, c5⟩ := ⟨Cc0, ok_mix DMix bMix T, Lk, Wa, Ch⟩
  exact ok_law (cl := clF) lL ccL U CL ⟨PySem.W.mg_of X G aErr, kkErr, lErr, ccErr, bErr⟩ (TB _ (List.mem_singleton.mpr rfl)) G12 P5 P6 P7 ⟨rfl, rfl, rfl⟩
end T1
open PySem PySem.W PyProof.Rows
set_option maxRecDepth 100000 in
set_option maxHeartbeats 0 in
theorem PySem.Challenge.cw_wornbridges_k03_whole_shortest_routes_holds : PySem.Challenge.rw_wornbridges_k03_whole_shortest_routes.Holds := by
  w_on; o_law; k_head; (case hw => w_witness2)
  k_fill
  refine LamX.walk_ofTs (l := PySem.Challenge.rw_wornbridges_k03_whole_shortest_routes) (n := 63) (k := 12) (CX := fun _ => C8.CX0) (x := "_law_script") rfl (by decide) rfl ⟨rfl, by decide, by decide⟩ (fun w h Y => PySem.W.km_in_of Y) ?F (fun _ _ _ _ _ z => z)
  case F =>
    intro w mg fa h Y KX G hmg
    have hT8 := PySem.W.km_tabs_of Y
    refine' T1.all_mk KX G hmg ?aCB ?aC ?aK0 ?aK1 ?aK2 ?aK3 ?aK4 ?aK5 ?aK6 ?aK7 ?aK8 ?aK9 ?aK10 ?aK11 ?eg5 ?ek5 ?es5 ?ed5 ?ca5 ?cm5 ?k_em5 ?k_ve5 ?k_q5 ?okp5 ?ot5 ?k_5_0 ?k_5_1 ?k_5_2 ?k_5_3 ?k_5_4 ?k_5_5 ?k_5_6 ?k_5_7 ?k_5_8 ?k_5_9 ?k_5_10 ?k_5_11 ?eg6 ?ek6 ?es6 ?ed6 ?ca6 ?cm6 ?k_em6 ?k_ve6 ?k_q6 ?okp6 ?ot6 ?k_6_0 ?k_6_1 ?k_6_2 ?k_6_3 ?k_6_4 ?k_6_5 ?k_6_6 ?k_6_7 ?k_6_8 ?k_6_9 ?k_6_10 ?k_6_11 ?eg7 ?ek7 ?es7 ?ed7 ?ca7 ?cm7 ?k_em7 ?k_ve7 ?k_q7 ?okp7 ?ot7 ?k_7_0 ?k_7_1 ?k_7_2 ?k_7_3 ?k_7_4 ?k_7_5 ?k_7_6 ?k_7_7 ?k_7_8 ?k_7_9 ?k_7_10 ?k_7_11 ?ehn ?eht ?crd ?cga ?vML ?cpg ?chd ?cpo ?csa ?nC ?nB ?mpa ?mpg ?mba ?mbg ?sIc ?sIf ?sIt ?sIs ?sIk ?sIr ?cmk ?iTi ?fTiF ?ckp ?pa1 ?pg1 ?pt1 ?pr1 ?pa2 ?pg2 ?pt2 ?pr2 ?aMix ?lMix ?ccMix ?kkMix ?aNxt ?lNxt ?ccNxt ?kkNxt ?aAli ?lAli ?ccAli ?kkAli ?aErr ?lErr ?ccErr ?kkErr ?aLif ?lLif ?ccLif ?kkLif ?aLnk ?lLnk ?ccLnk ?kkLnk ?aWys ?lWys ?ccWys ?kkWys ?aWay ?lWay ?ccWay ?kkWay ?aCha ?lCha ?ccCha ?kkCha ?aWfr ?lWfr ?ccWfr ?kkWfr ?aRfr ?lRfr ?ccRfr ?kkRfr ?aCp ?lCp ?ccCp ?kkCp ?aCb ?lCb ?ccCb ?kkCb ?aCl ?lCl ?ccCl ?kkCl ?aSho ?lSho ?ccSho ?kkSho ?aRea ?lRea ?ccRea ?kkRea ?aRle ?lRle ?ccRle ?kkRle ?aL ?lL ?ccL ?kkL ?lTi ?ccTi ?kkTi ?lS ?ccS ?kkS ?lg1 ?ccg1 ?kkg1 ?lg2 ?ccg2 ?kkg2 ?z_ValueError ?z_bool ?z_dict ?z_enumerate ?z_int ?z_isinstance ?z_len ?z_list ?z_max ?z_min ?z_range ?z_reversed ?z_set ?z_sorted ?z_str ?z_sum ?z_tuple ?z_zip ?v_MAX_LOAD ?v_MAX_LENGTH ?v_heappush ?v_heappop ?ntP ?cdH ?tab
    (case aCB => k_is)
    (case aC => k_is)
    (case aK0 => k_is)
    (case aK1 => k_is)
    (case aK2 => k_is)
    (case aK3 => k_is)
    (case aK4 => k_is)
    (case aK5 => k_is)
    (case aK6 => k_is)
    (case aK7 => k_is)
    (case aK8 => k_is)
    (case aK9 => k_is)
    (case aK10 => k_is)
    (case aK11 => k_is)
    (case eg5 => k_is)
    (case ek5 => k_is)
    (case es5 => k_is)
    (case ed5 => k_is)
    (case ca5 => k_is)
    (case cm5 => k_is)
    (case k_em5 => kernel_rfl)
    (case k_ve5 => kernel_rfl)
    (case k_q5 => kernel_rfl)
    (case okp5 => k_is)
    (case ot5 => k_is)
    (case k_5_0 => kernel_rfl)
    (case k_5_1 => kernel_rfl)
    (case k_5_2 => kernel_rfl)
    (case k_5_3 => kernel_rfl)
    (case k_5_4 => kernel_rfl)
    (case k_5_5 => kernel_rfl)
    (case k_5_6 => kernel_rfl)
    (case k_5_7 => kernel_rfl)
    (case k_5_8 => kernel_rfl)
    (case k_5_9 => kernel_rfl)
    (case k_5_10 => kernel_rfl)
    (case k_5_11 => kernel_rfl)
    (case eg6 => k_is)
    (case ek6 => k_is)
    (case es6 => k_is)
    (case ed6 => k_is)
    (case ca6 => k_is)
    (case cm6 => k_is)
    (case k_em6 => kernel_rfl)
    (case k_ve6 => kernel_rfl)
    (case k_q6 => kernel_rfl)
    (case okp6 => k_is)
    (case ot6 => k_is)
    (case k_6_0 => kernel_rfl)
    (case k_6_1 => kernel_rfl)
    (case k_6_2 => kernel_rfl)
    (case k_6_3 => kernel_rfl)
    (case k_6_4 => kernel_rfl)
    (case k_6_5 => kernel_rfl)
    (case k_6_6 => kernel_rfl)
    (case k_6_7 => kernel_rfl)
    (case k_6_8 => kernel_rfl)
    (case k_6_9 => kernel_rfl)
    (case k_6_10 => kernel_rfl)
    (case k_6_11 => kernel_rfl)
    (case eg7 => k_is)
    (case ek7 => k_is)
    (case es7 => k_is)
    (case ed7 => k_is)
    (case ca7 => k_is)
    (case cm7 => k_is)
    (case k_em7 => kernel_rfl)
    (case k_ve7 => kernel_rfl)
    (case k_q7 => kernel_rfl)
    (case okp7 => k_is)
    (case ot7 => k_is)
    (case k_7_0 => kernel_rfl)
    (case k_7_1 => kernel_rfl)
    (case k_7_2 => kernel_rfl)
    (case k_7_3 => kernel_rfl)
    (case k_7_4 => kernel_rfl)
    (case k_7_5 => kernel_rfl)
    (case k_7_6 => kernel_rfl)
    (case k_7_7 => kernel_rfl)
    (case k_7_8 => kernel_rfl)
    (case k_7_9 => kernel_rfl)
    (case k_7_10 => kernel_rfl)
    (case k_7_11 => kernel_rfl)
    (case ehn => k_is)
    (case eht => k_is)
    (case crd => k_is)
    (case cga => k_is)
    (case vML => k_is)
    (case cpg => k_is)
    (case chd => k_is)
    (case cpo => k_is)
    (case csa => k_is)
    (case nC => k_is)
    (case nB => k_is)
    (case mpa => k_is)
    (case mpg => k_is)
    (case mba => k_is)
    (case mbg => k_is)
    (case sIc => k_is)
    (case sIf => k_is)
    (case sIt => k_is)
    (case sIs => k_is)
    (case sIk => k_is)
    (case sIr => k_is)
    (case cmk => k_is)
    (case iTi => k_is)
    (case fTiF => k_is)
    (case ckp => k_is)
    (case pa1 => k_is)
    (case pg1 => k_is)
    (case pt1 => k_is)
    (case pr1 => k_is)
    (case pa2 => k_is)
    (case pg2 => k_is)
    (case pt2 => k_is)
    (case pr2 => k_is)
    (case aMix => k_is)
    (case lMix => k_is)
    (case ccMix => k_is)
    (case kkMix => k_is)
    (case aNxt => k_is)
    (case lNxt => k_is)
    (case ccNxt => k_is)
    (case kkNxt => k_is)
    (case aAli => k_is)
    (case lAli => k_is)
    (case ccAli => k_is)
    (case kkAli => k_is)
    (case aErr => k_is)
    (case lErr => k_is)
    (case ccErr => k_is)
    (case kkErr => k_is)
    (case aLif => k_is)
    (case lLif => k_is)
    (case ccLif => k_is)
    (case kkLif => k_is)
    (case aLnk => k_is)
    (case lLnk => k_is)
    (case ccLnk => k_is)
    (case kkLnk => k_is)
    (case aWys => k_is)
    (case lWys => k_is)
    (case ccWys => k_is)
    (case kkWys => k_is)
    (case aWay => k_is)
    (case lWay => k_is)
    (case ccWay => k_is)
    (case kkWay => k_is)
    (case aCha => k_is)
    (case lCha => k_is)
    (case ccCha => k_is)
    (case kkCha => k_is)
    (case aWfr => k_is)
    (case lWfr => k_is)
    (case ccWfr => k_is)
    (case kkWfr => k_is)
    (case aRfr => k_is)
    (case lRfr => k_is)
    (case ccRfr => k_is)
    (case kkRfr => k_is)
    (case aCp => k_is)
    (case lCp => k_is)
    (case ccCp => k_is)
    (case kkCp => k_is)
    (case aCb => k_is)
    (case lCb => k_is)
    (case ccCb => k_is)
    (case kkCb => k_is)
    (case aCl => k_is)
    (case lCl => k_is)
    (case ccCl => k_is)
    (case kkCl => k_is)
    (case aSho => k_is)
    (case lSho => k_is)
    (case ccSho => k_is)
    (case kkSho => k_is)
    (case aRea => k_is)
    (case lRea => k_is)
    (case ccRea => k_is)
    (case kkRea => k_is)
    (case aRle => k_is)
    (case lRle => k_is)
    (case ccRle => k_is)
    (case kkRle => k_is)
    (case aL => k_is)
    (case lL => k_is)
    (case ccL => k_is)
    (case kkL => k_is)
    (case lTi => k_is)
    (case ccTi => k_is)
    (case kkTi => k_is)
    (case lS => k_is)
    (case ccS => k_is)
    (case kkS => k_is)
    (case lg1 => k_is)
    (case ccg1 => k_is)
    (case kkg1 => k_is)
    (case lg2 => k_is)
    (case ccg2 => k_is)
    (case kkg2 => k_is)
    (case z_ValueError => k_is)
    (case z_bool => k_is)
    (case z_dict => k_is)
    (case z_enumerate => k_is)
    (case z_int => k_is)
    (case z_isinstance => k_is)
    (case z_len => k_is)
    (case z_list => k_is)
    (case z_max => k_is)
    (case z_min => k_is)
    (case z_range => k_is)
    (case z_reversed => k_is)
    (case z_set => k_is)
    (case z_sorted => k_is)
    (case z_str => k_is)
    (case z_sum => k_is)
    (case z_tuple => k_is)
    (case z_zip => k_is)
    (case v_MAX_LOAD => k_is)
    (case v_MAX_LENGTH => k_is)
    (case v_heappush => k_is)
    (case v_heappop => k_is)
    (case tab => exact hT8 _ (by k_mem))
    (case ntP => kernel_rfl)
    (case cdH => kernel_rfl)

